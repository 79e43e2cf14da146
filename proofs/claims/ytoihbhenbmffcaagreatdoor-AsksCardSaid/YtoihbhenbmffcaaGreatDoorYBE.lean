import Derived.Test.YtoihbhenbmffcaaGreatDoorYAZ
import Derived.Test.YtoihbhenbmffcaaGreatDoorYAV
set_option linter.all false
set_option maxHeartbeats 0
namespace Go.Proofs.YtoihbhenbmffcaaGreatDoor
open Go.RowKit Go.Proofs.Tryz
abbrev DY(D:Nat):Deferred:={target:=.collected D,args:=#[]}
def aE{α:Type}(P:Program)(l:Nat)(encs:α->Array Value)(xs:List α)(J Jx:List α->List Nat->World->Prop):Prop:=
 ∀pre x rest M W1,xs=pre++x::rest->J pre M W1->YieldAt Fence.wide 0 P l (encs x) W1 λe W'=>
  (e=.returned (.bool true)/\∃M',J (pre++[x]) M' W'/\Ac M W1 W'/\∀k∈M',(k∈M\/W1.heap.size<=k)/\k<W'.heap.size)\/
  (e=.returned (.bool false)/\∃M',Jx (pre++[x]) M' W'/\Ac (l::M) W1 W')
def Kr{α:Type}(P:Program)(g:Nat)(lb:Array Value)(encs:α->Array Value)(xs:List α)(M0:List Nat)(w:World):Prop:=
 ∀(l:Nat) (J Jx:List α->List Nat->World->Prop) (W:World),Ac [] w W->w.heap.size<=l->l<W.heap.size->
  OwnFrom W.heap.size (fun(s:List α×List Nat) W=>J s.1 s.2 W)->OwnFrom W.heap.size (fun(s:List α×List Nat) W=>Jx s.1 s.2 W)->
  aE P l encs xs J Jx->J [] M0 W->
  Calls P g (#[.func (.yield l) #[] #[]]++lb) W λe W'=>(∃v,e=.returned v)/\((∃M',J xs M' W')\/(∃pre M',Jx pre M' W'))
def M5{α:Type}(I:List α->List Nat->World->Prop)(Ix:Code->List α->List Nat->World->Prop)(xs:List α)(M:List Nat)(W:World):Exit->Act->World->Prop
 | .normal,_,W'=>Ac M W W'/\∃M',I xs M' W'/\∀k∈M',(k∈M\/W.heap.size<=k)/\k<W'.heap.size
 | .ret,_,W'=>Ac M W W'/\∃M',Ix .ret xs M' W'
 | .exit id,_,W'=>Ac M W W'/\∃M',Ix (.exit id) xs M' W'
 | .goto t,_,W'=>Ac M W W'/\∃M',Ix (.goto t) xs M' W'
 | .panic _,_,_=>False
 | .outgrown,_,_=>False
theorem If{K:Act->World->Prop}{Q:Exit->Act->World->Prop}(h:¬LetsOut Q):¬LetsOut (Exit.then K Q):=fun⟨a,w,q⟩=>h ⟨a,w,q⟩
theorem Gx:¬LetsOut (fun(_:Exit) (_:Act) (_:World)=>False):=fun⟨_,_,q⟩=>q
theorem Ac.grow{w w':World}(k:Ac [] w w'):w.grownBy w' none:=⟨k.os,k.tape,k.output,k.size,λi a _=>k.block i a (by simp)⟩
theorem BC{β:Type}{B:Nat}{I:β->World->Prop}(h:OwnFrom B I){s:β}{W a:World}(b:I s W)(k:Ac [] W a):I s a:=h s W a none b k.grow (λr e=>by cases e)
def aO{α:Type}(P:Program)(l:Nat)(Off:α->Array Value->World->Prop)(xs:List α)(J Jx:List α->List Nat->World->Prop):Prop:=
 ∀pre x rest M W1 vs,xs=pre++x::rest->J pre M W1->Off x vs W1->YieldAt Fence.wide 0 P l vs W1 λe W'=>
  (e=.returned (.bool true)/\∃M',J (pre++[x]) M' W'/\Ac M W1 W'/\∀k∈M',(k∈M\/W1.heap.size<=k)/\k<W'.heap.size)\/
  (e=.returned (.bool false)/\∃M',Jx (pre++[x]) M' W'/\Ac (l::M) W1 W')
def aq{α:Type}(P:Program)(g:Nat)(lb:Array Value)(Off:α->Array Value->World->Prop)(xs:List α)(M0:List Nat)(w:World):Prop:=
 ∀(l:Nat) (J Jx:List α->List Nat->World->Prop) (W:World),Ac [] w W->w.heap.size<=l->l<W.heap.size->
  OwnFrom W.heap.size (fun(s:List α×List Nat) W=>J s.1 s.2 W)->OwnFrom W.heap.size (fun(s:List α×List Nat) W=>Jx s.1 s.2 W)->
  aO P l Off xs J Jx->J [] M0 W->
  Calls P g (#[.func (.yield l) #[] #[]]++lb) W λe W'=>(∃v,e=.returned v)/\((∃M',J xs M' W')\/(∃pre M',Jx pre M' W'))
variable {P:Program}
theorem PY{α:Type}{g:Operand}{ps:Array Tmp}{assign body:Code}{Q:Exit->Act->World->Prop}{a:Act}{w:World}{gf:Nat}{lb:Array Value}{Off:α->Array Value->World->Prop}{xs:List α}{M0:List Nat}
  (hg:a.eval g=.func (.func gf) #[] lb) (eg:∀args w,(callFunc gf args).run P w=.ok (.enter gf args) w)
  (hseq:aq P gf lb Off xs M0 w) (hps:∀x vs W,Off x vs W->vs.size=ps.size) (hM0:∀k∈M0,k<w.heap.size)
  (I:List α->List Nat->World->Prop) (Ix:Code->List α->List Nat->World->Prop)
  (hI:OwnFrom w.heap.size (fun(s:List α×List Nat) W=>I s.1 s.2 W)) (hIx:∀c,OwnFrom w.heap.size (fun(s:List α×List Nat) W=>Ix c s.1 s.2 W)) (h0:I [] M0 w)
  (Ax:Nat->α->Act->World->Prop) (hAx:∀n0 x a',OwnFrom w.heap.size (fun(_:Unit) W=>Ax n0 x a' W))
  (hassign:∀(l:Nat) (x:α) (vs:Array Value) (W:World) (K:Act->World->Prop),x∈xs->w.heap.size<=W.heap.size->Off x vs W->(∀a' W',Ac [] W W'->Ax W.heap.size x a' W'->K a' W')->
   assign.wpIn (Fence.wide.inRound l) 0 P (Exit.then K (λ_ _ _=>False)) {tmps:=(ps.zip vs).foldl (λt (p,v)=>t.setIfInBounds p v) a.tmps,defers:=[]} W)
  (hbody:∀(l n0:Nat) (pre:List α) (x:α) (rest:List α) (M:List Nat) (a':Act) (W:World),xs=pre++x::rest->I pre M W->(∀k∈M,k<n0)->w.heap.size<=n0->n0<=W.heap.size->Ax n0 x a' W->
   body.wpIn (Fence.wide.inRound l) 0 P (M5 I Ix (pre++[x]) M W) a' W)
  (hdone:∀(D:Nat) (M':List Nat) (W:World),w.heap.size<=D->I xs M' W->W.heap[D]?=some (.deferred (some []))->(∀k∈M',k≠D)->Q .normal {a with defers:=DY D::a.defers} W)
  (hstop:∀(D:Nat) (c:Code) (pre:List α) (M':List Nat) (W:World),w.heap.size<=D->Ix c pre M' W->W.heap[D]?=some (.deferred (some []))->c.wp P Q {a with defers:=DY D::a.defers} W):
  (Code.rangeFunc g ps assign body).wp P Q a w:=by
 refine wpIn_wide.1 (wpIn_rangeFunc (n:=1) ?_);intro fn _;obtain⟨rec,hrec⟩:∃rec:LoopState->Option Code->Loop,rec=λst pe=>{state:=st,pending:=pe,fn,tmps:=a.tmps,params:=ps,assign,body,defers:=w.heap.size}:=⟨_,rfl⟩
 obtain⟨D,hD⟩:∃D,w.heap.size=D:=⟨_,rfl⟩;obtain⟨W1,hW1⟩:∃W1,(w.alloc (.deferred (some []))).alloc (.loop (rec .ready none))=W1:=⟨_,rfl⟩;have hs1:W1.heap.size=D+2:=by rw[<-hW1];simp;omega
 have hk1:Ac [] w W1:=by rw[<-hW1];exact((Ac.refl [] w).alloc _).alloc _
 have hL1:W1.heap[D+1]?=some (.loop (rec .ready none)):=by
  rw[<-hW1];have:=World.alloc_heap_new (w.alloc (.deferred (some []))) (.loop (rec .ready none))
  rwa [cD,hD]at this
 have hK1:W1.heap[D]?=some (.deferred (some [])):=by
  rw[<-hW1];have h2:=World.alloc_heap_new w (.deferred (some []));rw[hD]at h2;have h3:=(Ac.refl [] (w.alloc (.deferred (some [])))).alloc (.loop (rec .ready none));rw[h3.block D (by simp;omega) (by simp)];exact h2
 refine⟨D+1,[DY D],W1,{target:=.fn (.func gf) lb,args:=#[.func (.yield (D+1)) #[] #[]]},W1,gf,#[.func (.yield (D+1)) #[] #[]]++lb,W1,?_,?_,λ_ _=>trivial,?_,λh=>(by cases h),?_⟩
 .rw[<-hW1,hrec,<-hD];exact run_enterLoop_outer _ _ _ _ _
 .simp only[resolve,hg];simp[go_sem]
 .simp[invoke,go_sem,eg]
 refine callsIn_wide.2 ?_;have own2:∀{A B:World} {row:Option Nat} {k:Nat} {o:Obj},A.grownBy B row->(∀r,row=some r->W1.heap.size<=r/\∃o:Obj,A.heap[r]?=some o/\o.isCells=false)->k<W1.heap.size->A.heap[k]?=some o->B.heap[k]?=some o:=by
  intro A B row k o hgr hr hk ho;rw[hgr.block k (cS.1 ho).1 (λe=>by have:=(hr k e.symm).1;omega)];exact ho
 have own1:∀{A:World} {row:Option Nat},(∀r,row=some r->W1.heap.size<=r/\∃o:Obj,A.heap[r]?=some o/\o.isCells=false)->∀r,row=some r->w.heap.size<=r/\∃o:Obj,A.heap[r]?=some o/\o.isCells=false:=
  λhr r e=>⟨by have:=(hr r e).1;omega,(hr r e).2⟩
 refine(hseq (D+1)
  (λpre M W=>I pre M W/\W.heap[D+1]?=some (.loop (rec .ready none))/\W.heap[D]?=some (.deferred (some []))/\∀k∈M,k≠D/\k≠D+1/\k<W.heap.size)
  (λpre M W=>∃c,Ix c pre M W/\W.heap[D+1]?=some (.loop (rec .done (some c)))/\W.heap[D]?=some (.deferred (some [])))
  W1 hk1 (by omega) (by omega)
  (λs A B row hs hgr hr=>⟨hI s A B row hs.1 hgr (own1 hr),own2 hgr hr (by omega) hs.2.1,own2 hgr hr (by omega) hs.2.2.1,λk hk=>⟨(hs.2.2.2 k hk).1,(hs.2.2.2 k hk).2.1,dJ (hs.2.2.2 k hk).2.2 hgr.size⟩⟩)
  (λs A B row hs hgr hr=>by
   obtain⟨c,hc,hl,hd⟩:=hs
   exact⟨c,hIx c s A B row hc hgr (own1 hr),own2 hgr hr (by omega) hl,own2 hgr hr (by omega) hd⟩)
  ?_ ⟨BC hI (s:=([],M0)) h0 hk1,hL1,hK1,λk hk=>⟨by have:=hM0 k hk;omega,by have:=hM0 k hk;omega,by have:=hM0 k hk;omega⟩⟩).mono ?_
 ·
  rintro pre x rest M W vs hxs ⟨hi,hl,hd,hM⟩ hoff;have gK:D+1<W.heap.size:=(cS.1 hl).1;have hy:=run_yield (P:=P) (args:=vs) hl (by rw[hrec];exact hps x vs W hoff);rw[hrec]at hy;refine⟨fn,_,assign,body,hy,roundIn_of_wpIn trivial (hassign _ x vs W _ (by rw[hxs];simp) (by omega) hoff ?_)⟩;clear hy;intro a' Wa hka hax;have hla:Wa.heap[D+1]?=some (.loop (rec .ready none)):=(hka.block _ gK (by simp)).trans hl;have hda:Wa.heap[D]?=some (.deferred (some [])):=(hka.block _ (by omega) (by simp)).trans hd;have hia:I pre M Wa:=BC hI (s:=(pre,M)) hi hka;refine⟨_,run_beginRound hla (by rw[hrec]),?_⟩;have hsz:=hka.size;have hlta:D+1<Wa.heap.size:=by omega
  have hl2:(Wa.putObj (D+1) (.loop {rec .ready none with state:=.busy})).heap[D+1]?=some (.loop {rec .ready none with state:=.busy}):=World.putObj_heap_same hlta;have hd2:(Wa.putObj (D+1) (.loop {rec .ready none with state:=.busy})).heap[D]?=some (.deferred (some [])):=(World.putObj_heap_other (by omega)).trans hda;have hs2:(Wa.putObj (D+1) (.loop {rec .ready none with state:=.busy})).heap.size=Wa.heap.size:=by simp
  refine wpIn_mono (hbody _ W.heap.size pre x rest M a' _ hxs (hI.putObj (s:=(pre,M)) _ hia (by omega) hla rfl) (λk hk=>(hM k hk).2.2) (by omega) (by rw[hs2];omega) ((hAx _ x a').putObj (s:=()) _ hax (by omega) hla rfl)) ?_;have fin:∀(jump:Option Code) (W3:World),Ac M (Wa.putObj (D+1) (.loop {rec .ready none with state:=.busy})) W3->
    (Instr.endRound (D+1) jump).run P W3=.ok (.bool jump.isNone) (W3.putObj (D+1) (.loop (rec (if jump.isNone then .ready else .done) jump)))/\
    W3.heap[D+1]?=some (.loop {rec .ready none with state:=.busy})/\
    (W3.putObj (D+1) (.loop (rec (if jump.isNone then .ready else .done) jump))).heap[D+1]?=some (.loop (rec (if jump.isNone then .ready else .done) jump))/\
    (W3.putObj (D+1) (.loop (rec (if jump.isNone then .ready else .done) jump))).heap[D]?=some (.deferred (some [])):=λjump W3 hk3=>by
   have hl3:=(hk3.block (D+1) (by rw[hs2];omega) (λh=>(hM _ h).2.1 rfl)).trans hl2;have hd3:=(hk3.block D (by rw[hs2];omega) (λh=>(hM _ h).1 rfl)).trans hd2;have:=run_endRound (P:=P) jump hl3;rw[hrec]at this⊢;exact⟨this,by rw[hrec]at hl3;exact hl3,World.putObj_heap_same (cS.1 hl3).1,(World.putObj_heap_other (by omega)).trans hd3⟩
  have fk:∀(o:Obj) (W3:World),Ac M (Wa.putObj (D+1) (.loop {rec .ready none with state:=.busy})) W3->Ac ((D+1)::M) W (W3.putObj (D+1) o):=λo W3 hk3=>by
   have hs3:=hk3.size;rw[hs2]at hs3;refine⟨hk3.os.trans hka.os,hk3.tape.trans hka.tape,hk3.output.trans hka.output,by simp;omega,λk hk hkm=>?_⟩;rw[bS,not_or]at hkm;rw[World.putObj_heap_other hkm.1,hk3.block k (by rw[hs2];omega) hkm.2,World.putObj_heap_other hkm.1,hka.block k hk (by simp)]
  rintro e a3 W3 hp;cases e with
  |normal=>
   obtain⟨hk3,M',hi3,hM'⟩:=hp;obtain⟨hr,hl3,hl4,hd4⟩:=fin none W3 hk3;have hs3:=hk3.size;refine⟨_,_,hr,.inl ⟨rfl,M',⟨hI.putObj (s:=(pre++[x],M')) _ hi3 (by omega) hl3 rfl,hl4,hd4,λk hk=>?_⟩,?_,λk hk=>?_⟩⟩
   .have h1:=hM' k hk;refine⟨λe=>?_,λe=>?_,by simp;exact h1.2⟩
    .rcases h1.1 with h2|h2
     .exact(hM k h2).1 e
     .rw[hs2]at h2;omega
    .rcases h1.1 with h2|h2
     .exact(hM k h2).2.1 e
     .rw[hs2]at h2;omega
   .rw[hs2]at hs3;refine⟨?_,?_,?_,by simp;omega,λk hk hkm=>?_⟩
    .exact hk3.os.trans hka.os
    .exact hk3.tape.trans hka.tape
    .exact hk3.output.trans hka.output
    .by_cases hkl:k=D+1
     .subst hkl;rw[hl4,hl];rfl
     .rw[World.putObj_heap_other hkl,hk3.block k (by rw[hs2];omega) hkm,World.putObj_heap_other hkl,hka.block k hk (by simp)]
   .have h1:=hM' k hk;rw[hs2]at h1;exact⟨h1.1.imp id (λh=>by omega),by simp;exact h1.2⟩
  |ret=>
   obtain⟨hk3,M',hi3⟩:=hp;obtain⟨hr,hl3,hl4,hd4⟩:=fin (some .ret) W3 hk3;exact⟨_,_,hr,.inr ⟨rfl,M',⟨.ret,(hIx _).putObj (s:=(pre++[x],M')) _ hi3 (by omega) hl3 rfl,hl4,hd4⟩,fk _ W3 hk3⟩⟩
  |exit id=>
   obtain⟨hk3,M',hi3⟩:=hp;obtain⟨hr,hl3,hl4,hd4⟩:=fin (some (.exit id)) W3 hk3;exact⟨_,_,hr,.inr ⟨rfl,M',⟨.exit id,(hIx _).putObj (s:=(pre++[x],M')) _ hi3 (by omega) hl3 rfl,hl4,hd4⟩,fk _ W3 hk3⟩⟩
  |goto t=>
   obtain⟨hk3,M',hi3⟩:=hp;obtain⟨hr,hl3,hl4,hd4⟩:=fin (some (.goto t)) W3 hk3;exact⟨_,_,hr,.inr ⟨rfl,M',⟨.goto t,(hIx _).putObj (s:=(pre++[x],M')) _ hi3 (by omega) hl3 rfl,hl4,hd4⟩,fk _ W3 hk3⟩⟩
  |panic ch=>exact hp.elim
  |outgrown=>exact hp.elim
 ·
  rintro e W2 ⟨⟨v,rfl⟩,(⟨M',hi,hl,hd,hM⟩|⟨pre,M',c,hi,hl,hd⟩)⟩
  .exact⟨none,_,by have:=run_endLoop (P:=P) hl (by rw[hrec];simp);rw[hrec]at this;exact this,hdone _ M' _ (by omega) (hI.putObj (s:=(xs,M')) _ hi (by omega) hl rfl) ((World.putObj_heap_other (by omega)).trans hd) (λk hk=>(hM k hk).1)⟩
  .exact⟨some c,_,by have:=run_endLoop (P:=P) hl (by rw[hrec];simp);rw[hrec]at this;exact this,wpIn_wide.2 (hstop _ c pre M' _ (by omega) ((hIx c).putObj (s:=(pre,M')) _ hi (by omega) hl rfl) ((World.putObj_heap_other (by omega)).trans hd))⟩
theorem XF{α:Type}{g:Operand}{ps:Array Tmp}{assign body:Code}{Q:Exit->Act->World->Prop}{a:Act}{w:World}{gf:Nat}{lb:Array Value}{encs:α->Array Value}{xs:List α}{M0:List Nat}
  (hg:a.eval g=.func (.func gf) #[] lb) (eg:∀args w,(callFunc gf args).run P w=.ok (.enter gf args) w)
  (hseq:Kr P gf lb encs xs M0 w) (hps:∀x,(encs x).size=ps.size) (hM0:∀k∈M0,k<w.heap.size)
  (I:List α->List Nat->World->Prop) (Ix:Code->List α->List Nat->World->Prop)
  (hI:OwnFrom w.heap.size (fun(s:List α×List Nat) W=>I s.1 s.2 W)) (hIx:∀c,OwnFrom w.heap.size (fun(s:List α×List Nat) W=>Ix c s.1 s.2 W)) (h0:I [] M0 w)
  (Ax:Nat->α->Act->World->Prop) (hAx:∀n0 x a',OwnFrom w.heap.size (fun(_:Unit) W=>Ax n0 x a' W))
  (hassign:∀(l:Nat) (x:α) (W:World) (K:Act->World->Prop),x∈xs->w.heap.size<=W.heap.size->(∀a' W',Ac [] W W'->Ax W.heap.size x a' W'->K a' W')->
   assign.wpIn (Fence.wide.inRound l) 0 P (Exit.then K (λ_ _ _=>False)) {tmps:=(ps.zip (encs x)).foldl (λt (p,v)=>t.setIfInBounds p v) a.tmps,defers:=[]} W)
  (hbody:∀(l n0:Nat) (pre:List α) (x:α) (rest:List α) (M:List Nat) (a':Act) (W:World),xs=pre++x::rest->I pre M W->(∀k∈M,k<n0)->w.heap.size<=n0->n0<=W.heap.size->Ax n0 x a' W->
   body.wpIn (Fence.wide.inRound l) 0 P (M5 I Ix (pre++[x]) M W) a' W)
  (hdone:∀(D:Nat) (M':List Nat) (W:World),w.heap.size<=D->I xs M' W->W.heap[D]?=some (.deferred (some []))->(∀k∈M',k≠D)->Q .normal {a with defers:=DY D::a.defers} W)
  (hstop:∀(D:Nat) (c:Code) (pre:List α) (M':List Nat) (W:World),w.heap.size<=D->Ix c pre M' W->W.heap[D]?=some (.deferred (some []))->c.wp P Q {a with defers:=DY D::a.defers} W):
  (Code.rangeFunc g ps assign body).wp P Q a w:=
 PY (Off:=λx vs _=>vs=encs x) hg eg (λl J Jx W h1 h2 h3 h4 h5 hr h6=>hseq l J Jx W h1 h2 h3 h4 h5 (λpre x rest M W1 he hj=>hr pre x rest M W1 (encs x) he hj rfl) h6) (λx vs W h=>by rw[h];exact hps x) hM0 I Ix hI hIx h0 Ax hAx (λl x vs W K h1 h2 h3 h4=>by subst h3;exact hassign l x W K h1 h2 h4) hbody hdone hstop
theorem BV{β:Type}{B:Nat}{I:β->World->Prop}(h:∀s W b M,I s W->Ac M W b->(∀r∈M,B<=r/\∃o:Obj,W.heap[r]?=some o/\o.isCells=false)->I s b):OwnFrom B I:=λs W b f j a i=>
 h s W b f.toList j ⟨a.os,a.tape,a.output,a.size,λk d c=>a.block k d (λe=>c (by rw[<-e];simp))⟩ (λr g=>i r (by simpa using g))
theorem C5{W:World}{B:Nat}{M:List Nat}(c:∀r∈M,B<=r/\∃o:Obj,W.heap[r]?=some o/\o.isCells=false){b:Nat}{cs:List Value}{t:TypeId}(h:AE W b cs t):b∉M:=λd=>by
 obtain⟨_,o,a,e⟩:=c b d;unfold AE at h;rw[h]at a;cases a
 cases e
theorem EI{W:World}{B:Nat}{M:List Nat}(f:∀r∈M,B<=r/\∃o:Obj,W.heap[r]?=some o/\o.isCells=false){base e size n:Nat}{v:Value}{j:List Value}(h:W.ownsRow base e size v n j):∀i,v.ownBlock=some i->i∉M:=λi a d=>by
 obtain⟨_,o,b,l⟩:=f i d;rcases h.2 with⟨rfl,_⟩|⟨g,c,m,rfl,_,k,_⟩
 .simp[Value.ownBlock]at a
 .simp only[Value.ownBlock,bR]at a;subst a;rw[k]at b;cases b
  cases l
theorem EL{a W b:World}{B:Nat}{M:List Nat}(h:Ac [] a W)(k:Ac M W b)(c:∀r∈M,B<=r/\∃o:Obj,W.heap[r]?=some o/\o.isCells=false)(e:a.heap.size<=B):Ac [] a b:=
 h.trans' k (λi d=>Or.inr (by have:=(c i d).1;omega))
def T5:List Nat->World->World->Prop
 |[],w,w'=>w'=w
 |D::ds,w,w'=>T5 ds (w.putObj D (.deferred none)) w'
structure C1(B:Nat)(ds:List Nat)(w:World):Prop where
 nodup:ds.Nodup
 ge:∀D∈ds,B<=D
 at_:∀D∈ds,w.heap[D]?=some (.deferred (some []))
theorem T5.own{β:Type}{B:Nat}{I:β->World->Prop}(f:OwnFrom B I){s:β}:∀{ds:List Nat} {w a:World},T5 ds w a->C1 B ds w->I s w->I s a
 |[],w,a,h,_,hi=>by
  have h:a=w:=h;rw[h];exact hi
 |D::ds,w,a,h,hm,hi=>by
  have c:=dN.1 hm.nodup;refine T5.own f (ds:=ds) h ⟨c.2,λd b=>hm.ge d (cF _ b),λd b=>?_⟩ (OwnFrom.putObj f _ hi (hm.ge D (dg ..)) (hm.at_ D (dg ..)) rfl);rw[World.putObj_heap_other (λe=>c.1 (by rw[<-e];exact b))];exact hm.at_ d (cF _ b)
theorem Dk{P:Program}{fn:Func}{tmps:Array Value}{R:Ending->World->Prop}{B:Nat}:∀(b:List Nat) (w:World),C1 B b w->
  (∀a,T5 b w a->∃v,(results fn tmps).run P a=.ok v a/\R (.returned v) a)->LeavesInM Fence.wide 0 P fn tmps R (b.map DY) .returning w
 |[],w,_,h=>h w rfl
 |D::b,w,hm,h=>by
  have f:=dN.1 hm.nodup;refine⟨by simp,.inl ⟨D,_,rfl,run_takeDeferred (hm.at_ D (dg ..)),Dk (B:=B) b _ ⟨f.2,λd c=>hm.ge d (cF _ c),λd c=>?_⟩ (λa g=>h a g)⟩⟩;rw[World.putObj_heap_other (λe=>f.1 (by rw[<-e];exact c))];exact hm.at_ d (cF _ c)
theorem EB{P:Program}{f:FuncId}{fn:Func}{c:Code}{args:Array Value}{w:World}{R:Ending->World->Prop}(a:P.funcs[f]?=some fn)(b:fn.body=some c)
  (h:c.wp P (bodyPostM Fence.wide 0 P fn R) {tmps:=args++Array.replicate (fn.ntmps-args.size) undef,defers:=[]} w):Calls P f args w R:=
 callsIn_wide.1 (callsIn_of_wp_marks a b trivial (wpIn_wide.2 h))
theorem WX{P:Program}{fn:Func}{R:Ending->World->Prop}(h:∀w,¬R .outgrown w):¬LetsOut (bodyPostM Fence.wide 0 P fn R):=fun⟨_,w,q⟩=>h w q
theorem KB{P:Program}{F:Fence}{n:Nat}(hF:∀f,F.fn f)(g:F.depth=none)(k:Machine.fenced P F=Machine.fenced P Fence.wide){ops:Array Oper}{Q:Exit->Act->World->Prop}{d:List Oper}{o:Oper}{a:Act}{w:World}{l:Nat}{args:Array Value}{R:Ending->World->Prop}
  (i:Region.wanted o (yielded ops a.tmps)=true) (x:(o.semAt F.round a.eval).run P w=(Instr.yield l args).run P w) (p:YieldAt Fence.wide 0 P l args w R)
  (r:∀e b,R e b->∃v,e=.returned v/\wpListIn F n P ops Q d (a.put o.dst v) b):wpListIn F n P ops Q (o::d) a w:=by
 unfold wpListIn;rw[if_pos i];refine⟨λf _=>hF f,?_⟩;obtain⟨q,B,z,A,t,m⟩:=p;rw[x,t];refine⟨λh=>(by rw[g]at h;cases h),hF q,λc s _=>?_⟩;obtain⟨e,b,u,y⟩:=m.2 c s (room_wide _);obtain⟨v,rfl,j⟩:=r e b u;refine⟨.returned v,b,j,?_⟩;rw[k];exact y
theorem Hp{P:Program}{α:Type}{g:Operand}{p q:Nat}{T:TypeId}{F E:Code}{Q:Exit->Act->World->Prop}{a:Act}{w:World}{o:Nat}{G:Array Value}{b:α->List Value}{r:List α}{A:List Nat}
  (L:a.eval g=.func (.func o) #[] G) (U:∀C w,(callFunc o C).run P w=.ok (.enter o C) w)
  (H:Kr P o G (λx=>#[.agg (b x).toArray]) r A w) (Z:∀k∈A,k<w.heap.size)
  (I:List α->List Nat->World->Prop) (n:Code->List α->List Nat->World->Prop)
  (X:OwnFrom w.heap.size (fun(s:List α×List Nat) W=>I s.1 s.2 W)) (AO:∀c,OwnFrom w.heap.size (fun(s:List α×List Nat) W=>n c s.1 s.2 W)) (J:I [] A w)
  (Y:∀(l:Nat) (x:α) (W:World) (K:Act->World->Prop),x∈r->Hid (∀f,Ac [] W f->AE f W.heap.size (b x) T->K {tmps:=(a.tmps.setIfInBounds p (.agg (b x).toArray)).setIfInBounds q (.pointer (some ⟨W.heap.size,0,none⟩)),defers:=[]} f)->
   F.wpIn (Fence.wide.inRound l) 0 P (Exit.then K (λ_ _ _=>False)) {tmps:=a.tmps.setIfInBounds p (.agg (b x).toArray),defers:=[]} W)
  (AT:∀(l m:Nat) (d:List α) (x:α) (B:List α) (M:List Nat) (W:World),r=d++x::B->I d M W->(∀k∈M,k<m)->w.heap.size<=m->AE W m (b x) T->
   E.wpIn (Fence.wide.inRound l) 0 P (M5 I n (d++[x]) M W) {tmps:=(a.tmps.setIfInBounds p (.agg (b x).toArray)).setIfInBounds q (.pointer (some ⟨m,0,none⟩)),defers:=[]} W)
  (V:∀(D:Nat) (j:List Nat) (W:World),w.heap.size<=D->I r j W->W.heap[D]?=some (.deferred (some []))->(∀k∈j,k≠D)->Q .normal {a with defers:=DY D::a.defers} W)
  (Ax:∀(D:Nat) (c:Code) (d:List α) (j:List Nat) (W:World),w.heap.size<=D->n c d j W->W.heap[D]?=some (.deferred (some []))->c.wp P Q {a with defers:=DY D::a.defers} W):
  (Code.rangeFunc g #[p] F E).wp P Q a w:=by
 refine XF L U H (λ_=>rfl) Z I n X AO J (λi x z W=>AE W i (b x) T/\z={tmps:=(a.tmps.setIfInBounds p (.agg (b x).toArray)).setIfInBounds q (.pointer (some ⟨i,0,none⟩)),defers:=[]}) ?_ ?_ ?_ V Ax
 .intro i x z;exact BV (λ_ W f M h k u=>⟨h.1.kept k (C5 u h.1),h.2⟩)
 .intro l x W K hx _ S;have e:(#[p].zip #[Value.agg (b x).toArray]).foldl (λt (x:Nat×Value)=>match x with|(p,v)=>t.setIfInBounds p v) a.tmps=a.tmps.setIfInBounds p (.agg (b x).toArray):=by simp
  have h:=Y l x W K hx (λf O y=>S _ f O ⟨y,rfl⟩);rw[<-e]at h;exact h
 .rintro l i d x B M z W N hi u R h2 ⟨y,rfl⟩;exact AT l i d x B M W N hi u R y
theorem J9{P:Program}{c n:Nat}{os:List Oper}{a:Act}{w:World}{Q:Exit->Act->World->Prop}(k:Nat)(b:¬LetsOut Q)
  (h:∀K:Act->World->Prop,Hid (∀a w,wpListIn Fence.wide n P os.toArray Q (os.drop k) a w->K a w)->wpList P os.toArray (Exit.then K Q) (os.take k) a w):(Code.region c os.toArray false).wp P Q a w:=
 LZ (n:=n) (dl k os).symm b (h _ (λ_ _ h=>h))
theorem Nu{P:Program}{c n l:Nat}{os:List Oper}{a:Act}{w:World}{Q:Exit->Act->World->Prop}(k:Nat)(b:CU (os.take k)=true)(d:¬LetsOut Q)
  (h:∀K:Act->World->Prop,Hid (∀a w,wpListIn (Fence.wide.inRound l) n P os.toArray Q (os.drop k) a w->K a w)->wpList P os.toArray (Exit.then K Q) (os.take k) a w):(Code.region c os.toArray false).wpIn (Fence.wide.inRound l) n P Q a w:=
 KU (n:=n) (dl k os).symm b d (h _ (λ_ _ h=>h))
theorem Fr{P:Program}{n:Nat}{ops:Array Oper}{os:List Oper}{a:Act}{w:World}{Q:Exit->Act->World->Prop}(c:¬LetsOut Q)(h:wpList P ops Q os a w):wpListIn Fence.wide n P ops Q os a w:=by
 have b:=JD (P:=P) (ops:=ops) (Q:=Q) (n:=n) c [] os a w (by
  have d:Exit.then (wpListIn Fence.wide n P ops Q []) Q=Q:=by
   funext e a w
   cases e<;>rfl
  rw[d]
  exact h)
 rw[cK]at b;exact b
theorem Jc{P:Program}{n l:Nat}{ops:Array Oper}{os:List Oper}{a:Act}{w:World}{Q:Exit->Act->World->Prop}(c:CU os=true)(d:¬LetsOut Q)(h:wpList P ops Q os a w):wpListIn (Fence.wide.inRound l) n P ops Q os a w:=by
 have b:=GC (P:=P) (ops:=ops) (Q:=Q) (n:=n) (l:=l) d [] os c a w (by
  have f:Exit.then (wpListIn (Fence.wide.inRound l) n P ops Q []) Q=Q:=by
   funext e a w
   cases e<;>rfl
  rw[f]
  exact h)
 rw[cK]at b;exact b
end Go.Proofs.YtoihbhenbmffcaaGreatDoor
namespace Go.Proofs.YtoihbhenbmffcaaGreatDoor
open Go.RowKit Go.Proofs.Tryz
variable {P:Program}
section
variable {ops:Array Oper} {Q:Exit->Act->World->Prop} {md:Region.Mode} {S:World->Prop} {y l n:Nat}
def E7(P:Program)(md:Region.Mode)(ops:Array Oper)(Q:Exit->Act->World->Prop)(S:World->Prop)(l n y:Nat):Nat->Array Bool->Act->World->Prop
 |0,listed,a,w=>Region.ready md ops listed=[]/\Q .normal a w
 |fuel+1,listed,a,w=>(Region.ready md ops listed=[]->Q .normal a w)/\
  ∀i∈Region.ready md ops listed,if i=y then wpOpIn (Fence.wide.inRound l) n P ops Q i (E7 P md ops Q S l n y fuel (listed.setIfInBounds i true)) a w
   else wpOp P ops Q i (λa' w'=>(listed.getD y true=false->S w')/\E7 P md ops Q S l n y fuel (listed.setIfInBounds i true) a' w') a w
theorem E7.any(j:¬LetsOut Q)(d:CU ops.toList=true):∀(e:Nat) (m:Array Bool) (a:Act) (w:World),E7 P md ops Q S l n y e m a w->wpAnyIn (Fence.wide.inRound l) n P md ops Q e m a w
 |0,_,_,_,h=>h
 |e+1,m,a,w,h=>by
  refine⟨h.1,λi s=>?_⟩;have b:=h.2 i s;by_cases q:i=y
  .rw[if_pos q]at b;exact wpOpIn_mono (λg f p=>E7.any j d e _ g f p) b
  .rw[if_neg q]at b;unfold wpOp at b;unfold wpOpIn;cases ho:ops[i]? with
   |none=>
    rw[ho]at b;exact E7.any j d e _ a w b.2
   |some o=>
    rw[ho]at b;have t:∀c,o.op≠ .defer c:=by
     unfold CU at d;rw[dO]at d;exact Pc (d o (Array.mem_toList_iff.2 (Array.mem_of_getElem? ho)))
    simp only at b⊢;split
    .rename_i k;rw[if_pos k]at b;rcases b with b|b
     .exact O5 t (Oper.wp_mono (λg f p=>E7.any j d e _ g f p.2) b)
     .obtain⟨_,g,f,r⟩:=b;exact absurd ⟨g,f,r⟩ j
    .rename_i k;rw[if_neg k]at b;exact⟨λ_ _=>trivial,E7.any j d e _ _ w b.2⟩
theorem E7.first{i:Nat}{p:Oper}{v:Value}(F:ops[i]?=some p)(M:∀(j:Nat) (o:Oper) r b,ops[j]?=some o->o.op≠ .select r b)
  (W:∀c a w,Q (.panic c) (a.put p.dst v) w->Q (.panic c) a w) (A:i≠y) (X:PQ md ops y i=true):
  ∀(s:Nat) (d:Array Bool) (a:Act) (w:World),d.getD y true=false->
   (∀j m,ops[j]?=some m->j≠i->d.getD j true=false->(∀e∈m.after,Region.binds md e=true->e.on≠i)->p.apart ops m=true)->
   i∈Region.ready md ops d->YieldsIf P ops S p v a->S w->
   E7 P md ops Q S l n y s (d.setIfInBounds i true) (a.put p.dst v) w->E7 P md ops Q S l n y (s+1) d a w:=by
 intro s
 induction s with
 |zero=>
  intro d a w E _ k x u H;refine⟨λh=>(by rw[h]at k;cases k),λj t=>?_⟩;by_cases f:j=i
  .subst f;rw[if_neg A];exact x.wpOp F u ⟨λ_=>u,H⟩
  .have:=fC t f;rw[H.1]at this;cases this
 |succ s ih=>
  intro d a w E J k x u H;have D:=(mem_ready.1 k).1;refine⟨λh=>(by rw[h]at k;cases k),λj t=>?_⟩;by_cases f:j=i
  .subst f;rw[if_neg A];exact x.wpOp F u ⟨λ_=>u,H⟩
  ·(have N:j≠y:=λe=>QD X D (e▸t));have L:=H.2 j (fC t f);rw[if_neg N]at L⊢;obtain⟨I,m,B,AH⟩:=mem_ready.1 t;have Z:∀e∈m.after,Region.binds md e=true->e.on≠i:=λe he U V=>by
    have g:=AH e he U;rw[V]at g;rcases Nat.lt_or_ge i d.size with C|C
    .simp[C]at D g;rw[D]at g;cases g
    .simp[eL C]at g
   have g:=wpOp_putIf B (J j m B f I Z) (λr b=>M i p r b F) (λr b=>M j m r b B) W x L;(have G:(d.setIfInBounds i true).getD y true=false:=by rw[getD_set_ne true A];exact E);refine wpOp_mono (λa' T z=>⟨λ_=>z.2.1 G,ih (d.setIfInBounds j true) a' T (by rw[getD_set_ne true N];exact E) (λq oq Y AB O R=>J q oq Y AB ?_ R) (fC k (Ne.symm f)) z.1 (z.2.1 G) ?_⟩) g
   .by_cases K:j=q
    .subst K;exact I
    .rw[getD_set_ne true K]at O;exact O
   .rw[fD _ _ f];exact z.2.2
def bG(md:Region.Mode)(ops:Array Oper)(listed:Array Bool)(y i:Nat):Bool:=Region.noSelect ops&&Region.free md ops listed i&&(Region.ready md ops listed).contains i&&PQ md ops y i&& !(i==y)&& !(listed.getD y true)
theorem E7.take{i:Nat}{d:Oper}{v:Value}{fuel:Nat}{b:Array Bool}{a:Act}{w:World}(f:ops[i]?=some d)(e:bG md ops b y i=true)
  (s:∀c a w,Q (.panic c) (a.put d.dst v) w->Q (.panic c) a w) (o:S w) (k:YieldsIf P ops S d v a)
  (h:E7 P md ops Q S l n y fuel (b.setIfInBounds i true) (a.put d.dst v) w):E7 P md ops Q S l n y (fuel+1) b a w:=by
 unfold bG at e;simp only[cq,eD,cJ]at e;obtain⟨⟨⟨⟨⟨p,j⟩,r⟩,m⟩,q⟩,g⟩:=e;exact E7.first f (Region.noSelect_spec p) s q m fuel b a w g (Region.free_spec f j) (by simpa using r) k o h
theorem E7.one{i:Nat}{o:Oper}{fuel:Nat}{c:Array Bool}{a:Act}{w:World}(k:Region.ready md ops c=[i])(r:(i==y)=false)(p:ops[i]?=some o)
  (h:∀K:Act->World->Prop,Hid (∀g d,(c.getD y true=false->S d)->E7 P md ops Q S l n y fuel (c.setIfInBounds i true) g d->K g d)->
   if Region.wanted o (yielded ops a.tmps)=true then o.wp P a w K Q else K (a.put o.dst undef) w):E7 P md ops Q S l n y (fuel+1) c a w:=by
 refine⟨λm=>(by rw[k]at m;cases m),λj f=>?_⟩;rw[k]at f;simp only[bO]at f;subst f;rw[if_neg (cJ.1 r)];have b:=h _ (λg d q b=>And.intro q b);unfold wpOp;simp only[p];split
 .rename_i e;rw[if_pos e]at b;exact .inl b
 .rename_i e;rw[if_neg e]at b;exact b
theorem E7.yield{o:Oper}{fuel:Nat}{g:Array Bool}{a:Act}{w:World}(d:Region.ready md ops g=[y])(u:ops[y]?=some o){q:Nat}{args:Array Value}{R:Ending->World->Prop}
  (t:Region.wanted o (yielded ops a.tmps)=true) (z:(o.semAt (Fence.wide.inRound l).round a.eval).run P w=(Instr.yield q args).run P w) (x:YieldAt Fence.wide 0 P q args w R)
  (A:∀e b,R e b->∃v,e=.returned v/\E7 P md ops Q S l n y fuel (g.setIfInBounds y true) (a.put o.dst v) b):E7 P md ops Q S l n y (fuel+1) g a w:=by
 refine⟨λk=>(by rw[d]at k;cases k),λj i=>?_⟩;rw[d]at i;simp only[bO]at i;subst i;rw[if_pos rfl];unfold wpOpIn;simp only[u];rw[if_pos t];refine⟨λf _=>trivial,?_⟩;obtain⟨F,E,D,C,s,m⟩:=x;rw[z,s];refine⟨λh=>(by cases h),trivial,λc r _=>?_⟩;obtain⟨e,b,d,B⟩:=m.2 c r (room_wide _);obtain⟨v,rfl,p⟩:=A e b d;exact⟨.returned v,b,p,B⟩
theorem E7.done{b:Array Bool}{a:Act}{w:World}(c:Region.ready md ops b=[])(h:Q .normal a w):∀d,E7 P md ops Q S l n y d b a w
 |0=>⟨c,h⟩
 |_+1=>⟨λ_=>h,by rw[c];simp⟩
theorem NA{d:Nat}{a:Act}{w:World}(y:Nat)(S:World->Prop)(c:P.follows .mixedOrders=true)(b:CU ops.toList=true)(e:¬LetsOut Q)
  (h:E7 P .any ops Q S l n y ops.size (Array.replicate ops.size false) a w.drew):(Code.region d ops true).wpIn (Fence.wide.inRound l) n P Q a w:=
 wpIn_region_any c (E7.any e b _ _ _ _ h)
end
