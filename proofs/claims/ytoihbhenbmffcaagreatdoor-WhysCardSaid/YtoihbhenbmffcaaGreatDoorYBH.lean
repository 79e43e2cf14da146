import Derived.Test.YtoihbhenbmffcaaGreatDoorYBB
import Derived.Test.YtoihbhenbmffcaaGreatDoorYAX
set_option linter.all false
set_option maxHeartbeats 0
open Option renaming none->Y,some->V
open Bool renaming false->K
open List renaming toArray->j2
open Go.Value renaming pointer->j3,agg->jH,bool->jJ,ownBlock->jN
open Go.Ending renaming returned->j4
open Go renaming World->j7,Value->j8
namespace Go.Proofs.YtoihbhenbmffcaaGreatDoor
open Go.RowKit Go.Proofs.Tryz
abbrev Fc(D:Nat):Deferred:={target:=.collected D,args:=#[]}
def dj{α:Type}(P:Program)(l:Nat)(encs:α->Array j8)(xs:List α)(J Jx:List α->List Nat->j7->Prop):Prop:=
 ∀pre x rest M W1,xs=pre++x::rest->J pre M W1->YieldAt Fence.wide 0 P l (encs x) W1 λe W'=>
  (e=j4 (jJ true)/\∃M',J (pre++[x]) M' W'/\Ac M W1 W'/\∀k∈M',(k∈M\/W1.heap.size<=k)/\k<W'.heap.size)\/
  (e=j4 (jJ K)/\∃M',Jx (pre++[x]) M' W'/\Ac (l::M) W1 W')
def K0{α:Type}(P:Program)(g:Nat)(lb:Array j8)(encs:α->Array j8)(xs:List α)(M0:List Nat)(w:j7):Prop:=
 ∀(l:Nat) (J Jx:List α->List Nat->j7->Prop) (W:j7),Ac [] w W->w.heap.size<=l->l<W.heap.size->
  OwnFrom W.heap.size (fun(s:List α×List Nat) W=>J s.1 s.2 W)->OwnFrom W.heap.size (fun(s:List α×List Nat) W=>Jx s.1 s.2 W)->
  dj P l encs xs J Jx->J [] M0 W->
  Calls P g (#[.func (.yield l) #[] #[]]++lb) W λe W'=>(∃v,e=j4 v)/\((∃M',J xs M' W')\/(∃pre M',Jx pre M' W'))
def O3{α:Type}(I:List α->List Nat->j7->Prop)(Ix:Code->List α->List Nat->j7->Prop)(xs:List α)(M:List Nat)(W:j7):Exit->Act->j7->Prop
 | .normal,_,W'=>Ac M W W'/\∃M',I xs M' W'/\∀k∈M',(k∈M\/W.heap.size<=k)/\k<W'.heap.size
 | .ret,_,W'=>Ac M W W'/\∃M',Ix .ret xs M' W'
 | .exit id,_,W'=>Ac M W W'/\∃M',Ix (.exit id) xs M' W'
 | .goto t,_,W'=>Ac M W W'/\∃M',Ix (.goto t) xs M' W'
 | .panic _,_,_=>False
 | .outgrown,_,_=>False
def J5{b:Act->j7->Prop}{Q:Exit->Act->j7->Prop}(h:¬LetsOut Q):¬LetsOut (Exit.then b Q):=fun⟨a,w,q⟩=>h ⟨a,w,q⟩
def Ih:¬LetsOut (fun(_:Exit) (_:Act) (_:j7)=>False):=fun⟨_,_,q⟩=>q
def Ac.grow{w w':j7}(k:Ac [] w w'):w.grownBy w' Y:=⟨k.os,k.tape,k.output,k.size,λi a _=>k.block i a (by simp)⟩
def BI{β:Type}{B:Nat}{I:β->j7->Prop}(h:OwnFrom B I){s:β}{W a:j7}(b:I s W)(k:Ac [] W a):I s a:=h s W a Y b k.grow (λr e=>by cases e)
def dt{α:Type}(P:Program)(l:Nat)(Off:α->Array j8->j7->Prop)(xs:List α)(J Jx:List α->List Nat->j7->Prop):Prop:=
 ∀pre x rest M W1 vs,xs=pre++x::rest->J pre M W1->Off x vs W1->YieldAt Fence.wide 0 P l vs W1 λe W'=>
  (e=j4 (jJ true)/\∃M',J (pre++[x]) M' W'/\Ac M W1 W'/\∀k∈M',(k∈M\/W1.heap.size<=k)/\k<W'.heap.size)\/
  (e=j4 (jJ K)/\∃M',Jx (pre++[x]) M' W'/\Ac (l::M) W1 W')
def dH{α:Type}(P:Program)(g:Nat)(lb:Array j8)(Off:α->Array j8->j7->Prop)(xs:List α)(M0:List Nat)(w:j7):Prop:=
 ∀(l:Nat) (J Jx:List α->List Nat->j7->Prop) (W:j7),Ac [] w W->w.heap.size<=l->l<W.heap.size->
  OwnFrom W.heap.size (fun(s:List α×List Nat) W=>J s.1 s.2 W)->OwnFrom W.heap.size (fun(s:List α×List Nat) W=>Jx s.1 s.2 W)->
  dt P l Off xs J Jx->J [] M0 W->
  Calls P g (#[.func (.yield l) #[] #[]]++lb) W λe W'=>(∃v,e=j4 v)/\((∃M',J xs M' W')\/(∃pre M',Jx pre M' W'))
variable {P:Program}
theorem Xs{α:Type}{g:Operand}{ps:Array Tmp}{assign body:Code}{Q:Exit->Act->j7->Prop}{a:Act}{w:j7}{gf:Nat}{lb:Array j8}{Off:α->Array j8->j7->Prop}{xs:List α}{M0:List Nat}
  (hg:a.eval g=.func (.func gf) #[] lb) (eg:∀args w,(callFunc gf args).run P w=.ok (.enter gf args) w)
  (hseq:dH P gf lb Off xs M0 w) (hps:∀x vs W,Off x vs W->vs.size=ps.size) (hM0:∀k∈M0,k<w.heap.size)
  (I:List α->List Nat->j7->Prop) (Ix:Code->List α->List Nat->j7->Prop)
  (hI:OwnFrom w.heap.size (fun(s:List α×List Nat) W=>I s.1 s.2 W)) (hIx:∀c,OwnFrom w.heap.size (fun(s:List α×List Nat) W=>Ix c s.1 s.2 W)) (h0:I [] M0 w)
  (Ax:Nat->α->Act->j7->Prop) (hAx:∀n0 x a',OwnFrom w.heap.size (fun(_:Unit) W=>Ax n0 x a' W))
  (hassign:∀(l:Nat) (x:α) (vs:Array j8) (W:j7) (K:Act->j7->Prop),x∈xs->w.heap.size<=W.heap.size->Off x vs W->(∀a' W',Ac [] W W'->Ax W.heap.size x a' W'->K a' W')->
   assign.wpIn (Fence.wide.inRound l) 0 P (Exit.then K (λ_ _ _=>False)) {tmps:=(ps.zip vs).foldl (λt (p,v)=>t.setIfInBounds p v) a.tmps,defers:=[]} W)
  (hbody:∀(l n0:Nat) (pre:List α) (x:α) (rest:List α) (M:List Nat) (a':Act) (W:j7),xs=pre++x::rest->I pre M W->(∀k∈M,k<n0)->w.heap.size<=n0->n0<=W.heap.size->Ax n0 x a' W->
   body.wpIn (Fence.wide.inRound l) 0 P (O3 I Ix (pre++[x]) M W) a' W)
  (hdone:∀(D:Nat) (M':List Nat) (W:j7),w.heap.size<=D->I xs M' W->W.heap[D]?=V (.deferred (V []))->(∀k∈M',k≠D)->Q .normal {a with defers:=Fc D::a.defers} W)
  (hstop:∀(D:Nat) (c:Code) (pre:List α) (M':List Nat) (W:j7),w.heap.size<=D->Ix c pre M' W->W.heap[D]?=V (.deferred (V []))->c.wp P Q {a with defers:=Fc D::a.defers} W):
  (Code.rangeFunc g ps assign body).wp P Q a w:=by
 refine wpIn_wide.1 (wpIn_rangeFunc (n:=1) ?_);intro fn _;obtain⟨rec,hrec⟩:∃rec:LoopState->Option Code->Loop,rec=λst pe=>{state:=st,pending:=pe,fn,tmps:=a.tmps,params:=ps,assign,body,defers:=w.heap.size}:=⟨_,rfl⟩
 obtain⟨D,hD⟩:∃D,w.heap.size=D:=⟨_,rfl⟩;obtain⟨W1,hW1⟩:∃W1,(w.alloc (.deferred (V []))).alloc (.loop (rec .ready Y))=W1:=⟨_,rfl⟩;have hs1:W1.heap.size=D+2:=by rw[<-hW1];simp;omega
 have hk1:Ac [] w W1:=by rw[<-hW1];exact((Ac.refl [] w).alloc _).alloc _
 have hL1:W1.heap[D+1]?=V (.loop (rec .ready Y)):=by
  rw[<-hW1];have:=World.alloc_heap_new (w.alloc (.deferred (V []))) (.loop (rec .ready Y))
  rwa [fg,hD]at this
 have hK1:W1.heap[D]?=V (.deferred (V [])):=by
  rw[<-hW1];have h2:=World.alloc_heap_new w (.deferred (V []));rw[hD]at h2;have h3:=(Ac.refl [] (w.alloc (.deferred (V [])))).alloc (.loop (rec .ready Y));rw[h3.block D (by simp;omega) (by simp)];exact h2
 refine⟨D+1,[Fc D],W1,{target:=.fn (.func gf) lb,args:=#[.func (.yield (D+1)) #[] #[]]},W1,gf,#[.func (.yield (D+1)) #[] #[]]++lb,W1,?_,?_,λ_ _=>trivial,?_,λh=>(by cases h),?_⟩
 .rw[<-hW1,hrec,<-hD];exact run_enterLoop_outer _ _ _ _ _
 .simp only[resolve,hg];simp[go_sem]
 .simp[invoke,go_sem,eg]
 refine callsIn_wide.2 ?_;have own2:∀{A B:j7} {row:Option Nat} {k:Nat} {o:Obj},A.grownBy B row->(∀r,row=V r->W1.heap.size<=r/\∃o:Obj,A.heap[r]?=V o/\o.isCells=false)->k<W1.heap.size->A.heap[k]?=V o->B.heap[k]?=V o:=by
  intro A B row k o hgr hr hk ho;rw[hgr.block k (fx.1 ho).1 (λe=>by have:=(hr k e.symm).1;omega)];exact ho
 have own1:∀{A:j7} {row:Option Nat},(∀r,row=V r->W1.heap.size<=r/\∃o:Obj,A.heap[r]?=V o/\o.isCells=false)->∀r,row=V r->w.heap.size<=r/\∃o:Obj,A.heap[r]?=V o/\o.isCells=false:=
  λhr r e=>⟨by have:=(hr r e).1;omega,(hr r e).2⟩
 refine(hseq (D+1)
  (λpre M W=>I pre M W/\W.heap[D+1]?=V (.loop (rec .ready Y))/\W.heap[D]?=V (.deferred (V []))/\∀k∈M,k≠D/\k≠D+1/\k<W.heap.size)
  (λpre M W=>∃c,Ix c pre M W/\W.heap[D+1]?=V (.loop (rec .done (V c)))/\W.heap[D]?=V (.deferred (V [])))
  W1 hk1 (by omega) (by omega)
  (λs A B row hs hgr hr=>⟨hI s A B row hs.1 hgr (own1 hr),own2 hgr hr (by omega) hs.2.1,own2 hgr hr (by omega) hs.2.2.1,λk hk=>⟨(hs.2.2.2 k hk).1,(hs.2.2.2 k hk).2.1,gI (hs.2.2.2 k hk).2.2 hgr.size⟩⟩)
  (λs A B row hs hgr hr=>by
   obtain⟨c,hc,hl,hd⟩:=hs
   exact⟨c,hIx c s A B row hc hgr (own1 hr),own2 hgr hr (by omega) hl,own2 hgr hr (by omega) hd⟩)
  ?_ ⟨BI hI (s:=([],M0)) h0 hk1,hL1,hK1,λk hk=>⟨by have:=hM0 k hk;omega,by have:=hM0 k hk;omega,by have:=hM0 k hk;omega⟩⟩).mono ?_
 ·
  rintro pre x rest M W vs hxs ⟨hi,hl,hd,hM⟩ hoff;have zX:D+1<W.heap.size:=(fx.1 hl).1;have hy:=run_yield (P:=P) (args:=vs) hl (by rw[hrec];exact hps x vs W hoff);rw[hrec]at hy;refine⟨fn,_,assign,body,hy,roundIn_of_wpIn trivial (hassign _ x vs W _ (by rw[hxs];simp) (by omega) hoff ?_)⟩;clear hy;intro a' Wa hka hax;have hla:Wa.heap[D+1]?=V (.loop (rec .ready Y)):=(hka.block _ zX (by simp)).trans hl;have hda:Wa.heap[D]?=V (.deferred (V [])):=(hka.block _ (by omega) (by simp)).trans hd;have hia:I pre M Wa:=BI hI (s:=(pre,M)) hi hka;refine⟨_,run_beginRound hla (by rw[hrec]),?_⟩;have hsz:=hka.size;have hlta:D+1<Wa.heap.size:=by omega
  have hl2:(Wa.putObj (D+1) (.loop {rec .ready Y with state:=.busy})).heap[D+1]?=V (.loop {rec .ready Y with state:=.busy}):=World.putObj_heap_same hlta;have hd2:(Wa.putObj (D+1) (.loop {rec .ready Y with state:=.busy})).heap[D]?=V (.deferred (V [])):=(World.putObj_heap_other (by omega)).trans hda;have hs2:(Wa.putObj (D+1) (.loop {rec .ready Y with state:=.busy})).heap.size=Wa.heap.size:=by simp
  refine wpIn_mono (hbody _ W.heap.size pre x rest M a' _ hxs (hI.putObj (s:=(pre,M)) _ hia (by omega) hla rfl) (λk hk=>(hM k hk).2.2) (by omega) (by rw[hs2];omega) ((hAx _ x a').putObj (s:=()) _ hax (by omega) hla rfl)) ?_;have fin:∀(jump:Option Code) (W3:j7),Ac M (Wa.putObj (D+1) (.loop {rec .ready Y with state:=.busy})) W3->
    (Instr.endRound (D+1) jump).run P W3=.ok (jJ jump.isNone) (W3.putObj (D+1) (.loop (rec (if jump.isNone then .ready else .done) jump)))/\
    W3.heap[D+1]?=V (.loop {rec .ready Y with state:=.busy})/\
    (W3.putObj (D+1) (.loop (rec (if jump.isNone then .ready else .done) jump))).heap[D+1]?=V (.loop (rec (if jump.isNone then .ready else .done) jump))/\
    (W3.putObj (D+1) (.loop (rec (if jump.isNone then .ready else .done) jump))).heap[D]?=V (.deferred (V [])):=λjump W3 hk3=>by
   have hl3:=(hk3.block (D+1) (by rw[hs2];omega) (λh=>(hM _ h).2.1 rfl)).trans hl2;have hd3:=(hk3.block D (by rw[hs2];omega) (λh=>(hM _ h).1 rfl)).trans hd2;have:=run_endRound (P:=P) jump hl3;rw[hrec]at this⊢;exact⟨this,by rw[hrec]at hl3;exact hl3,World.putObj_heap_same (fx.1 hl3).1,(World.putObj_heap_other (by omega)).trans hd3⟩
  have fk:∀(o:Obj) (W3:j7),Ac M (Wa.putObj (D+1) (.loop {rec .ready Y with state:=.busy})) W3->Ac ((D+1)::M) W (W3.putObj (D+1) o):=λo W3 hk3=>by
   have hs3:=hk3.size;rw[hs2]at hs3;refine⟨hk3.os.trans hka.os,hk3.tape.trans hka.tape,hk3.output.trans hka.output,by simp;omega,λk hk hkm=>?_⟩;rw[ey,not_or]at hkm;rw[World.putObj_heap_other hkm.1,hk3.block k (by rw[hs2];omega) hkm.2,World.putObj_heap_other hkm.1,hka.block k hk (by simp)]
  rintro e a3 W3 hp;cases e with
  |normal=>
   obtain⟨hk3,M',hi3,hM'⟩:=hp;obtain⟨hr,hl3,hl4,hd4⟩:=fin Y W3 hk3;have hs3:=hk3.size;refine⟨_,_,hr,.inl ⟨rfl,M',⟨hI.putObj (s:=(pre++[x],M')) _ hi3 (by omega) hl3 rfl,hl4,hd4,λk hk=>?_⟩,?_,λk hk=>?_⟩⟩
   .have h1:=hM' k hk;refine⟨λe=>?_,λe=>?_,by simp;exact h1.2⟩
    .rcases h1.1 with h2|h2
     .exact(hM k h2).1 e
     .rw[hs2]at h2;omega
    .rcases h1.1 with h2|h2
     .exact(hM k h2).2.1 e
     .rw[hs2]at h2;omega
   .rw[hs2]at hs3;refine⟨?_,?_,?_,by simp;omega,λk hk hkm=>?_⟩
    .exact hk3.os.trans hka.os
    .exact hk3.tape.trans hka.tape
    .exact hk3.output.trans hka.output
    .by_cases hkl:k=D+1
     .subst hkl;rw[hl4,hl];rfl
     .rw[World.putObj_heap_other hkl,hk3.block k (by rw[hs2];omega) hkm,World.putObj_heap_other hkl,hka.block k hk (by simp)]
   .have h1:=hM' k hk;rw[hs2]at h1;exact⟨h1.1.imp id (λh=>by omega),by simp;exact h1.2⟩
  |ret=>
   obtain⟨hk3,M',hi3⟩:=hp;obtain⟨hr,hl3,hl4,hd4⟩:=fin (V .ret) W3 hk3;exact⟨_,_,hr,.inr ⟨rfl,M',⟨.ret,(hIx _).putObj (s:=(pre++[x],M')) _ hi3 (by omega) hl3 rfl,hl4,hd4⟩,fk _ W3 hk3⟩⟩
  |exit id=>
   obtain⟨hk3,M',hi3⟩:=hp;obtain⟨hr,hl3,hl4,hd4⟩:=fin (V (.exit id)) W3 hk3;exact⟨_,_,hr,.inr ⟨rfl,M',⟨.exit id,(hIx _).putObj (s:=(pre++[x],M')) _ hi3 (by omega) hl3 rfl,hl4,hd4⟩,fk _ W3 hk3⟩⟩
  |goto t=>
   obtain⟨hk3,M',hi3⟩:=hp;obtain⟨hr,hl3,hl4,hd4⟩:=fin (V (.goto t)) W3 hk3;exact⟨_,_,hr,.inr ⟨rfl,M',⟨.goto t,(hIx _).putObj (s:=(pre++[x],M')) _ hi3 (by omega) hl3 rfl,hl4,hd4⟩,fk _ W3 hk3⟩⟩
  |panic ch=>exact hp.elim
  |outgrown=>exact hp.elim
 ·
  rintro e W2 ⟨⟨v,rfl⟩,(⟨M',hi,hl,hd,hM⟩|⟨pre,M',c,hi,hl,hd⟩)⟩
  .exact⟨Y,_,by have:=run_endLoop (P:=P) hl (by rw[hrec];simp);rw[hrec]at this;exact this,hdone _ M' _ (by omega) (hI.putObj (s:=(xs,M')) _ hi (by omega) hl rfl) ((World.putObj_heap_other (by omega)).trans hd) (λk hk=>(hM k hk).1)⟩
  .exact⟨V c,_,by have:=run_endLoop (P:=P) hl (by rw[hrec];simp);rw[hrec]at this;exact this,wpIn_wide.2 (hstop _ c pre M' _ (by omega) ((hIx c).putObj (s:=(pre,M')) _ hi (by omega) hl rfl) ((World.putObj_heap_other (by omega)).trans hd))⟩
def RL{α:Type}{g:Operand}{ps:Array Tmp}{assign body:Code}{Q:Exit->Act->j7->Prop}{a:Act}{w:j7}{gf:Nat}{lb:Array j8}{encs:α->Array j8}{xs:List α}{M0:List Nat}
  (hg:a.eval g=.func (.func gf) #[] lb) (eg:∀args w,(callFunc gf args).run P w=.ok (.enter gf args) w)
  (hseq:K0 P gf lb encs xs M0 w) (hps:∀x,(encs x).size=ps.size) (hM0:∀k∈M0,k<w.heap.size)
  (I:List α->List Nat->j7->Prop) (Ix:Code->List α->List Nat->j7->Prop)
  (hI:OwnFrom w.heap.size (fun(s:List α×List Nat) W=>I s.1 s.2 W)) (hIx:∀c,OwnFrom w.heap.size (fun(s:List α×List Nat) W=>Ix c s.1 s.2 W)) (h0:I [] M0 w)
  (Ax:Nat->α->Act->j7->Prop) (hAx:∀n0 x a',OwnFrom w.heap.size (fun(_:Unit) W=>Ax n0 x a' W))
  (hassign:∀(l:Nat) (x:α) (W:j7) (K:Act->j7->Prop),x∈xs->w.heap.size<=W.heap.size->(∀a' W',Ac [] W W'->Ax W.heap.size x a' W'->K a' W')->
   assign.wpIn (Fence.wide.inRound l) 0 P (Exit.then K (λ_ _ _=>False)) {tmps:=(ps.zip (encs x)).foldl (λt (p,v)=>t.setIfInBounds p v) a.tmps,defers:=[]} W)
  (hbody:∀(l n0:Nat) (pre:List α) (x:α) (rest:List α) (M:List Nat) (a':Act) (W:j7),xs=pre++x::rest->I pre M W->(∀k∈M,k<n0)->w.heap.size<=n0->n0<=W.heap.size->Ax n0 x a' W->
   body.wpIn (Fence.wide.inRound l) 0 P (O3 I Ix (pre++[x]) M W) a' W)
  (hdone:∀(D:Nat) (M':List Nat) (W:j7),w.heap.size<=D->I xs M' W->W.heap[D]?=V (.deferred (V []))->(∀k∈M',k≠D)->Q .normal {a with defers:=Fc D::a.defers} W)
  (hstop:∀(D:Nat) (c:Code) (pre:List α) (M':List Nat) (W:j7),w.heap.size<=D->Ix c pre M' W->W.heap[D]?=V (.deferred (V []))->c.wp P Q {a with defers:=Fc D::a.defers} W):
  (Code.rangeFunc g ps assign body).wp P Q a w:=
 Xs (Off:=λx vs _=>vs=encs x) hg eg (λl J Jx W h1 h2 h3 h4 h5 hr h6=>hseq l J Jx W h1 h2 h3 h4 h5 (λpre x rest M W1 he hj=>hr pre x rest M W1 (encs x) he hj rfl) h6) (λx vs W h=>by rw[h];exact hps x) hM0 I Ix hI hIx h0 Ax hAx (λl x vs W K h1 h2 h3 h4=>by subst h3;exact hassign l x W K h1 h2 h4) hbody hdone hstop
def B7{β:Type}{B:Nat}{I:β->j7->Prop}(h:∀s W b M,I s W->Ac M W b->(∀r∈M,B<=r/\∃o:Obj,W.heap[r]?=V o/\o.isCells=K)->I s b):OwnFrom B I:=λs W b f j a i=>
 h s W b f.toList j ⟨a.os,a.tape,a.output,a.size,λk d c=>a.block k d (λe=>c (by rw[<-e];simp))⟩ (λr g=>i r (by simpa using g))
def CS{W:j7}{B:Nat}{M:List Nat}(c:∀r∈M,B<=r/\∃o:Obj,W.heap[r]?=V o/\o.isCells=K){b:Nat}{cs:List j8}{t:TypeId}(h:AI W b cs t):b∉M:=λd=>by
 obtain⟨_,o,a,e⟩:=c b d;unfold AI at h;rw[h]at a;cases a
 cases e
def Ct{W:j7}{B:Nat}{M:List Nat}(f:∀r∈M,B<=r/\∃o:Obj,W.heap[r]?=V o/\o.isCells=K){base e size n:Nat}{v:j8}{j:List j8}(h:W.ownsRow base e size v n j):∀i,v.ownBlock=V i->i∉M:=λi a d=>by
 obtain⟨_,o,b,l⟩:=f i d;rcases h.2 with⟨rfl,_⟩|⟨g,c,m,rfl,_,k,_⟩
 .simp[jN]at a
 .simp only[jN,eD]at a;subst a;rw[k]at b;cases b
  cases l
def EZ{a W b:j7}{B:Nat}{M:List Nat}(h:Ac [] a W)(k:Ac M W b)(c:∀r∈M,B<=r/\∃o:Obj,W.heap[r]?=V o/\o.isCells=K)(e:a.heap.size<=B):Ac [] a b:=
 h.trans' k (λi d=>Or.inr (by have:=(c i d).1;omega))
def UW:List Nat->j7->j7->Prop
 |[],w,w'=>w'=w
 |D::ds,w,w'=>UW ds (w.putObj D (.deferred Y)) w'
structure D5(B:Nat)(ds:List Nat)(w:j7):Prop where
 nodup:ds.Nodup
 ge:∀D∈ds,B<=D
 at_:∀D∈ds,w.heap[D]?=V (.deferred (V []))
def UW.own{β:Type}{B:Nat}{I:β->j7->Prop}(f:OwnFrom B I){s:β}:∀{ds:List Nat} {w a:j7},UW ds w a->D5 B ds w->I s w->I s a
 |[],w,a,h,_,hi=>by
  have h:a=w:=h;rw[h];exact hi
 |D::ds,w,a,h,hm,hi=>by
  have c:=gX.1 hm.nodup;refine UW.own f (ds:=ds) h ⟨c.2,λd b=>hm.ge d (fu _ b),λd b=>?_⟩ (OwnFrom.putObj f _ hi (hm.ge D (fI ..)) (hm.at_ D (fI ..)) rfl);rw[World.putObj_heap_other (λe=>c.1 (by rw[<-e];exact b))];exact hm.at_ d (fu _ b)
def D9{P:Program}{fn:Func}{tmps:Array j8}{R:Ending->j7->Prop}{B:Nat}:∀(b:List Nat) (w:j7),D5 B b w->
  (∀a,UW b w a->∃v,(results fn tmps).run P a=.ok v a/\R (j4 v) a)->LeavesInM Fence.wide 0 P fn tmps R (b.map Fc) .returning w
 |[],w,_,h=>h w rfl
 |D::b,w,hm,h=>by
  have f:=gX.1 hm.nodup;refine⟨by simp,.inl ⟨D,_,rfl,run_takeDeferred (hm.at_ D (fI ..)),D9 (B:=B) b _ ⟨f.2,λd c=>hm.ge d (fu _ c),λd c=>?_⟩ (λa g=>h a g)⟩⟩;rw[World.putObj_heap_other (λe=>f.1 (by rw[<-e];exact c))];exact hm.at_ d (fu _ c)
def FS{P:Program}{f:FuncId}{fn:Func}{c:Code}{args:Array j8}{w:j7}{R:Ending->j7->Prop}(a:P.funcs[f]?=V fn)(b:fn.body=V c)
  (h:c.wp P (bodyPostM Fence.wide 0 P fn R) {tmps:=args++Array.replicate (fn.ntmps-args.size) undef,defers:=[]} w):Calls P f args w R:=
 callsIn_wide.1 (callsIn_of_wp_marks a b trivial (wpIn_wide.2 h))
def Yd{P:Program}{fn:Func}{R:Ending->j7->Prop}(h:∀w,¬R .outgrown w):¬LetsOut (bodyPostM Fence.wide 0 P fn R):=fun⟨_,w,q⟩=>h w q
def I1{P:Program}{F:Fence}{n:Nat}(hF:∀f,F.fn f)(g:F.depth=Y)(k:Machine.fenced P F=Machine.fenced P Fence.wide){ops:Array Oper}{Q:Exit->Act->j7->Prop}{d:List Oper}{o:Oper}{a:Act}{w:j7}{l:Nat}{args:Array j8}{R:Ending->j7->Prop}
  (i:Region.wanted o (yielded ops a.tmps)=true) (x:(o.semAt F.round a.eval).run P w=(Instr.yield l args).run P w) (p:YieldAt Fence.wide 0 P l args w R)
  (r:∀e b,R e b->∃v,e=j4 v/\wpListIn F n P ops Q d (a.put o.dst v) b):wpListIn F n P ops Q (o::d) a w:=by
 unfold wpListIn;rw[eI i];refine⟨λf _=>hF f,?_⟩;obtain⟨q,B,z,A,t,m⟩:=p;rw[x,t];refine⟨λh=>(by rw[g]at h;cases h),hF q,λc s _=>?_⟩;obtain⟨e,b,u,y⟩:=m.2 c s (room_wide _);obtain⟨v,rfl,j⟩:=r e b u;refine⟨j4 v,b,j,?_⟩;rw[k];exact y
def Km{P:Program}{α:Type}{g:Operand}{p q:Nat}{T:TypeId}{G F:Code}{Q:Exit->Act->j7->Prop}{a:Act}{w:j7}{r:Nat}{H:Array j8}{b:α->List j8}{u:List α}{B:List Nat}
  (R:a.eval g=.func (.func r) #[] H) (eg:∀E w,(callFunc r E).run P w=.ok (.enter r E) w)
  (L:K0 P r H (λx=>#[jH (j2 (b x))]) u B w) (BA:∀k∈B,k<w.heap.size)
  (I:List α->List Nat->j7->Prop) (o:Code->List α->List Nat->j7->Prop)
  (hI:OwnFrom w.heap.size (fun(s:List α×List Nat) W=>I s.1 s.2 W)) (B2:∀c,OwnFrom w.heap.size (fun(s:List α×List Nat) W=>o c s.1 s.2 W)) (N:I [] B w)
  (A2:∀(l:Nat) (x:α) (W:j7) (j:Act->j7->Prop),x∈u->Hid (∀f,Ac [] W f->AI f W.heap.size (b x) T->j {tmps:=(a.tmps.setIfInBounds p (jH (j2 (b x)))).setIfInBounds q (j3 (V ⟨W.heap.size,0,Y⟩)),defers:=[]} f)->
   G.wpIn (Fence.wide.inRound l) 0 P (Exit.then j (λ_ _ _=>False)) {tmps:=a.tmps.setIfInBounds p (jH (j2 (b x))),defers:=[]} W)
  (B9:∀(l n:Nat) (d:List α) (x:α) (C:List α) (M:List Nat) (W:j7),u=d++x::C->I d M W->(∀k∈M,k<n)->w.heap.size<=n->AI W n (b x) T->
   F.wpIn (Fence.wide.inRound l) 0 P (O3 I o (d++[x]) M W) {tmps:=(a.tmps.setIfInBounds p (jH (j2 (b x)))).setIfInBounds q (j3 (V ⟨n,0,Y⟩)),defers:=[]} W)
  (A0:∀(D:Nat) (m:List Nat) (W:j7),w.heap.size<=D->I u m W->W.heap[D]?=V (.deferred (V []))->(∀k∈m,k≠D)->Q .normal {a with defers:=Fc D::a.defers} W)
  (BS:∀(D:Nat) (c:Code) (d:List α) (m:List Nat) (W:j7),w.heap.size<=D->o c d m W->W.heap[D]?=V (.deferred (V []))->c.wp P Q {a with defers:=Fc D::a.defers} W):
  (Code.rangeFunc g #[p] G F).wp P Q a w:=by
 refine RL R eg L (λ_=>rfl) BA I o hI B2 N (λi x A W=>AI W i (b x) T/\A={tmps:=(a.tmps.setIfInBounds p (jH (j2 (b x)))).setIfInBounds q (j3 (V ⟨i,0,Y⟩)),defers:=[]}) ?_ ?_ ?_ A0 BS
 .intro i x A;exact B7 (λ_ W f M h k y=>⟨h.1.kept k (CS y h.1),h.2⟩)
 .intro l x W j hx _ hK;have e:(#[p].zip #[jH (j2 (b x))]).foldl (λt (x:Nat×j8)=>match x with|(p,v)=>t.setIfInBounds p v) a.tmps=a.tmps.setIfInBounds p (jH (j2 (b x))):=by simp
  have h:=A2 l x W j hx (λf hk z=>hK _ f hk ⟨z,rfl⟩);rw[<-e]at h;exact h
 .rintro l i d x C M A W S hi y h1 h2 ⟨z,rfl⟩;exact B9 l i d x C M W S hi y h1 z
def Ho{P:Program}{d n:Nat}{os:List Oper}{a:Act}{w:j7}{Q:Exit->Act->j7->Prop}(k:Nat)(c:¬LetsOut Q)
  (h:∀b:Act->j7->Prop,Hid (∀a w,wpListIn Fence.wide n P (j2 os) Q (os.drop k) a w->b a w)->wpList P (j2 os) (Exit.then b Q) (os.take k) a w):(Code.region d (j2 os) K).wp P Q a w:=
 Mw (n:=n) (fH k os).symm c (h _ (λ_ _ h=>h))
def Ok{P:Program}{d n l:Nat}{os:List Oper}{a:Act}{w:j7}{Q:Exit->Act->j7->Prop}(k:Nat)(c:Ee (os.take k)=true)(e:¬LetsOut Q)
  (h:∀b:Act->j7->Prop,Hid (∀a w,wpListIn (Fence.wide.inRound l) n P (j2 os) Q (os.drop k) a w->b a w)->wpList P (j2 os) (Exit.then b Q) (os.take k) a w):(Code.region d (j2 os) K).wpIn (Fence.wide.inRound l) n P Q a w:=
 LA (n:=n) (fH k os).symm c e (h _ (λ_ _ h=>h))
def DH{P:Program}{n:Nat}{ops:Array Oper}{os:List Oper}{a:Act}{w:j7}{Q:Exit->Act->j7->Prop}(c:¬LetsOut Q)(h:wpList P ops Q os a w):wpListIn Fence.wide n P ops Q os a w:=by
 have b:=Kb (P:=P) (ops:=ops) (Q:=Q) (n:=n) c [] os a w (by
  have d:Exit.then (wpListIn Fence.wide n P ops Q []) Q=Q:=by
   funext e a w
   cases e<;>rfl
  rw[d]
  exact h)
 rw[fh]at b;exact b
def JD{P:Program}{n l:Nat}{ops:Array Oper}{os:List Oper}{a:Act}{w:j7}{Q:Exit->Act->j7->Prop}(c:Ee os=true)(d:¬LetsOut Q)(h:wpList P ops Q os a w):wpListIn (Fence.wide.inRound l) n P ops Q os a w:=by
 have b:=GQ (P:=P) (ops:=ops) (Q:=Q) (n:=n) (l:=l) d [] os c a w (by
  have f:Exit.then (wpListIn (Fence.wide.inRound l) n P ops Q []) Q=Q:=by
   funext e a w
   cases e<;>rfl
  rw[f]
  exact h)
 rw[fh]at b;exact b
