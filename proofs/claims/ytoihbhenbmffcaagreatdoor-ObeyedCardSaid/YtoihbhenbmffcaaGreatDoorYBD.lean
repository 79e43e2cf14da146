import Derived.Test.YtoihbhenbmffcaaGreatDoorYAY
import Derived.Test.YtoihbhenbmffcaaGreatDoorYAV
set_option linter.all false
set_option maxHeartbeats 0
open Option renaming none->Y,some->V
open Bool renaming false->K,true->j1
open List renaming toArray->j3
open Go.Value renaming pointer->kt,agg->lR,bool->lT,ownBlock->lX
open Go.Ending renaming returned->lo
open Go renaming World->l9,Value->lN
namespace Go.Proofs.YtoihbhenbmffcaaGreatDoor
open Go.RowKit Go.Proofs.Tryz
abbrev D8(D:Nat):Deferred:={target:=.collected D,args:=#[]}
def eU{α:Type}(P:Program)(l:Nat)(encs:α->Array lN)(xs:mc α)(J Jx:mc α->mc Nat->l9->Prop):Prop:=
 ∀pre x rest M W1,xs=pre++x::rest->J pre M W1->YieldAt Fence.wide 0 P l (encs x) W1 λe W'=>
  (e=lo (lT j1)/\∃M',J (pre++[x]) M' W'/\Ac M W1 W'/\∀k∈M',(k∈M\/W1.heap.size<=k)/\k<W'.heap.size)\/
  (e=lo (lT K)/\∃M',Jx (pre++[x]) M' W'/\Ac (l::M) W1 W')
def Kq{α:Type}(P:Program)(g:Nat)(lb:Array lN)(encs:α->Array lN)(xs:mc α)(M0:mc Nat)(w:l9):Prop:=
 ∀(l:Nat) (J Jx:mc α->mc Nat->l9->Prop) (W:l9),Ac [] w W->w.heap.size<=l->l<W.heap.size->
  OwnFrom W.heap.size (fun(s:mc α×mc Nat) W=>J s.1 s.2 W)->OwnFrom W.heap.size (fun(s:mc α×mc Nat) W=>Jx s.1 s.2 W)->
  eU P l encs xs J Jx->J [] M0 W->
  Calls P g (#[.func (.yield l) #[] #[]]++lb) W λe W'=>(∃v,e=lo v)/\((∃M',J xs M' W')\/(∃pre M',Jx pre M' W'))
def LI{α:Type}(I:mc α->mc Nat->l9->Prop)(Ix:Code->mc α->mc Nat->l9->Prop)(xs:mc α)(M:mc Nat)(W:l9):Exit->Act->l9->Prop
 | .normal,_,W'=>Ac M W W'/\∃M',I xs M' W'/\∀k∈M',(k∈M\/W.heap.size<=k)/\k<W'.heap.size
 | .ret,_,W'=>Ac M W W'/\∃M',Ix .ret xs M' W'
 | .exit id,_,W'=>Ac M W W'/\∃M',Ix (.exit id) xs M' W'
 | .goto t,_,W'=>Ac M W W'/\∃M',Ix (.goto t) xs M' W'
 | .panic _,_,_=>False
 | .outgrown,_,_=>False
def Hc{b:Act->l9->Prop}{Q:Exit->Act->l9->Prop}(h:¬LetsOut Q):¬LetsOut (Exit.then b Q):=fun⟨a,w,q⟩=>h ⟨a,w,q⟩
def F0:¬LetsOut (fun(_:Exit) (_:Act) (_:l9)=>False):=fun⟨_,_,q⟩=>q
def Ac.grow{w w':l9}(k:Ac [] w w'):w.grownBy w' Y:=⟨k.os,k.tape,k.output,k.size,λi a _=>k.block i a (by simp)⟩
def BB{β:Type}{B:Nat}{I:β->l9->Prop}(h:OwnFrom B I){s:β}{W a:l9}(b:I s W)(k:Ac [] W a):I s a:=h s W a Y b k.grow (λr e=>by cases e)
def fe{α:Type}(P:Program)(l:Nat)(Off:α->Array lN->l9->Prop)(xs:mc α)(J Jx:mc α->mc Nat->l9->Prop):Prop:=
 ∀pre x rest M W1 vs,xs=pre++x::rest->J pre M W1->Off x vs W1->YieldAt Fence.wide 0 P l vs W1 λe W'=>
  (e=lo (lT j1)/\∃M',J (pre++[x]) M' W'/\Ac M W1 W'/\∀k∈M',(k∈M\/W1.heap.size<=k)/\k<W'.heap.size)\/
  (e=lo (lT K)/\∃M',Jx (pre++[x]) M' W'/\Ac (l::M) W1 W')
def eF{α:Type}(P:Program)(g:Nat)(lb:Array lN)(Off:α->Array lN->l9->Prop)(xs:mc α)(M0:mc Nat)(w:l9):Prop:=
 ∀(l:Nat) (J Jx:mc α->mc Nat->l9->Prop) (W:l9),Ac [] w W->w.heap.size<=l->l<W.heap.size->
  OwnFrom W.heap.size (fun(s:mc α×mc Nat) W=>J s.1 s.2 W)->OwnFrom W.heap.size (fun(s:mc α×mc Nat) W=>Jx s.1 s.2 W)->
  fe P l Off xs J Jx->J [] M0 W->
  Calls P g (#[.func (.yield l) #[] #[]]++lb) W λe W'=>(∃v,e=lo v)/\((∃M',J xs M' W')\/(∃pre M',Jx pre M' W'))
variable {P:Program}
theorem Rr{α:Type}{g:Operand}{ps:Array Tmp}{assign body:Code}{Q:Exit->Act->l9->Prop}{a:Act}{w:l9}{gf:Nat}{lb:Array lN}{Off:α->Array lN->l9->Prop}{xs:mc α}{M0:mc Nat}
  (hg:a.eval g=.func (.func gf) #[] lb) (eg:∀args w,(callFunc gf args).run P w=.ok (.enter gf args) w)
  (hseq:eF P gf lb Off xs M0 w) (hps:∀x vs W,Off x vs W->vs.size=ps.size) (hM0:∀k∈M0,k<w.heap.size)
  (I:mc α->mc Nat->l9->Prop) (Ix:Code->mc α->mc Nat->l9->Prop)
  (hI:OwnFrom w.heap.size (fun(s:mc α×mc Nat) W=>I s.1 s.2 W)) (hIx:∀c,OwnFrom w.heap.size (fun(s:mc α×mc Nat) W=>Ix c s.1 s.2 W)) (h0:I [] M0 w)
  (Ax:Nat->α->Act->l9->Prop) (hAx:∀n0 x a',OwnFrom w.heap.size (fun(_:Unit) W=>Ax n0 x a' W))
  (hassign:∀(l:Nat) (x:α) (vs:Array lN) (W:l9) (K:Act->l9->Prop),x∈xs->w.heap.size<=W.heap.size->Off x vs W->(∀a' W',Ac [] W W'->Ax W.heap.size x a' W'->K a' W')->
   assign.wpIn (Fence.wide.inRound l) 0 P (Exit.then K (λ_ _ _=>False)) {tmps:=(ps.zip vs).foldl (λt (p,v)=>t.setIfInBounds p v) a.tmps,defers:=[]} W)
  (hbody:∀(l n0:Nat) (pre:mc α) (x:α) (rest:mc α) (M:mc Nat) (a':Act) (W:l9),xs=pre++x::rest->I pre M W->(∀k∈M,k<n0)->w.heap.size<=n0->n0<=W.heap.size->Ax n0 x a' W->
   body.wpIn (Fence.wide.inRound l) 0 P (LI I Ix (pre++[x]) M W) a' W)
  (hdone:∀(D:Nat) (M':mc Nat) (W:l9),w.heap.size<=D->I xs M' W->W.heap[D]?=V (.deferred (V []))->(∀k∈M',k≠D)->Q .normal {a with defers:=D8 D::a.defers} W)
  (hstop:∀(D:Nat) (c:Code) (pre:mc α) (M':mc Nat) (W:l9),w.heap.size<=D->Ix c pre M' W->W.heap[D]?=V (.deferred (V []))->c.wp P Q {a with defers:=D8 D::a.defers} W):
  (Code.rangeFunc g ps assign body).wp P Q a w:=by
 refine wpIn_wide.1 (wpIn_rangeFunc (n:=1) ?_);intro fn _;obtain⟨rec,hrec⟩:∃rec:LoopState->Option Code->Loop,rec=λst pe=>{state:=st,pending:=pe,fn,tmps:=a.tmps,params:=ps,assign,body,defers:=w.heap.size}:=⟨_,rfl⟩
 obtain⟨D,hD⟩:∃D,w.heap.size=D:=⟨_,rfl⟩;obtain⟨W1,hW1⟩:∃W1,(w.alloc (.deferred (V []))).alloc (.loop (rec .ready Y))=W1:=⟨_,rfl⟩;have hs1:W1.heap.size=D+2:=by rw[<-hW1];simp;omega
 have hk1:Ac [] w W1:=by rw[<-hW1];exact((me [] w).alloc _).alloc _
 have hL1:W1.heap[D+1]?=V (.loop (rec .ready Y)):=by
  rw[<-hW1];have:=World.alloc_heap_new (w.alloc (.deferred (V []))) (.loop (rec .ready Y))
  rwa [iz,hD]at this
 have hK1:W1.heap[D]?=V (.deferred (V [])):=by
  rw[<-hW1];have h2:=World.alloc_heap_new w (.deferred (V []));rw[hD]at h2;have h3:=(me [] (w.alloc (.deferred (V [])))).alloc (.loop (rec .ready Y));rw[h3.block D (by simp;omega) (by simp)];exact h2
 refine⟨D+1,[D8 D],W1,{target:=.fn (.func gf) lb,args:=#[.func (.yield (D+1)) #[] #[]]},W1,gf,#[.func (.yield (D+1)) #[] #[]]++lb,W1,?_,?_,λ_ _=>trivial,?_,λh=>(by cases h),?_⟩
 .rw[<-hW1,hrec,<-hD];exact run_enterLoop_outer _ _ _ _ _
 .simp only[resolve,hg];simp[go_sem]
 .simp[invoke,go_sem,eg]
 refine callsIn_wide.2 ?_;have own2:∀{A B:l9} {row:Option Nat} {k:Nat} {o:Obj},A.grownBy B row->(∀r,row=V r->W1.heap.size<=r/\∃o:Obj,A.heap[r]?=V o/\o.isCells=false)->k<W1.heap.size->A.heap[k]?=V o->B.heap[k]?=V o:=by
  intro A B row k o hgr hr hk ho;rw[hgr.block k (iK.1 ho).1 (λe=>by have:=(hr k e.symm).1;omega)];exact ho
 have own1:∀{A:l9} {row:Option Nat},(∀r,row=V r->W1.heap.size<=r/\∃o:Obj,A.heap[r]?=V o/\o.isCells=false)->∀r,row=V r->w.heap.size<=r/\∃o:Obj,A.heap[r]?=V o/\o.isCells=false:=
  λhr r e=>⟨by have:=(hr r e).1;omega,(hr r e).2⟩
 refine(hseq (D+1)
  (λpre M W=>I pre M W/\W.heap[D+1]?=V (.loop (rec .ready Y))/\W.heap[D]?=V (.deferred (V []))/\∀k∈M,k≠D/\k≠D+1/\k<W.heap.size)
  (λpre M W=>∃c,Ix c pre M W/\W.heap[D+1]?=V (.loop (rec .done (V c)))/\W.heap[D]?=V (.deferred (V [])))
  W1 hk1 (by omega) (by omega)
  (λs A B row hs hgr hr=>⟨hI s A B row hs.1 hgr (own1 hr),own2 hgr hr (by omega) hs.2.1,own2 hgr hr (by omega) hs.2.2.1,λk hk=>⟨(hs.2.2.2 k hk).1,(hs.2.2.2 k hk).2.1,jw (hs.2.2.2 k hk).2.2 hgr.size⟩⟩)
  (λs A B row hs hgr hr=>by
   obtain⟨c,hc,hl,hd⟩:=hs
   exact⟨c,hIx c s A B row hc hgr (own1 hr),own2 hgr hr (by omega) hl,own2 hgr hr (by omega) hd⟩)
  ?_ ⟨BB hI (s:=([],M0)) h0 hk1,hL1,hK1,λk hk=>⟨by have:=hM0 k hk;omega,by have:=hM0 k hk;omega,by have:=hM0 k hk;omega⟩⟩).mono ?_
 ·
  rintro pre x rest M W vs hxs ⟨hi,hl,hd,hM⟩ hoff;have zY:D+1<W.heap.size:=(iK.1 hl).1;have hy:=run_yield (P:=P) (args:=vs) hl (by rw[hrec];exact hps x vs W hoff);rw[hrec]at hy;refine⟨fn,_,assign,body,hy,roundIn_of_wpIn trivial (hassign _ x vs W _ (by rw[hxs];simp) (by omega) hoff ?_)⟩;clear hy;intro a' Wa hka hax;have hla:Wa.heap[D+1]?=V (.loop (rec .ready Y)):=(hka.block _ zY (by simp)).trans hl;have hda:Wa.heap[D]?=V (.deferred (V [])):=(hka.block _ (by omega) (by simp)).trans hd;have hia:I pre M Wa:=BB hI (s:=(pre,M)) hi hka;refine⟨_,run_beginRound hla (by rw[hrec]),?_⟩;have hsz:=hka.size;have hlta:D+1<Wa.heap.size:=by omega
  have hl2:(Wa.putObj (D+1) (.loop {rec .ready Y with state:=.busy})).heap[D+1]?=V (.loop {rec .ready Y with state:=.busy}):=World.putObj_heap_same hlta;have hd2:(Wa.putObj (D+1) (.loop {rec .ready Y with state:=.busy})).heap[D]?=V (.deferred (V [])):=(World.putObj_heap_other (by omega)).trans hda;have hs2:(Wa.putObj (D+1) (.loop {rec .ready Y with state:=.busy})).heap.size=Wa.heap.size:=by simp
  refine wpIn_mono (hbody _ W.heap.size pre x rest M a' _ hxs (hI.putObj (s:=(pre,M)) _ hia (by omega) hla rfl) (λk hk=>(hM k hk).2.2) (by omega) (by rw[hs2];omega) ((hAx _ x a').putObj (s:=()) _ hax (by omega) hla rfl)) ?_;have fin:∀(jump:Option Code) (W3:l9),Ac M (Wa.putObj (D+1) (.loop {rec .ready Y with state:=.busy})) W3->
    (Instr.endRound (D+1) jump).run P W3=.ok (lT jump.isNone) (W3.putObj (D+1) (.loop (rec (if jump.isNone then .ready else .done) jump)))/\
    W3.heap[D+1]?=V (.loop {rec .ready Y with state:=.busy})/\
    (W3.putObj (D+1) (.loop (rec (if jump.isNone then .ready else .done) jump))).heap[D+1]?=V (.loop (rec (if jump.isNone then .ready else .done) jump))/\
    (W3.putObj (D+1) (.loop (rec (if jump.isNone then .ready else .done) jump))).heap[D]?=V (.deferred (V [])):=λjump W3 hk3=>by
   have hl3:=(hk3.block (D+1) (by rw[hs2];omega) (λh=>(hM _ h).2.1 rfl)).trans hl2;have hd3:=(hk3.block D (by rw[hs2];omega) (λh=>(hM _ h).1 rfl)).trans hd2;have:=run_endRound (P:=P) jump hl3;rw[hrec]at this⊢;exact⟨this,by rw[hrec]at hl3;exact hl3,World.putObj_heap_same (iK.1 hl3).1,(World.putObj_heap_other (by omega)).trans hd3⟩
  have fk:∀(o:Obj) (W3:l9),Ac M (Wa.putObj (D+1) (.loop {rec .ready Y with state:=.busy})) W3->Ac ((D+1)::M) W (W3.putObj (D+1) o):=λo W3 hk3=>by
   have hs3:=hk3.size;rw[hs2]at hs3;refine⟨hk3.os.trans hka.os,hk3.tape.trans hka.tape,hk3.output.trans hka.output,by simp;omega,λk hk hkm=>?_⟩;rw[gP,not_or]at hkm;rw[World.putObj_heap_other hkm.1,hk3.block k (by rw[hs2];omega) hkm.2,World.putObj_heap_other hkm.1,hka.block k hk (by simp)]
  rintro e a3 W3 hp;cases e with
  |normal=>
   obtain⟨hk3,M',hi3,hM'⟩:=hp;obtain⟨hr,hl3,hl4,hd4⟩:=fin Y W3 hk3;have hs3:=hk3.size;refine⟨_,_,hr,.inl ⟨rfl,M',⟨hI.putObj (s:=(pre++[x],M')) _ hi3 (by omega) hl3 rfl,hl4,hd4,λk hk=>?_⟩,?_,λk hk=>?_⟩⟩
   .have h1:=hM' k hk;refine⟨λe=>?_,λe=>?_,by simp;exact h1.2⟩
    .rcases h1.1 with h2|h2
     .exact(hM k h2).1 e
     .rw[hs2]at h2;omega
    .rcases h1.1 with h2|h2
     .exact(hM k h2).2.1 e
     .rw[hs2]at h2;omega
   .rw[hs2]at hs3;refine⟨?_,?_,?_,by simp;omega,λk hk hkm=>?_⟩
    .exact hk3.os.trans hka.os
    .exact hk3.tape.trans hka.tape
    .exact hk3.output.trans hka.output
    .by_cases hkl:k=D+1
     .subst hkl;rw[hl4,hl];rfl
     .rw[World.putObj_heap_other hkl,hk3.block k (by rw[hs2];omega) hkm,World.putObj_heap_other hkl,hka.block k hk (by simp)]
   .have h1:=hM' k hk;rw[hs2]at h1;exact⟨h1.1.imp id (λh=>by omega),by simp;exact h1.2⟩
  |ret=>
   obtain⟨hk3,M',hi3⟩:=hp;obtain⟨hr,hl3,hl4,hd4⟩:=fin (V .ret) W3 hk3;exact⟨_,_,hr,.inr ⟨rfl,M',⟨.ret,(hIx _).putObj (s:=(pre++[x],M')) _ hi3 (by omega) hl3 rfl,hl4,hd4⟩,fk _ W3 hk3⟩⟩
  |exit id=>
   obtain⟨hk3,M',hi3⟩:=hp;obtain⟨hr,hl3,hl4,hd4⟩:=fin (V (.exit id)) W3 hk3;exact⟨_,_,hr,.inr ⟨rfl,M',⟨.exit id,(hIx _).putObj (s:=(pre++[x],M')) _ hi3 (by omega) hl3 rfl,hl4,hd4⟩,fk _ W3 hk3⟩⟩
  |goto t=>
   obtain⟨hk3,M',hi3⟩:=hp;obtain⟨hr,hl3,hl4,hd4⟩:=fin (V (.goto t)) W3 hk3;exact⟨_,_,hr,.inr ⟨rfl,M',⟨.goto t,(hIx _).putObj (s:=(pre++[x],M')) _ hi3 (by omega) hl3 rfl,hl4,hd4⟩,fk _ W3 hk3⟩⟩
  |panic ch=>exact hp.elim
  |outgrown=>exact hp.elim
 ·
  rintro e W2 ⟨⟨v,rfl⟩,(⟨M',hi,hl,hd,hM⟩|⟨pre,M',c,hi,hl,hd⟩)⟩
  .exact⟨Y,_,by have:=run_endLoop (P:=P) hl (by rw[hrec];simp);rw[hrec]at this;exact this,hdone _ M' _ (by omega) (hI.putObj (s:=(xs,M')) _ hi (by omega) hl rfl) ((World.putObj_heap_other (by omega)).trans hd) (λk hk=>(hM k hk).1)⟩
  .exact⟨V c,_,by have:=run_endLoop (P:=P) hl (by rw[hrec];simp);rw[hrec]at this;exact this,wpIn_wide.2 (hstop _ c pre M' _ (by omega) ((hIx c).putObj (s:=(pre,M')) _ hi (by omega) hl rfl) ((World.putObj_heap_other (by omega)).trans hd))⟩
def SI{α:Type}{g:Operand}{ps:Array Tmp}{assign body:Code}{Q:Exit->Act->l9->Prop}{a:Act}{w:l9}{gf:Nat}{lb:Array lN}{encs:α->Array lN}{xs:mc α}{M0:mc Nat}
  (hg:a.eval g=.func (.func gf) #[] lb) (eg:∀args w,(callFunc gf args).run P w=.ok (.enter gf args) w)
  (hseq:Kq P gf lb encs xs M0 w) (hps:∀x,(encs x).size=ps.size) (hM0:∀k∈M0,k<w.heap.size)
  (I:mc α->mc Nat->l9->Prop) (Ix:Code->mc α->mc Nat->l9->Prop)
  (hI:OwnFrom w.heap.size (fun(s:mc α×mc Nat) W=>I s.1 s.2 W)) (hIx:∀c,OwnFrom w.heap.size (fun(s:mc α×mc Nat) W=>Ix c s.1 s.2 W)) (h0:I [] M0 w)
  (Ax:Nat->α->Act->l9->Prop) (hAx:∀n0 x a',OwnFrom w.heap.size (fun(_:Unit) W=>Ax n0 x a' W))
  (hassign:∀(l:Nat) (x:α) (W:l9) (K:Act->l9->Prop),x∈xs->w.heap.size<=W.heap.size->(∀a' W',Ac [] W W'->Ax W.heap.size x a' W'->K a' W')->
   assign.wpIn (Fence.wide.inRound l) 0 P (Exit.then K (λ_ _ _=>False)) {tmps:=(ps.zip (encs x)).foldl (λt (p,v)=>t.setIfInBounds p v) a.tmps,defers:=[]} W)
  (hbody:∀(l n0:Nat) (pre:mc α) (x:α) (rest:mc α) (M:mc Nat) (a':Act) (W:l9),xs=pre++x::rest->I pre M W->(∀k∈M,k<n0)->w.heap.size<=n0->n0<=W.heap.size->Ax n0 x a' W->
   body.wpIn (Fence.wide.inRound l) 0 P (LI I Ix (pre++[x]) M W) a' W)
  (hdone:∀(D:Nat) (M':mc Nat) (W:l9),w.heap.size<=D->I xs M' W->W.heap[D]?=V (.deferred (V []))->(∀k∈M',k≠D)->Q .normal {a with defers:=D8 D::a.defers} W)
  (hstop:∀(D:Nat) (c:Code) (pre:mc α) (M':mc Nat) (W:l9),w.heap.size<=D->Ix c pre M' W->W.heap[D]?=V (.deferred (V []))->c.wp P Q {a with defers:=D8 D::a.defers} W):
  (Code.rangeFunc g ps assign body).wp P Q a w:=
 Rr (Off:=λx vs _=>vs=encs x) hg eg (λl J Jx W h1 h2 h3 h4 h5 hr h6=>hseq l J Jx W h1 h2 h3 h4 h5 (λpre x rest M W1 he hj=>hr pre x rest M W1 (encs x) he hj rfl) h6) (λx vs W h=>by rw[h];exact hps x) hM0 I Ix hI hIx h0 Ax hAx (λl x vs W K h1 h2 h3 h4=>by subst h3;exact hassign l x W K h1 h2 h4) hbody hdone hstop
def BF{β:Type}{B:Nat}{I:β->l9->Prop}(h:∀s W b M,I s W->Ac M W b->(∀r∈M,B<=r/\∃o:Obj,W.heap[r]?=V o/\o.isCells=K)->I s b):OwnFrom B I:=λs W b f j a i=>
 h s W b f.toList j ⟨a.os,a.tape,a.output,a.size,λk d c=>a.block k d (λe=>c (by rw[<-e];simp))⟩ (λr g=>i r (by simpa using g))
def Ct{W:l9}{B:Nat}{M:mc Nat}(c:∀r∈M,B<=r/\∃o:Obj,W.heap[r]?=V o/\o.isCells=K){b:Nat}{cs:mc lN}{t:TypeId}(h:AH W b cs t):b∉M:=λd=>by
 obtain⟨_,o,a,e⟩:=c b d;unfold AH at h;rw[h]at a;cases a
 cases e
def B4{W:l9}{B:Nat}{M:mc Nat}(f:∀r∈M,B<=r/\∃o:Obj,W.heap[r]?=V o/\o.isCells=K){base e size n:Nat}{v:lN}{j:mc lN}(h:W.ownsRow base e size v n j):∀i,v.ownBlock=V i->i∉M:=λi a d=>by
 obtain⟨_,o,b,l⟩:=f i d;rcases h.2 with⟨rfl,_⟩|⟨g,c,m,rfl,_,k,_⟩
 .simp[lX]at a
 .simp only[lX,gT]at a;subst a;rw[k]at b;cases b
  cases l
def DX{a W b:l9}{B:Nat}{M:mc Nat}(h:Ac [] a W)(k:Ac M W b)(c:∀r∈M,B<=r/\∃o:Obj,W.heap[r]?=V o/\o.isCells=K)(e:a.heap.size<=B):Ac [] a b:=
 h.trans' k (λi d=>Or.inr (by have:=(c i d).1;omega))
def V4:mc Nat->l9->l9->Prop
 |[],w,w'=>w'=w
 |D::ds,w,w'=>V4 ds (w.putObj D (.deferred Y)) w'
structure C6(B:Nat)(ds:mc Nat)(w:l9):Prop where
 nodup:ds.Nodup
 ge:∀D∈ds,B<=D
 at_:∀D∈ds,w.heap[D]?=V (.deferred (V []))
def V4.own{β:Type}{B:Nat}{I:β->l9->Prop}(f:OwnFrom B I){s:β}:∀{ds:mc Nat} {w a:l9},V4 ds w a->C6 B ds w->I s w->I s a
 |[],w,a,h,_,hi=>by
  have h:a=w:=h;rw[h];exact hi
 |D::ds,w,a,h,hm,hi=>by
  have c:=jG.1 hm.nodup;refine V4.own f (ds:=ds) h ⟨c.2,λd b=>hm.ge d (iB _ b),λd b=>?_⟩ (OwnFrom.putObj f _ hi (hm.ge D (iV ..)) (hm.at_ D (iV ..)) rfl);rw[World.putObj_heap_other (λe=>c.1 (by rw[<-e];exact b))];exact hm.at_ d (iB _ b)
def C5{P:Program}{fn:Func}{tmps:Array lN}{R:Ending->l9->Prop}{B:Nat}:∀(b:mc Nat) (w:l9),C6 B b w->
  (∀a,V4 b w a->∃v,(results fn tmps).run P a=.ok v a/\R (lo v) a)->LeavesInM Fence.wide 0 P fn tmps R (b.map D8) .returning w
 |[],w,_,h=>h w rfl
 |D::b,w,hm,h=>by
  have f:=jG.1 hm.nodup;refine⟨by simp,.inl ⟨D,_,rfl,run_takeDeferred (hm.at_ D (iV ..)),C5 (B:=B) b _ ⟨f.2,λd c=>hm.ge d (iB _ c),λd c=>?_⟩ (λa g=>h a g)⟩⟩;rw[World.putObj_heap_other (λe=>f.1 (by rw[<-e];exact c))];exact hm.at_ d (iB _ c)
def Ec{P:Program}{f:FuncId}{fn:Func}{c:Code}{args:Array lN}{w:l9}{R:Ending->l9->Prop}(a:P.funcs[f]?=V fn)(b:fn.body=V c)
  (h:c.wp P (bodyPostM Fence.wide 0 P fn R) {tmps:=args++Array.replicate (fn.ntmps-args.size) undef,defers:=[]} w):Calls P f args w R:=
 callsIn_wide.1 (callsIn_of_wp_marks a b trivial (wpIn_wide.2 h))
def Zh{P:Program}{fn:Func}{R:Ending->l9->Prop}(h:∀w,¬R .outgrown w):¬LetsOut (bodyPostM Fence.wide 0 P fn R):=fun⟨_,w,q⟩=>h w q
def Jj{P:Program}{F:Fence}{n:Nat}(hF:∀f,F.fn f)(g:F.depth=Y)(k:Machine.fenced P F=Machine.fenced P Fence.wide){ops:Array Oper}{Q:Exit->Act->l9->Prop}{d:mc Oper}{o:Oper}{a:Act}{w:l9}{l:Nat}{args:Array lN}{R:Ending->l9->Prop}
  (i:Region.wanted o (yielded ops a.tmps)=j1) (x:(o.semAt F.round a.eval).run P w=(Instr.yield l args).run P w) (p:YieldAt Fence.wide 0 P l args w R)
  (r:∀e b,R e b->∃v,e=lo v/\wpListIn F n P ops Q d (a.put o.dst v) b):wpListIn F n P ops Q (o::d) a w:=by
 unfold wpListIn;rw[gY i];refine⟨λf _=>hF f,?_⟩;obtain⟨q,B,z,A,t,m⟩:=p;rw[x,t];refine⟨λh=>(by rw[g]at h;cases h),hF q,λc s _=>?_⟩;obtain⟨e,b,u,y⟩:=m.2 c s (room_wide _);obtain⟨v,rfl,j⟩:=r e b u;refine⟨lo v,b,j,?_⟩;rw[k];exact y
def Ir{P:Program}{α:Type}{g:Operand}{p q:Nat}{T:TypeId}{G F:Code}{Q:Exit->Act->l9->Prop}{a:Act}{w:l9}{r:Nat}{H:Array lN}{b:α->mc lN}{u:mc α}{B:mc Nat}
  (R:a.eval g=.func (.func r) #[] H) (eg:∀E w,(callFunc r E).run P w=.ok (.enter r E) w)
  (L:Kq P r H (λx=>#[lR (j3 (b x))]) u B w) (BS:∀k∈B,k<w.heap.size)
  (I:mc α->mc Nat->l9->Prop) (o:Code->mc α->mc Nat->l9->Prop)
  (hI:OwnFrom w.heap.size (fun(s:mc α×mc Nat) W=>I s.1 s.2 W)) (B9:∀c,OwnFrom w.heap.size (fun(s:mc α×mc Nat) W=>o c s.1 s.2 W)) (N:I [] B w)
  (BA:∀(l:Nat) (x:α) (W:l9) (j:Act->l9->Prop),x∈u->Hid (∀f,Ac [] W f->AH f W.heap.size (b x) T->j {tmps:=(a.tmps.setIfInBounds p (lR (j3 (b x)))).setIfInBounds q (kt (V ⟨W.heap.size,0,Y⟩)),defers:=[]} f)->
   G.wpIn (Fence.wide.inRound l) 0 P (Exit.then j (λ_ _ _=>False)) {tmps:=a.tmps.setIfInBounds p (lR (j3 (b x))),defers:=[]} W)
  (CC:∀(l n:Nat) (d:mc α) (x:α) (C:mc α) (M:mc Nat) (W:l9),u=d++x::C->I d M W->(∀k∈M,k<n)->w.heap.size<=n->AH W n (b x) T->
   F.wpIn (Fence.wide.inRound l) 0 P (LI I o (d++[x]) M W) {tmps:=(a.tmps.setIfInBounds p (lR (j3 (b x)))).setIfInBounds q (kt (V ⟨n,0,Y⟩)),defers:=[]} W)
  (A1:∀(D:Nat) (m:mc Nat) (W:l9),w.heap.size<=D->I u m W->W.heap[D]?=V (.deferred (V []))->(∀k∈m,k≠D)->Q .normal {a with defers:=D8 D::a.defers} W)
  (BT:∀(D:Nat) (c:Code) (d:mc α) (m:mc Nat) (W:l9),w.heap.size<=D->o c d m W->W.heap[D]?=V (.deferred (V []))->c.wp P Q {a with defers:=D8 D::a.defers} W):
  (Code.rangeFunc g #[p] G F).wp P Q a w:=by
 refine SI R eg L (λ_=>rfl) BS I o hI B9 N (λi x A W=>AH W i (b x) T/\A={tmps:=(a.tmps.setIfInBounds p (lR (j3 (b x)))).setIfInBounds q (kt (V ⟨i,0,Y⟩)),defers:=[]}) ?_ ?_ ?_ A1 BT
 .intro i x A;exact BF (λ_ W f M h k y=>⟨h.1.kept k (Ct y h.1),h.2⟩)
 .intro l x W j hx _ hK;have e:(#[p].zip #[lR (j3 (b x))]).foldl (λt (x:Nat×lN)=>match x with|(p,v)=>t.setIfInBounds p v) a.tmps=a.tmps.setIfInBounds p (lR (j3 (b x))):=by simp
  have h:=BA l x W j hx (λf hk z=>hK _ f hk ⟨z,rfl⟩);rw[<-e]at h;exact h
 .rintro l i d x C M A W S hi y h1 h2 ⟨z,rfl⟩;exact CC l i d x C M W S hi y h1 z
def Ia{P:Program}{d n:Nat}{os:mc Oper}{a:Act}{w:l9}{Q:Exit->Act->l9->Prop}(k:Nat)(c:¬LetsOut Q)
  (h:∀b:Act->l9->Prop,Hid (∀a w,wpListIn Fence.wide n P (j3 os) Q (os.drop k) a w->b a w)->wpList P (j3 os) (Exit.then b Q) (os.take k) a w):(Code.region d (j3 os) K).wp P Q a w:=
 MO (n:=n) (iZ k os).symm c (h _ (λ_ _ h=>h))
def ON{P:Program}{d n l:Nat}{os:mc Oper}{a:Act}{w:l9}{Q:Exit->Act->l9->Prop}(k:Nat)(c:Dd (os.take k)=j1)(e:¬LetsOut Q)
  (h:∀b:Act->l9->Prop,Hid (∀a w,wpListIn (Fence.wide.inRound l) n P (j3 os) Q (os.drop k) a w->b a w)->wpList P (j3 os) (Exit.then b Q) (os.take k) a w):(Code.region d (j3 os) K).wpIn (Fence.wide.inRound l) n P Q a w:=
 LZ (n:=n) (iZ k os).symm c e (h _ (λ_ _ h=>h))
def DM{P:Program}{n:Nat}{ops:Array Oper}{os:mc Oper}{a:Act}{w:l9}{Q:Exit->Act->l9->Prop}(c:¬LetsOut Q)(h:wpList P ops Q os a w):wpListIn Fence.wide n P ops Q os a w:=by
 have b:=Kp (P:=P) (ops:=ops) (Q:=Q) (n:=n) c [] os a w (by
  have d:Exit.then (wpListIn Fence.wide n P ops Q []) Q=Q:=by
   funext e a w
   cases e<;>rfl
  rw[d]
  exact h)
 rw[iJ]at b;exact b
def JX{P:Program}{n l:Nat}{ops:Array Oper}{os:mc Oper}{a:Act}{w:l9}{Q:Exit->Act->l9->Prop}(c:Dd os=j1)(d:¬LetsOut Q)(h:wpList P ops Q os a w):wpListIn (Fence.wide.inRound l) n P ops Q os a w:=by
 have b:=G1 (P:=P) (ops:=ops) (Q:=Q) (n:=n) (l:=l) d [] os c a w (by
  have f:Exit.then (wpListIn (Fence.wide.inRound l) n P ops Q []) Q=Q:=by
   funext e a w
   cases e<;>rfl
  rw[f]
  exact h)
 rw[iJ]at b;exact b
end Go.Proofs.YtoihbhenbmffcaaGreatDoor
namespace Go.Proofs.YtoihbhenbmffcaaGreatDoor
open Go.RowKit Go.Proofs.Tryz
variable {P:Program}
section
variable {ops:Array Oper} {Q:Exit->Act->l9->Prop} {md:Region.Mode} {S:l9->Prop} {y l n:Nat}
def Fn(P:Program)(md:Region.Mode)(ops:Array Oper)(Q:Exit->Act->l9->Prop)(S:l9->Prop)(l n y:Nat):Nat->Array Bool->Act->l9->Prop
 |0,listed,a,w=>Region.ready md ops listed=[]/\Q .normal a w
 |fuel+1,listed,a,w=>(Region.ready md ops listed=[]->Q .normal a w)/\
  ∀i∈Region.ready md ops listed,if i=y then wpOpIn (Fence.wide.inRound l) n P ops Q i (Fn P md ops Q S l n y fuel (listed.setIfInBounds i j1)) a w
   else wpOp P ops Q i (λa' w'=>(listed.getD y j1=K->S w')/\Fn P md ops Q S l n y fuel (listed.setIfInBounds i j1) a' w') a w
def Fn.any(j:¬LetsOut Q)(d:Dd ops.toList=j1):∀(e:Nat) (m:Array Bool) (a:Act) (w:l9),Fn P md ops Q S l n y e m a w->wpAnyIn (Fence.wide.inRound l) n P md ops Q e m a w
 |0,_,_,_,h=>h
 |e+1,m,a,w,h=>by
  refine⟨h.1,λi s=>?_⟩;have b:=h.2 i s;by_cases q:i=y
  .rw[gY q]at b;exact wpOpIn_mono (λg f p=>Fn.any j d e _ g f p) b
  .rw[gV q]at b;unfold wpOp at b;unfold wpOpIn;cases ho:ops[i]? with
   |none=>
    rw[ho]at b;exact Fn.any j d e _ a w b.2
   |some o=>
    rw[ho]at b;have t:∀c,o.op≠ .defer c:=by
     unfold Dd at d;rw[ji]at d;exact Qz (d o (Array.mem_toList_iff.2 (Array.mem_of_getElem? ho)))
    simp only at b⊢;split
    .rename_i k;rw[gY k]at b;rcases b with b|b
     .exact Qr t (Oper.wp_mono (λg f p=>Fn.any j d e _ g f p.2) b)
     .obtain⟨_,g,f,r⟩:=b;exact absurd ⟨g,f,r⟩ j
    .rename_i k;rw[gV k]at b;exact⟨λ_ _=>trivial,Fn.any j d e _ _ w b.2⟩
def Fn.first{i:Nat}{p:Oper}{v:lN}(F:ops[i]?=V p)(R:∀(j:Nat) (o:Oper) r b,ops[j]?=V o->o.op≠ .select r b)
  (hQ:∀c a w,Q (.panic c) (a.put p.dst v) w->Q (.panic c) a w) (A:i≠y) (hW:Rg md ops y i=j1):
  ∀(s:Nat) (d:Array Bool) (a:Act) (w:l9),d.getD y j1=K->
   (∀j m,ops[j]?=V m->j≠i->d.getD j j1=K->(∀e∈m.after,Region.binds md e=j1->e.on≠i)->p.apart ops m=j1)->
   i∈Region.ready md ops d->YieldsIf P ops S p v a->S w->
   Fn P md ops Q S l n y s (d.setIfInBounds i j1) (a.put p.dst v) w->Fn P md ops Q S l n y (s+1) d a w:=by
 intro s
 induction s with
 |zero=>
  intro d a w E _ k x u H;refine⟨λh=>(by rw[h]at k;cases k),λj t=>?_⟩;by_cases f:j=i
  .subst f;rw[gV A];exact x.wpOp F u ⟨λ_=>u,H⟩
  .have:=li t f;rw[H.1]at this;cases this
 |succ s ih=>
  intro d a w E L k x u H;have D:=(mem_ready.1 k).1;refine⟨λh=>(by rw[h]at k;cases k),λj t=>?_⟩;by_cases f:j=i
  .subst f;rw[gV A];exact x.wpOp F u ⟨λ_=>u,H⟩
  ·(have T:j≠y:=λe=>Sj hW D (e▸t));have N:=H.2 j (li t f);rw[gV T]at N⊢;obtain⟨I,m,B,B0⟩:=mem_ready.1 t;have BA:∀e∈m.after,Region.binds md e=j1->e.on≠i:=λe he hb A0=>by
    have g:=B0 e he hb;rw[A0]at g;rcases Nat.lt_or_ge i d.size with C|C
    .simp[C]at D g;rw[D]at g;cases g
    .simp[kE C]at g
   have g:=wpOp_putIf B (L j m B f I BA) (λr b=>R i p r b F) (λr b=>R j m r b B) hQ x N;(have G:(d.setIfInBounds i j1).getD y j1=K:=by rw[getD_set_ne j1 A];exact E);refine wpOp_mono (λa' w' z=>⟨λ_=>z.2.1 G,ih (d.setIfInBounds j j1) a' w' (by rw[getD_set_ne j1 T];exact E) (λq oq hq BT W Ax=>L q oq hq BT ?_ Ax) (li k (Ne.symm f)) z.1 (z.2.1 G) ?_⟩) g
   .by_cases M:j=q
    .subst M;exact I
    .rw[getD_set_ne j1 M]at W;exact W
   .rw[lj _ _ f];exact z.2.2
def gB(md:Region.Mode)(ops:Array Oper)(listed:Array Bool)(y i:Nat):Bool:=Region.noSelect ops&&Region.free md ops listed i&&(Region.ready md ops listed).contains i&&Rg md ops y i&& !(i==y)&& !(listed.getD y j1)
def Fn.take{i:Nat}{d:Oper}{v:lN}{fuel:Nat}{b:Array Bool}{a:Act}{w:l9}(f:ops[i]?=V d)(e:gB md ops b y i=j1)
  (s:∀c a w,Q (.panic c) (a.put d.dst v) w->Q (.panic c) a w) (o:S w) (k:YieldsIf P ops S d v a)
  (h:Fn P md ops Q S l n y fuel (b.setIfInBounds i j1) (a.put d.dst v) w):Fn P md ops Q S l n y (fuel+1) b a w:=by
 unfold gB at e;simp only[iq,jU,iw]at e;obtain⟨⟨⟨⟨⟨p,j⟩,r⟩,m⟩,q⟩,g⟩:=e;exact Fn.first f (Region.noSelect_spec p) s q m fuel b a w g (Region.free_spec f j) (by simpa using r) k o h
def Fn.one{i:Nat}{o:Oper}{fuel:Nat}{c:Array Bool}{a:Act}{w:l9}(m:Region.ready md ops c=[i])(s:(i==y)=K)(q:ops[i]?=V o)
  (h:∀f:Act->l9->Prop,Hid (∀k d,(c.getD y j1=K->S d)->Fn P md ops Q S l n y fuel (c.setIfInBounds i j1) k d->f k d)->
   if Region.wanted o (yielded ops a.tmps)=j1 then o.wp P a w f Q else f (a.put o.dst undef) w):Fn P md ops Q S l n y (fuel+1) c a w:=by
 refine⟨λp=>(by rw[m]at p;cases p),λj g=>?_⟩;rw[m]at g;simp only[gN]at g;subst g;rw[gV (iw.1 s)];have b:=h _ (λk d r b=>And.intro r b);unfold wpOp;simp only[q];split
 .rename_i e;rw[gY e]at b;exact .inl b
 .rename_i e;rw[gV e]at b;exact b
def Fn.yield{o:Oper}{fuel:Nat}{g:Array Bool}{a:Act}{w:l9}(d:Region.ready md ops g=[y])(u:ops[y]?=V o){q:Nat}{args:Array lN}{R:Ending->l9->Prop}
  (t:Region.wanted o (yielded ops a.tmps)=j1) (z:(o.semAt (Fence.wide.inRound l).round a.eval).run P w=(Instr.yield q args).run P w) (x:YieldAt Fence.wide 0 P q args w R)
  (A:∀e b,R e b->∃v,e=lo v/\Fn P md ops Q S l n y fuel (g.setIfInBounds y j1) (a.put o.dst v) b):Fn P md ops Q S l n y (fuel+1) g a w:=by
 refine⟨λk=>(by rw[d]at k;cases k),λj i=>?_⟩;rw[d]at i;simp only[gN]at i;subst i;rw[gY rfl];unfold wpOpIn;simp only[u];rw[gY t];refine⟨λf _=>trivial,?_⟩;obtain⟨F,E,D,C,s,m⟩:=x;rw[z,s];refine⟨λh=>(by cases h),trivial,λc r _=>?_⟩;obtain⟨e,b,d,B⟩:=m.2 c r (room_wide _);obtain⟨v,rfl,p⟩:=A e b d;exact⟨lo v,b,p,B⟩
def Fn.done{b:Array Bool}{a:Act}{w:l9}(c:Region.ready md ops b=[])(h:Q .normal a w):∀d,Fn P md ops Q S l n y d b a w
 |0=>⟨c,h⟩
 |_+1=>⟨λ_=>h,by rw[c];simp⟩
def OS{d:Nat}{a:Act}{w:l9}(y:Nat)(S:l9->Prop)(c:P.follows .mixedOrders=j1)(b:Dd ops.toList=j1)(e:¬LetsOut Q)
  (h:Fn P .any ops Q S l n y ops.size (Array.replicate ops.size K) a w.drew):(Code.region d ops j1).wpIn (Fence.wide.inRound l) n P Q a w:=
 wpIn_region_any c (Fn.any e b _ _ _ _ h)
end
