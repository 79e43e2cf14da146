import Derived.RangeFuncNested
import Derived.RangeFuncLeaves
import Derived.TacticsIn
import Derived.OrdersIn
import Derived.Test.YtoihbhenbmffcaaGreatDoorFAP
set_option linter.all false
set_option maxHeartbeats 0
open Option renaming none->Y,some->V
open Bool renaming false->K,true->jj
open List renaming toArray->ml
open Go.Value renaming pointer->m2,agg->pC,bool->pE,ownBlock->pI
open Go.Ending renaming returned->oa
open Go renaming World->py,Value->p5
namespace Go.Proofs.YtoihbhenbmffcaaGreatDoor
open Go.RowKit Go.Proofs.Tryz
section
variable {P:Program} {ops:Array Oper} {Q:Exit->Act->py->Prop} {l n:Nat}
def DH(os:pM Oper):Bool:=os.all λo=>match o.op with| .defer _=>K|_=>jj
def R6{o:Oper}(h:(match o.op with| .defer _=>K|_=>jj)=jj):∀c,o.op≠ .defer c:=λc e=>by rw[e]at h;cases h
def RW{o:Oper}{a:Act}{w:py}{d:Act->py->Prop}(f:∀c,o.op≠ .defer c)(h:o.wp P a w d Q):o.wpIn (Fence.wide.inRound l) n P a w d Q:=by
 refine⟨λ_ _=>trivial,?_⟩;have e:o.semAt (Fence.wide.inRound l).round a.eval=execOp a.eval o:=Oper.semAt_eq _ _ _ f;rw[e];unfold Oper.wp at h;generalize(execOp a.eval o).run P w=r at h;have b:((Fence.wide.inRound l).depth.isSome=jj->1<=n):=λh=>by cases h
 cases r with
 |ok x w'=>
  cases x<;>simp only[Oper.upon]at h<;>first
   |exact h
   |exact⟨b,CallsIn.inRound l (callsIn_wide.2 h)⟩
   |exact⟨b,λc g _=>let ⟨v,w'',r,s⟩:=h c g;⟨v,w'',r,stepsIn_wide.2 s⟩⟩
 |halt x w'=>cases x<;>simp only[Oper.upon]at h<;>exact h
def iu{o:Oper}{a:Act}{w:py}{d:Act->py->Prop}(h:o.wp P a w d Q):o.wpIn Fence.wide n P a w d Q:=by
 refine⟨λ_ _=>trivial,?_⟩;have e:o.semAt Fence.wide.round a.eval=execOp a.eval o:=Oper.semAt_none _ _;rw[e];unfold Oper.wp at h;generalize(execOp a.eval o).run P w=r at h;have b:(Fence.wide.depth.isSome=jj->1<=n):=λh=>by cases h
 cases r with
 |ok x w'=>
  cases x<;>simp only[Oper.upon]at h<;>first
   |exact h
   |exact⟨b,callsIn_wide.2 h⟩
   |exact⟨b,λc f _=>let ⟨v,w'',r,s⟩:=h c f;⟨v,w'',r,stepsIn_wide.2 s⟩⟩
 |halt x w'=>cases x<;>simp only[Oper.upon]at h<;>exact h
def Ii(j:¬LetsOut Q)(f:pM Oper):∀(b:pM Oper),DH b=jj->∀(a:Act) (w:py),
  wpList P ops (Exit.then (wpListIn (Fence.wide.inRound l) n P ops Q f) Q) b a w->wpListIn (Fence.wide.inRound l) n P ops Q (b++f) a w
 |[],_,a,w,h=>h
 |o::b,hp,a,w,h=>by
  have k:DH b=jj:=by
   unfold DH at hp⊢;rw[oz,lJ]at hp;exact hp.2
  have s:∀c,o.op≠ .defer c:=by
   unfold DH at hp;rw[oz,lJ]at hp;exact R6 hp.1
  rw[mV];unfold wpListIn;unfold wpList at h;split
  .rename_i g;rw[ln g]at h;rcases h with h|h
   .refine RW s (Oper.wp_mono (λi d m=>Ii j f b k i d m) ?_);unfold Oper.wp at h⊢;generalize(execOp a.eval o).run P w=r at h⊢;cases r with
    |ok x d=>
     cases x<;>simp only[Oper.upon]at h⊢<;>first
      |exact h
      |exact Calls.mono h (λe t q=>by cases e<;>exact q)
    |halt x d=>cases x<;>simp only[Oper.upon]at h⊢<;>exact h
   .obtain⟨_,i,d,p⟩:=h;exact absurd ⟨i,d,p⟩ j
  .rename_i g;rw[li g]at h;exact⟨λ_ _=>trivial,Ii j f b k _ w h⟩
def Lv(i:¬LetsOut Q)(d:pM Oper):∀(c:pM Oper) (a:Act) (w:py),
  wpList P ops (Exit.then (wpListIn Fence.wide n P ops Q d) Q) c a w->wpListIn Fence.wide n P ops Q (c++d) a w
 |[],a,w,h=>h
 |o::c,a,w,h=>by
  rw[mV];unfold wpListIn;unfold wpList at h;split
  .rename_i f;rw[ln f]at h;rcases h with h|h
   .refine iu (Oper.wp_mono (λg b j=>Lv i d c g b j) ?_);unfold Oper.wp at h⊢;generalize(execOp a.eval o).run P w=r at h⊢;cases r with
    |ok x b=>
     cases x<;>simp only[Oper.upon]at h⊢<;>first
      |exact h
      |exact Calls.mono h (λe m l=>by cases e<;>exact l)
    |halt x b=>cases x<;>simp only[Oper.upon]at h⊢<;>exact h
   .obtain⟨_,g,b,k⟩:=h;exact absurd ⟨g,b,k⟩ i
  .rename_i f;rw[li f]at h;exact⟨λ_ _=>trivial,Lv i d c _ w h⟩
def AM{f:Nat}{b:pM Oper}{a:Act}{w:py}(d:DH b=jj)(g:¬LetsOut Q)(h:wpList P (ml b) Q b a w):
  (Code.region f (ml b) K).wpIn (Fence.wide.inRound l) n P Q a w:=by
 refine wpIn_region_lit ?_;have e:b=b++[]:=by simp
 have c:=Ii (P:=P) (ops:=ml b) (Q:=Q) (l:=l) (n:=n) g [] b d a w (by
  have i:Exit.then (wpListIn (Fence.wide.inRound l) n P (ml b) Q []) Q=Q:=by
   funext e a w
   cases e<;>rfl
  rw[i]
  exact h)
 rw[lU]at c;exact c
def Nc{g:Nat}{b c d:pM Oper}{a:Act}{w:py}(i:b=c++d)(f:DH c=jj)(j:¬LetsOut Q)
  (h:wpList P (ml b) (Exit.then (wpListIn (Fence.wide.inRound l) n P (ml b) Q d) Q) c a w):
  (Code.region g (ml b) K).wpIn (Fence.wide.inRound l) n P Q a w:=by
 refine wpIn_region_lit ?_;have e:=Ii (P:=P) (ops:=ml b) (Q:=Q) (l:=l) (n:=n) j d c f a w h;rw[<-i]at e;exact e
def Oq{f:Nat}{b c d:pM Oper}{a:Act}{w:py}(g:b=c++d)(i:¬LetsOut Q)
  (h:wpList P (ml b) (Exit.then (wpListIn Fence.wide n P (ml b) Q d) Q) c a w):
  (Code.region f (ml b) K).wp P Q a w:=by
 refine wpIn_wide.1 (wpIn_region_lit (n:=n) ?_);have e:=Lv (P:=P) (ops:=ml b) (Q:=Q) (n:=n) i d c a w h;rw[<-g]at e;exact e
def LV(f:¬LetsOut Q){p:Region.Mode}(d:DH ops.toList=jj):∀(e:Nat) (j:Array Bool) (a:Act) (w:py),wpAny P p ops Q e j a w->wpAnyIn (Fence.wide.inRound l) n P p ops Q e j a w
 |0,_,_,_,h=>h
 |e+1,j,a,w,h=>by
  refine⟨h.1,λi s=>?_⟩;have b:=h.2 i s;unfold wpOp at b;unfold wpOpIn;cases ho:ops[i]? with
  |none=>
   rw[ho]at b;exact LV f d e _ a w b
  |some o=>
   rw[ho]at b;have t:∀c,o.op≠ .defer c:=by
    unfold DH at d;rw[mC]at d;refine R6 (d o ?_);have:=Array.mem_of_getElem? ho;exact Array.mem_toList_iff.2 this
   simp only at b⊢;split
   .rename_i g;rw[ln g]at b;rcases b with b|b
    .exact RW t (Oper.wp_mono (λm k q=>LV f d e _ m k q) b)
    .obtain⟨_,m,k,r⟩:=b;exact absurd ⟨m,k,r⟩ f
   .rename_i g;rw[li g]at b;exact⟨λ_ _=>trivial,LV f d e _ _ w b⟩
def ED{c:Nat}{a:Act}{w:py}(k:Nat)(S:py->Prop)(e:P.follows .mixedOrders=jj)(b:DH ops.toList=jj)(d:¬LetsOut Q)
  (h:CF P .any ops Q S k ops.size (Array.replicate ops.size K) a w.drew):(Code.region c ops jj).wpIn (Fence.wide.inRound l) n P Q a w:=
 wpIn_region_any e (LV d b _ _ _ _ (CF.any _ _ _ _ h))
end
end Go.Proofs.YtoihbhenbmffcaaGreatDoor
namespace Go.Proofs.YtoihbhenbmffcaaGreatDoor
open Go.RowKit Go.Proofs.Tryz
variable{Q:Exit->Act->py->Prop}{w v:py}{n:Nat}
abbrev EA(D:Nat):Deferred:={target:=.collected D,args:=#[]}
def i7{α:Type}(P:Program)(l:Nat)(encs:α->Array p5)(xs:pM α)(J Jx:pM α->pM Nat->py->Prop):Prop:=
 ∀pre x rest M W1,xs=pre++x::rest->J pre M W1->YieldAt Fence.wide 0 P l (encs x) W1 λe W'=>
  (e=oa (pE jj)/\∃M',J (pre++[x]) M' W'/\Ac M W1 W'/\∀k∈M',(k∈M\/W1.heap.size<=k)/\k<W'.heap.size)\/
  (e=oa (pE K)/\∃M',Jx (pre++[x]) M' W'/\Ac (l::M) W1 W')
def Lx{α:Type}(P:Program)(g:Nat)(lb:Array p5)(encs:α->Array p5)(xs:pM α)(M0:pM Nat)(w:py):Prop:=
 ∀(l:Nat) (J Jx:pM α->pM Nat->py->Prop) (W:py),Ac [] w W->w.heap.size<=l->l<W.heap.size->
  OwnFrom W.heap.size (fun(s:pM α×pM Nat) W=>J s.1 s.2 W)->OwnFrom W.heap.size (fun(s:pM α×pM Nat) W=>Jx s.1 s.2 W)->
  i7 P l encs xs J Jx->J [] M0 W->
  Calls P g (#[.func (.yield l) #[] #[]]++lb) W λe W'=>(∃v,e=oa v)/\((∃M',J xs M' W')\/(∃pre M',Jx pre M' W'))
def LP{α:Type}(I:pM α->pM Nat->py->Prop)(Ix:Code->pM α->pM Nat->py->Prop)(xs:pM α)(M:pM Nat)(W:py):Exit->Act->py->Prop
 | .normal,_,W'=>Ac M W W'/\∃M',I xs M' W'/\∀k∈M',(k∈M\/W.heap.size<=k)/\k<W'.heap.size
 | .ret,_,W'=>Ac M W W'/\∃M',Ix .ret xs M' W'
 | .exit id,_,W'=>Ac M W W'/\∃M',Ix (.exit id) xs M' W'
 | .goto t,_,W'=>Ac M W W'/\∃M',Ix (.goto t) xs M' W'
 | .panic _,_,_=>False
 | .outgrown,_,_=>False
def Iw{b:Act->py->Prop}(h:¬LetsOut Q):¬LetsOut (Exit.then b Q):=fun⟨a,w,q⟩=>h ⟨a,w,q⟩
def Gz:¬LetsOut (fun(_:Exit) (_:Act) (_:py)=>False):=fun⟨_,_,q⟩=>q
def Ac.grow(k:Ac [] w v):w.grownBy v Y:=⟨k.os,k.tape,k.output,k.size,λi a _=>k.block i a (by simp)⟩
def BI{β:Type}{I:β->py->Prop}(h:OwnFrom n I){s:β}(a:I s w)(k:Ac [] w v):I s v:=h s w v Y a k.grow (λr e=>by cases e)
def jo{α:Type}(P:Program)(l:Nat)(Off:α->Array p5->py->Prop)(xs:pM α)(J Jx:pM α->pM Nat->py->Prop):Prop:=
 ∀pre x rest M W1 vs,xs=pre++x::rest->J pre M W1->Off x vs W1->YieldAt Fence.wide 0 P l vs W1 λe W'=>
  (e=oa (pE jj)/\∃M',J (pre++[x]) M' W'/\Ac M W1 W'/\∀k∈M',(k∈M\/W1.heap.size<=k)/\k<W'.heap.size)\/
  (e=oa (pE K)/\∃M',Jx (pre++[x]) M' W'/\Ac (l::M) W1 W')
def iL{α:Type}(P:Program)(g:Nat)(lb:Array p5)(Off:α->Array p5->py->Prop)(xs:pM α)(M0:pM Nat)(w:py):Prop:=
 ∀(l:Nat) (J Jx:pM α->pM Nat->py->Prop) (W:py),Ac [] w W->w.heap.size<=l->l<W.heap.size->
  OwnFrom W.heap.size (fun(s:pM α×pM Nat) W=>J s.1 s.2 W)->OwnFrom W.heap.size (fun(s:pM α×pM Nat) W=>Jx s.1 s.2 W)->
  jo P l Off xs J Jx->J [] M0 W->
  Calls P g (#[.func (.yield l) #[] #[]]++lb) W λe W'=>(∃v,e=oa v)/\((∃M',J xs M' W')\/(∃pre M',Jx pre M' W'))
variable {P:Program}
theorem S7{α:Type}{g:Operand}{ps:Array Tmp}{assign body:Code}{Q:Exit->Act->py->Prop}{a:Act}{w:py}{gf:Nat}{lb:Array p5}{Off:α->Array p5->py->Prop}{xs:pM α}{M0:pM Nat}
  (hg:a.eval g=.func (.func gf) #[] lb) (eg:∀args w,(callFunc gf args).run P w=.ok (.enter gf args) w)
  (hseq:iL P gf lb Off xs M0 w) (hps:∀x vs W,Off x vs W->vs.size=ps.size) (hM0:∀k∈M0,k<w.heap.size)
  (I:pM α->pM Nat->py->Prop) (Ix:Code->pM α->pM Nat->py->Prop)
  (hI:OwnFrom w.heap.size (fun(s:pM α×pM Nat) W=>I s.1 s.2 W)) (hIx:∀c,OwnFrom w.heap.size (fun(s:pM α×pM Nat) W=>Ix c s.1 s.2 W)) (h0:I [] M0 w)
  (Ax:Nat->α->Act->py->Prop) (hAx:∀n0 x a',OwnFrom w.heap.size (fun(_:Unit) W=>Ax n0 x a' W))
  (hassign:∀(l:Nat) (x:α) (vs:Array p5) (W:py) (K:Act->py->Prop),x∈xs->w.heap.size<=W.heap.size->Off x vs W->(∀a' W',Ac [] W W'->Ax W.heap.size x a' W'->K a' W')->
   assign.wpIn (Fence.wide.inRound l) 0 P (Exit.then K (λ_ _ _=>False)) {tmps:=(ps.zip vs).foldl (λt (p,v)=>t.setIfInBounds p v) a.tmps,defers:=[]} W)
  (hbody:∀(l n0:Nat) (pre:pM α) (x:α) (rest:pM α) (M:pM Nat) (a':Act) (W:py),xs=pre++x::rest->I pre M W->(∀k∈M,k<n0)->w.heap.size<=n0->n0<=W.heap.size->Ax n0 x a' W->
   body.wpIn (Fence.wide.inRound l) 0 P (LP I Ix (pre++[x]) M W) a' W)
  (hdone:∀(D:Nat) (M':pM Nat) (W:py),w.heap.size<=D->I xs M' W->W.heap[D]?=V (.deferred (V []))->(∀k∈M',k≠D)->Q .normal {a with defers:=EA D::a.defers} W)
  (hstop:∀(D:Nat) (c:Code) (pre:pM α) (M':pM Nat) (W:py),w.heap.size<=D->Ix c pre M' W->W.heap[D]?=V (.deferred (V []))->c.wp P Q {a with defers:=EA D::a.defers} W):
  (Code.rangeFunc g ps assign body).wp P Q a w:=by
 refine wpIn_wide.1 (wpIn_rangeFunc (n:=1) ?_);intro fn _;obtain⟨rec,hrec⟩:∃rec:LoopState->Option Code->Loop,rec=λst pe=>{state:=st,pending:=pe,fn,tmps:=a.tmps,params:=ps,assign,body,defers:=w.heap.size}:=⟨_,rfl⟩
 obtain⟨D,hD⟩:=pN w.heap.size;obtain⟨W1,hW1⟩:=pN ((w.alloc (.deferred (V []))).alloc (.loop (rec .ready Y)));have hs1:W1.heap.size=D+2:=by rw[<-hW1];simp;omega
 have hk1:Ac [] w W1:=by rw[<-hW1];exact((pO [] w).alloc _).alloc _
 have hL1:W1.heap[D+1]?=V (.loop (rec .ready Y)):=by
  rw[<-hW1];have:=World.alloc_heap_new (w.alloc (.deferred (V []))) (.loop (rec .ready Y))
  rwa [lT,hD]at this
 have hK1:W1.heap[D]?=V (.deferred (V [])):=by
  rw[<-hW1];have h2:=World.alloc_heap_new w (.deferred (V []));rw[hD]at h2;have h3:=(pO [] (w.alloc (.deferred (V [])))).alloc (.loop (rec .ready Y));rw[h3.block D (by simp;omega) (by simp)];exact h2
 refine⟨D+1,[EA D],W1,{target:=.fn (.func gf) lb,args:=#[.func (.yield (D+1)) #[] #[]]},W1,gf,#[.func (.yield (D+1)) #[] #[]]++lb,W1,?_,?_,λ_ _=>trivial,?_,λh=>(by cases h),?_⟩
 .rw[<-hW1,hrec,<-hD];exact run_enterLoop_outer _ _ _ _ _
 .simp only[resolve,hg];simp[go_sem]
 .simp[invoke,go_sem,eg]
 refine callsIn_wide.2 ?_;have own2:∀{A B:py} {row:Option Nat} {k:Nat} {o:Obj},A.grownBy B row->(∀r,row=V r->W1.heap.size<=r/\∃o:Obj,A.heap[r]?=V o/\o.isCells=false)->k<W1.heap.size->A.heap[k]?=V o->B.heap[k]?=V o:=by
  intro A B row k o hgr hr hk ho;rw[hgr.block k (mc.1 ho).1 (λe=>by have:=(hr k e.symm).1;omega)];exact ho
 have own1:∀{A:py} {row:Option Nat},(∀r,row=V r->W1.heap.size<=r/\∃o:Obj,A.heap[r]?=V o/\o.isCells=false)->∀r,row=V r->w.heap.size<=r/\∃o:Obj,A.heap[r]?=V o/\o.isCells=false:=
  λhr r e=>⟨by have:=(hr r e).1;omega,(hr r e).2⟩
 refine(hseq (D+1)
  (λpre M W=>I pre M W/\W.heap[D+1]?=V (.loop (rec .ready Y))/\W.heap[D]?=V (.deferred (V []))/\∀k∈M,k≠D/\k≠D+1/\k<W.heap.size)
  (λpre M W=>∃c,Ix c pre M W/\W.heap[D+1]?=V (.loop (rec .done (V c)))/\W.heap[D]?=V (.deferred (V [])))
  W1 hk1 (by omega) (by omega)
  (λs A B row hs hgr hr=>⟨hI s A B row hs.1 hgr (own1 hr),own2 hgr hr (by omega) hs.2.1,own2 hgr hr (by omega) hs.2.2.1,λk hk=>⟨(hs.2.2.2 k hk).1,(hs.2.2.2 k hk).2.1,mX (hs.2.2.2 k hk).2.2 hgr.size⟩⟩)
  (λs A B row hs hgr hr=>by
   obtain⟨c,hc,hl,hd⟩:=hs
   exact⟨c,hIx c s A B row hc hgr (own1 hr),own2 hgr hr (by omega) hl,own2 hgr hr (by omega) hd⟩)
  ?_ ⟨BI hI (s:=([],M0)) h0 hk1,hL1,hK1,λk hk=>⟨by have:=hM0 k hk;omega,by have:=hM0 k hk;omega,by have:=hM0 k hk;omega⟩⟩).mono ?_
 ·
  rintro pre x rest M W vs hxs ⟨hi,hl,hd,hM⟩ hoff;have hlt:D+1<W.heap.size:=(mc.1 hl).1;have hy:=run_yield (P:=P) (args:=vs) hl (by rw[hrec];exact hps x vs W hoff);rw[hrec]at hy;refine⟨fn,_,assign,body,hy,roundIn_of_wpIn trivial (hassign _ x vs W _ (by rw[hxs];simp) (by omega) hoff ?_)⟩;clear hy;intro a' Wa hka hax;have hla:Wa.heap[D+1]?=V (.loop (rec .ready Y)):=(hka.block _ hlt (by simp)).trans hl;have hda:Wa.heap[D]?=V (.deferred (V [])):=(hka.block _ (by omega) (by simp)).trans hd;have hia:I pre M Wa:=BI hI (s:=(pre,M)) hi hka;refine⟨_,run_beginRound hla (by rw[hrec]),?_⟩;have hsz:=hka.size;have hlta:D+1<Wa.heap.size:=by omega
  have hl2:(Wa.putObj (D+1) (.loop {rec .ready Y with state:=.busy})).heap[D+1]?=V (.loop {rec .ready Y with state:=.busy}):=World.putObj_heap_same hlta;have hd2:(Wa.putObj (D+1) (.loop {rec .ready Y with state:=.busy})).heap[D]?=V (.deferred (V [])):=(World.putObj_heap_other (by omega)).trans hda;have hs2:(Wa.putObj (D+1) (.loop {rec .ready Y with state:=.busy})).heap.size=Wa.heap.size:=by simp
  refine wpIn_mono (hbody _ W.heap.size pre x rest M a' _ hxs (hI.putObj (s:=(pre,M)) _ hia (by omega) hla rfl) (λk hk=>(hM k hk).2.2) (by omega) (by rw[hs2];omega) ((hAx _ x a').putObj (s:=()) _ hax (by omega) hla rfl)) ?_;have fin:∀(jump:Option Code) (W3:py),Ac M (Wa.putObj (D+1) (.loop {rec .ready Y with state:=.busy})) W3->
    (Instr.endRound (D+1) jump).run P W3=.ok (pE jump.isNone) (W3.putObj (D+1) (.loop (rec (if jump.isNone then .ready else .done) jump)))/\
    W3.heap[D+1]?=V (.loop {rec .ready Y with state:=.busy})/\
    (W3.putObj (D+1) (.loop (rec (if jump.isNone then .ready else .done) jump))).heap[D+1]?=V (.loop (rec (if jump.isNone then .ready else .done) jump))/\
    (W3.putObj (D+1) (.loop (rec (if jump.isNone then .ready else .done) jump))).heap[D]?=V (.deferred (V [])):=λjump W3 hk3=>by
   have hl3:=(hk3.block (D+1) (by rw[hs2];omega) (λh=>(hM _ h).2.1 rfl)).trans hl2;have hd3:=(hk3.block D (by rw[hs2];omega) (λh=>(hM _ h).1 rfl)).trans hd2;have:=run_endRound (P:=P) jump hl3;rw[hrec]at this⊢;exact⟨this,by rw[hrec]at hl3;exact hl3,World.putObj_heap_same (mc.1 hl3).1,(World.putObj_heap_other (by omega)).trans hd3⟩
  have fk:∀(o:Obj) (W3:py),Ac M (Wa.putObj (D+1) (.loop {rec .ready Y with state:=.busy})) W3->Ac ((D+1)::M) W (W3.putObj (D+1) o):=λo W3 hk3=>by
   have hs3:=hk3.size;rw[hs2]at hs3;refine⟨hk3.os.trans hka.os,hk3.tape.trans hka.tape,hk3.output.trans hka.output,by simp;omega,λk hk hkm=>?_⟩;rw[kZ,not_or]at hkm;rw[World.putObj_heap_other hkm.1,hk3.block k (by rw[hs2];omega) hkm.2,World.putObj_heap_other hkm.1,hka.block k hk (by simp)]
  rintro e a3 W3 hp;cases e with
  |normal=>
   obtain⟨hk3,M',hi3,hM'⟩:=hp;obtain⟨hr,hl3,hl4,hd4⟩:=fin Y W3 hk3;have hs3:=hk3.size;refine⟨_,_,hr,.inl ⟨rfl,M',⟨hI.putObj (s:=(pre++[x],M')) _ hi3 (by omega) hl3 rfl,hl4,hd4,λk hk=>?_⟩,?_,λk hk=>?_⟩⟩
   .have h1:=hM' k hk;refine⟨λe=>?_,λe=>?_,by simp;exact h1.2⟩
    .rcases h1.1 with h2|h2
     .exact(hM k h2).1 e
     .rw[hs2]at h2;omega
    .rcases h1.1 with h2|h2
     .exact(hM k h2).2.1 e
     .rw[hs2]at h2;omega
   .rw[hs2]at hs3;refine⟨?_,?_,?_,by simp;omega,λk hk hkm=>?_⟩
    .exact hk3.os.trans hka.os
    .exact hk3.tape.trans hka.tape
    .exact hk3.output.trans hka.output
    .by_cases hkl:k=D+1
     .subst hkl;rw[hl4,hl];rfl
     .rw[World.putObj_heap_other hkl,hk3.block k (by rw[hs2];omega) hkm,World.putObj_heap_other hkl,hka.block k hk (by simp)]
   .have h1:=hM' k hk;rw[hs2]at h1;exact⟨h1.1.imp id (λh=>by omega),by simp;exact h1.2⟩
  |ret=>
   obtain⟨hk3,M',hi3⟩:=hp;obtain⟨hr,hl3,hl4,hd4⟩:=fin (V .ret) W3 hk3;exact⟨_,_,hr,.inr ⟨rfl,M',⟨.ret,(hIx _).putObj (s:=(pre++[x],M')) _ hi3 (by omega) hl3 rfl,hl4,hd4⟩,fk _ W3 hk3⟩⟩
  |exit id=>
   obtain⟨hk3,M',hi3⟩:=hp;obtain⟨hr,hl3,hl4,hd4⟩:=fin (V (.exit id)) W3 hk3;exact⟨_,_,hr,.inr ⟨rfl,M',⟨.exit id,(hIx _).putObj (s:=(pre++[x],M')) _ hi3 (by omega) hl3 rfl,hl4,hd4⟩,fk _ W3 hk3⟩⟩
  |goto t=>
   obtain⟨hk3,M',hi3⟩:=hp;obtain⟨hr,hl3,hl4,hd4⟩:=fin (V (.goto t)) W3 hk3;exact⟨_,_,hr,.inr ⟨rfl,M',⟨.goto t,(hIx _).putObj (s:=(pre++[x],M')) _ hi3 (by omega) hl3 rfl,hl4,hd4⟩,fk _ W3 hk3⟩⟩
  |panic ch=>exact hp.elim
  |outgrown=>exact hp.elim
 ·
  rintro e W2 ⟨⟨v,rfl⟩,(⟨M',hi,hl,hd,hM⟩|⟨pre,M',c,hi,hl,hd⟩)⟩
  .exact⟨Y,_,by have:=run_endLoop (P:=P) hl (by rw[hrec];simp);rw[hrec]at this;exact this,hdone _ M' _ (by omega) (hI.putObj (s:=(xs,M')) _ hi (by omega) hl rfl) ((World.putObj_heap_other (by omega)).trans hd) (λk hk=>(hM k hk).1)⟩
  .exact⟨V c,_,by have:=run_endLoop (P:=P) hl (by rw[hrec];simp);rw[hrec]at this;exact this,wpIn_wide.2 (hstop _ c pre M' _ (by omega) ((hIx c).putObj (s:=(pre,M')) _ hi (by omega) hl rfl) ((World.putObj_heap_other (by omega)).trans hd))⟩
def Uu{α:Type}{g:Operand}{r:Array Tmp}{H G:Code}{Q:Exit->Act->py->Prop}{a:Act}{w:py}{m:Nat}{L:Array p5}{encs:α->Array p5}{n:pM α}{B:pM Nat}
  (S:a.eval g=.func (.func m) #[] L) (eg:∀F w,(callFunc m F).run P w=.ok (.enter m F) w)
  (N:Lx P m L encs n B w) (B2:∀x,(encs x).size=r.size) (BS:∀k∈B,k<w.heap.size)
  (I:pM α->pM Nat->py->Prop) (j:Code->pM α->pM Nat->py->Prop)
  (hI:OwnFrom w.heap.size (fun(s:pM α×pM Nat) W=>I s.1 s.2 W)) (B0:∀c,OwnFrom w.heap.size (fun(s:pM α×pM Nat) W=>j c s.1 s.2 W)) (R:I [] B w)
  (o:Nat->α->Act->py->Prop) (A2:∀e x d,OwnFrom w.heap.size (fun(_:Unit) W=>o e x d W))
  (Bx:∀(l:Nat) (x:α) (W:py) (f:Act->py->Prop),x∈n->w.heap.size<=W.heap.size->(∀d E,Ac [] W E->o W.heap.size x d E->f d E)->
   H.wpIn (Fence.wide.inRound l) 0 P (Exit.then f (λ_ _ _=>False)) {tmps:=(r.zip (encs x)).foldl (λt (p,v)=>t.setIfInBounds p v) a.tmps,defers:=[]} W)
  (DT:∀(l e:Nat) (b:pM α) (x:α) (C:pM α) (M:pM Nat) (d:Act) (W:py),n=b++x::C->I b M W->(∀k∈M,k<e)->w.heap.size<=e->e<=W.heap.size->o e x d W->
   G.wpIn (Fence.wide.inRound l) 0 P (LP I j (b++[x]) M W) d W)
  (AT:∀(D:Nat) (i:pM Nat) (W:py),w.heap.size<=D->I n i W->W.heap[D]?=V (.deferred (V []))->(∀k∈i,k≠D)->Q .normal {a with defers:=EA D::a.defers} W)
  (BT:∀(D:Nat) (c:Code) (b:pM α) (i:pM Nat) (W:py),w.heap.size<=D->j c b i W->W.heap[D]?=V (.deferred (V []))->c.wp P Q {a with defers:=EA D::a.defers} W):
  (Code.rangeFunc g r H G).wp P Q a w:=
 S7 (Off:=λx u _=>u=encs x) S eg (λl A0 T W z q A y h5 hr h6=>N l A0 T W z q A y h5 (λb x C M W1 he hj=>hr b x C M W1 (encs x) he hj rfl) h6) (λx u W h=>by rw[h];exact B2 x) BS I j hI B0 R o A2 (λl x u W f z q A y=>by subst A;exact Bx l x W f z q y) DT AT BT
def BO{β:Type}{B:Nat}{I:β->py->Prop}(h:∀s W b M,I s W->Ac M W b->(∀r∈M,B<=r/\∃o:Obj,W.heap[r]?=V o/\o.isCells=K)->I s b):OwnFrom B I:=λs W b g j a i=>
 h s W b g.toList j ⟨a.os,a.tape,a.output,a.size,λk d c=>a.block k d (λe=>c (by rw[<-e];simp))⟩ (λr f=>i r (by simpa using f))
def CY{W:py}{B:Nat}{M:pM Nat}(e:∀r∈M,B<=r/\∃o:Obj,W.heap[r]?=V o/\o.isCells=K){b:Nat}{d:pM p5}{t:TypeId}(h:AF W b d t):b∉M:=λc=>by
 obtain⟨_,o,a,f⟩:=e b c;unfold AF at h;rw[h]at a;cases a
 cases f
def Co{W:py}{B:Nat}{M:pM Nat}(f:∀r∈M,B<=r/\∃o:Obj,W.heap[r]?=V o/\o.isCells=K){k e p n:Nat}{v:p5}{j:pM p5}(h:W.ownsRow k e p v n j):∀i,v.ownBlock=V i->i∉M:=λi a d=>by
 obtain⟨_,o,b,m⟩:=f i d;rcases h.2 with⟨rfl,_⟩|⟨g,c,q,rfl,_,l,_⟩
 .simp[pI]at a
 .simp only[pI,ld]at a;subst a;rw[l]at b;cases b
  cases m
def Eo{a W b:py}{B:Nat}{M:pM Nat}(h:Ac [] a W)(k:Ac M W b)(c:∀r∈M,B<=r/\∃o:Obj,W.heap[r]?=V o/\o.isCells=K)(e:a.heap.size<=B):Ac [] a b:=
 h.trans' k (λi d=>Or.inr (by have:=(c i d).1;omega))
def XW:pM Nat->py->py->Prop
 |[],w,w'=>w'=w
 |D::ds,w,w'=>XW ds (w.putObj D (.deferred Y)) w'
structure Dv(B:Nat)(ds:pM Nat)(w:py):Prop where
 nodup:ds.Nodup
 ge:∀D∈ds,B<=D
 at_:∀D∈ds,w.heap[D]?=V (.deferred (V []))
def XW.own{β:Type}{B:Nat}{I:β->py->Prop}(f:OwnFrom B I){s:β}:∀{ds:pM Nat} {w a:py},XW ds w a->Dv B ds w->I s w->I s a
 |[],w,a,h,_,hi=>by
  have h:a=w:=h;rw[h];exact hi
 |D::ds,w,a,h,hm,hi=>by
  have c:=nh.1 hm.nodup;refine XW.own f (ds:=ds) h ⟨c.2,λd b=>hm.ge d (lY _ b),λd b=>?_⟩ (OwnFrom.putObj f _ hi (hm.ge D (mz ..)) (hm.at_ D (mz ..)) rfl);rw[World.putObj_heap_other (λe=>c.1 (by rw[<-e];exact b))];exact hm.at_ d (lY _ b)
def Du{P:Program}{f:Func}{g:Array p5}{R:Ending->py->Prop}{B:Nat}:∀(b:pM Nat) (w:py),Dv B b w->
  (∀a,XW b w a->∃v,(results f g).run P a=.ok v a/\R (oa v) a)->LeavesInM Fence.wide 0 P f g R (b.map EA) .returning w
 |[],w,_,h=>h w rfl
 |D::b,w,hm,h=>by
  have i:=nh.1 hm.nodup;refine⟨by simp,.inl ⟨D,_,rfl,run_takeDeferred (hm.at_ D (mz ..)),Du (B:=B) b _ ⟨i.2,λd c=>hm.ge d (lY _ c),λd c=>?_⟩ (λa j=>h a j)⟩⟩;rw[World.putObj_heap_other (λe=>i.1 (by rw[<-e];exact c))];exact hm.at_ d (lY _ c)
def EC{P:Program}{f:FuncId}{a:Func}{c:Code}{b:Array p5}{w:py}{R:Ending->py->Prop}(d:P.funcs[f]?=V a)(e:a.body=V c)
  (h:c.wp P (bodyPostM Fence.wide 0 P a R) {tmps:=b++Array.replicate (a.ntmps-b.size) undef,defers:=[]} w):Calls P f b w R:=
 callsIn_wide.1 (callsIn_of_wp_marks d e trivial (wpIn_wide.2 h))
def TQ{P:Program}{a:Func}{R:Ending->py->Prop}(h:∀w,¬R .outgrown w):¬LetsOut (bodyPostM Fence.wide 0 P a R):=fun⟨_,w,q⟩=>h w q
def J6{P:Program}{F:Fence}{n:Nat}(hF:∀f,F.fn f)(i:F.depth=Y)(x:Machine.fenced P F=Machine.fenced P Fence.wide){d:Array Oper}{Q:Exit->Act->py->Prop}{g:pM Oper}{o:Oper}{a:Act}{w:py}{l:Nat}{args:Array p5}{R:Ending->py->Prop}
  (q:Region.wanted o (yielded d a.tmps)=jj) (u:(o.semAt F.round a.eval).run P w=(Instr.yield l args).run P w) (r:YieldAt Fence.wide 0 P l args w R)
  (y:∀e b,R e b->∃v,e=oa v/\wpListIn F n P d Q g (a.put o.dst v) b):wpListIn F n P d Q (o::g) a w:=by
 unfold wpListIn;rw[ln q];refine⟨λf _=>hF f,?_⟩;obtain⟨s,C,B,A,p,j⟩:=r;rw[u,p];refine⟨λh=>(by rw[i]at h;cases h),hF s,λc m _=>?_⟩;obtain⟨e,b,t,z⟩:=j.2 c m (room_wide _);obtain⟨v,rfl,k⟩:=y e b t;refine⟨oa v,b,k,?_⟩;rw[x];exact z
def Jh{P:Program}{α:Type}{g:Operand}{p q:Nat}{T:TypeId}{G F:Code}{Q:Exit->Act->py->Prop}{a:Act}{w:py}{r:Nat}{H:Array p5}{b:α->pM p5}{u:pM α}{B:pM Nat}
  (R:a.eval g=.func (.func r) #[] H) (eg:∀E w,(callFunc r E).run P w=.ok (.enter r E) w)
  (L:Lx P r H (λx=>#[pC (ml (b x))]) u B w) (A2:∀k∈B,k<w.heap.size)
  (I:pM α->pM Nat->py->Prop) (o:Code->pM α->pM Nat->py->Prop)
  (hI:OwnFrom w.heap.size (fun(s:pM α×pM Nat) W=>I s.1 s.2 W)) (B0:∀c,OwnFrom w.heap.size (fun(s:pM α×pM Nat) W=>o c s.1 s.2 W)) (N:I [] B w)
  (A1:∀(l:Nat) (x:α) (W:py) (j:Act->py->Prop),x∈u->Hid (∀f,Ac [] W f->AF f W.heap.size (b x) T->j {tmps:=(a.tmps.setIfInBounds p (pC (ml (b x)))).setIfInBounds q (m2 (V ⟨W.heap.size,0,Y⟩)),defers:=[]} f)->
   G.wpIn (Fence.wide.inRound l) 0 P (Exit.then j (λ_ _ _=>False)) {tmps:=a.tmps.setIfInBounds p (pC (ml (b x))),defers:=[]} W)
  (B2:∀(l n:Nat) (d:pM α) (x:α) (C:pM α) (M:pM Nat) (W:py),u=d++x::C->I d M W->(∀k∈M,k<n)->w.heap.size<=n->AF W n (b x) T->
   F.wpIn (Fence.wide.inRound l) 0 P (LP I o (d++[x]) M W) {tmps:=(a.tmps.setIfInBounds p (pC (ml (b x)))).setIfInBounds q (m2 (V ⟨n,0,Y⟩)),defers:=[]} W)
  (AT:∀(D:Nat) (m:pM Nat) (W:py),w.heap.size<=D->I u m W->W.heap[D]?=V (.deferred (V []))->(∀k∈m,k≠D)->Q .normal {a with defers:=EA D::a.defers} W)
  (BA:∀(D:Nat) (c:Code) (d:pM α) (m:pM Nat) (W:py),w.heap.size<=D->o c d m W->W.heap[D]?=V (.deferred (V []))->c.wp P Q {a with defers:=EA D::a.defers} W):
  (Code.rangeFunc g #[p] G F).wp P Q a w:=by
 refine Uu R eg L (λ_=>rfl) A2 I o hI B0 N (λi x A W=>AF W i (b x) T/\A={tmps:=(a.tmps.setIfInBounds p (pC (ml (b x)))).setIfInBounds q (m2 (V ⟨i,0,Y⟩)),defers:=[]}) ?_ ?_ ?_ AT BA
 .intro i x A;exact BO (λ_ W f M h k y=>⟨h.1.kept k (CY y h.1),h.2⟩)
 .intro l x W j hx _ hK;have e:(#[p].zip #[pC (ml (b x))]).foldl (λt (x:Nat×p5)=>match x with|(p,v)=>t.setIfInBounds p v) a.tmps=a.tmps.setIfInBounds p (pC (ml (b x))):=by simp
  have h:=A1 l x W j hx (λf hk z=>hK _ f hk ⟨z,rfl⟩);rw[<-e]at h;exact h
 .rintro l i d x C M A W S hi y h1 h2 ⟨z,rfl⟩;exact B2 l i d x C M W S hi y h1 z
def I1{P:Program}{d n:Nat}{b:pM Oper}{a:Act}{w:py}{Q:Exit->Act->py->Prop}(k:Nat)(e:¬LetsOut Q)
  (h:∀c:Act->py->Prop,Hid (∀a w,wpListIn Fence.wide n P (ml b) Q (b.drop k) a w->c a w)->wpList P (ml b) (Exit.then c Q) (b.take k) a w):(Code.region d (ml b) K).wp P Q a w:=
 Oq (n:=n) (mt k b).symm e (h _ (λ_ _ h=>h))
def Qa{P:Program}{e n l:Nat}{b:pM Oper}{a:Act}{w:py}{Q:Exit->Act->py->Prop}(k:Nat)(d:DH (b.take k)=jj)(f:¬LetsOut Q)
  (h:∀c:Act->py->Prop,Hid (∀a w,wpListIn (Fence.wide.inRound l) n P (ml b) Q (b.drop k) a w->c a w)->wpList P (ml b) (Exit.then c Q) (b.take k) a w):(Code.region e (ml b) K).wpIn (Fence.wide.inRound l) n P Q a w:=
 Nc (n:=n) (mt k b).symm d f (h _ (λ_ _ h=>h))
def Eh{P:Program}{n:Nat}{ops:Array Oper}{b:pM Oper}{a:Act}{w:py}{Q:Exit->Act->py->Prop}(d:¬LetsOut Q)(h:wpList P ops Q b a w):wpListIn Fence.wide n P ops Q b a w:=by
 have c:=Lv (P:=P) (ops:=ops) (Q:=Q) (n:=n) d [] b a w (by
  have f:Exit.then (wpListIn Fence.wide n P ops Q []) Q=Q:=by
   funext e a w
   cases e<;>rfl
  rw[f]
  exact h)
 rw[lU]at c;exact c
def KO{P:Program}{n l:Nat}{ops:Array Oper}{b:pM Oper}{a:Act}{w:py}{Q:Exit->Act->py->Prop}(d:DH b=jj)(f:¬LetsOut Q)(h:wpList P ops Q b a w):wpListIn (Fence.wide.inRound l) n P ops Q b a w:=by
 have c:=Ii (P:=P) (ops:=ops) (Q:=Q) (n:=n) (l:=l) f [] b d a w (by
  have g:Exit.then (wpListIn (Fence.wide.inRound l) n P ops Q []) Q=Q:=by
   funext e a w
   cases e<;>rfl
  rw[g]
  exact h)
 rw[lU]at c;exact c
