import Derived.RangeFuncNested
import Derived.RangeFuncLeaves
import Derived.TacticsIn
import Derived.OrdersIn
import Derived.Test.YtoihbhenbmffcaaGreatZAP
import Derived.Test.YtoihbhenbmffcaaGreatZAN
set_option linter.all false
set_option maxHeartbeats 0
open List renaming length->Z,toArray->j1
open Option renaming none->Y,some->V
open Go.Value renaming slice->U,int->X,string->O,pointer->j2,agg->kx,bool->k0,ownBlock->kF
open Bool renaming false->K,true->hG
open Go.IntKind renaming i64->J
open Go.Obj renaming cells->jj
open Go.Ending renaming returned->j3
open Or renaming inl->kn,inr->kp
open Go renaming World->kq,Value->ks
open Go.RowKit renaming Hid->kt
open Go.World renaming cell?->ku,ownsRow->kw
open ByteArray renaming empty->kB
open Prod renaming fst->kE
open Go.Act renaming put->kG
namespace Go.Proofs.YtoihbhenbmffcaaGreat
open Go.RowKit Go.Proofs.Tryz
section
variable {P:Program} {ops:Array Oper} {Q:Exit->Act->kq->Prop} {l n:Nat}
def El(os:kJ Oper):Bool:=os.all λo=>match o.op with| .defer _=>K|_=>hG
def UX{o:Oper}(h:(match o.op with| .defer _=>K|_=>hG)=hG):∀c,o.op≠ .defer c:=λc e=>by rw[e]at h;cases h
def Uz{o:Oper}{a:Act}{w:kq}{d:Act->kq->Prop}(f:∀c,o.op≠ .defer c)(h:o.wp P a w d Q):o.wpIn (Fence.wide.inRound l) n P a w d Q:=by
 refine⟨λ_ _=>trivial,?_⟩;have e:o.semAt (Fence.wide.inRound l).round a.eval=execOp a.eval o:=Oper.semAt_eq _ _ _ f;rw[e];unfold Oper.wp at h;generalize(execOp a.eval o).run P w=r at h;have b:((Fence.wide.inRound l).depth.isSome=hG->1<=n):=λh=>by cases h
 cases r with
 |ok x w'=>
  cases x<;>simp only[Oper.upon]at h<;>first
   |exact h
   |exact⟨b,CallsIn.inRound l (callsIn_wide.2 h)⟩
   |exact⟨b,λc g _=>let ⟨v,w'',r,s⟩:=h c g;⟨v,w'',r,stepsIn_wide.2 s⟩⟩
 |halt x w'=>cases x<;>simp only[Oper.upon]at h<;>exact h
def da{o:Oper}{a:Act}{w:kq}{d:Act->kq->Prop}(h:o.wp P a w d Q):o.wpIn Fence.wide n P a w d Q:=by
 refine⟨λ_ _=>trivial,?_⟩;have e:o.semAt Fence.wide.round a.eval=execOp a.eval o:=Oper.semAt_none _ _;rw[e];unfold Oper.wp at h;generalize(execOp a.eval o).run P w=r at h;have b:(Fence.wide.depth.isSome=hG->1<=n):=λh=>by cases h
 cases r with
 |ok x w'=>
  cases x<;>simp only[Oper.upon]at h<;>first
   |exact h
   |exact⟨b,callsIn_wide.2 h⟩
   |exact⟨b,λc f _=>let ⟨v,w'',r,s⟩:=h c f;⟨v,w'',r,stepsIn_wide.2 s⟩⟩
 |halt x w'=>cases x<;>simp only[Oper.upon]at h<;>exact h
def G1(j:¬LetsOut Q)(f:kJ Oper):∀(b:kJ Oper),El b=hG->∀(a:Act) (w:kq),
  wpList P ops (Exit.then (wpListIn (Fence.wide.inRound l) n P ops Q f) Q) b a w->wpListIn (Fence.wide.inRound l) n P ops Q (b++f) a w
 |[],_,a,w,h=>h
 |o::b,hp,a,w,h=>by
  have k:El b=hG:=by
   unfold El at hp⊢;rw[js,fU]at hp;exact hp.2
  have s:∀c,o.op≠ .defer c:=by
   unfold El at hp;rw[js,fU]at hp;exact UX hp.1
  rw[iO];unfold wpListIn;unfold wpList at h;split
  .rename_i g;rw[fF g]at h;rcases h with h|h
   .refine Uz s (Oper.wp_mono (λi d m=>G1 j f b k i d m) ?_);unfold Oper.wp at h⊢;generalize(execOp a.eval o).run P w=r at h⊢;cases r with
    |ok x d=>
     cases x<;>simp only[Oper.upon]at h⊢<;>first
      |exact h
      |exact Calls.mono h (λe t q=>by cases e<;>exact q)
    |halt x d=>cases x<;>simp only[Oper.upon]at h⊢<;>exact h
   .obtain⟨_,i,d,p⟩:=h;exact absurd ⟨i,d,p⟩ j
  .rename_i g;rw[fB g]at h;exact⟨λ_ _=>trivial,G1 j f b k _ w h⟩
def Ka(i:¬LetsOut Q)(d:kJ Oper):∀(c:kJ Oper) (a:Act) (w:kq),
  wpList P ops (Exit.then (wpListIn Fence.wide n P ops Q d) Q) c a w->wpListIn Fence.wide n P ops Q (c++d) a w
 |[],a,w,h=>h
 |o::c,a,w,h=>by
  rw[iO];unfold wpListIn;unfold wpList at h;split
  .rename_i f;rw[fF f]at h;rcases h with h|h
   .refine da (Oper.wp_mono (λg b j=>Ka i d c g b j) ?_);unfold Oper.wp at h⊢;generalize(execOp a.eval o).run P w=r at h⊢;cases r with
    |ok x b=>
     cases x<;>simp only[Oper.upon]at h⊢<;>first
      |exact h
      |exact Calls.mono h (λe m l=>by cases e<;>exact l)
    |halt x b=>cases x<;>simp only[Oper.upon]at h⊢<;>exact h
   .obtain⟨_,g,b,k⟩:=h;exact absurd ⟨g,b,k⟩ i
  .rename_i f;rw[fB f]at h;exact⟨λ_ _=>trivial,Ka i d c _ w h⟩
def CM{f:Nat}{b:kJ Oper}{a:Act}{w:kq}(d:El b=hG)(g:¬LetsOut Q)(h:wpList P (j1 b) Q b a w):
  (Code.region f (j1 b) K).wpIn (Fence.wide.inRound l) n P Q a w:=by
 refine wpIn_region_lit ?_;have e:b=b++[]:=by simp
 have c:=G1 (P:=P) (ops:=j1 b) (Q:=Q) (l:=l) (n:=n) g [] b d a w (by
  have i:Exit.then (wpListIn (Fence.wide.inRound l) n P (j1 b) Q []) Q=Q:=by
   funext e a w
   cases e<;>rfl
  rw[i]
  exact h)
 rw[gd]at c;exact c
def LK{g:Nat}{b c d:kJ Oper}{a:Act}{w:kq}(i:b=c++d)(f:El c=hG)(j:¬LetsOut Q)
  (h:wpList P (j1 b) (Exit.then (wpListIn (Fence.wide.inRound l) n P (j1 b) Q d) Q) c a w):
  (Code.region g (j1 b) K).wpIn (Fence.wide.inRound l) n P Q a w:=by
 refine wpIn_region_lit ?_;have e:=G1 (P:=P) (ops:=j1 b) (Q:=Q) (l:=l) (n:=n) j d c f a w h;rw[<-i]at e;exact e
def MO{f:Nat}{b c d:kJ Oper}{a:Act}{w:kq}(g:b=c++d)(i:¬LetsOut Q)
  (h:wpList P (j1 b) (Exit.then (wpListIn Fence.wide n P (j1 b) Q d) Q) c a w):
  (Code.region f (j1 b) K).wp P Q a w:=by
 refine wpIn_wide.1 (wpIn_region_lit (n:=n) ?_);have e:=Ka (P:=P) (ops:=j1 b) (Q:=Q) (n:=n) i d c a w h;rw[<-g]at e;exact e
def Kq(f:¬LetsOut Q){p:Region.Mode}(d:El ops.toList=hG):∀(e:Nat) (j:Array Bool) (a:Act) (w:kq),wpAny P p ops Q e j a w->wpAnyIn (Fence.wide.inRound l) n P p ops Q e j a w
 |0,_,_,_,h=>h
 |e+1,j,a,w,h=>by
  refine⟨h.1,λi s=>?_⟩;have b:=h.2 i s;unfold wpOp at b;unfold wpOpIn;cases ho:ops[i]? with
  |none=>
   rw[ho]at b;exact Kq f d e _ a w b
  |some o=>
   rw[ho]at b;have t:∀c,o.op≠ .defer c:=by
    unfold El at d;rw[ik]at d;refine UX (d o ?_);have:=Array.mem_of_getElem? ho;exact Array.mem_toList_iff.2 this
   simp only at b⊢;split
   .rename_i g;rw[fF g]at b;rcases b with b|b
    .exact Uz t (Oper.wp_mono (λm k q=>Kq f d e _ m k q) b)
    .obtain⟨_,m,k,r⟩:=b;exact absurd ⟨m,k,r⟩ f
   .rename_i g;rw[fB g]at b;exact⟨λ_ _=>trivial,Kq f d e _ _ w b⟩
def Dp{c:Nat}{a:Act}{w:kq}(k:Nat)(S:kq->Prop)(e:P.follows .mixedOrders=hG)(b:El ops.toList=hG)(d:¬LetsOut Q)
  (h:Ci P .any ops Q S k ops.size (Array.replicate ops.size K) a w.drew):(Code.region c ops hG).wpIn (Fence.wide.inRound l) n P Q a w:=
 wpIn_region_any e (Kq d b _ _ _ _ (Ci.any _ _ _ _ h))
end
end Go.Proofs.YtoihbhenbmffcaaGreat
namespace Go.Proofs.YtoihbhenbmffcaaGreat
open Go.RowKit Go.Proofs.Tryz
variable{Q:Exit->Act->kq->Prop}{w v:kq}{n:Nat}
abbrev FU(D:Nat):Deferred:={target:=.collected D,args:=#[]}
def dK{α:Type}(P:Program)(l:Nat)(encs:α->Array ks)(xs:kJ α)(J Jx:kJ α->kJ Nat->kq->Prop):Prop:=
 ∀pre x rest M W1,xs=pre++x::rest->J pre M W1->YieldAt Fence.wide 0 P l (encs x) W1 λe W'=>
  (e=j3 (k0 hG)/\∃M',J (pre++[x]) M' W'/\Ac M W1 W'/\∀k∈M',(k∈M\/W1.heap.size<=k)/\k<W'.heap.size)\/
  (e=j3 (k0 K)/\∃M',Jx (pre++[x]) M' W'/\Ac (l::M) W1 W')
def Le{α:Type}(P:Program)(g:Nat)(lb:Array ks)(encs:α->Array ks)(xs:kJ α)(M0:kJ Nat)(w:kq):Prop:=
 ∀(l:Nat) (J Jx:kJ α->kJ Nat->kq->Prop) (W:kq),Ac [] w W->w.heap.size<=l->l<W.heap.size->
  OwnFrom W.heap.size (fun(s:kJ α×kJ Nat) W=>J s.1 s.2 W)->OwnFrom W.heap.size (fun(s:kJ α×kJ Nat) W=>Jx s.1 s.2 W)->
  dK P l encs xs J Jx->J [] M0 W->
  Calls P g (#[.func (.yield l) #[] #[]]++lb) W λe W'=>(∃v,e=j3 v)/\((∃M',J xs M' W')\/(∃pre M',Jx pre M' W'))
def Q0{α:Type}(I:kJ α->kJ Nat->kq->Prop)(Ix:Code->kJ α->kJ Nat->kq->Prop)(xs:kJ α)(M:kJ Nat)(W:kq):Exit->Act->kq->Prop
 | .normal,_,W'=>Ac M W W'/\∃M',I xs M' W'/\∀k∈M',(k∈M\/W.heap.size<=k)/\k<W'.heap.size
 | .ret,_,W'=>Ac M W W'/\∃M',Ix .ret xs M' W'
 | .exit id,_,W'=>Ac M W W'/\∃M',Ix (.exit id) xs M' W'
 | .goto t,_,W'=>Ac M W W'/\∃M',Ix (.goto t) xs M' W'
 | .panic _,_,_=>False
 | .outgrown,_,_=>False
def J2{b:Act->kq->Prop}(h:¬LetsOut Q):¬LetsOut (Exit.then b Q):=fun⟨a,w,q⟩=>h ⟨a,w,q⟩
def Is:¬LetsOut (fun(_:Exit) (_:Act) (_:kq)=>False):=fun⟨_,_,q⟩=>q
def Ac.grow(k:Ac [] w v):w.grownBy v Y:=⟨k.os,k.tape,k.output,k.size,λi a _=>k.block i a (by simp)⟩
def Bz{β:Type}{I:β->kq->Prop}(h:OwnFrom n I){s:β}(a:I s w)(k:Ac [] w v):I s v:=h s w v Y a k.grow (λr e=>by cases e)
def dQ{α:Type}(P:Program)(l:Nat)(Off:α->Array ks->kq->Prop)(xs:kJ α)(J Jx:kJ α->kJ Nat->kq->Prop):Prop:=
 ∀pre x rest M W1 vs,xs=pre++x::rest->J pre M W1->Off x vs W1->YieldAt Fence.wide 0 P l vs W1 λe W'=>
  (e=j3 (k0 hG)/\∃M',J (pre++[x]) M' W'/\Ac M W1 W'/\∀k∈M',(k∈M\/W1.heap.size<=k)/\k<W'.heap.size)\/
  (e=j3 (k0 K)/\∃M',Jx (pre++[x]) M' W'/\Ac (l::M) W1 W')
def eF{α:Type}(P:Program)(g:Nat)(lb:Array ks)(Off:α->Array ks->kq->Prop)(xs:kJ α)(M0:kJ Nat)(w:kq):Prop:=
 ∀(l:Nat) (J Jx:kJ α->kJ Nat->kq->Prop) (W:kq),Ac [] w W->w.heap.size<=l->l<W.heap.size->
  OwnFrom W.heap.size (fun(s:kJ α×kJ Nat) W=>J s.1 s.2 W)->OwnFrom W.heap.size (fun(s:kJ α×kJ Nat) W=>Jx s.1 s.2 W)->
  dQ P l Off xs J Jx->J [] M0 W->
  Calls P g (#[.func (.yield l) #[] #[]]++lb) W λe W'=>(∃v,e=j3 v)/\((∃M',J xs M' W')\/(∃pre M',Jx pre M' W'))
variable {P:Program}
theorem XJ{α:Type}{g:Operand}{ps:Array Tmp}{assign body:Code}{Q:Exit->Act->kq->Prop}{a:Act}{w:kq}{gf:Nat}{lb:Array ks}{Off:α->Array ks->kq->Prop}{xs:kJ α}{M0:kJ Nat}
  (hg:a.eval g=.func (.func gf) #[] lb) (eg:∀args w,(callFunc gf args).run P w=.ok (.enter gf args) w)
  (hseq:eF P gf lb Off xs M0 w) (hps:∀x vs W,Off x vs W->vs.size=ps.size) (hM0:∀k∈M0,k<w.heap.size)
  (I:kJ α->kJ Nat->kq->Prop) (Ix:Code->kJ α->kJ Nat->kq->Prop)
  (hI:OwnFrom w.heap.size (fun(s:kJ α×kJ Nat) W=>I s.1 s.2 W)) (hIx:∀c,OwnFrom w.heap.size (fun(s:kJ α×kJ Nat) W=>Ix c s.1 s.2 W)) (h0:I [] M0 w)
  (Ax:Nat->α->Act->kq->Prop) (hAx:∀n0 x a',OwnFrom w.heap.size (fun(_:Unit) W=>Ax n0 x a' W))
  (hassign:∀(l:Nat) (x:α) (vs:Array ks) (W:kq) (K:Act->kq->Prop),x∈xs->w.heap.size<=W.heap.size->Off x vs W->(∀a' W',Ac [] W W'->Ax W.heap.size x a' W'->K a' W')->
   assign.wpIn (Fence.wide.inRound l) 0 P (Exit.then K (λ_ _ _=>False)) {tmps:=(ps.zip vs).foldl (λt (p,v)=>t.setIfInBounds p v) a.tmps,defers:=[]} W)
  (hbody:∀(l n0:Nat) (pre:kJ α) (x:α) (rest:kJ α) (M:kJ Nat) (a':Act) (W:kq),xs=pre++x::rest->I pre M W->(∀k∈M,k<n0)->w.heap.size<=n0->n0<=W.heap.size->Ax n0 x a' W->
   body.wpIn (Fence.wide.inRound l) 0 P (Q0 I Ix (pre++[x]) M W) a' W)
  (hdone:∀(D:Nat) (M':kJ Nat) (W:kq),w.heap.size<=D->I xs M' W->W.heap[D]?=V (.deferred (V []))->(∀k∈M',k≠D)->Q .normal {a with defers:=FU D::a.defers} W)
  (hstop:∀(D:Nat) (c:Code) (pre:kJ α) (M':kJ Nat) (W:kq),w.heap.size<=D->Ix c pre M' W->W.heap[D]?=V (.deferred (V []))->c.wp P Q {a with defers:=FU D::a.defers} W):
  (Code.rangeFunc g ps assign body).wp P Q a w:=by
 refine wpIn_wide.1 (wpIn_rangeFunc (n:=1) ?_);intro fn _;obtain⟨rec,hrec⟩:∃rec:LoopState->Option Code->Loop,rec=λst pe=>{state:=st,pending:=pe,fn,tmps:=a.tmps,params:=ps,assign,body,defers:=w.heap.size}:=⟨_,rfl⟩
 obtain⟨D,hD⟩:=kK w.heap.size;obtain⟨W1,hW1⟩:=kK ((w.alloc (.deferred (V []))).alloc (.loop (rec .ready Y)));have hs1:W1.heap.size=D+2:=by rw[<-hW1];simp;omega
 have hk1:Ac [] w W1:=by rw[<-hW1];exact((kL [] w).alloc _).alloc _
 have hL1:W1.heap[D+1]?=V (.loop (rec .ready Y)):=by
  rw[<-hW1];have:=World.alloc_heap_new (w.alloc (.deferred (V []))) (.loop (rec .ready Y))
  rwa [fY,hD]at this
 have hK1:W1.heap[D]?=V (.deferred (V [])):=by
  rw[<-hW1];have h2:=World.alloc_heap_new w (.deferred (V []));rw[hD]at h2;have h3:=(kL [] (w.alloc (.deferred (V [])))).alloc (.loop (rec .ready Y));rw[h3.block D (by simp;omega) (by simp)];exact h2
 refine⟨D+1,[FU D],W1,{target:=.fn (.func gf) lb,args:=#[.func (.yield (D+1)) #[] #[]]},W1,gf,#[.func (.yield (D+1)) #[] #[]]++lb,W1,?_,?_,λ_ _=>trivial,?_,λh=>(by cases h),?_⟩
 .rw[<-hW1,hrec,<-hD];exact run_enterLoop_outer _ _ _ _ _
 .simp only[resolve,hg];simp[go_sem]
 .simp[invoke,go_sem,eg]
 refine callsIn_wide.2 ?_;have own2:∀{A B:kq} {row:Option Nat} {k:Nat} {o:Obj},A.grownBy B row->(∀r,row=V r->W1.heap.size<=r/\∃o:Obj,A.heap[r]?=V o/\o.isCells=false)->k<W1.heap.size->A.heap[k]?=V o->B.heap[k]?=V o:=by
  intro A B row k o hgr hr hk ho;rw[hgr.block k (gB.1 ho).1 (λe=>by have:=(hr k e.symm).1;omega)];exact ho
 have own1:∀{A:kq} {row:Option Nat},(∀r,row=V r->W1.heap.size<=r/\∃o:Obj,A.heap[r]?=V o/\o.isCells=false)->∀r,row=V r->w.heap.size<=r/\∃o:Obj,A.heap[r]?=V o/\o.isCells=false:=
  λhr r e=>⟨by have:=(hr r e).1;omega,(hr r e).2⟩
 refine(hseq (D+1)
  (λpre M W=>I pre M W/\W.heap[D+1]?=V (.loop (rec .ready Y))/\W.heap[D]?=V (.deferred (V []))/\∀k∈M,k≠D/\k≠D+1/\k<W.heap.size)
  (λpre M W=>∃c,Ix c pre M W/\W.heap[D+1]?=V (.loop (rec .done (V c)))/\W.heap[D]?=V (.deferred (V [])))
  W1 hk1 (by omega) (by omega)
  (λs A B row hs hgr hr=>⟨hI s A B row hs.1 hgr (own1 hr),own2 hgr hr (by omega) hs.2.1,own2 hgr hr (by omega) hs.2.2.1,λk hk=>⟨(hs.2.2.2 k hk).1,(hs.2.2.2 k hk).2.1,iM (hs.2.2.2 k hk).2.2 hgr.size⟩⟩)
  (λs A B row hs hgr hr=>by
   obtain⟨c,hc,hl,hd⟩:=hs
   exact⟨c,hIx c s A B row hc hgr (own1 hr),own2 hgr hr (by omega) hl,own2 hgr hr (by omega) hd⟩)
  ?_ ⟨Bz hI (s:=([],M0)) h0 hk1,hL1,hK1,λk hk=>⟨by have:=hM0 k hk;omega,by have:=hM0 k hk;omega,by have:=hM0 k hk;omega⟩⟩).mono ?_
 ·
  rintro pre x rest M W vs hxs ⟨hi,hl,hd,hM⟩ hoff;have hlt:D+1<W.heap.size:=(gB.1 hl).1;have hy:=run_yield (P:=P) (args:=vs) hl (by rw[hrec];exact hps x vs W hoff);rw[hrec]at hy;refine⟨fn,_,assign,body,hy,roundIn_of_wpIn trivial (hassign _ x vs W _ (by rw[hxs];simp) (by omega) hoff ?_)⟩;clear hy;intro a' Wa hka hax;have hla:Wa.heap[D+1]?=V (.loop (rec .ready Y)):=(hka.block _ hlt (by simp)).trans hl;have hda:Wa.heap[D]?=V (.deferred (V [])):=(hka.block _ (by omega) (by simp)).trans hd;have hia:I pre M Wa:=Bz hI (s:=(pre,M)) hi hka;refine⟨_,run_beginRound hla (by rw[hrec]),?_⟩;have hsz:=hka.size;have hlta:D+1<Wa.heap.size:=by omega
  have hl2:(Wa.putObj (D+1) (.loop {rec .ready Y with state:=.busy})).heap[D+1]?=V (.loop {rec .ready Y with state:=.busy}):=World.putObj_heap_same hlta;have hd2:(Wa.putObj (D+1) (.loop {rec .ready Y with state:=.busy})).heap[D]?=V (.deferred (V [])):=(World.putObj_heap_other (by omega)).trans hda;have hs2:(Wa.putObj (D+1) (.loop {rec .ready Y with state:=.busy})).heap.size=Wa.heap.size:=by simp
  refine wpIn_mono (hbody _ W.heap.size pre x rest M a' _ hxs (hI.putObj (s:=(pre,M)) _ hia (by omega) hla rfl) (λk hk=>(hM k hk).2.2) (by omega) (by rw[hs2];omega) ((hAx _ x a').putObj (s:=()) _ hax (by omega) hla rfl)) ?_;have fin:∀(jump:Option Code) (W3:kq),Ac M (Wa.putObj (D+1) (.loop {rec .ready Y with state:=.busy})) W3->
    (Instr.endRound (D+1) jump).run P W3=.ok (k0 jump.isNone) (W3.putObj (D+1) (.loop (rec (if jump.isNone then .ready else .done) jump)))/\
    W3.heap[D+1]?=V (.loop {rec .ready Y with state:=.busy})/\
    (W3.putObj (D+1) (.loop (rec (if jump.isNone then .ready else .done) jump))).heap[D+1]?=V (.loop (rec (if jump.isNone then .ready else .done) jump))/\
    (W3.putObj (D+1) (.loop (rec (if jump.isNone then .ready else .done) jump))).heap[D]?=V (.deferred (V [])):=λjump W3 hk3=>by
   have hl3:=(hk3.block (D+1) (by rw[hs2];omega) (λh=>(hM _ h).2.1 rfl)).trans hl2;have hd3:=(hk3.block D (by rw[hs2];omega) (λh=>(hM _ h).1 rfl)).trans hd2;have:=run_endRound (P:=P) jump hl3;rw[hrec]at this⊢;exact⟨this,by rw[hrec]at hl3;exact hl3,World.putObj_heap_same (gB.1 hl3).1,(World.putObj_heap_other (by omega)).trans hd3⟩
  have fk:∀(o:Obj) (W3:kq),Ac M (Wa.putObj (D+1) (.loop {rec .ready Y with state:=.busy})) W3->Ac ((D+1)::M) W (W3.putObj (D+1) o):=λo W3 hk3=>by
   have hs3:=hk3.size;rw[hs2]at hs3;refine⟨hk3.os.trans hka.os,hk3.tape.trans hka.tape,hk3.output.trans hka.output,by simp;omega,λk hk hkm=>?_⟩;rw[fx,not_or]at hkm;rw[World.putObj_heap_other hkm.1,hk3.block k (by rw[hs2];omega) hkm.2,World.putObj_heap_other hkm.1,hka.block k hk (by simp)]
  rintro e a3 W3 hp;cases e with
  |normal=>
   obtain⟨hk3,M',hi3,hM'⟩:=hp;obtain⟨hr,hl3,hl4,hd4⟩:=fin Y W3 hk3;have hs3:=hk3.size;refine⟨_,_,hr,.inl ⟨rfl,M',⟨hI.putObj (s:=(pre++[x],M')) _ hi3 (by omega) hl3 rfl,hl4,hd4,λk hk=>?_⟩,?_,λk hk=>?_⟩⟩
   .have h1:=hM' k hk;refine⟨λe=>?_,λe=>?_,by simp;exact h1.2⟩
    .rcases h1.1 with h2|h2
     .exact(hM k h2).1 e
     .rw[hs2]at h2;omega
    .rcases h1.1 with h2|h2
     .exact(hM k h2).2.1 e
     .rw[hs2]at h2;omega
   .rw[hs2]at hs3;refine⟨?_,?_,?_,by simp;omega,λk hk hkm=>?_⟩
    .exact hk3.os.trans hka.os
    .exact hk3.tape.trans hka.tape
    .exact hk3.output.trans hka.output
    .by_cases hkl:k=D+1
     .subst hkl;rw[hl4,hl];rfl
     .rw[World.putObj_heap_other hkl,hk3.block k (by rw[hs2];omega) hkm,World.putObj_heap_other hkl,hka.block k hk (by simp)]
   .have h1:=hM' k hk;rw[hs2]at h1;exact⟨h1.1.imp id (λh=>by omega),by simp;exact h1.2⟩
  |ret=>
   obtain⟨hk3,M',hi3⟩:=hp;obtain⟨hr,hl3,hl4,hd4⟩:=fin (V .ret) W3 hk3;exact⟨_,_,hr,.inr ⟨rfl,M',⟨.ret,(hIx _).putObj (s:=(pre++[x],M')) _ hi3 (by omega) hl3 rfl,hl4,hd4⟩,fk _ W3 hk3⟩⟩
  |exit id=>
   obtain⟨hk3,M',hi3⟩:=hp;obtain⟨hr,hl3,hl4,hd4⟩:=fin (V (.exit id)) W3 hk3;exact⟨_,_,hr,.inr ⟨rfl,M',⟨.exit id,(hIx _).putObj (s:=(pre++[x],M')) _ hi3 (by omega) hl3 rfl,hl4,hd4⟩,fk _ W3 hk3⟩⟩
  |goto t=>
   obtain⟨hk3,M',hi3⟩:=hp;obtain⟨hr,hl3,hl4,hd4⟩:=fin (V (.goto t)) W3 hk3;exact⟨_,_,hr,.inr ⟨rfl,M',⟨.goto t,(hIx _).putObj (s:=(pre++[x],M')) _ hi3 (by omega) hl3 rfl,hl4,hd4⟩,fk _ W3 hk3⟩⟩
  |panic ch=>exact hp.elim
  |outgrown=>exact hp.elim
 ·
  rintro e W2 ⟨⟨v,rfl⟩,(⟨M',hi,hl,hd,hM⟩|⟨pre,M',c,hi,hl,hd⟩)⟩
  .exact⟨Y,_,by have:=run_endLoop (P:=P) hl (by rw[hrec];simp);rw[hrec]at this;exact this,hdone _ M' _ (by omega) (hI.putObj (s:=(xs,M')) _ hi (by omega) hl rfl) ((World.putObj_heap_other (by omega)).trans hd) (λk hk=>(hM k hk).1)⟩
  .exact⟨V c,_,by have:=run_endLoop (P:=P) hl (by rw[hrec];simp);rw[hrec]at this;exact this,wpIn_wide.2 (hstop _ c pre M' _ (by omega) ((hIx c).putObj (s:=(pre,M')) _ hi (by omega) hl rfl) ((World.putObj_heap_other (by omega)).trans hd))⟩
def Y6{α:Type}{g:Operand}{u:Array Tmp}{L H:Code}{Q:Exit->Act->kq->Prop}{a:Act}{w:kq}{n:Nat}{N:Array ks}{f:α->Array ks}{o:kJ α}{C:kJ Nat}
  (T:a.eval g=.func (.func n) #[] N) (eg:∀G w,(callFunc n G).run P w=.ok (.enter n G) w)
  (R:Le P n N f o C w) (EX:∀x,(f x).size=u.size) (CW:∀k∈C,k<w.heap.size)
  (I:kJ α->kJ Nat->kq->Prop) (m:Code->kJ α->kJ Nat->kq->Prop)
  (hI:OwnFrom w.heap.size (fun(s:kJ α×kJ Nat) W=>I s.1 s.2 W)) (EM:∀c,OwnFrom w.heap.size (fun(s:kJ α×kJ Nat) W=>m c s.1 s.2 W)) (S:I [] C w)
  (q:Nat->α->Act->kq->Prop) (B9:∀e x d,OwnFrom w.heap.size (fun(_:Unit) W=>q e x d W))
  (CC:∀(l:Nat) (x:α) (W:kq) (i:Act->kq->Prop),x∈o->w.heap.size<=W.heap.size->(∀d F,Ac [] W F->q W.heap.size x d F->i d F)->
   L.wpIn (Fence.wide.inRound l) 0 P (Exit.then i (λ_ _ _=>False)) {tmps:=(u.zip (f x)).foldl (λt (p,v)=>t.setIfInBounds p v) a.tmps,defers:=[]} W)
  (FB:∀(l e:Nat) (b:kJ α) (x:α) (E:kJ α) (M:kJ Nat) (d:Act) (W:kq),o=b++x::E->I b M W->(∀k∈M,k<e)->w.heap.size<=e->e<=W.heap.size->q e x d W->
   H.wpIn (Fence.wide.inRound l) 0 P (Q0 I m (b++[x]) M W) d W)
  (Bx:∀(D:Nat) (j:kJ Nat) (W:kq),w.heap.size<=D->I o j W->W.heap[D]?=V (.deferred (V []))->(∀k∈j,k≠D)->Q .normal {a with defers:=FU D::a.defers} W)
  (EK:∀(D:Nat) (c:Code) (b:kJ α) (j:kJ Nat) (W:kq),w.heap.size<=D->m c b j W->W.heap[D]?=V (.deferred (V []))->c.wp P Q {a with defers:=FU D::a.defers} W):
  (Code.rangeFunc g u L H).wp P Q a w:=
 XJ (Off:=λx y _=>y=f x) T eg (λl BA Jx W A r B z h5 hr h6=>R l BA Jx W A r B z h5 (λb x E M W1 he hj=>hr b x E M W1 (f x) he hj rfl) h6) (λx y W h=>by rw[h];exact EX x) CW I m hI EM S q B9 (λl x y W i A r B z=>by subst B;exact CC l x W i A r z) FB Bx EK
def Cm{β:Type}{B:Nat}{I:β->kq->Prop}(h:∀s W b M,I s W->Ac M W b->(∀r∈M,B<=r/\∃o:Obj,W.heap[r]?=V o/\o.isCells=K)->I s b):OwnFrom B I:=λs W b g j a i=>
 h s W b g.toList j ⟨a.os,a.tape,a.output,a.size,λk d c=>a.block k d (λe=>c (by rw[<-e];simp))⟩ (λr f=>i r (by simpa using f))
def Dt{W:kq}{B:Nat}{M:kJ Nat}(e:∀r∈M,B<=r/\∃o:Obj,W.heap[r]?=V o/\o.isCells=K){b:Nat}{d:kJ ks}{t:TypeId}(h:AF W b d t):b∉M:=λc=>by
 obtain⟨_,o,a,f⟩:=e b c;unfold AF at h;rw[h]at a;cases a
 cases f
def Df{W:kq}{B:Nat}{M:kJ Nat}(f:∀r∈M,B<=r/\∃o:Obj,W.heap[r]?=V o/\o.isCells=K){k e p n:Nat}{v:ks}{j:kJ ks}(h:kw W k e p v n j):∀i,v.ownBlock=V i->i∉M:=λi a d=>by
 obtain⟨_,o,b,m⟩:=f i d;rcases h.2 with⟨rfl,_⟩|⟨g,c,q,rfl,_,l,_⟩
 .simp[kF]at a
 .simp only[kF,fu]at a;subst a;rw[l]at b;cases b
  cases m
def E9{a W b:kq}{B:Nat}{M:kJ Nat}(h:Ac [] a W)(k:Ac M W b)(c:∀r∈M,B<=r/\∃o:Obj,W.heap[r]?=V o/\o.isCells=K)(e:a.heap.size<=B):Ac [] a b:=
 h.trans' k (λi d=>kp (by have:=(c i d).1;omega))
def Vt:kJ Nat->kq->kq->Prop
 |[],w,w'=>w'=w
 |D::ds,w,w'=>Vt ds (w.putObj D (.deferred Y)) w'
structure Ea(B:Nat)(ds:kJ Nat)(w:kq):Prop where
 nodup:ds.Nodup
 ge:∀D∈ds,B<=D
 at_:∀D∈ds,w.heap[D]?=V (.deferred (V []))
def Vt.own{β:Type}{B:Nat}{I:β->kq->Prop}(f:OwnFrom B I){s:β}:∀{ds:kJ Nat} {w a:kq},Vt ds w a->Ea B ds w->I s w->I s a
 |[],w,a,h,_,hi=>by
  have h:a=w:=h;rw[h];exact hi
 |D::ds,w,a,h,hm,hi=>by
  have c:=iv.1 hm.nodup;refine Vt.own f (ds:=ds) h ⟨c.2,λd b=>hm.ge d (gu _ b),λd b=>?_⟩ (OwnFrom.putObj f _ hi (hm.ge D (gJ ..)) (hm.at_ D (gJ ..)) rfl);rw[World.putObj_heap_other (λe=>c.1 (by rw[<-e];exact b))];exact hm.at_ d (gu _ b)
def Eg{P:Program}{f:Func}{g:Array ks}{R:Ending->kq->Prop}{B:Nat}:∀(b:kJ Nat) (w:kq),Ea B b w->
  (∀a,Vt b w a->∃v,(results f g).run P a=.ok v a/\R (j3 v) a)->LeavesInM Fence.wide 0 P f g R (b.map FU) .returning w
 |[],w,_,h=>h w rfl
 |D::b,w,hm,h=>by
  have i:=iv.1 hm.nodup;refine⟨by simp,.inl ⟨D,_,rfl,run_takeDeferred (hm.at_ D (gJ ..)),Eg (B:=B) b _ ⟨i.2,λd c=>hm.ge d (gu _ c),λd c=>?_⟩ (λa j=>h a j)⟩⟩;rw[World.putObj_heap_other (λe=>i.1 (by rw[<-e];exact c))];exact hm.at_ d (gu _ c)
def F6{P:Program}{f:FuncId}{a:Func}{c:Code}{b:Array ks}{w:kq}{R:Ending->kq->Prop}(d:P.funcs[f]?=V a)(e:a.body=V c)
  (h:c.wp P (bodyPostM Fence.wide 0 P a R) {tmps:=b++Array.replicate (a.ntmps-b.size) undef,defers:=[]} w):Calls P f b w R:=
 callsIn_wide.1 (callsIn_of_wp_marks d e trivial (wpIn_wide.2 h))
def Nm{P:Program}{a:Func}{R:Ending->kq->Prop}(h:∀w,¬R .outgrown w):¬LetsOut (bodyPostM Fence.wide 0 P a R):=fun⟨_,w,q⟩=>h w q
def Jb{P:Program}{F:Fence}{n:Nat}(hF:∀f,F.fn f)(i:F.depth=Y)(x:Machine.fenced P F=Machine.fenced P Fence.wide){d:Array Oper}{Q:Exit->Act->kq->Prop}{g:kJ Oper}{o:Oper}{a:Act}{w:kq}{l:Nat}{args:Array ks}{R:Ending->kq->Prop}
  (q:Region.wanted o (yielded d a.tmps)=hG) (u:(o.semAt F.round a.eval).run P w=(Instr.yield l args).run P w) (r:YieldAt Fence.wide 0 P l args w R)
  (y:∀e b,R e b->∃v,e=j3 v/\wpListIn F n P d Q g (a.put o.dst v) b):wpListIn F n P d Q (o::g) a w:=by
 unfold wpListIn;rw[fF q];refine⟨λf _=>hF f,?_⟩;obtain⟨s,C,B,A,p,j⟩:=r;rw[u,p];refine⟨λh=>(by rw[i]at h;cases h),hF s,λc m _=>?_⟩;obtain⟨e,b,t,z⟩:=j.2 c m (room_wide _);obtain⟨v,rfl,k⟩:=y e b t;refine⟨j3 v,b,k,?_⟩;rw[x];exact z
def Iq{P:Program}{α:Type}{g:Operand}{p q:Nat}{T:TypeId}{G F:Code}{Q:Exit->Act->kq->Prop}{a:Act}{w:kq}{r:Nat}{H:Array ks}{b:α->kJ ks}{u:kJ α}{B:kJ Nat}
  (R:a.eval g=.func (.func r) #[] H) (eg:∀E w,(callFunc r E).run P w=.ok (.enter r E) w)
  (L:Le P r H (λx=>#[kx (j1 (b x))]) u B w) (B9:∀k∈B,k<w.heap.size)
  (I:kJ α->kJ Nat->kq->Prop) (o:Code->kJ α->kJ Nat->kq->Prop)
  (hI:OwnFrom w.heap.size (fun(s:kJ α×kJ Nat) W=>I s.1 s.2 W)) (EK:∀c,OwnFrom w.heap.size (fun(s:kJ α×kJ Nat) W=>o c s.1 s.2 W)) (N:I [] B w)
  (BT:∀(l:Nat) (x:α) (W:kq) (j:Act->kq->Prop),x∈u->kt (∀f,Ac [] W f->AF f W.heap.size (b x) T->j {tmps:=(a.tmps.setIfInBounds p (kx (j1 (b x)))).setIfInBounds q (j2 (V ⟨W.heap.size,0,Y⟩)),defers:=[]} f)->
   G.wpIn (Fence.wide.inRound l) 0 P (Exit.then j (λ_ _ _=>False)) {tmps:=a.tmps.setIfInBounds p (kx (j1 (b x))),defers:=[]} W)
  (EM:∀(l n:Nat) (d:kJ α) (x:α) (C:kJ α) (M:kJ Nat) (W:kq),u=d++x::C->I d M W->(∀k∈M,k<n)->w.heap.size<=n->AF W n (b x) T->
   F.wpIn (Fence.wide.inRound l) 0 P (Q0 I o (d++[x]) M W) {tmps:=(a.tmps.setIfInBounds p (kx (j1 (b x)))).setIfInBounds q (j2 (V ⟨n,0,Y⟩)),defers:=[]} W)
  (AT:∀(D:Nat) (m:kJ Nat) (W:kq),w.heap.size<=D->I u m W->W.heap[D]?=V (.deferred (V []))->(∀k∈m,k≠D)->Q .normal {a with defers:=FU D::a.defers} W)
  (CC:∀(D:Nat) (c:Code) (d:kJ α) (m:kJ Nat) (W:kq),w.heap.size<=D->o c d m W->W.heap[D]?=V (.deferred (V []))->c.wp P Q {a with defers:=FU D::a.defers} W):
  (Code.rangeFunc g #[p] G F).wp P Q a w:=by
 refine Y6 R eg L (λ_=>rfl) B9 I o hI EK N (λi x A W=>AF W i (b x) T/\A={tmps:=(a.tmps.setIfInBounds p (kx (j1 (b x)))).setIfInBounds q (j2 (V ⟨i,0,Y⟩)),defers:=[]}) ?_ ?_ ?_ AT CC
 .intro i x A;exact Cm (λ_ W f M h k y=>⟨h.1.kept k (Dt y h.1),h.2⟩)
 .intro l x W j hx _ hK;have e:(#[p].zip #[kx (j1 (b x))]).foldl (λt (x:Nat×ks)=>match x with|(p,v)=>t.setIfInBounds p v) a.tmps=a.tmps.setIfInBounds p (kx (j1 (b x))):=by simp
  have h:=BT l x W j hx (λf hk z=>hK _ f hk ⟨z,rfl⟩);rw[<-e]at h;exact h
 .rintro l i d x C M A W S hi y h1 h2 ⟨z,rfl⟩;exact EM l i d x C M W S hi y h1 z
def Hw{P:Program}{d n:Nat}{b:kJ Oper}{a:Act}{w:kq}{Q:Exit->Act->kq->Prop}(k:Nat)(e:¬LetsOut Q)
  (h:∀c:Act->kq->Prop,kt (∀a w,wpListIn Fence.wide n P (j1 b) Q (b.drop k) a w->c a w)->wpList P (j1 b) (Exit.then c Q) (b.take k) a w):(Code.region d (j1 b) K).wp P Q a w:=
 MO (n:=n) (gL k b).symm e (h _ (λ_ _ h=>h))
def OT{P:Program}{e n l:Nat}{b:kJ Oper}{a:Act}{w:kq}{Q:Exit->Act->kq->Prop}(k:Nat)(d:El (b.take k)=hG)(f:¬LetsOut Q)
  (h:∀c:Act->kq->Prop,kt (∀a w,wpListIn (Fence.wide.inRound l) n P (j1 b) Q (b.drop k) a w->c a w)->wpList P (j1 b) (Exit.then c Q) (b.take k) a w):(Code.region e (j1 b) K).wpIn (Fence.wide.inRound l) n P Q a w:=
 LK (n:=n) (gL k b).symm d f (h _ (λ_ _ h=>h))
def DM{P:Program}{n:Nat}{ops:Array Oper}{b:kJ Oper}{a:Act}{w:kq}{Q:Exit->Act->kq->Prop}(d:¬LetsOut Q)(h:wpList P ops Q b a w):wpListIn Fence.wide n P ops Q b a w:=by
 have c:=Ka (P:=P) (ops:=ops) (Q:=Q) (n:=n) d [] b a w (by
  have f:Exit.then (wpListIn Fence.wide n P ops Q []) Q=Q:=by
   funext e a w
   cases e<;>rfl
  rw[f]
  exact h)
 rw[gd]at c;exact c
def JF{P:Program}{n l:Nat}{ops:Array Oper}{b:kJ Oper}{a:Act}{w:kq}{Q:Exit->Act->kq->Prop}(d:El b=hG)(f:¬LetsOut Q)(h:wpList P ops Q b a w):wpListIn (Fence.wide.inRound l) n P ops Q b a w:=by
 have c:=G1 (P:=P) (ops:=ops) (Q:=Q) (n:=n) (l:=l) f [] b d a w (by
  have g:Exit.then (wpListIn (Fence.wide.inRound l) n P ops Q []) Q=Q:=by
   funext e a w
   cases e<;>rfl
  rw[g]
  exact h)
 rw[gd]at c;exact c
end Go.Proofs.YtoihbhenbmffcaaGreat
namespace Go.Proofs.YtoihbhenbmffcaaGreat
open Go.RowKit Go.Proofs.Tryz
variable{m k b n i:Nat}{v w u:kq}{M:kJ Nat}{z:ks}{s t:zA}{e:kJ zA}{f:kJ Ag}{B:Bool}{g:UInt8}{I:Int}{y:kJ ks}
def YC{c:kJ DF}(o:c.Pairwise λa b=>Cq a.f b.f<0)(n:zA)(l:Eu c ⟨n,[]⟩ m):(c.drop m).takeWhile (OQ n)=c.filter (OQ n):=by
 have r:∀q∈c.drop m,¬Ds q.f.name n<0:=by
  intro q g;obtain⟨i,j,rfl⟩:=gv g;rw[gD]at j;rw[jE,<-Mk];exact l.zZ (m+i) (by omega) (by omega)
 have s:(c.drop m).takeWhile (OQ n)=(c.drop m).filter (OQ n):=by
  refine IW _ (iG (fun{a b} ha hb hab hbn=>?_) (o.drop (i:=m)));have e:b.f.name=n:=toList_inj (by simpa[OQ] using hbn);have t:¬Ds a.f.name n<0:=r a ha;have h:Ds a.f.name b.f.name<=0:=by
   unfold Cq at hab;split at hab<;>omega
  rw[e]at h;have d:Ds a.f.name n=0:=by omega
  unfold OQ;rw[(Bl _ _).1 d];simp
 have h:(c.take m).filter (OQ n)=[]:=by
  refine jC.2 (λq g k=>?_);obtain⟨i,j,rfl⟩:=gv g;rw[gq]at j;rw[jf]at k;have d:=(Mk _ _).1 (l.below i (by omega) (by omega));have e:c[i].f.name=n:=toList_inj (by simpa[OQ] using k);rw[e]at d;have:Ds n n=0:=(Bl n n).2 rfl;omega
 have d:c.filter (OQ n)=(c.drop m).filter (OQ n):=by
  conv=>lhs;rw[<-gL m c,iD,h,ia]
 rw[s,<-d]
def cD{α:Type}{q:α->Bool}{l:kJ α}(a:k<Z l)(h:q l[k]=hG):(l.drop k).takeWhile q=l[k]::(l.drop (k+1)).takeWhile q:=by
 rw[fQ a,List.takeWhile_cons,h,fF rfl]
def dG{α:Type}{q:α->Bool}{l:kJ α}(a:k<Z l)(h:q l[k]=K):(l.drop k).takeWhile q=[]:=by
 rw[fQ a,List.takeWhile_cons,h,fB (by simp)]
structure S7(w0:kq)(b2:Nat)(n:zA)(M:kJ Nat)(w:kq):Prop where
 kept:Ac [] w0 w
 name:ku w ⟨b2,0,Y⟩=V (O n)
 apart:∀k∈M,w0.heap.size<=k/\k≠b2/\k<w.heap.size
def S7.grow{n:zA}(h:S7 v m n M w)(k:Ac [] w u):S7 v m n M u:=
 ⟨h.kept.trans k,k.cellAt h.name,λi a=>⟨(h.apart i a).1,(h.apart i a).2.1,iM (h.apart i a).2.2 k.size⟩⟩
def JT(k:Ac M w u)(h:ku w ⟨b,n,Y⟩=V z)(a:b∉M):ku u ⟨b,n,Y⟩=V z:=by
 have e:=k.block b (KV h) a;simp only[World.cell?,e]at h⊢;exact h
def S7.round{M d:kJ Nat}(h:S7 v m s M w)(k:Ac M w u)(c:∀i∈d,(i∈M\/w.heap.size<=i)/\i<u.heap.size):S7 v m s d u:=by
 have g:=KV h.name;have f:=h.kept.size;refine⟨h.kept.trans' k (λi b=>kp (h.apart i b).1),JT k h.name (λe=>(h.apart _ e).2.1 rfl),λi b=>⟨?_,?_,(c i b).2⟩⟩
 .rcases(c i b).1 with a|a
  .exact(h.apart i a).1
  .omega
 .rcases(c i b).1 with a|a
  .exact(h.apart i a).2.1
  .omega
set_option maxRecDepth 100000
theorem bO(b1 H S P:Nat)(D:Option Addr)(o:Nat)(d:kJ DF)(n:zA)(w0 w:kq)(G:kJ Nat)(x:ku w ⟨b1,0,Y⟩=V (j2 (V ⟨S,P,Y⟩)))
  (hO:S7 w0 H n G w) (hs:ku w0 ⟨S,P,Y⟩=V (U D (Z d) o)) (hP:Iw w0 (U D (Z d) o) d) (N2:Z d<=900000) (HW:d.Pairwise λa b=>Cq a.f b.f<0)
  (JJ:∀i j (hi:i<Z d) (hj:j<Z d),i<=j->Cq d[j].f ⟨n,[]⟩<0->Cq d[i].f ⟨n,[]⟩<0):
  Le prog 184 #[j2 (V ⟨b1,0,Y⟩),j2 (V ⟨H,0,Y⟩)] (λq:DF=>#[kx (j1 (AI q))]) (d.filter (OQ n)) G w:=by
 intro l CL Jx W HB _ _ hJ RO hR HU;have AR:=hO.grow HB;have c1:=HB.cellAt x;have cs:=AR.kept.cellAt hs;have c2:=AR.name;have HD:kt (∀wr,Ac [] W wr->Calls prog 41 #[U D (Z d) o,kx #[O n,U Y 0 0],.func (.func 42) #[] #[]] wr λe w'=>∃p:Nat,e=j3 (.tuple #[X J p,k0 (CY d ⟨n,[]⟩ p)])/\Eu d ⟨n,[]⟩ p/\Ac [] wr w'):=λwr z=>Hl D o d ⟨⟨n,[]⟩,U Y 0 0⟩ wr (hP.kept (AR.kept.trans z)) (fK _ _ _ _) (by simp) (by omega) JJ
 have HO:=Ab AR;have HP:=Ab hP;have HJ:=Ab hJ;have HR:=Ab hR;have HI:=Ab HU;have HF:kt (∀p,Eu d ⟨n,[]⟩ p->d.filter (OQ n)=(d.drop p).take 0++((d.drop p).drop 0).takeWhile (OQ n)):=λp hc=>by rw[jJ,ia,jK,YC HW n hc]
 obtain⟨A,H2⟩:=kK (d.filter (OQ n));rw[H2]at HF HR⊢;have FT:kt (∀u,Ac [] W u->ku u ⟨b1,0,Y⟩=V (j2 (V ⟨S,P,Y⟩))/\ku u ⟨S,P,Y⟩=V (U D (Z d) o)/\ku u ⟨H,0,Y⟩=V (O n)):=λu z=>⟨z.cellAt c1,z.cellAt cs,z.cellAt c2⟩
 clear H2 hO AR hs hP HW JJ hJ hR HU HB x;show Calls prog 184 #[.func (.yield l) #[] #[],j2 (V ⟨b1,0,Y⟩),j2 (V ⟨H,0,Y⟩)] W _;go_enter func184,ntmps184;go_wp2_with fail
 go_region_held3 (λu=>Ac [] W u/\ku u ⟨b1,0,Y⟩=V (j2 (V ⟨S,P,Y⟩))/\ku u ⟨S,P,Y⟩=V (U D (Z d) o)/\ku u ⟨H,0,Y⟩=V (O n)) ((go_split_ands;refine(fun(K6:Ac [] W _)=>And.intro K6 (FT _ K6)) ?_;repeat (first|assumption|exact kL [] _|refine Ac.drew ?_|refine Ac.alloc ?_ _))) ((go_at_call 41;refine(HD _ (by go_split_ands;assumption)).mono ?_;rintro e w3 ⟨p,rfl,hcut,k3⟩;have Go:=Ab hcut;have IJ:Ac [] W w3:=(by go_split_ands;exact Ac.trans (by assumption) k3);have CW:=Ab IJ;clear hcut k3 IJ))
 clear c1 cs c2 HD;have K3:=Ab (HO.grow CW);have EK:kt (CL [] G w3):=Bz HJ (s:=([],G)) HI CW;obtain⟨d1,d2,d3⟩:=FT w3 CW;have M6:=Go.le;have RV:(0:Int)<=(p:Int):=by omega
 have NL:(p:Int)<=(Z d:Int):=by omega
 have FC:=Ab (HF p Go);have IS:=CW.size;clear FT HO HI HF Go;have HH:(D=Y/\o=0/\Z d=0)\/∃g,D=V ⟨g,0,Y⟩/\Z d<=o:=by
  rcases HP.row.2 with⟨x,h2⟩|⟨g,c,Op,x,_,_,h3,_⟩
  .simp only[fg]at x;exact kn ⟨x.1,x.2.2,h2⟩
  .simp only[fg]at x;exact kp ⟨g,x.1,by omega⟩
 by_cases FW:p=Z d
 .have E:kt (A=[]):=by
   show _=_;rw[Aa FC,FW];simp
  have L0:Z d-p=0:=by omega
  rcases HH with⟨rfl,rfl,hz⟩|⟨g,rfl,LC⟩
  .rw[hz]at L0 NL d2 M6;go_wp2_with fail
   go_loopg [25] 0 (λgk i wr=>i=X J 0/\wr=w3)
   case atStart=>exact⟨rfl,rfl⟩
   case round=>
    obtain⟨rfl,rfl⟩:=hrel;go_wp2;go_end0;exact⟨⟨_,rfl⟩,kn ⟨G,by rw[Aa E];exact EK⟩⟩
  ·(have NV:(Z d:Int)<=(o:Int):=by omega);(have MN:(p:Int)<=(o:Int):=by omega);clear FW;(go_wp2_with fail);all_goals
    go_loopg [25] 0 (λgk i wr=>i=X J 0/\wr=w3)
    case atStart=>exact⟨rfl,rfl⟩
    case round=>
     obtain⟨rfl,rfl⟩:=hrel;go_wp2;go_end0;exact⟨⟨_,rfl⟩,kn ⟨G,by rw[Aa E];exact EK⟩⟩
 .rcases HH with⟨rfl,rfl,hz⟩|⟨g,rfl,LC⟩
  .omega
  have NV:(Z d:Int)<=(o:Int):=by omega
  have MN:(p:Int)<=(o:Int):=by omega
  have QQ:¬o=p:=by omega
  obtain⟨L,hL⟩:=kK (Z d-p);have HL:=Ab hL;have Mo:kt (∀k,k<L->∃(z:p+k<Z d),(d.drop p)[k]?=V d[p+k]):=by
   intro k z;(have h:p+k<Z d:=by omega);exact⟨h,by rw[jq,fI h]⟩
  go_wp2_with fail
  clear hL FW
  go_loopg [7,25] L (λgk bx i wr=>∃(k:Nat) (M:kJ Nat),i=X J k/\k<=L/\gk=L-k/\kt (A=(d.drop p).take k++((d.drop p).drop k).takeWhile (OQ n))/\kt (S7 w0 H n M wr)/\kt (CL ((d.drop p).take k) M wr)/\kt (W.heap.size<=wr.heap.size))
  case atStart=>exact⟨0,G,rfl,by omega,rfl,FC,K3,EK,IS⟩
  case round=>
   clear FC K3 EK IS;obtain⟨k,M,rfl,z,KS,E,BA,FB,HS⟩:=hrel;have HG:=Ab KS;clear KS;by_cases LS:k<L
   .obtain⟨NS,LL⟩:=Mo k LS;obtain⟨g',PT,y,r,C,B,HM,hf,e0,e1⟩:=JW (HP.kept BA.kept) (p+k) NS;simp only[fg,fu,gi]at HM;obtain⟨⟨LB,-,-⟩,-,-⟩:=HM;subst LB;rw[show(p+k)*2=p*2+k*2 by omega]at e0 e1;(have FF:k<Z (d.drop p):=by rw[gD];omega);(have T:(d.drop p)[k]=⟨⟨y,r⟩,U C (Z r) B⟩:=by rw[jE,hf]);(have RB:(0:Int)<=(k:Int):=by omega);(have LD:(k:Int)<(L:Int):=by omega);have c2:=BA.name;have Q:=Ab (kN wr [O y,U C (Z r) B] 56);have R:=Ab ((kL [] wr).alloc (jj [O y,U C (Z r) B].toArray 56));have EM:=R.cellAt c2;refine kI (λI m=>?_);go_wp2;refine m _ _ ?_;clear m I;refine kI (λI m=>?_);go_wp2;refine m _ _ ?_;clear m I;refine kI (λK5 Ix=>?_);refine wp_block ?_;refine kI (λI m=>?_);go_wp2;refine m _ _ ?_;clear m I;change Code.wp _ _ _ _ (wr.alloc (jj [O y,U C (Z r) B].toArray 56));generalize hw2:wr.alloc (jj [O y,U C (Z r) B].toArray 56)=w2 at Q R EM⊢;have K7:=Q.lt;generalize wr.heap.size=N at Q K7⊢;have FA:kt (S7 w0 H n M w2):=BA.grow R;have CC:kt (CL ((d.drop p).take k) M w2):=Bz HJ (s:=((d.drop p).take k,M)) FB R;have EX:kt (W.heap.size<=w2.heap.size):=gQ HS R.size;have x0:=Q.cell 0;have x1:=Q.cell 1;simp at x0 x1;clear hw2 e0 e1 c2 BA FB HS LL R Q K7;cases hnn:(y.toList==n.toList)with
    |false=>
     have F:kt (A=(d.drop p).take k):=by
      show _=_;rw[Aa E,dG FF (by rw[T];exact hnn),gd]
     clear T;go_wp2;refine fL (jR rfl _ _ _) rfl ?_;exact⟨⟨_,rfl⟩,kn ⟨M,by rw[Aa F];exact CC⟩⟩
    |true=>
     have F:kt (A=(d.drop p).take k++⟨⟨y,r⟩,U C (Z r) B⟩::((d.drop p).drop (k+1)).takeWhile (OQ n)):=by
      show _=_;rw[Aa E,cD FF (by rw[T];exact hnn),T]
     have B9:kt ((d.drop p).take k++[⟨⟨y,r⟩,U C (Z r) B⟩]=(d.drop p).take (k+1)):=by
      show _=_;rw[<-T,fm FF]
     have HY:=Ab (HR _ _ _ M w2 F CC);clear T;refine kI (λI m=>?_);refine Hw (n:=0) 7 (by rintro ⟨_,_,h⟩;obtain⟨⟨v,e⟩,_⟩:=h;cases e) (λK2 H9=>?_);simp only[iX,jJ];go_wp2;refine H9 _ _ ?_;clear H9 K2;simp only[ji,jK];refine Jb (λ_=>trivial) rfl rfl (l:=l) (args:=#[kx #[O y,U C (Z r) B]]) (by rfl) (by first|(simp[go_sem,Oper.semAt];done)|(simp[go_sem,Oper.semAt,execOp,resolve,invoke];done)) HY ?_;rintro e w4 (⟨rfl,M',AT,Ha,HE⟩|⟨rfl,M',AT,-⟩)
     .refine⟨_,rfl,DM (by rintro ⟨_,_,h⟩;obtain⟨⟨v,e⟩,_⟩:=h;cases e) ?_⟩;simp only[kG,ff,fh,fi];have MY:=Ab (FA.round Ha HE);(have HA:kt (CL ((d.drop p).take (k+1)) M' w4):=by rw[<-Aa B9];exact AT);have LE:kt (W.heap.size<=w4.heap.size):=gQ EX Ha.size;have NE:kt (A=(d.drop p).take (k+1)++((d.drop p).drop (k+1)).takeWhile (OQ n)):=by
       show _=_;rw[Aa F,<-Aa B9,gF];rfl
      clear AT Ha HE x0 x1 EM HY FA CC EX E F B9;go_wp2;refine m _ _ ?_;clear m;go_wp2;refine Ix _ _ ?_;clear Ix;go_wp2
      go_roundg (L-(k+1))
      case measure=>have:=Aa HG;omega
      case rel=>exact⟨k+1,M',by go_num,by omega,rfl,NE,MY,HA,LE⟩
     .refine⟨_,rfl,DM (by rintro ⟨_,_,h⟩;obtain⟨⟨v,e⟩,_⟩:=h;cases e) ?_⟩;simp only[kG,ff,fh,fi];have HA:=Ab AT;clear AT x0 x1 EM HY FA CC EX E F B9;go_wp2;refine m _ _ ?_;clear m;go_wp2;refine fL (jR rfl _ _ _) rfl ?_;exact⟨⟨_,rfl⟩,kp ⟨_,M',HA⟩⟩
   .have F:kt (A=(d.drop p).take k):=by
     show _=_;(have hl:Z (d.drop p)<=k:=by rw[gD,Aa HL];omega);rw[Aa E,gr hl];simp
    (have LD:¬(k:Int)<(L:Int):=by omega);go_wp2;go_end0;exact⟨⟨_,rfl⟩,kn ⟨M,by rw[Aa F];exact FB⟩⟩
theorem XZ(b a:Nat)(n:zA)(w:kq):
  Calls prog 180 #[j2 (V ⟨b,a,Y⟩),O n] w λr d=>∃c e,r=j3 (.func (.func 184) #[] #[j2 (V ⟨c,0,Y⟩),j2 (V ⟨e,0,Y⟩)])/\AF d c [j2 (V ⟨b,a,Y⟩)] 69/\AF d e [O n] 9/\w.heap.size<=c/\w.heap.size<=e/\Ac [] w d:=by
 go_enter func180,ntmps180;go_wp2;go_ret;refine⟨w.heap.size,w.heap.size+1,rfl,(kN w [j2 (V ⟨b,a,Y⟩)] 69).alloc _,?_,fJ _,by omega,((kL [] w).alloc _).alloc _⟩;have h:=kN (w.alloc (jj #[j2 (V ⟨b,a,Y⟩)] 69)) [O n] 9;rw[fY]at h;exact h
def We(b:kJ zA)(ts:kJ AO)(at_:Nat)(fs:kJ DF)(m:kJ zA):Prop:=∀y,y∈m↔∃q∈fs,G4 b ts q.f.zC=hG/\y=q.f.zC.getD at_ kB
structure W7(w:kq)(N:Nat)(ap:Int)(nm:zA)(tv:ks)(E:kJ ks)(b:kJ zA)(ts:kJ AO)(at_:Nat)(pre:kJ DF)(M:kJ Nat)(W:kq):Prop where
 kept:Ac [] w W
 b5:AF W N [X J ap,O nm,tv] 116
 b6:AF W (N+1) [X J at_] 3
 b7:AF W (N+2) E 244
 out:∃(m:kJ zA) (ad:Option Addr) (cp:Nat),AF W (N+3) [U ad (Z m) cp] 54/\kw W N 98 1 (U ad (Z m) cp) (Z m) (m.flatMap Ah)/\Cz Fe m/\We b ts at_ pre m/\Z m<=Z pre/\M=(N+3)::(U ad (Z m) cp).ownBlock.toList
def W7.own{N B:Nat}{ap:Int}{nm:zA}{tv:ks}{E:kJ ks}{b:kJ zA}{ts:kJ AO}{at_:Nat}(f:w.heap.size<=B):OwnFrom B (fun(s:kJ DF×kJ Nat) W=>W7 w N ap nm tv E b ts at_ s.1 s.2 W):=
 Cm (λs W j M h k a=>by
  obtain⟨m,i,e,d,c,g⟩:=h.out
  exact⟨E9 h.kept k a f,h.b5.kept k (Dt a h.b5),h.b6.kept k (Dt a h.b6),h.b7.kept k (Dt a h.b7),m,i,e,d.kept k (Dt a d),Am c k (Df a c),g⟩)
theorem Vh(sp kb ko:Nat)(bv ov:ks)(TX:Option Addr)(RO:Nat)(u:kJ DF)(ap:Int)(nm:zA)(A:Option Addr)(z:Nat)(ts:kJ AO)(at_:Nat)(b:kJ zA)(w:kq)(hb:Z b=26)(hS:Ov w sp kb ko bv ov TX RO u)
  (ht:kw w 0 164 2 (U A (Z ts) z) (Z ts) (ts.flatMap Ap)) (c2:Z ts<=1000) (hv:∀t∈ts,OM t) (W3:Z u<=900000) (NV:u.Pairwise λa b=>Cq a.f b.f<0)
  (SS:∀i j (B:i<Z u) (hj:j<Z u),i<=j->Cq u[j].f ⟨nm,[]⟩<0->Cq u[i].f ⟨nm,[]⟩<0)
  (o:∀q∈u,OQ nm q=hG->Z ts<=Z q.f.zC/\at_<Z q.f.zC):
  Calls prog 174 #[j2 (V ⟨sp,0,Y⟩),kx #[X J ap,O nm,U A (Z ts) z],X J at_,kx (j1 (Ai b))] w λr G=>∃(ad:Option Addr) (cp:Nat) (m:kJ zA),r=j3 (U ad (Z m) cp)/\Cz Fe m/\We b ts at_ (u.filter (OQ nm)) m/\Z m<=Z u/\kw G w.heap.size 98 1 (U ad (Z m) cp) (Z m) (m.flatMap Ah)/\Ac [] w G:=by
 have S0:kt (∀nb (p:DF) g,p∈u->OQ nm p=hG->Ac [] w g->AF g nb (Ai b) 244->Calls prog 181 #[j2 (V ⟨nb,0,Y⟩),kx #[X J ap,O nm,U A (Z ts) z],kx (j1 (AI p))] g λr G=>r=j3 (k0 (G4 b ts p.f.zC))/\Ac [] g G):=λnb p g hp hn n hB=>aE nb 244 b ap nm A z ts p 0 g hb hB (Ad ht n) ((hS.facts.each p hp).1.kept n) (by omega) (o p hp hn).1 hv
 have bt:kt (∀S Q M0 g,ku g ⟨S,0,Y⟩=V (j2 (V ⟨kb,ko,Y⟩))->S7 w Q nm M0 g->Le prog 184 #[j2 (V ⟨S,0,Y⟩),j2 (V ⟨Q,0,Y⟩)] (λq:DF=>#[kx (j1 (AI q))]) (u.filter (OQ nm)) M0 g):=λS Q M0 g h1 hO=>bO S Q kb ko TX RO u nm w g M0 h1 hO hS.set hS.facts W3 NV SS
 have HT:=Ab hS;have HQ:=Ab o;have hc:=Bh b;have bp:Z (Ai b)=26:=by unfold Ai;simp[hb]
 obtain⟨E,hE⟩:=kK (Ai b);rw[hE]at hc bp S0⊢;clear hE hS NV SS o hv;have cR:=Ab ht;clear ht;obtain⟨N,hN⟩:=kK w.heap.size;have HN:=Ab hN;obtain⟨C,EK⟩:=kK ((((w.alloc (jj #[X J ap,O nm,U A (Z ts) z] 116)).alloc (jj #[X J at_] 3)).alloc (jj (j1 E) 244)).alloc (jj #[U Y 0 0] 54));have RV:=Ab EK;have R:Ac [] w C:=by rw[<-EK];exact((((kL [] w).alloc _).alloc _).alloc _).alloc _
 have RI:AF C N [X J ap,O nm,U A (Z ts) z] 116:=by
  rw[<-EK,<-hN];exact(((kN w [X J ap,O nm,U A (Z ts) z] 116).alloc _).alloc _).alloc _
 have PT:AF C (N+1) [X J at_] 3:=by
  rw[<-EK];have h:=((kN (w.alloc (jj #[X J ap,O nm,U A (Z ts) z] 116)) [X J at_] 3).alloc (jj (j1 E) 244)).alloc (jj #[U Y 0 0] 54);rw[fY,hN]at h;exact h
 have TT:AF C (N+2) E 244:=by
  rw[<-EK];have h:=(kN ((w.alloc (jj #[X J ap,O nm,U A (Z ts) z] 116)).alloc (jj #[X J at_] 3)) E 244).alloc (jj #[U Y 0 0] 54);rw[fY,fY,hN]at h;exact h
 have M1:AF C (N+3) [U Y 0 0] 54:=by
  rw[<-EK];have h:=kN (((w.alloc (jj #[X J ap,O nm,U A (Z ts) z] 116)).alloc (jj #[X J at_] 3)).alloc (jj (j1 E) 244)) [U Y 0 0] 54;rw[fY,fY,fY,hN]at h;exact h
 have JJ:kt (W7 w N ap nm (U A (Z ts) z) E b ts at_ [] [N+3] C):=⟨R,RI,PT,TT,[],Y,0,M1,fK _ _ _ _,λi j h=>absurd h (by simp),λy=>by simp,by simp,by simp[kF]⟩;have N2:=Ab M1.lt;clear EK R RI PT TT M1 hN;refine F6 func174 rfl ?_;simp only[ntmps174,gS,fD,gh,Nat.reduceAdd,Nat.reduceSub,ju,jv,jG,jB,ia,iO];have MY:¬LetsOut (bodyPostM Fence.wide 0 prog Tryz.f174 λr G=>∃(ad:Option Addr) (cp:Nat) (m:kJ zA),r=j3 (U ad (Z m) cp)/\Cz Fe m/\We b ts at_ (u.filter (OQ nm)) m/\Z m<=Z u/\kw G w.heap.size 98 1 (U ad (Z m) cp) (Z m) (m.flatMap Ah)/\Ac [] w G):=Nm (λ_ ⟨_,_,_,h,_⟩=>by cases h);obtain⟨QQ,MN⟩:=kK (bodyPostM Fence.wide 0 prog Tryz.f174 λr G=>∃(ad:Option Addr) (cp:Nat) (m:kJ zA),r=j3 (U ad (Z m) cp)/\Cz Fe m/\We b ts at_ (u.filter (OQ nm)) m/\Z m<=Z u/\kw G w.heap.size 98 1 (U ad (Z m) cp) (Z m) (m.flatMap Ah)/\Ac [] w G);have a5:=Ab MN;rw[MN]at MY⊢;have cz:=Ab MY;clear MN MY;refine kI (λK1 AT=>?_);go_wp2;refine AT _ _ ?_;clear AT K1;refine kI (λK1 AT=>?_);go_wp2;refine AT _ _ ?_;clear AT K1;change Code.wp _ _ _ _ ((((w.alloc (jj #[X J ap,O nm,U A (Z ts) z] 116)).alloc (jj #[X J at_] 3)).alloc (jj (j1 E) 244)).alloc (jj #[U Y 0 0] 54));rw[Aa RV,Aa HN];clear RV;have LM:kt (∀g,Ac [] C g->ku g ⟨sp,0,Y⟩=V (j2 (V ⟨kb,ko,Y⟩))/\ku g ⟨N,1,Y⟩=V (O nm)):=λg n=>by
  have h1:=(HT.kept (JJ.kept.trans n)).zK.cell 0;have h2:=(JJ.b5.kept n).cell 1;simp at h1 h2;exact⟨h1,h2⟩
 have NB:kt (∀g,Calls prog 180 #[j2 (V ⟨kb,ko,Y⟩),O nm] g λr G=>∃S Q,r=j3 (.func (.func 184) #[] #[j2 (V ⟨S,0,Y⟩),j2 (V ⟨Q,0,Y⟩)])/\AF G S [j2 (V ⟨kb,ko,Y⟩)] 69/\AF G Q [O nm] 9/\g.heap.size<=S/\g.heap.size<=Q/\Ac [] g G):=λg=>XZ kb ko nm g
 obtain⟨s0,s1⟩:=LM C (kL _ _);refine kI (λK1 AT=>?_);refine kI (λK2 RE=>?_)
 go_region_held3 (λg=>Ac [] C g/\ku g ⟨sp,0,Y⟩=V (j2 (V ⟨kb,ko,Y⟩))/\ku g ⟨N,1,Y⟩=V (O nm)) ((go_split_ands;refine(fun(UO:Ac [] C _)=>And.intro UO (LM _ UO)) ?_;repeat (first|assumption|exact kL [] _|refine Ac.drew ?_|refine Ac.alloc ?_ _))) ((go_at_call 180;refine(NB _).mono ?_;rintro e w3 ⟨S,Q,rfl,WB,OH,KK,LB,k3⟩;have SB:Ac [] C w3:=(by go_split_ands;exact Ac.trans (by assumption) k3);have bs:=Ab WB;have ar:=Ab OH;have LL:=Ab SB;have bz:kt (C.heap.size<=S/\C.heap.size<=Q):=⟨KK,LB⟩;clear WB OH KK LB k3 SB))
 refine RE _ _ ?_;clear RE K2 s0 s1 NB LM;refine wp_block ?_;have LE:kt (W7 w N ap nm (U A (Z ts) z) E b ts at_ [] [N+3] w3):=Bz (W7.own (fJ _)) (s:=([],[N+3])) JJ LL;have b4:kt (S7 w Q nm [N+3] w3):=by
  have h1:=ar.cell 0;simp at h1;refine⟨LE.kept,h1,λk n=>?_⟩;have hn:=Aa HN;have h2:=bz.2;have h3:=Aa N2;have h4:=LL.size;simp only[ft]at n;omega
 have al:=Aa bt S Q [N+3] w3 (by have h:=bs.cell 0;simp at h;exact h) b4;have cL:N+4<=w3.heap.size:=by have h3:=Aa N2;have h4:=LL.size;omega
 refine Iq (T:=56) (q:=10) rfl (enters_of func184 (by kernel_rfl) rfl) al (λk n=>by simp only[ft]at n;omega) (W7 w N ap nm (U A (Z ts) z) E b ts at_) (λ_ _ _ _=>False) (W7.own (by have:=Aa HN;omega)) (λ_ _ _ _ _ h _ _=>h) LE ?assign ?body ?done ?stop
 case assign=>
  intro l x W H1 hx HK;have BA:=(fT.1 hx).1;obtain⟨⟨xn,xt⟩,xv⟩:=x;obtain⟨K8,FT,HD⟩:=Aj (HT.facts.each _ BA).1;simp only at HD;subst HD;simp only[AI]at HK⊢;clear hx BA;simp only[ff,fh,fi]at HK⊢;refine CM (by rfl) (J2 Is) ?_;go_wp2;refine HK _ ((kL [] W).alloc _) ?_;exact kN W [O xn,U K8 (Z xt) FT] 56
 case body=>
  intro l Bx NX x cy M W LS B hM c1 hB;have hx:x∈u.filter (OQ nm):=by rw[LS];simp
  have BA:=(fT.1 hx).1;have K5:=(fT.1 hx).2;have K6:=(HQ x BA K5).2;have HU:=Ab (S0 (N+2) x W BA K5 B.kept B.b7);have bd:kt (Dc W x):=(HT.facts.each x BA).1.kept B.kept;have ao:kt (Dc w x):=(HT.facts.each x BA).1;obtain⟨⟨xn,xt⟩,xv⟩:=x;obtain⟨K8,FT,HD⟩:=Aj bd;simp only at HD K6;subst HD;obtain⟨m,AB,AH,h9,H0,HW,HY,Os,K9⟩:=B.out;simp only[AI]at HU hB⊢;have d0:=B.b5.cell 0;have d1:=B.b5.cell 1;have d2:=B.b5.cell 2;have e0:=hB.cell 0;have e1:=hB.cell 1;simp at d0 d1 d2 e0 e1;have P:=Ab B;have NM:=Ab hB;have H9:=Ab h9;have HV:=Ab H0;have av:=Ab HW;have af:=Ab HY;have FL:=Ab K9;obtain⟨K4,hX⟩:∃K4:DF,K4=⟨⟨xn,xt⟩,U K8 (Z xt) FT⟩:=⟨_,rfl⟩;have H4:=Ab hX;rw[<-hX]at LS⊢;clear hx BA K5 B hB h9 H0 HW HY K9 hM hX;obtain⟨F,hF⟩:=kK (G4 b ts xt);rw[hF]at HU;have HF:=Ab hF;clear hF;simp only[ff,fh,fi];refine wpIn_block ?_;refine j5 (λK3 HC=>?_);have Go:=Ab HC;clear HC;refine CM (by rfl) (by rintro ⟨_,_,h⟩;exact h) ?_;go_wp2_with fail
  refine HU.mono ?_;rintro _ w4 ⟨rfl,k4⟩;have H:=Ab k4;clear k4 d0 d1 d2 e0 e1 HU;go_wp2;refine Go _ _ ?_;clear Go K3;cases F with
  |false=>
   refine wpIn_cond_false rfl (wpIn_skip ?_);refine⟨H.mono (by simp),M,?_,λk n=>⟨kn n,?_⟩⟩
   .have HA:=Bz (W7.own (N:=N) (ap:=ap) (nm:=nm) (tv:=U A (Z ts) z) (E:=E) (b:=b) (ts:=ts) (at_:=at_) (fJ w.heap.size)) (s:=(NX,M)) P H;obtain⟨m',FA,EY,g1,g2,g3,g4,g5,g6⟩:=HA.out;refine⟨HA.kept,HA.b5,HA.b6,HA.b7,m',FA,EY,g1,g2,g3,λy=>?_,by have:=g5;simp at this⊢;omega,g6⟩;rw[g4 y];constructor
    .rintro ⟨q,o,L⟩;exact⟨q,by simp[o],L⟩
    .rintro ⟨q,o,L⟩;rcases fA.1 o with o|o
     .exact⟨q,o,L⟩
     .simp only[ft]at o;subst o;rw[Aa H4]at L;rw[Aa HF]at L;cases L.1
   .rw[Aa FL]at n;have h4:=H.size;rcases fx.1 n with rfl|n
    .have:=H9.lt;omega
    .have:=(HV.lt k (by simpa using n)).2;omega
  |true=>
   refine wpIn_cond_true rfl ?_;have FF:=Am HV H;have SP:(U AB (Z m) AH).ownBlock≠V (N+3):=As FF (H9.kept H) (by decide);obtain⟨gx,cx,VR,H7⟩:=F1 ao at_ K6;simp only[fg]at VR;obtain⟨rfl,-,rfl⟩:=VR;obtain⟨CW,hY⟩:=kK (xt[at_]);rw[hY]at H7;have cv:=KV H7;have TV:kt (∀g,Ac (U AB (Z m) AH).ownBlock.toList w4 g->ku g ⟨N+3,0,Y⟩=V (U AB (Z m) AH)/\ku g ⟨Bx,1,Y⟩=V (U (V ⟨gx,0,Y⟩) (Z xt) FT)/\ku g ⟨N+1,0,Y⟩=V (X J at_)/\ku g ⟨gx,at_,Y⟩=V (O CW)):=by
    intro g hz;have a1:=((H9.kept H).kept hz (λI=>SP (by simpa using I))).cell 0;have a2:=((NM.kept H).kept hz (λI=>As FF (NM.kept H) (by decide) (by simpa using I))).cell 1;have a3:=((P.b6.kept H).kept hz (λI=>As FF (P.b6.kept H) (by decide) (by simpa using I))).cell 0;have a4:=JT hz (H.cellAt (P.kept.cellAt H7)) (λI=>by have:=(FF.lt gx (by simpa using I)).1;have:=Aa HN;omega);simp at a1 a2 a3;exact⟨a1,a2,a3,a4⟩
   have FP:=Ab (TV w4.drew (kL _ _).drew);(have co:(0:Int)<=(at_:Int):=by omega);(have ch:(at_:Int)<(Z xt:Int):=by omega);have ca:=Ab (UJ AB AH m CW N w4.drew FF.drew (by have h1:=congrArg List.length LS;have h2:=ib (OQ nm) u;simp at h1;omega) av (by have:=P.kept.size;have:=H.size;have:=Aa HN;show N<=w4.heap.size;omega));have S1:kt (xt.getD at_ kB=CW):=by
    show _=_;rw[fG,fI K6,hY];rfl
   clear hY H7 FF;refine Dp 7 (λg=>ku g ⟨N+3,0,Y⟩=V (U AB (Z m) AH)/\ku g ⟨Bx,1,Y⟩=V (U (V ⟨gx,0,Y⟩) (Z xt) FT)/\ku g ⟨N+1,0,Y⟩=V (X J at_)/\ku g ⟨gx,at_,Y⟩=V (O CW)) (by kernel_rfl) (by rfl) (by rintro ⟨_,_,h⟩;exact h) ?_;refine Ci.tq (i:=0) (v:=U AB (Z m) AH) rfl (λ_ _ _ h=>h) FP ?_;simp only[kG,ff,fh,fi];refine Ci.tq (i:=1) (v:=j2 (V ⟨Bx,1,Y⟩)) rfl (λ_ _ _ h=>h) FP ?_;simp only[kG,ff,fh,fi];refine Ci.tq (i:=2) (v:=U (V ⟨gx,0,Y⟩) (Z xt) FT) rfl (λ_ _ _ h=>h) FP ?_;simp only[kG,ff,fh,fi];refine Ci.tq (i:=3) (v:=X J at_) rfl (λ_ _ _ h=>h) FP ?_;simp only[kG,ff,fh,fi];refine Ci.tq (i:=4) (v:=j2 (V ⟨gx,at_,Y⟩)) rfl (λ_ _ _ h=>h) FP ?_;simp only[kG,ff,fh,fi];refine Ci.tq (i:=5) (v:=O CW) rfl (λ_ _ _ h=>h) FP ?_;simp only[kG,ff,fh,fi];refine Ci.one (i:=6) (by kernel_rfl) rfl (λH1 hK=>?_)
   go_simp
   refine ca.mono ?_;rintro e w5 ⟨m',FA,EY,rfl,WW,a6,KK,LB,HE,ba,b0⟩;have H2:Ac (U AB (Z m) AH).ownBlock.toList w4 w5:=(kL _ _).drew.trans ba;refine hK.out _ _ (λ_=>TV w5 H2) ?_;clear hK H1
   try simp only[kG,ff,fh,fi]
   have HH:AF w5 (N+3) [U AB (Z m) AH] 54:=(H9.kept H).kept H2 (λI=>SP (by simpa using I));have c9:=HH.cell 0;have f9:=HH.frozen 0;simp at c9;refine Ci.one (i:=7) (by kernel_rfl) rfl (λH1 hK=>?_)
   go_simp
   refine hK.out _ _ (λh=>absurd rfl h) ?_;clear hK H1;refine Ci.done (by kernel_rfl) ?_ _;have ag:(U FA (Z m') EY).ownBlock≠V (N+3):=As HE HH (by decide);have HJ:Ac M W (w5.setCell ⟨N+3,0,Y⟩ (U FA (Z m') EY)):=by
    rw[Aa FL];exact((H.mono (by simp)).trans (H2.mono (λi B=>gu _ B))).setCell (p:=⟨N+3,0,Y⟩) (kn (gJ ..)) _
   have b3:∀k∈M,N<=k:=by
    intro k n;rw[Aa FL]at n;rcases fx.1 n with rfl|n
    .omega
    .exact(HV.lt k (by simpa using n)).1
   have LD:∀{bb:Nat} {cs:kJ ks} {t:TypeId},AF W bb cs t->bb≠N+3->98≠t->bb∉M:=by
    intro bb cs t XS WS ZV I;rw[Aa FL]at I;rcases fx.1 I with rfl|I
    .exact WS rfl
    .exact As HV XS ZV (by simpa using I)
   refine⟨HJ,(N+3)::(U FA (Z m') EY).ownBlock.toList,⟨P.kept.trans' HJ (λk n=>kp (by have:=b3 k n;have:=Aa HN;omega)),P.b5.kept HJ (LD P.b5 (by omega) (by decide)),P.b6.kept HJ (LD P.b6 (by omega) (by decide)),P.b7.kept HJ (LD P.b7 (by omega) (by decide)),m',FA,EY,HH.set 0 _,Af HE ag _,WW,λy=>?_,by simp;omega,rfl⟩,λk n=>?_⟩
   .rw[a6 y,Aa af y];constructor
    .rintro (rfl|⟨q,o,L⟩)
     .exact⟨K4,by simp,by rw[Aa H4];exact HF,by rw[Aa H4];exact S1.symm⟩
     .exact⟨q,by simp[o],L⟩
    .rintro ⟨q,o,L⟩;rcases fA.1 o with o|o
     .exact kp ⟨q,o,L⟩
     .simp only[ft]at o;subst o;rw[Aa H4]at L;exact kn (L.2.trans S1)
   .have h6:=H2.size;have h4:=H.size;rcases fx.1 n with rfl|n
    .exact⟨kn (by rw[Aa FL];exact gJ ..),by have:=HH.lt;simp;omega⟩
    ·(have NA:(U FA (Z m') EY).ownBlock=V k:=by simpa using n);refine⟨?_,by have:=(HE.lt k NA).2;simp;omega⟩;rcases b0 k NA with h|h
     .exact kn (by rw[Aa FL];exact gu _ (by rw[h];simp))
     .exact kp (by have h2:w4.heap.size<=k:=h;omega)
 case done=>
  intro D M' W hD B hd _;obtain⟨m,AB,AH,h9,H0,HW,HY,Os,K9⟩:=B.out;have c9:=h9.cell 0;simp at c9;refine AT _ _ ?_;clear AT;simp only[ia];refine kI (λK3 Go=>?_);go_wp2;refine Go _ _ ?_;clear Go K3;refine wp_ret ?_;rw[<-Aa a5];have HE:OwnFrom w.heap.size (fun(_:Unit) W=>kw W N 98 1 (U AB (Z m) AH) (Z m) (m.flatMap Ah)/\Ac [] w W):=Cm (λ_ W W' M h k hM=>⟨Am h.1 k (Df hM h.1),E9 h.2 k hM (fJ _)⟩);have Op:Ea w.heap.size [D] W:=⟨by simp,λd HR=>by simp only[ft]at HR;have:=LE.kept.size;omega,λd HR=>by simp only[ft]at HR;rw[HR];exact hd⟩;refine Eg [D] W Op (λG hs=>?_);obtain⟨g1,g2⟩:=hs.own HE (s:=()) Op ⟨H0,B.kept⟩;refine⟨_,results_tmp rfl _ _ _,AB,AH,m,rfl,HW,HY,gQ Os (ib _ _),?_,g2⟩;rw[Aa HN];exact g1
 case stop=>
  intro D c NX M' W _ h _;exact h.elim
structure De(e:kJ zA):Prop where
 len:Z e=26
 each:∀x∈e,QM x
def De.start:De BM:=⟨by simp[BM],λx a=>kn (by rw[(List.mem_replicate.1 a).2];rfl)⟩
def De.set{e:kJ zA}(h:De e)(j:Nat){x:zA}(c:A1 x):De (e.set j x):=⟨by simp[h.len],λy b=>by
 rcases List.mem_or_eq_of_mem_set b with a|rfl
 .exact h.each y a
 .exact kp c⟩
def G9(h:De e):Z (Bt e)=26:=by unfold Bt;rw[fH,h.len]
def ID(h:A1 s):Dx s=AA s:=by
 have a:=h.size;unfold Dx AA;rw[fB a];cases hn:Hx s with
 |false=>simp
 |true=>
  simp only[if_true];rcases h with⟨c,r,e,b,_⟩|h
  .unfold Hx at hn;rw[e,EL]at hn;have:=j6 hn;omega
  .rw[fF h]
def Hb{t:AG}(h:CS t)(e:kJ zA):Bq (Bt e) (ct t)=Uf (AJ e t):=by
 have f:(ct t).v.toNat=t.v.toNat:=by unfold ct;simp
 unfold Bq dy;rw[f];rcases h with⟨a,c⟩|⟨b,g,_⟩
 .rw[a,fF (show(0:UInt8).toNat=0 from rfl)]
  unfold AJ;rw[fF a,CK c];exact ID c
 .have a:t.v≠0:=λd=>by rw[d]at b;exact absurd b (by decide)
  rw[fB (by omega),<-DU];unfold Pu;rw[fB a]
def De.val(b:De e){t:AG}(h:CS t):QM (AJ e t):=by
 unfold AJ;split
 .rename_i d;rcases h with⟨_,c⟩|⟨a,_⟩
  .exact kp c
  .rw[d]at a;exact absurd a (by decide)
 .rw[fG];cases hg:e[t.v.toNat-65]? with
  |none=>exact kn rfl
  |some x=>exact b.each x (List.mem_of_getElem? hg)
def TQ(f:De e){b:kJ AG}(h:∀t∈b,CS t):Gn (Bt e) (b.map ct)=DS e b:=by
 rw[<-LZ b (λt a=>f.val (h t a))];unfold Gn Qf;rw[List.all_map,gU,ik,ik];have d:∀t∈b,((λt=> !SX (Bq (Bt e) t))∘ct) t= !SX (Pu (Bt e) t):=λt a=>by
  simp only[Function.comp];rw[Hb (h t a),DU]
 exact⟨λc t a=>by rw[<-d t a];exact c t a,λc t a=>by rw[d t a];exact c t a⟩
def Vs(x:BH):AX (L1 x)=(BQ x).map ct:=by
 unfold AX BQ;rw[Mz];split<;>simp[L1]
def DN.zQ{x:BH}(h:DN x):∀t∈BQ x,CS t:=by
 intro t a;unfold DN at h;unfold BQ at a;split at h
 .rename_i b;rw[fF b]at a;exact h.args t a
 .rename_i b;rw[fB b]at a;rcases fx.1 a with rfl|a
  .exact h.1
  .rw[ft]at a;subst a;exact h.2.1
def QU(d:De e){a:kJ AG}(h:∀t∈a,CS t)(f:DS e a=hG):∀t∈a,A1 (AJ e t):=by
 intro t c;rcases d.val (h t c)with h1|h1
 .have b:=ik.1 f t c;rw[(DQ _).2 h1]at b;cases b
 .exact h1
def U5{x:BH}(h:∀t∈x.A.args,CS t)(b:∀t∈x.A.args,A1 (AJ e t)):ES (Bt e) (L1 x)=Bn (Av e x.A):=by
 unfold ES Bn Av L1;simp only;rw[gR,gR]
 congr 1
 refine gN (λt a=>?_);simp only[Function.comp];rw[Hb (h t a),CK (b t a)]
def Gc{A:C8}(a:∀t∈A.args,A1 (AJ e t)):AQ (Av e A):=by
 intro y b;obtain⟨t,c,rfl⟩:=fC.1 b;exact a t c
def VS{u:kJ DF}{x:BH}(v:CG u f)(F:De e)(E:DN x)(D:DS e (BQ x)=hG)(h:Jy u (Bt e) (L1 x) B):B=B7 (Av e) (AJ e) f x:=by
 have c:=E.zQ;have b:=QU F c D;have G:(L1 x).sort=Fr x.kind:=rfl;unfold Jy at h;unfold B7;rw[G]at h;by_cases g:x.kind=97
 .have a:Fr x.kind=0:=by rw[g];rfl
  have d:BQ x=x.A.args:=by unfold BQ;rw[g];rfl
  rw[d]at c b;rw[fF a,U5 c b]at h;rw[fF (by rw[g];rfl)];obtain⟨p,n,rfl⟩:=h;exact v.zh (Gc b) n
 .have t:¬(x.kind==97)=hG:=by simpa using g
  rw[fB t];by_cases i:x.kind=33
  ·(have a:Fr x.kind=1:=by rw[i];rfl);(have d:BQ x=x.A.args:=by unfold BQ;rw[i];rfl);rw[d]at c b;rw[a,fB (by decide),fF rfl,U5 c b]at h;rw[fF (by rw[i];rfl)];obtain⟨p,n,rfl⟩:=h;rw[v.zh (Gc b) n]
  ·(have q:¬(x.kind==33)=hG:=by simpa using i);(have d:BQ x=[x.L,x.R]:=by unfold BQ;rw[fB (by rw[ie,not_or];exact⟨t,q⟩)]);rw[d]at c b;have m:=b x.L (by simp);have o:=b x.R (by simp);have w:Bq (Bt e) (L1 x).l=Pu (Bt e) x.L:=(Hb (c x.L (by simp)) e).trans (DU e x.L).symm;have z:Bq (Bt e) (L1 x).r=Pu (Bt e) x.R:=(Hb (c x.R (by simp)) e).trans (DU e x.R).symm;rw[w,z]at h;rw[fB q];by_cases j:x.kind=61
   ·(have a:Fr x.kind=2:=by rw[j];rfl);rw[a,fB (by decide),fB (by decide),fF rfl,UE m o]at h;rw[fF (by rw[j];rfl)];exact h
   ·(have C:¬(x.kind==61)=hG:=by simpa using j);rw[fB C];by_cases k:x.kind=35
    ·(have a:Fr x.kind=3:=by rw[k];rfl);rw[a,fB (by decide),fB (by decide),fB (by decide),fF rfl,UE m o]at h;rw[fF (by rw[k];rfl)];exact h
    ·(have y:¬(x.kind==35)=hG:=by simpa using k);(have a:Fr x.kind=4:=by unfold Fr;rw[fB g,fB i,fB j,fB k]);rw[a,fB (by decide),fB (by decide),fB (by decide),fB (by decide),ZI m o]at h;rw[fB y];exact h
def U6{d:kJ DF}{s:kJ Ag}{e:kJ zA}(f:CG d s)(c:De e):∀(a:kJ BH),(∀x∈a,DN x)->∀B,Fa d (Bt e) (a.map L1) B->B=Ef a s e
 |[],_,B,h=>h
 |x::a,hb,B,h=>by
  have ih:=U6 f c a (λy j=>hb y (by simp[j]));have g:=hb x (by simp);rw[fS,Fa,Vs,TQ c g.zQ]at h;have i:Ef (x::a) s e=((DS e (BQ x)&& !B7 (Av e) (AJ e) s x)||Ef a s e):=by
   unfold Ef;rw[jr]
  rw[i];cases hset:DS e (BQ x)with
  |false=>
   rw[hset,fB (by simp)]at h;rw[jd,iZ];exact ih B h
  |true=>
   rw[hset,fF rfl]at h;obtain⟨H,k,b⟩:=h;have l:=VS f c g hset k;rw[<-l,ii];cases H with
   |true=>
    rw[fF rfl]at b;rw[i6,iZ];exact ih B b
   |false=>
    rw[fB (by simp)]at b;rw[b];rfl
def U0(g:De e):∀(a:kJ AG) (b:kJ zA),(∀t∈a,CS t)->(∀x∈b,A1 x)->G4 (Bt e) (a.map ct) (b.map AA)=P3 e a b:=by
 intro a b c f;rw[<-Si a b (λt h=>g.val (c t h)) f];clear f;generalize b.map AA=ys
 induction a generalizing ys with
 |nil=>cases ys<;>simp[G4,QZ]
 |cons t a ih=>
  cases ys with
  |nil=>simp[G4,QZ]
  |cons y ys=>
   have d:=ih (λu i=>c u (by simp[i])) ys;unfold QZ at d⊢;rw[fS,G4,d,jU,js,Hb (c t (by simp)),DU]
def eU(s:kJ Ag)(A:C8)(i:Nat)(e:kJ zA)(m:kJ zA):Prop:=∀y,y∈m↔∃t∈Gm s A i e,y=AA t
def Yf{o:kJ DF}{s:kJ Ag}{A:C8}{m:kJ zA}(c:CG o s)(u:De e)(x:∀t∈A.args,CS t)(w:∀f∈s,f.name=A.name->i<Z f.args)(h:We (Bt e) (A.args.map ct) i (o.filter (OQ A.name)) m):eU s A i e m:=by
 intro y;rw[h y];unfold Gm;constructor
 .rintro ⟨q,l,b,rfl⟩;obtain⟨z,p⟩:=fT.1 l;have j:q.f∈s.map Bn:=by rw[<-c.same];exact fW z
  obtain⟨g,a,r⟩:=fC.1 j;have v:g.name.toList==A.name.toList:=by
   (have B:q.f.name=g.name:=by rw[<-r];rfl);unfold OQ at p;rw[B]at p;exact p
  have k:=w g a (toList_inj (by simpa using v));rw[<-r]at b⊢;unfold Bn at b⊢;simp only at b⊢;rw[U0 u _ _ x (c.canon g a)]at b;refine⟨g.args.getD i kB,fC.2 ⟨g,fT.2 ⟨a,by rw[v,b];rfl⟩,rfl⟩,?_⟩;rw[fG,fG,io,fI k];rfl
 .rintro ⟨t,C,rfl⟩;obtain⟨g,a,rfl⟩:=fC.1 C;obtain⟨a,d⟩:=fT.1 a;rw[fU]at d;have k:=w g a (toList_inj (by simpa using d.1));have j:Bn g∈o.map DF.f:=by rw[c.same];exact fW a
  obtain⟨q,l,n⟩:=fC.1 j;refine⟨q,fT.2 ⟨l,?_⟩,?_,?_⟩
  .unfold OQ;rw[n];exact d.1
  .rw[n];unfold Bn;simp only;rw[U0 u _ _ x (c.canon g a)];exact d.2
  .rw[n];unfold Bn;simp only;rw[fG,fG,io,fI k];rfl
def eW(a b:zA):Prop:=Fe (AA a) (AA b)=hG
def U4(x:zA):kJ zA->kJ zA
 |[]=>[x]
 |y::l=>if Fe (AA x) (AA y)then x::y::l else if x.toList==y.toList then y::l else y::U4 x l
def cV(e:A1 s)(f:A1 t)(d:Fe (AA s) (AA t)=K)(c:Fe (AA t) (AA s)=K):s=t:=by
 refine EW e f ?_;cases he:dn (AA s) (AA t)with
 |true=>exact(Gp.eqv _ _).1 he
 |false=>rw[Gp.tot _ _ d he]at c;cases c
def Ql(x:zA):∀(l:kJ zA) (y:zA),y∈U4 x l↔y=x\/y∈l
 |[],y=>by simp[U4]
 |z::l,y=>by
  rw[U4];split
  .simp
  .split
   .rename_i a;have e:x=z:=toList_inj (by simpa using a);rw[e];simp
   .rw[fx,Ql x l,fx];constructor<;>(rintro (h|h|h)<;>simp[h])
def RZ{x:zA}(d:A1 x):∀(l:kJ zA),(∀y∈l,A1 y)->l.Pairwise eW->(U4 x l).Pairwise eW
 |[],_,_=>by simp[U4]
 |z::l,hc,hp=>by
  obtain⟨c,f⟩:=ir.1 hp;rw[U4];split
  .rename_i b;refine ir.2 ⟨λy a=>?_,hp⟩;rcases fx.1 a with rfl|a
   .exact b
   .exact Gp.trans _ _ _ b (c y a)
  .rename_i g;split
   .exact hp
   .rename_i e;refine ir.2 ⟨λy a=>?_,RZ d l (λy a=>hc y (by simp[a])) f⟩;rcases(Ql x l y).1 a with rfl|a
    .cases hg:Fe (AA z) (AA y)with
     |true=>exact hg
     |false=>exact absurd (by rw[cV d (hc z (by simp)) (by simpa using g) hg];simp) e
    .exact c y a
def MI(body:kJ BH)(s:kJ Ag)(v:UInt8)(e:kJ zA)(t:zA):Prop:=CT body s v e≠[]/\∀l∈CT body s v e,t∈l
def fb(body:kJ BH)(s:kJ Ag)(v:UInt8)(e:kJ zA):kJ zA:=match CT body s v e with
 |[]=>[]
 |l::ls=>l.filter λt=>ls.all λm=>m.any λx=>x.toList==t.toList
def Kv(body:kJ BH)(s:kJ Ag)(v:UInt8)(e:kJ zA):kJ zA:=(fb body s v e).foldr U4 []
def P6:∀(l:kJ zA) (y:zA),y∈l.foldr U4 []↔y∈l
 |[],y=>Iff.rfl
 |x::l,y=>by rw[List.foldr_cons,Ql,P6 l,fx]
def RS:∀(l:kJ zA),(∀y∈l,A1 y)->(l.foldr U4 []).Pairwise eW
 |[],_=>List.Pairwise.nil
 |x::l,h=>RZ (h x (by simp)) _ (λy a=>h y (by simp[(P6 l y).1 a])) (RS l λy a=>h y (by simp[a]))
def W4(c:kJ BH)(s:kJ Ag)(v:UInt8)(e:kJ zA)(t:zA):t∈fb c s v e↔MI c s v e t:=by
 unfold fb MI;cases CT c s v e with
 |nil=>simp
 |cons l ls=>
  rw[fT,ik];have a:∀m:kJ zA,(m.any λx=>x.toList==t.toList)=hG↔t∈m:=λm=>by
   rw[gV];constructor
   .rintro ⟨x,f,e⟩;rw[<-toList_inj (by simpa using e:x.toList=t.toList)];exact f
   .exact λh=>⟨t,h,by simp⟩
  simp only[a];constructor
  .rintro ⟨d,b⟩;refine⟨by simp,λm a=>?_⟩;rcases fx.1 a with rfl|a
   .exact d
   .exact b m a
  .rintro ⟨_,b⟩;exact⟨b l (by simp),λm a=>b m (by simp[a])⟩
def Hd(a:kJ BH)(s:kJ Ag):OF (Kv a s) a s:=λv e t=>(P6 _ t).trans (W4 a s v e t)
def Ud{a:kJ BH}(h:∀t,MI a f g e t->A1 t):(Kv a f g e).Pairwise eW:=RS _ λt b=>h t ((W4 a f g e t).1 b)
def Ec(fs:kJ DF)(b:kJ zA)(v:Int):kJ PL->kJ (kJ zA)->Prop
 |[],r=>r=[]
 |x::l,r=>if x.sort=0 then∃n,Q7 x.ts ⟨v,kB⟩ n/\(if n<0 then Ec fs b v l r else∃m r',r=m::r'/\We b x.ts n.toNat (fs.filter (OQ x.an)) m/\Ec fs b v l r')else Ec fs b v l r
def dH{a:kJ AG}(h:∀t∈a,CS t)(f:Gg g)(z:Q7 (a.map ct) ⟨(g.toNat:Int),kB⟩ I):(I<0/\a.findIdx? (λt=>t.v==g)=Y)\/(0<=I/\a.findIdx? (λt=>t.v==g)=V I.toNat):=by
 have c:∀t∈a,IC ⟨(g.toNat:Int),kB⟩ (ct t)=(t.v==g):=by
  intro t b;unfold IC;have r:((g.toNat:Int)==(ct t).v)=(t.v==g):=by
   rw[<-du t g,gU];simp only[iF];exact⟨λh=>h.symm,λh=>h.symm⟩
  simp only[r];cases hb:(t.v==g)with
  |false=>rfl
  |true=>
   (have p:t.v=g:=by simpa using hb);rcases h t b with⟨l,_⟩|⟨_,_,x⟩
   .rw[p]at l;rw[l]at f;exact absurd f.1 (by decide)
   .have y:(ct t).s=kB:=by
     unfold ct;simp only;rw[x];rfl
    rw[y,ii];simp
 rcases z with⟨rfl,o⟩|⟨k,q,rfl,d,w⟩
 .left;refine⟨by decide,List.findIdx?_eq_none_iff.2 (λt b=>?_)⟩;rw[<-c t b];exact o _ (fW b)
 .right;have e:k<Z a:=by simpa using q
  refine⟨by omega,?_⟩;rw[show((k:Nat):Int).toNat=k by omega];refine iE.2 ⟨e,?_,λj u=>?_⟩
  .rw[<-c _ (fj e)];rw[List.getElem_map]at d;exact d
  ·(have m:j<Z a:=by omega);have i:=w j (by simpa using m) u;rw[List.getElem_map,c _ (fj m)]at i;simpa using i
def Zr(s:kJ Ag)(body:kJ BH):Prop:=∀f∈s,∀x∈body,(x.kind==97)=hG->f.name=x.A.name->Z f.args=Z x.A.args
def XE{F:kJ DF}{s:kJ Ag}{e:kJ zA}(u:CG F s)(G:De e){v:UInt8}(H:Gg v):∀(a:kJ BH),(∀x∈a,DN x)->Zr s a->∀r,Ec F (Bt e) (v.toNat:Int) (a.map L1) r->F2 (λm l=>∀y,y∈m↔∃t∈l,y=AA t) r (CT a s v e)/\∀l∈CT a s v e,∀t∈l,A1 t
 |[],_,_,r,h=>by
  have h:r=[]:=h;subst h;exact⟨F2.nil,λl d=>by simp[CT]at d⟩
 |x::a,hb,hf,r,h=>by
  have ih:=XE u G H a (λy q=>hb y (by simp[q])) (λf T y q=>hf f T y (by simp[q]));have hx:=hb x (by simp);rw[fS,Ec]at h;have AR:(L1 x).sort=Fr x.kind:=rfl;rw[AR]at h;have e1:CT (x::a) s v e=match(if x.kind==97 then(x.A.args.findIdx? λt=>t.v==v).map λi=>Gm s x.A i e else Y)with|some c=>c::CT a s v e|none=>CT a s v e:=by
   unfold CT;rw[jN];generalize(if(x.kind==97)=hG then(x.A.args.findIdx? λt=>t.v==v).map λi=>Gm s x.A i e else Y)=o;cases o<;>rfl
  rw[e1];by_cases b:(x.kind==97)=hG
  ·(have p:x.kind=97:=by simpa using b);(have k:Fr x.kind=0:=by rw[p];rfl);have E:∀t∈x.A.args,CS t:=by
    have:=hx.zQ;unfold BQ at this;rw[b,jp,fF rfl]at this;exact this
   rw[fF k]at h;obtain⟨n,w,h⟩:=h;rw[fF b];rcases dH E H w with⟨AT,S⟩|⟨Bx,z⟩
   .rw[fF AT]at h;rw[S];exact ih r h
   .rw[fB (by omega)]at h;obtain⟨m,N,rfl,R,P⟩:=h;rw[z];simp only[im];obtain⟨i1,Q⟩:=ih N P;obtain⟨M,_,_⟩:=iE.1 z;have C:∀f∈s,f.name=x.A.name->n.toNat<Z f.args:=λf L w=>by
     rw[hf f L x (by simp) b w];exact M
    refine⟨F2.cons (Yf u G E C R) i1,λl d=>?_⟩;rcases fx.1 d with rfl|d
    .intro t B;unfold Gm at B;obtain⟨g,j,rfl⟩:=fC.1 B;obtain⟨j,D⟩:=fT.1 j;rw[fU]at D;have I:=C g j (toList_inj (by simpa using D.1));rw[fG,fI I];exact u.canon g j _ (fj I)
    .exact Q l d
  ·(have p:x.kind≠97:=by simpa using b);have k:Fr x.kind≠0:=by
    intro W;have:=Q1 x.kind;rw[W]at this;exact p (by simpa using this)
   rw[fB k]at h;rw[fB b];exact ih r h
def ZX{r a:kJ (kJ zA)}(h:F2 (λm l=>∀y,y∈m↔∃t∈l,y=AA t) r a)(i:∀l∈a,∀t∈l,A1 t)(y:zA):(r≠[]/\Ju r y)↔∃t,(a≠[]/\∀l∈a,t∈l)/\y=AA t:=by
 cases r with
 |nil=>
  cases a with
  |nil=>simp
  |cons l a=>exact absurd h (by simp[F2])
 |cons m r=>
  cases a with
  |nil=>exact absurd h (by simp[F2])
  |cons l a=>
   have j:=h.mem;have p:=h.zo;constructor
   .rintro ⟨_,c⟩;obtain⟨t,n,f⟩:=(h.1 y).1 (c m (by simp));refine⟨t,⟨by simp,λk b=>?_⟩,f⟩;obtain⟨q,d,e⟩:=j k b;obtain⟨u,g,o⟩:=(e y).1 (c q d);have:u=t:=EW (i k b u g) (i l (by simp) t n) (by rw[<-o,f]);rw[<-this];exact g
   .rintro ⟨t,⟨_,c⟩,rfl⟩;refine⟨by simp,λq d=>?_⟩;obtain⟨k,b,e⟩:=p q d;exact(e _).2 ⟨t,c k b,rfl⟩
def V7{p:kJ DF}(E:CG p f)(A:De e)(B:Gg g){d:kJ BH}(D:∀x∈d,DN x)(r:Zr f d){i:kJ UI}(q:Ec p (Bt e) (g.toNat:Int) (d.map L1) (i.map kE)){m:kJ zA}(k:Jv i m):m=(Kv d f g e).map AA/\∀t∈Kv d f g e,A1 t:=by
 obtain⟨C,o⟩:=XE E A B d D r _ q;have n:∀t,MI d f g e t->A1 t:=by
  rintro t ⟨z,u⟩;cases hl:CT d f g e with
  |nil=>exact absurd hl z
  |cons l ls=>exact o l (by rw[hl];simp) t (u l (by rw[hl];simp))
 refine⟨?_,λt j=>n t ((Hd d f g e t).1 j)⟩;refine Jd (lt:=λa b=>Fe a b=hG) (λa h=>by rw[Gp.irr]at h;cases h) (λa b c=>Gp.trans a b c) _ _ k.zH ?_ (λy=>?_)
 .rw[iQ];exact Ud n
 .rw[k.mem y];have w:(i≠[]/\Ju (i.map kE) y)↔(i.map kE≠[]/\Ju (i.map kE) y):=by
   rw[ne_eq,ne_eq,List.map_eq_nil_iff]
  rw[w,ZX C o,fC];constructor
  .rintro ⟨t,j,rfl⟩;exact⟨t,(Hd d f g e t).2 j,rfl⟩
  .rintro ⟨t,j,rfl⟩;exact⟨t,(Hd d f g e t).1 j,rfl⟩
def KI{c:UInt8->kJ zA->kJ zA}{o:kJ BH}{s:kJ Ag}(j:∀v e,(c v e).Nodup)(d:∀v e,∀t∈c v e,t.size≠0):
  ∀(a:kJ UInt8) (e:kJ zA),Z e=26->a.Nodup->(∀v∈a,Gg v)->(AE c o s a e).Nodup
 |[],e,_,_,_=>by
  rw[AE];split<;>simp
 |v::a,e,he,hd,hv=>by
  rw[AE];obtain⟨g,k⟩:=iv.1 hd;have f:=hv v (by simp);have b:∀u∈a,Gg u:=λu p=>hv u (by simp[p])
  split
  .simp
  .unfold List.Nodup;rw[List.pairwise_flatMap];refine⟨λt _=>KI j d a _ (by simp[he]) k b,?_⟩;refine List.Pairwise.imp ?_ (j v e);intro t u m x q y n l;subst l;have i:=(B4 d a _ x (by simp[he]) b q).2.2.1 v f g;have h:=(B4 d a _ x (by simp[he]) b n).2.2.1 v f g;rw[Mu he f]at i h;exact m (by rw[<-i,h])
def cq{a b:kJ zA}(g:Z a=26)(j:Z b=26)(h:∀u,Gg u->bg a u=bg b u):a=b:=by
 refine List.ext_getElem (by omega) (λi f e=>?_);have c:(UInt8.ofNat (i+65)).toNat=i+65:=by
  rw[UInt8.toNat_ofNat'];omega
 have d:=h (UInt8.ofNat (i+65)) ⟨by rw[c];omega,by rw[c];omega⟩;unfold bg at d;rw[c,Nat.add_sub_cancel,fG,fG,fI f,fI e]at d;exact d
def XY{j:UInt8->kJ zA->kJ zA}{c:AY}{d p:kJ UInt8}(C:∀v e,(j v e).Nodup)(l:∀v e,∀t∈j v e,t.size≠0)(A:QX c d p)(r:d.Nodup)(B:∀v∈d,∃t∈c.head.args,t.v=v):(QE j c d p f).Nodup:=by
 have i:∀v∈d,Gg v:=λv h=>(A.ok v (kn h)).1
 unfold QE List.Nodup;rw[iQ];refine iG ?_ ((KI C l d BM rfl r i).filter _);intro a b E y w D;have m:=B4 l d BM a rfl i (fT.1 E).1;have q:=B4 l d BM b rfl i (fT.1 y).1;refine w (cq m.1 q.1 (λu g=>?_));by_cases k:u∈d
 .obtain⟨t,x,rfl⟩:=B u k;have o:t.v≠0:=λh=>by rw[h]at g;exact absurd g.1 (by decide)
  have z:c.head.args.map (AJ a)=c.head.args.map (AJ b):=congrArg Ag.args D;have n:=List.map_inj_left.1 z t x;rw[Gt o,Gt o]at n;exact n
 .rw[m.2.2.1 u g k,q.2.2.1 u g k]
def UN:∀(l:kJ Ag) (s:kJ Ag),D5 s->(∀f∈s,AQ f)->l.Nodup->(∀f∈l,f∉s/\AQ f)->Z (l.foldl Ba s)=Z s+Z l
 |[],s,_,_,_,_=>by simp
 |f::l,s,hr,hc,hn,h=>by
  obtain⟨n,k⟩:=iv.1 hn;obtain⟨j,e⟩:=h f (by simp);obtain⟨a,b,m⟩:=C0 e hr hc;rw[fZ,UN l (Ba s f) a b k (λg c=>⟨λi=>?_,(h g (by simp[c])).2⟩),(J8 s f).2 j,fD]
  .omega
  .rcases(m g).1 i with d|d
   .exact(h g (by simp[c])).1 d
   .rw[d]at c;exact n c
def Ni{b:kJ BH}{s:kJ Ag}(q:∀f∈s,AQ f)(n:Zr s b):∀v e t,MI b s v e t->A1 t:=by
 rintro v e t ⟨p,o⟩;cases hl:CT b s v e with
 |nil=>exact absurd hl p
 |cons l ls=>
  have g:=o l (by rw[hl];simp);have k:l∈CT b s v e:=by rw[hl];simp
  unfold CT at k;obtain⟨x,u,a⟩:=ig.1 k;by_cases c:(x.kind==97)=hG
  .rw[fF c,jm]at a;obtain⟨i,r,rfl⟩:=a;obtain⟨w,_,_⟩:=iE.1 r;unfold Gm at g;obtain⟨f,m,rfl⟩:=fC.1 g;obtain⟨j,d⟩:=fT.1 m;rw[fU]at d;have y:=n f j x u c (toList_inj (by simpa using d.1));(have h:i<Z f.args:=by omega);rw[fG,fI h];exact q f j _ (fj h)
  .rw[fB c]at a;cases a
def Rz{c:kJ BH}{s:kJ Ag}(g:∀f∈s,AQ f)(i:Zr s c)(v:UInt8)(e:kJ zA):(Kv c s v e).Nodup:=by
 refine List.Pairwise.imp ?_ (Ud (Ni g i v e));intro a b h d;subst d;unfold eW at h;rw[Gp.irr]at h;cases h
theorem Tryz.info54:(Tryz.prog.info? 54).map (λi=>(i.zero,i.size,i.bytes))=V (V (U Y 0 0),1,24):=by kernel_rfl
def Rv{p:UI}(h:kw w 0 98 1 p.2 (Z p.1) (p.1.flatMap Ah))(b:kw w m 54 1 z n y)(a:w.grownBy u z.ownBlock):kw u 0 98 1 p.2 (Z p.1) (p.1.flatMap Ah):=
 gY h a (by
  cases hp:p.2.ownBlock with
  |none=>exact kn rfl
  |some q=>exact kp (λe=>Bg h b (by decide) q hp e.symm))
theorem Tz(sp kb ko:Nat)(LE:Option Addr)(H8:Nat)(e:kJ OR)(ov:ks)(NX:Option Addr)(Mo:Nat)(d:kJ DF)(v:Int)(b:kJ zA)(w:kq)(hb:Z b=26)(hS:Ov w sp kb ko (U LE (Z e) H8) ov NX Mo d)(hB:CF w 0 (U LE (Z e) H8) e)(VL:Z d<=10000)(XS:Z e<=1000)(hl:∀p∈e,PR p.1)(K4:d.Pairwise λa b=>Cq a.f b.f<0)
  (Nx:∀(K9:Cg) i j (hi:i<Z d) (hj:j<Z d),i<=j->Cq d[j].f K9<0->Cq d[i].f K9<0)
  (hq:∀p∈e,p.1.sort=0->∀q∈d,OQ p.1.an q=hG->Z p.1.ts<=Z q.f.zC):
  Calls prog 162 #[j2 (V ⟨sp,0,Y⟩),X .i32 v,kx (j1 (Ai b))] w λr T=>∃(l:Option Addr) (s:Nat) (m:kJ zA) (c:kJ UI),r=j3 (U l (Z m) s)/\Jv c m/\Ec d b v (e.map kE) (c.map kE)/\kw T w.heap.size 98 1 (U l (Z m) s) (Z m) (m.flatMap Ah)/\Ac [] w T:=by
 obtain⟨i0,TS,RO,TV,TH⟩:=gH Tryz.info54;have RI:=Ab hS;have MN:=Ab hB;have UO:kt (∀(x:PL) l s z,Ac [] w z->PR x->JI w 0 (x,U l (Z x.ts) s)->Calls prog 173 #[U l (Z x.ts) s,kx #[X .i32 v,O ⟨#[]⟩]] z λr T=>∃n,r=j3 (X J n)/\Q7 x.ts ⟨v,kB⟩ n/\Ac [] z T):=λx l s z S hc hx=>YK l s x.ts ⟨v,kB⟩ 0 z (hx.kept S) (by have:=hc.len;omega)
 have IS:kt (∀(x:PL) l s (u:Nat) z,Ac [] w z->PR x->JI w 0 (x,U l (Z x.ts) s)->(∀q∈d,OQ x.an q=hG->Z x.ts<=Z q.f.zC)->u<Z x.ts->Calls prog 174 #[j2 (V ⟨sp,0,Y⟩),kx #[X J x.ap,O x.an,U l (Z x.ts) s],X J u,kx (j1 (Ai b))] z λr T=>∃(l:Option Addr) (s:Nat) (m:kJ zA),r=j3 (U l (Z m) s)/\Cz Fe m/\We b x.ts u (d.filter (OQ x.an)) m/\Z m<=Z d/\kw T z.heap.size 98 1 (U l (Z m) s) (Z m) (m.flatMap Ah)/\Ac [] z T):=
  λx l s u z S hc hx NM NL=>Vh sp kb ko _ ov NX Mo d x.ap x.an l s x.ts u b z hb (hS.kept S) (hx.kept S) hc.len hc.ts (by omega) K4 (Nx _) (λq K1 NB=>⟨NM q K1 NB,by have:=NM q K1 NB;omega⟩)
 have ST:=Ab hl;have Pl:=Ab hq;have hc:=Bh b;have MB:Z (Ai b)=26:=by unfold Ai;simp[hb]
 have K5:=Ab MB;obtain⟨E,hE⟩:=kK (Ai b);rw[hE]at hc MB K5 IS⊢;have P:=Ab (kN w E 244);have D:=Ab ((kL [] w).alloc (jj (j1 E) 244));clear hE hS hB hl Nx hq K4;obtain⟨G,HV⟩:∃G:kJ (kJ zA)->Prop,G=Ec d b v (e.map kE):=⟨_,rfl⟩;have W:kt (∀R,Ec d b v ((e.drop 0).map kE) R->G (([]:kJ UI).map kE++R)):=λR h=>by rw[HV];exact h
 rw[<-HV];clear HV;obtain⟨F,HW⟩:=kK w.heap.size;have HC:=Ab HW;go_enter func162,ntmps162;apply wp_seq_k;intro KK NV;have H6:=Ab NV;clear NV;go_wp2;refine H6 _ _ ?_;clear H6 KK;generalize hw1:w.alloc (jj (j1 E) 244)=w1 at P D⊢;clear hw1;rw[HW]at P⊢;clear HW;have s1:=(RI.kept D).zK.cell 1;simp at s1;go_wp2_with fail
 go_loopg [7,16] (Z e) (λgk o i wr=>∃(k:Nat) (c:kJ UI) (Ax:Option Addr) (Q:Nat),o=U Ax (Z c) Q/\i=X J k/\k<=Z e/\gk=Z e-k/\Z c<=k/\kt (∀R,Ec d b v ((e.drop k).map kE) R->G (c.map kE++R))/\kt (kw wr F 54 1 (U Ax (Z c) Q) (Z c) (c.flatMap λp=>[p.2]))/\kt (∀p∈c,kw wr 0 98 1 p.2 (Z p.1) (p.1.flatMap Ah)/\Cz Fe p.1/\Z p.1<=10000)/\kt (AF wr F E 244)/\kt (Ac [] w wr))
 case atStart=>exact⟨0,[],Y,0,rfl,rfl,by omega,rfl,by simp,W,fK _ _ _ _,(λp B=>by cases B),P,D⟩
 case round=>
  clear W P D s1;obtain⟨k,c,Ax,Q,rfl,rfl,S,NS,WW,W,HO,HE,P,D⟩:=hrel;have HG:=Ab NS;clear NS;by_cases HI:k<Z e
  .obtain⟨g,YP,x,I,N,he,HD,_,d0,d1,d2,d3,d4,d5,d6,d7,d8⟩:=Te (MN.kept D) k HI;simp only[fg]at he;obtain⟨rfl,_,rfl⟩:=he;(have Go:(x,U I (Z x.ts) N)∈e:=by rw[<-HD];exact fj HI);have HS:=Aa ST _ Go;have HM:JI w 0 (x,U I (Z x.ts) N):=(MN.each _ Go).1;(have JJ:x.sort=0->∀q∈d,OQ x.an q=hG->Z x.ts<=Z q.f.zC:=λh=>Pl _ Go h);have EX:kt (∀R,(if x.sort=0 then∃n,Q7 x.ts ⟨v,kB⟩ n/\(if n<0 then Ec d b v ((e.drop (k+1)).map kE) R else∃m r',R=m::r'/\We b x.ts n.toNat (d.filter (OQ x.an)) m/\Ec d b v ((e.drop (k+1)).map kE) r')else Ec d b v ((e.drop (k+1)).map kE) R)->G (c.map kE++R)):=by
    intro R h;refine W R ?_;rw[fQ HI,fS,HD];exact h
   have FB:=Ab (D.alloc (jj (j1 (Aw (x,U I (Z x.ts) N))) 166));have FL:=Ab (fw HO (jj (j1 (Aw (x,U I (Z x.ts) N))) 166));(have CW:kt (∀p∈c,kw (wr.alloc (jj (j1 (Aw (x,U I (Z x.ts) N))) 166)) 0 98 1 p.2 (Z p.1) (p.1.flatMap Ah)/\Cz Fe p.1/\Z p.1<=10000):=λp B=>⟨fw (HE p B).1 _,(HE p B).2⟩);have HB:=Ab (P.alloc (jj (j1 (Aw (x,U I (Z x.ts) N))) 166));have HU:=Ab (kN wr (Aw (x,U I (Z x.ts) N)) 166);have FT:=Ab (UO x I N _ FB HS HM);have E0:=Ab (λu z S hq=>IS x I N u z S HS HM hq);have FO:=Ab JJ;(have W2:F<=wr.heap.size:=by have:=D.size;have:=Aa HC;omega);obtain⟨pl,so,ap,an,ts,⟨lv,Wa⟩,⟨rv,ZV⟩⟩:=x;simp only[Aw]at FB FL CW HB HU FT E0 EX FO d0 d1 d2 d3 d4 d5 d6 d7 d8;clear HD Go HS HM JJ W HO HE P D;by_cases M:so=0
   ·(have S0:(so !=0)=K:=by simp[M]);(have QQ:(so==0)=hG:=by simp[M]);have TT:=Ab (FO M);(have BA:kt (∀R,(∃n,Q7 ts ⟨v,kB⟩ n/\(if n<0 then Ec d b v ((e.drop (k+1)).map kE) R else∃m r',R=m::r'/\We b ts n.toNat (d.filter (OQ an)) m/\Ec d b v ((e.drop (k+1)).map kE) r'))->G (c.map kE++R)):=λR h=>EX R (by rw[fF M];exact h));clear EX FO M;(go_wp2_with fail);refine FT.mono ?_;rintro _ w3 ⟨n,rfl,NE,L⟩;have HQ:=Ab NE;have BT:=Ab (FB.trans L);have Ha:=Ab (HB.kept L);have AB:=HU.kept L;have H0:=Ab (Ad FL L);(have HA:kt (∀p∈c,kw w3 0 98 1 p.2 (Z p.1) (p.1.flatMap Ah)/\Cz Fe p.1/\Z p.1<=10000):=λp B=>⟨Ad (CW p B).1 L,(CW p B).2⟩);clear NE FT FB HB FL CW L d0 d1 d2 d3 d4 d5 d6 d7 d8 HU;by_cases hn:n<0
    ·(have SP:¬(0:Int)<=n:=by omega);(have AH:kt (∀R,Ec d b v ((e.drop (k+1)).map kE) R->G (c.map kE++R)):=λR h=>BA R ⟨n,HQ,by rw[fF hn];exact h⟩);clear BA hn E0 AB;go_wp2
     go_roundg (Z e-(k+1))
     case measure=>have:=Aa HG;omega
     case rel=>exact⟨k+1,c,Ax,Q,rfl,by go_num,by omega,rfl,by omega,AH,H0,HA,Ha,BT⟩
    ·(have SP:(0:Int)<=n:=by omega);obtain⟨u,rfl⟩:∃u:Nat,n=(u:Int):=⟨n.toNat,by omega⟩;have NL:u<Z ts:=by
      rcases HQ with⟨h,_⟩|⟨j,hj,h,_⟩
      .omega
      .omega
     have K2:=Ab (E0 u w3 BT TT NL);have e0:=AB.cell 0;have e1:=AB.cell 1;have e2:=AB.cell 2;have e3:=AB.cell 3;have e4:=AB.cell 4;simp at e0 e1 e2 e3 e4;clear AB E0 hn;go_wp2_with ((with_reducible show wpList _ _ _ ({dst:=_,op:=Op.load 244 _,type:=_,pos:=_,after:=_,guard:=_}::_) _ _);refine Bv (by rfl) 244 _ rfl F 0 (by rfl) E _ Ha.range underlying244 rfl (by rw[Aa K5];exact Tryz.size244) ?_)
     refine K2.mono ?_;rintro _ w4 ⟨C,A,m,rfl,M6,LD,H,FC,k4⟩;have HZ:=Ab (BT.trans k4);have HY:=Ab (Ha.kept k4);have AT:=Ad H0 k4;(have HX:kt (∀p∈c,kw w4 0 98 1 p.2 (Z p.1) (p.1.flatMap Ah)/\Cz Fe p.1/\Z p.1<=10000):=λp B=>⟨Ad (HA p B).1 k4,(HA p B).2⟩);have EM:kt (kw w4 0 98 1 (U C (Z m) A) (Z m) (m.flatMap Ah)):=Al FC (fP _);have TL:kt (Cz Fe m/\Z m<=10000):=⟨M6,by omega⟩;have AH:kt (∀R,Ec d b v ((e.drop (k+1)).map kE) R->G ((c++[(m,U C (Z m) A)]).map kE++R)):=by
      intro R h;have h2:=Aa BA (m::R) ⟨u,HQ,by rw[fB (by omega)];exact⟨m,R,rfl,by rw[show((u:Nat):Int).toNat=u by omega];exact LD,h⟩⟩;rw[gn,gF];exact h2
     (have W1:F<=w4.heap.size:=by have:=HZ.size;have:=Aa HC;omega);clear K2 BT Ha H0 HA k4 M6 LD H FC BA e0 e1 e2 e3 e4;obtain⟨y,H⟩:=kK (Z m);have HL:=Ab H;rw[H]at AH EM⊢;clear H;go_wp2_with (at_builtin;refine fO _ rfl (.tmp 31) (.tmp 38) _ rfl F 54 i0 _ 1 24 underlying269 TS RO TV TH rfl (by omega) (U Ax (Z c) Q) (Z c) (c.flatMap λp=>[p.2]) rfl (fw AT _) ⟨w4.heap.size,0,Y⟩ 1 1 [U C y A] rfl rfl (fM (fX w4 _)) (by simp[Value.oneCell']) (by omega) (by unfold maxLen;omega) (by omega) (by simp;omega) (w4.heap.size+1) (by simp) ?_;intro g1 K6 w9 LS EY OH RB)
     have PT:kt (kw w9 F 54 1 (U (V ⟨g1,0,Y⟩) (Z (c++[(m,U C y A)])) K6) (Z (c++[(m,U C y A)])) ((c++[(m,U C y A)]).flatMap λp=>[p.2])):=by
      rw[fR];simp only[fE,fD,gh,gE,fN,gI,gd];exact LS
     have RE:kt (∀p∈c++[(m,U C y A)],kw w9 0 98 1 p.2 (Z p.1) (p.1.flatMap Ah)/\Cz Fe p.1/\Z p.1<=10000):=by
      intro p B;rcases fA.1 B with h|h
      .exact⟨Rv (fw (HX p h).1 _) (fw AT _) EY,(HX p h).2⟩
      .simp only[ft]at h;subst h;exact⟨Rv (p:=(m,U C y A)) (fw (by rw[Aa HL];exact EM) _) (fw AT _) EY,TL⟩
     have S1:=Ab ((HZ.alloc (jj #[U C y A] 54)).grown EY (λq hq=>kp (by have:=(AT.lt q hq).1;have:=Aa HC;omega)));have SB:kt (AF w9 F E 244):=(HY.alloc (jj #[U C y A] 54)).grown EY (As AT HY (by decide));clear LS EY OH RB AT HX HZ HY EM
     go_roundg (Z e-(k+1))
     case measure=>have:=Aa HG;omega
     case rel=>exact⟨k+1,c++[(m,U C y A)],V ⟨g1,0,Y⟩,K6,by simp,by go_num,by omega,rfl,by simp;omega,AH,PT,RE,SB,S1⟩
   ·(have S0:(so !=0)=hG:=by simp[M]);(have QQ:(so==0)=K:=by simp[M]);(have AH:kt (∀R,Ec d b v ((e.drop (k+1)).map kE) R->G (c.map kE++R)):=λR h=>EX R (by rw[fB M];exact h));clear M EX FT E0 FO;go_wp2
    go_roundg (Z e-(k+1))
    case measure=>have:=Aa HG;omega
    case rel=>exact⟨k+1,c,Ax,Q,rfl,by go_num,by omega,rfl,by omega,AH,FL,CW,HB,FB⟩
  .have BA:kt (G (c.map kE)):=by
    have h:=Aa W [] (by rw[gr (by omega)];rfl);rw[gd]at h;exact h
   have H4:=Ab (Vq Ax Q c wr ⟨Al HO (fP _),HE⟩ (by omega));clear W HO HE P;(go_wp2_with fail);refine H4.mono ?_;rintro _ w3 ⟨l,s,m,rfl,H7,FC,L⟩;have SL:=Ab H7;have EM:=Ab (Al FC (show w.heap.size<=wr.heap.size from D.size))
   have BT:=Ab (D.trans L);obtain⟨y,H⟩:=kK (Z m);have HL:=Ab H;rw[H];clear H7 FC L H4 H;go_wp2;go_ret;rw[<-Aa HL];refine⟨l,s,m,c,rfl,SL,BA,?_,BT⟩;rw[<-Aa HC];exact EM
def Fk(vs:kJ UInt8):kJ Int:=vs.map λv=>(v.toNat:Int)
structure di(w:kq)(sp:Nat)(body:kJ BH)(s:kJ Ag)(vs:kJ UInt8):Prop where
 at_:∃(kb ko:Nat) (bad:Option Addr) (bcp:Nat) (zE:kJ OR) (oad:Option Addr) (ocp:Nat) (sad:Option Addr) (scp:Nat) (fs:kJ DF),
  Ov w sp kb ko (U bad (Z zE) bcp) (U oad (Z (Fk vs)) ocp) sad scp fs/\CF w 0 (U bad (Z zE) bcp) zE/\zE.map kE=body.map L1/\
  kw w 0 21 1 (U oad (Z (Fk vs)) ocp) (Z (Fk vs)) ((Fk vs).flatMap AU)/\CG fs s
 len:Z s<=10000
 lits:∀x∈body,DN x/\PR (L1 x)
 blen:Z body<=1000
 zs:Z vs<=1000
 fit:Zr s body
 ok:∀v∈vs,Gg v
def di.kept{w w':kq}{a:Nat}{c:kJ BH}{s:kJ Ag}{b:kJ UInt8}(h:di w a c s b)(k:Ac [] w w'):di w' a c s b:=by
 obtain⟨t,n,u,l,i,o,d,r,g,p,j,e,q,f,m⟩:=h.at_;exact⟨⟨t,n,u,l,i,o,d,r,g,p,j.kept k,e.kept k,q,Ad f k,m⟩,h.len,h.lits,h.blen,h.zs,h.fit,h.ok⟩
def CG.len{a:kJ DF}(h:CG a f):Z a=Z f:=by
 have:=congrArg List.length h.same;simpa using this
def Sf{a:kJ BH}{t:kJ UInt8}(h:di w n a f t)(i:De e):
  Calls prog 161 #[j2 (V ⟨n,0,Y⟩),kx (j1 (Ai (Bt e)))] w λr g=>r=j3 (k0 (Ef a f e))/\Ac [] w g:=by
 obtain⟨F,v,q,o,j,G,L,y,C,D,u,m,c,I,b⟩:=h.at_;have M:=b.len;have P:Z j=Z a:=by have:=congrArg List.length c;simpa using this
 have H:=h.blen;have N:=h.len;refine(Wx n F v q o j _ y C D (Bt e) w (G9 i) u m (by omega) (by omega) (λp z=>?_) (λA=>b.mono A)).mono ?_
 .have:p.1∈a.map L1:=by rw[<-c];exact fW z
  obtain⟨x,d,E⟩:=fC.1 this;rw[<-E];exact(h.lits x d).2
 .rintro r g ⟨B,rfl,l,k⟩;rw[c]at l;exact⟨by rw[U6 b i a (λx d=>(h.lits x d).1) B l],k⟩
def Tx{a:kJ BH}{s:kJ Ag}{N:kJ UInt8}(h:di w n a s N)(D:De e){v:UInt8}(hv:Gg v):
  Calls prog 162 #[j2 (V ⟨n,0,Y⟩),X .i32 (v.toNat:Int),kx (j1 (Ai (Bt e)))] w λr t=>∃(l:Option Addr) (o:Nat),r=j3 (U l (Z ((Kv a s v e).map AA)) o)/\
   kw t w.heap.size 98 1 (U l (Z ((Kv a s v e).map AA)) o) (Z ((Kv a s v e).map AA)) (((Kv a s v e).map AA).flatMap Ah)/\Ac [] w t:=by
 obtain⟨kb,Q,I,G,y,BA,CL,S,W,fs,P,F,u,h4,b⟩:=h.at_;have hl:=b.len;have EM:Z y=Z a:=by have:=congrArg List.length u;simpa using this
 have hb:=h.blen;have hn:=h.len;have C:∀p∈y,∃x∈a,L1 x=p.1:=λp c=>by
  have:p.1∈a.map L1:=by rw[<-u];exact fW c
  exact fC.1 this
 refine(Tz n kb Q I G y _ S W fs (v.toNat:Int) (Bt e) w (G9 D) P F (by omega) (by omega) (λp c=>?_) b.pair (λT=>b.mono T) (λp c E q M j=>?_)).mono ?_
 .obtain⟨x,d,i⟩:=C p c;rw[<-i];exact(h.lits x d).2
 .obtain⟨x,d,i⟩:=C p c;have hm:q.f∈s.map Bn:=by rw[<-b.same];exact fW M
  obtain⟨g,H,B⟩:=fC.1 hm;rw[<-i]at E j⊢;have L:(x.kind==97)=hG:=by
   rw[<-Q1];have:Fr x.kind=0:=E;rw[this];rfl
  have AR:g.name=x.A.name:=by
   unfold OQ at j;rw[<-B]at j;exact toList_inj (by simpa[L1,Bn] using j)
  have:=h.fit g H x d L AR;rw[<-B];simp[L1,Bn];omega
 .rintro r t ⟨l,o,m,ps,rfl,R,z,AT,k⟩;rw[u]at z;obtain⟨i,_⟩:=V7 b D hv (λx d=>(h.lits x d).1) h.fit z R;rw[<-i];exact⟨l,o,rfl,AT,k⟩
def YR{a:kJ BH}{b:kJ UInt8}(h:di w n a f b)(v:UInt8)(e:kJ zA):∀t∈Kv a f v e,A1 t:=by
 obtain⟨y,q,z,o,l,p,g,u,k,r,m,i,x,j,c⟩:=h.at_;exact λt d=>Ni c.canon h.fit v e t ((Hd a f v e t).1 d)
def YY{l:kJ BH}{a:kJ UInt8}(h:di w n l f a)(k:Nat)(m:k<Z a):
  ∃(d c:Nat) (u:ks) (g b:Nat),AF w n [j2 (V ⟨d,c,Y⟩),u,U (V ⟨g,0,Y⟩) (Z a) b] 239/\ku w ⟨g,k,Y⟩=V (X .i32 (a[k].toNat:Int)):=by
 obtain⟨d,c,z,x,G,y,C,B,D,E,p,v,F,o,A⟩:=h.at_;have j:k<Z (Fk a):=by unfold Fk;simpa using m
 obtain⟨g,b,r,t⟩:=Uc o k j;have q:Z (Fk a)=Z a:=by unfold Fk;simp
 have i:=p.zK;rw[r,q]at i;refine⟨d,c,_,g,b,i,?_⟩;have e:(Fk a)[k]=(a[k].toNat:Int):=by simp[Fk]
 rw[t,e]
