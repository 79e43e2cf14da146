import Derived.RangeFuncNested
import Derived.RangeFuncLeaves
import Derived.TacticsIn
import Derived.OrdersIn
import Derived.Test.YtoihbhenbmffcaaGreatDoorTAO
set_option linter.all false
set_option maxHeartbeats 0
open Option renaming none->Y,some->V
open Bool renaming false->K,true->jj
open List renaming toArray->j2
open Go.Value renaming pointer->j3,agg->oj,bool->q8,ownBlock->qX
open Go.Ending renaming returned->kt
open Go renaming World->ly,Value->ml
namespace Go.Proofs.YtoihbhenbmffcaaGreatDoor
open Go.RowKit Go.Proofs.Tryz
section
variable {P:Program} {ops:Array Oper} {Q:Exit->Act->ly->Prop} {l n:Nat}
def D0(os:rc Oper):Bool:=os.all λo=>match o.op with| .defer _=>K|_=>jj
def SF{o:Oper}(h:(match o.op with| .defer _=>K|_=>jj)=jj):∀c,o.op≠ .defer c:=λc e=>by rw[e]at h;cases h
def St{o:Oper}{a:Act}{w:ly}{d:Act->ly->Prop}(f:∀c,o.op≠ .defer c)(h:o.wp P a w d Q):o.wpIn (Fence.wide.inRound l) n P a w d Q:=by
 refine⟨λ_ _=>trivial,?_⟩;have e:o.semAt (Fence.wide.inRound l).round a.eval=execOp a.eval o:=Oper.semAt_eq _ _ _ f;rw[e];unfold Oper.wp at h;generalize(execOp a.eval o).run P w=r at h;have b:((Fence.wide.inRound l).depth.isSome=jj->1<=n):=λh=>by cases h
 cases r with
 |ok x w'=>
  cases x<;>simp only[Oper.upon]at h<;>first
   |exact h
   |exact⟨b,CallsIn.inRound l (callsIn_wide.2 h)⟩
   |exact⟨b,λc g _=>let ⟨v,w'',r,s⟩:=h c g;⟨v,w'',r,stepsIn_wide.2 s⟩⟩
 |halt x w'=>cases x<;>simp only[Oper.upon]at h<;>exact h
def jt{o:Oper}{a:Act}{w:ly}{d:Act->ly->Prop}(h:o.wp P a w d Q):o.wpIn Fence.wide n P a w d Q:=by
 refine⟨λ_ _=>trivial,?_⟩;have e:o.semAt Fence.wide.round a.eval=execOp a.eval o:=Oper.semAt_none _ _;rw[e];unfold Oper.wp at h;generalize(execOp a.eval o).run P w=r at h;have b:(Fence.wide.depth.isSome=jj->1<=n):=λh=>by cases h
 cases r with
 |ok x w'=>
  cases x<;>simp only[Oper.upon]at h<;>first
   |exact h
   |exact⟨b,callsIn_wide.2 h⟩
   |exact⟨b,λc f _=>let ⟨v,w'',r,s⟩:=h c f;⟨v,w'',r,stepsIn_wide.2 s⟩⟩
 |halt x w'=>cases x<;>simp only[Oper.upon]at h<;>exact h
def IN(j:¬LetsOut Q)(f:rc Oper):∀(b:rc Oper),D0 b=jj->∀(a:Act) (w:ly),
  wpList P ops (Exit.then (wpListIn (Fence.wide.inRound l) n P ops Q f) Q) b a w->wpListIn (Fence.wide.inRound l) n P ops Q (b++f) a w
 |[],_,a,w,h=>h
 |o::b,hp,a,w,h=>by
  have k:D0 b=jj:=by
   unfold D0 at hp⊢;rw[p5,mV]at hp;exact hp.2
  have s:∀c,o.op≠ .defer c:=by
   unfold D0 at hp;rw[p5,mV]at hp;exact SF hp.1
  rw[ot];unfold wpListIn;unfold wpList at h;split
  .rename_i g;rw[mK g]at h;rcases h with h|h
   .refine St s (Oper.wp_mono (λi d m=>IN j f b k i d m) ?_);unfold Oper.wp at h⊢;generalize(execOp a.eval o).run P w=r at h⊢;cases r with
    |ok x d=>
     cases x<;>simp only[Oper.upon]at h⊢<;>first
      |exact h
      |exact Calls.mono h (λe t q=>by cases e<;>exact q)
    |halt x d=>cases x<;>simp only[Oper.upon]at h⊢<;>exact h
   .obtain⟨_,i,d,p⟩:=h;exact absurd ⟨i,d,p⟩ j
  .rename_i g;rw[mJ g]at h;exact⟨λ_ _=>trivial,IN j f b k _ w h⟩
def Mg(i:¬LetsOut Q)(d:rc Oper):∀(c:rc Oper) (a:Act) (w:ly),
  wpList P ops (Exit.then (wpListIn Fence.wide n P ops Q d) Q) c a w->wpListIn Fence.wide n P ops Q (c++d) a w
 |[],a,w,h=>h
 |o::c,a,w,h=>by
  rw[ot];unfold wpListIn;unfold wpList at h;split
  .rename_i f;rw[mK f]at h;rcases h with h|h
   .refine jt (Oper.wp_mono (λg b j=>Mg i d c g b j) ?_);unfold Oper.wp at h⊢;generalize(execOp a.eval o).run P w=r at h⊢;cases r with
    |ok x b=>
     cases x<;>simp only[Oper.upon]at h⊢<;>first
      |exact h
      |exact Calls.mono h (λe m l=>by cases e<;>exact l)
    |halt x b=>cases x<;>simp only[Oper.upon]at h⊢<;>exact h
   .obtain⟨_,g,b,k⟩:=h;exact absurd ⟨g,b,k⟩ i
  .rename_i f;rw[mJ f]at h;exact⟨λ_ _=>trivial,Mg i d c _ w h⟩
def AN{f:Nat}{b:rc Oper}{a:Act}{w:ly}(d:D0 b=jj)(g:¬LetsOut Q)(h:wpList P (j2 b) Q b a w):
  (Code.region f (j2 b) K).wpIn (Fence.wide.inRound l) n P Q a w:=by
 refine wpIn_region_lit ?_;have e:b=b++[]:=by simp
 have c:=IN (P:=P) (ops:=j2 b) (Q:=Q) (l:=l) (n:=n) g [] b d a w (by
  have i:Exit.then (wpListIn (Fence.wide.inRound l) n P (j2 b) Q []) Q=Q:=by
   funext e a w
   cases e<;>rfl
  rw[i]
  exact h)
 rw[np]at c;exact c
def N6{g:Nat}{b c d:rc Oper}{a:Act}{w:ly}(i:b=c++d)(f:D0 c=jj)(j:¬LetsOut Q)
  (h:wpList P (j2 b) (Exit.then (wpListIn (Fence.wide.inRound l) n P (j2 b) Q d) Q) c a w):
  (Code.region g (j2 b) K).wpIn (Fence.wide.inRound l) n P Q a w:=by
 refine wpIn_region_lit ?_;have e:=IN (P:=P) (ops:=j2 b) (Q:=Q) (l:=l) (n:=n) j d c f a w h;rw[<-i]at e;exact e
def O1{f:Nat}{b c d:rc Oper}{a:Act}{w:ly}(g:b=c++d)(i:¬LetsOut Q)
  (h:wpList P (j2 b) (Exit.then (wpListIn Fence.wide n P (j2 b) Q d) Q) c a w):
  (Code.region f (j2 b) K).wp P Q a w:=by
 refine wpIn_wide.1 (wpIn_region_lit (n:=n) ?_);have e:=Mg (P:=P) (ops:=j2 b) (Q:=Q) (n:=n) i d c a w h;rw[<-g]at e;exact e
def MC(f:¬LetsOut Q){p:Region.Mode}(d:D0 ops.toList=jj):∀(e:Nat) (j:Array Bool) (a:Act) (w:ly),wpAny P p ops Q e j a w->wpAnyIn (Fence.wide.inRound l) n P p ops Q e j a w
 |0,_,_,_,h=>h
 |e+1,j,a,w,h=>by
  refine⟨h.1,λi s=>?_⟩;have b:=h.2 i s;unfold wpOp at b;unfold wpOpIn;cases ho:ops[i]? with
  |none=>
   rw[ho]at b;exact MC f d e _ a w b
  |some o=>
   rw[ho]at b;have t:∀c,o.op≠ .defer c:=by
    unfold D0 at d;rw[nY]at d;refine SF (d o ?_);have:=Array.mem_of_getElem? ho;exact Array.mem_toList_iff.2 this
   simp only at b⊢;split
   .rename_i g;rw[mK g]at b;rcases b with b|b
    .exact St t (Oper.wp_mono (λm k q=>MC f d e _ m k q) b)
    .obtain⟨_,m,k,r⟩:=b;exact absurd ⟨m,k,r⟩ f
   .rename_i g;rw[mJ g]at b;exact⟨λ_ _=>trivial,MC f d e _ _ w b⟩
def D7{c:Nat}{a:Act}{w:ly}(k:Nat)(S:ly->Prop)(e:P.follows .mixedOrders=jj)(b:D0 ops.toList=jj)(d:¬LetsOut Q)
  (h:Cz P .any ops Q S k ops.size (Array.replicate ops.size K) a w.drew):(Code.region c ops jj).wpIn (Fence.wide.inRound l) n P Q a w:=
 wpIn_region_any e (MC d b _ _ _ _ (Cz.any _ _ _ _ h))
end
end Go.Proofs.YtoihbhenbmffcaaGreatDoor
namespace Go.Proofs.YtoihbhenbmffcaaGreatDoor
open Go.RowKit Go.Proofs.Tryz
variable{Q:Exit->Act->ly->Prop}{w v:ly}{n:Nat}
abbrev EU(D:Nat):Deferred:={target:=.collected D,args:=#[]}
def ke{α:Type}(P:Program)(l:Nat)(encs:α->Array ml)(xs:rc α)(J Jx:rc α->rc Nat->ly->Prop):Prop:=
 ∀pre x rest M W1,xs=pre++x::rest->J pre M W1->YieldAt Fence.wide 0 P l (encs x) W1 λe W'=>
  (e=kt (q8 jj)/\∃M',J (pre++[x]) M' W'/\Ac M W1 W'/\∀k∈M',(k∈M\/W1.heap.size<=k)/\k<W'.heap.size)\/
  (e=kt (q8 K)/\∃M',Jx (pre++[x]) M' W'/\Ac (l::M) W1 W')
def Lq{α:Type}(P:Program)(g:Nat)(lb:Array ml)(encs:α->Array ml)(xs:rc α)(M0:rc Nat)(w:ly):Prop:=
 ∀(l:Nat) (J Jx:rc α->rc Nat->ly->Prop) (W:ly),Ac [] w W->w.heap.size<=l->l<W.heap.size->
  OwnFrom W.heap.size (fun(s:rc α×rc Nat) W=>J s.1 s.2 W)->OwnFrom W.heap.size (fun(s:rc α×rc Nat) W=>Jx s.1 s.2 W)->
  ke P l encs xs J Jx->J [] M0 W->
  Calls P g (#[.func (.yield l) #[] #[]]++lb) W λe W'=>(∃v,e=kt v)/\((∃M',J xs M' W')\/(∃pre M',Jx pre M' W'))
def Mw{α:Type}(I:rc α->rc Nat->ly->Prop)(Ix:Code->rc α->rc Nat->ly->Prop)(xs:rc α)(M:rc Nat)(W:ly):Exit->Act->ly->Prop
 | .normal,_,W'=>Ac M W W'/\∃M',I xs M' W'/\∀k∈M',(k∈M\/W.heap.size<=k)/\k<W'.heap.size
 | .ret,_,W'=>Ac M W W'/\∃M',Ix .ret xs M' W'
 | .exit id,_,W'=>Ac M W W'/\∃M',Ix (.exit id) xs M' W'
 | .goto t,_,W'=>Ac M W W'/\∃M',Ix (.goto t) xs M' W'
 | .panic _,_,_=>False
 | .outgrown,_,_=>False
def Hj{b:Act->ly->Prop}(h:¬LetsOut Q):¬LetsOut (Exit.then b Q):=fun⟨a,w,q⟩=>h ⟨a,w,q⟩
def Ga:¬LetsOut (fun(_:Exit) (_:Act) (_:ly)=>False):=fun⟨_,_,q⟩=>q
def Ac.grow(k:Ac [] w v):w.grownBy v Y:=⟨k.os,k.tape,k.output,k.size,λi a _=>k.block i a (by simp)⟩
def BD{β:Type}{I:β->ly->Prop}(h:OwnFrom n I){s:β}(a:I s w)(k:Ac [] w v):I s v:=h s w v Y a k.grow (λr e=>by cases e)
def ks{α:Type}(P:Program)(l:Nat)(Off:α->Array ml->ly->Prop)(xs:rc α)(J Jx:rc α->rc Nat->ly->Prop):Prop:=
 ∀pre x rest M W1 vs,xs=pre++x::rest->J pre M W1->Off x vs W1->YieldAt Fence.wide 0 P l vs W1 λe W'=>
  (e=kt (q8 jj)/\∃M',J (pre++[x]) M' W'/\Ac M W1 W'/\∀k∈M',(k∈M\/W1.heap.size<=k)/\k<W'.heap.size)\/
  (e=kt (q8 K)/\∃M',Jx (pre++[x]) M' W'/\Ac (l::M) W1 W')
def jP{α:Type}(P:Program)(g:Nat)(lb:Array ml)(Off:α->Array ml->ly->Prop)(xs:rc α)(M0:rc Nat)(w:ly):Prop:=
 ∀(l:Nat) (J Jx:rc α->rc Nat->ly->Prop) (W:ly),Ac [] w W->w.heap.size<=l->l<W.heap.size->
  OwnFrom W.heap.size (fun(s:rc α×rc Nat) W=>J s.1 s.2 W)->OwnFrom W.heap.size (fun(s:rc α×rc Nat) W=>Jx s.1 s.2 W)->
  ks P l Off xs J Jx->J [] M0 W->
  Calls P g (#[.func (.yield l) #[] #[]]++lb) W λe W'=>(∃v,e=kt v)/\((∃M',J xs M' W')\/(∃pre M',Jx pre M' W'))
variable {P:Program}
theorem TE{α:Type}{g:Operand}{ps:Array Tmp}{assign body:Code}{Q:Exit->Act->ly->Prop}{a:Act}{w:ly}{gf:Nat}{lb:Array ml}{Off:α->Array ml->ly->Prop}{xs:rc α}{M0:rc Nat}
  (hg:a.eval g=.func (.func gf) #[] lb) (eg:∀args w,(callFunc gf args).run P w=.ok (.enter gf args) w)
  (hseq:jP P gf lb Off xs M0 w) (hps:∀x vs W,Off x vs W->vs.size=ps.size) (hM0:∀k∈M0,k<w.heap.size)
  (I:rc α->rc Nat->ly->Prop) (Ix:Code->rc α->rc Nat->ly->Prop)
  (hI:OwnFrom w.heap.size (fun(s:rc α×rc Nat) W=>I s.1 s.2 W)) (hIx:∀c,OwnFrom w.heap.size (fun(s:rc α×rc Nat) W=>Ix c s.1 s.2 W)) (h0:I [] M0 w)
  (Ax:Nat->α->Act->ly->Prop) (hAx:∀n0 x a',OwnFrom w.heap.size (fun(_:Unit) W=>Ax n0 x a' W))
  (hassign:∀(l:Nat) (x:α) (vs:Array ml) (W:ly) (K:Act->ly->Prop),x∈xs->w.heap.size<=W.heap.size->Off x vs W->(∀a' W',Ac [] W W'->Ax W.heap.size x a' W'->K a' W')->
   assign.wpIn (Fence.wide.inRound l) 0 P (Exit.then K (λ_ _ _=>False)) {tmps:=(ps.zip vs).foldl (λt (p,v)=>t.setIfInBounds p v) a.tmps,defers:=[]} W)
  (hbody:∀(l n0:Nat) (pre:rc α) (x:α) (rest:rc α) (M:rc Nat) (a':Act) (W:ly),xs=pre++x::rest->I pre M W->(∀k∈M,k<n0)->w.heap.size<=n0->n0<=W.heap.size->Ax n0 x a' W->
   body.wpIn (Fence.wide.inRound l) 0 P (Mw I Ix (pre++[x]) M W) a' W)
  (hdone:∀(D:Nat) (M':rc Nat) (W:ly),w.heap.size<=D->I xs M' W->W.heap[D]?=V (.deferred (V []))->(∀k∈M',k≠D)->Q .normal {a with defers:=EU D::a.defers} W)
  (hstop:∀(D:Nat) (c:Code) (pre:rc α) (M':rc Nat) (W:ly),w.heap.size<=D->Ix c pre M' W->W.heap[D]?=V (.deferred (V []))->c.wp P Q {a with defers:=EU D::a.defers} W):
  (Code.rangeFunc g ps assign body).wp P Q a w:=by
 refine wpIn_wide.1 (wpIn_rangeFunc (n:=1) ?_);intro fn _;obtain⟨rec,hrec⟩:∃rec:LoopState->Option Code->Loop,rec=λst pe=>{state:=st,pending:=pe,fn,tmps:=a.tmps,params:=ps,assign,body,defers:=w.heap.size}:=⟨_,rfl⟩
 obtain⟨D,hD⟩:=rd w.heap.size;obtain⟨W1,hW1⟩:=rd ((w.alloc (.deferred (V []))).alloc (.loop (rec .ready Y)));have hs1:W1.heap.size=D+2:=by rw[<-hW1];simp;omega
 have hk1:Ac [] w W1:=by rw[<-hW1];exact((re [] w).alloc _).alloc _
 have hL1:W1.heap[D+1]?=V (.loop (rec .ready Y)):=by
  rw[<-hW1];have:=World.alloc_heap_new (w.alloc (.deferred (V []))) (.loop (rec .ready Y))
  rwa [m9,hD]at this
 have hK1:W1.heap[D]?=V (.deferred (V [])):=by
  rw[<-hW1];have h2:=World.alloc_heap_new w (.deferred (V []));rw[hD]at h2;have h3:=(re [] (w.alloc (.deferred (V [])))).alloc (.loop (rec .ready Y));rw[h3.block D (by simp;omega) (by simp)];exact h2
 refine⟨D+1,[EU D],W1,{target:=.fn (.func gf) lb,args:=#[.func (.yield (D+1)) #[] #[]]},W1,gf,#[.func (.yield (D+1)) #[] #[]]++lb,W1,?_,?_,λ_ _=>trivial,?_,λh=>(by cases h),?_⟩
 .rw[<-hW1,hrec,<-hD];exact run_enterLoop_outer _ _ _ _ _
 .simp only[resolve,hg];simp[go_sem]
 .simp[invoke,go_sem,eg]
 refine callsIn_wide.2 ?_;have own2:∀{A B:ly} {row:Option Nat} {k:Nat} {o:Obj},A.grownBy B row->(∀r,row=V r->W1.heap.size<=r/\∃o:Obj,A.heap[r]?=V o/\o.isCells=false)->k<W1.heap.size->A.heap[k]?=V o->B.heap[k]?=V o:=by
  intro A B row k o hgr hr hk ho;rw[hgr.block k (nz.1 ho).1 (λe=>by have:=(hr k e.symm).1;omega)];exact ho
 have own1:∀{A:ly} {row:Option Nat},(∀r,row=V r->W1.heap.size<=r/\∃o:Obj,A.heap[r]?=V o/\o.isCells=false)->∀r,row=V r->w.heap.size<=r/\∃o:Obj,A.heap[r]?=V o/\o.isCells=false:=
  λhr r e=>⟨by have:=(hr r e).1;omega,(hr r e).2⟩
 refine(hseq (D+1)
  (λpre M W=>I pre M W/\W.heap[D+1]?=V (.loop (rec .ready Y))/\W.heap[D]?=V (.deferred (V []))/\∀k∈M,k≠D/\k≠D+1/\k<W.heap.size)
  (λpre M W=>∃c,Ix c pre M W/\W.heap[D+1]?=V (.loop (rec .done (V c)))/\W.heap[D]?=V (.deferred (V [])))
  W1 hk1 (by omega) (by omega)
  (λs A B row hs hgr hr=>⟨hI s A B row hs.1 hgr (own1 hr),own2 hgr hr (by omega) hs.2.1,own2 hgr hr (by omega) hs.2.2.1,λk hk=>⟨(hs.2.2.2 k hk).1,(hs.2.2.2 k hk).2.1,oz (hs.2.2.2 k hk).2.2 hgr.size⟩⟩)
  (λs A B row hs hgr hr=>by
   obtain⟨c,hc,hl,hd⟩:=hs
   exact⟨c,hIx c s A B row hc hgr (own1 hr),own2 hgr hr (by omega) hl,own2 hgr hr (by omega) hd⟩)
  ?_ ⟨BD hI (s:=([],M0)) h0 hk1,hL1,hK1,λk hk=>⟨by have:=hM0 k hk;omega,by have:=hM0 k hk;omega,by have:=hM0 k hk;omega⟩⟩).mono ?_
 ·
  rintro pre x rest M W vs hxs ⟨hi,hl,hd,hM⟩ hoff;have hlt:D+1<W.heap.size:=(nz.1 hl).1;have hy:=run_yield (P:=P) (args:=vs) hl (by rw[hrec];exact hps x vs W hoff);rw[hrec]at hy;refine⟨fn,_,assign,body,hy,roundIn_of_wpIn trivial (hassign _ x vs W _ (by rw[hxs];simp) (by omega) hoff ?_)⟩;clear hy;intro a' Wa hka hax;have hla:Wa.heap[D+1]?=V (.loop (rec .ready Y)):=(hka.block _ hlt (by simp)).trans hl;have hda:Wa.heap[D]?=V (.deferred (V [])):=(hka.block _ (by omega) (by simp)).trans hd;have hia:I pre M Wa:=BD hI (s:=(pre,M)) hi hka;refine⟨_,run_beginRound hla (by rw[hrec]),?_⟩;have hsz:=hka.size;have hlta:D+1<Wa.heap.size:=by omega
  have hl2:(Wa.putObj (D+1) (.loop {rec .ready Y with state:=.busy})).heap[D+1]?=V (.loop {rec .ready Y with state:=.busy}):=World.putObj_heap_same hlta;have hd2:(Wa.putObj (D+1) (.loop {rec .ready Y with state:=.busy})).heap[D]?=V (.deferred (V [])):=(World.putObj_heap_other (by omega)).trans hda;have hs2:(Wa.putObj (D+1) (.loop {rec .ready Y with state:=.busy})).heap.size=Wa.heap.size:=by simp
  refine wpIn_mono (hbody _ W.heap.size pre x rest M a' _ hxs (hI.putObj (s:=(pre,M)) _ hia (by omega) hla rfl) (λk hk=>(hM k hk).2.2) (by omega) (by rw[hs2];omega) ((hAx _ x a').putObj (s:=()) _ hax (by omega) hla rfl)) ?_;have fin:∀(jump:Option Code) (W3:ly),Ac M (Wa.putObj (D+1) (.loop {rec .ready Y with state:=.busy})) W3->
    (Instr.endRound (D+1) jump).run P W3=.ok (q8 jump.isNone) (W3.putObj (D+1) (.loop (rec (if jump.isNone then .ready else .done) jump)))/\
    W3.heap[D+1]?=V (.loop {rec .ready Y with state:=.busy})/\
    (W3.putObj (D+1) (.loop (rec (if jump.isNone then .ready else .done) jump))).heap[D+1]?=V (.loop (rec (if jump.isNone then .ready else .done) jump))/\
    (W3.putObj (D+1) (.loop (rec (if jump.isNone then .ready else .done) jump))).heap[D]?=V (.deferred (V [])):=λjump W3 hk3=>by
   have hl3:=(hk3.block (D+1) (by rw[hs2];omega) (λh=>(hM _ h).2.1 rfl)).trans hl2;have hd3:=(hk3.block D (by rw[hs2];omega) (λh=>(hM _ h).1 rfl)).trans hd2;have:=run_endRound (P:=P) jump hl3;rw[hrec]at this⊢;exact⟨this,by rw[hrec]at hl3;exact hl3,World.putObj_heap_same (nz.1 hl3).1,(World.putObj_heap_other (by omega)).trans hd3⟩
  have fk:∀(o:Obj) (W3:ly),Ac M (Wa.putObj (D+1) (.loop {rec .ready Y with state:=.busy})) W3->Ac ((D+1)::M) W (W3.putObj (D+1) o):=λo W3 hk3=>by
   have hs3:=hk3.size;rw[hs2]at hs3;refine⟨hk3.os.trans hka.os,hk3.tape.trans hka.tape,hk3.output.trans hka.output,by simp;omega,λk hk hkm=>?_⟩;rw[mA,not_or]at hkm;rw[World.putObj_heap_other hkm.1,hk3.block k (by rw[hs2];omega) hkm.2,World.putObj_heap_other hkm.1,hka.block k hk (by simp)]
  rintro e a3 W3 hp;cases e with
  |normal=>
   obtain⟨hk3,M',hi3,hM'⟩:=hp;obtain⟨hr,hl3,hl4,hd4⟩:=fin Y W3 hk3;have hs3:=hk3.size;refine⟨_,_,hr,.inl ⟨rfl,M',⟨hI.putObj (s:=(pre++[x],M')) _ hi3 (by omega) hl3 rfl,hl4,hd4,λk hk=>?_⟩,?_,λk hk=>?_⟩⟩
   .have h1:=hM' k hk;refine⟨λe=>?_,λe=>?_,by simp;exact h1.2⟩
    .rcases h1.1 with h2|h2
     .exact(hM k h2).1 e
     .rw[hs2]at h2;omega
    .rcases h1.1 with h2|h2
     .exact(hM k h2).2.1 e
     .rw[hs2]at h2;omega
   .rw[hs2]at hs3;refine⟨?_,?_,?_,by simp;omega,λk hk hkm=>?_⟩
    .exact hk3.os.trans hka.os
    .exact hk3.tape.trans hka.tape
    .exact hk3.output.trans hka.output
    .by_cases hkl:k=D+1
     .subst hkl;rw[hl4,hl];rfl
     .rw[World.putObj_heap_other hkl,hk3.block k (by rw[hs2];omega) hkm,World.putObj_heap_other hkl,hka.block k hk (by simp)]
   .have h1:=hM' k hk;rw[hs2]at h1;exact⟨h1.1.imp id (λh=>by omega),by simp;exact h1.2⟩
  |ret=>
   obtain⟨hk3,M',hi3⟩:=hp;obtain⟨hr,hl3,hl4,hd4⟩:=fin (V .ret) W3 hk3;exact⟨_,_,hr,.inr ⟨rfl,M',⟨.ret,(hIx _).putObj (s:=(pre++[x],M')) _ hi3 (by omega) hl3 rfl,hl4,hd4⟩,fk _ W3 hk3⟩⟩
  |exit id=>
   obtain⟨hk3,M',hi3⟩:=hp;obtain⟨hr,hl3,hl4,hd4⟩:=fin (V (.exit id)) W3 hk3;exact⟨_,_,hr,.inr ⟨rfl,M',⟨.exit id,(hIx _).putObj (s:=(pre++[x],M')) _ hi3 (by omega) hl3 rfl,hl4,hd4⟩,fk _ W3 hk3⟩⟩
  |goto t=>
   obtain⟨hk3,M',hi3⟩:=hp;obtain⟨hr,hl3,hl4,hd4⟩:=fin (V (.goto t)) W3 hk3;exact⟨_,_,hr,.inr ⟨rfl,M',⟨.goto t,(hIx _).putObj (s:=(pre++[x],M')) _ hi3 (by omega) hl3 rfl,hl4,hd4⟩,fk _ W3 hk3⟩⟩
  |panic ch=>exact hp.elim
  |outgrown=>exact hp.elim
 ·
  rintro e W2 ⟨⟨v,rfl⟩,(⟨M',hi,hl,hd,hM⟩|⟨pre,M',c,hi,hl,hd⟩)⟩
  .exact⟨Y,_,by have:=run_endLoop (P:=P) hl (by rw[hrec];simp);rw[hrec]at this;exact this,hdone _ M' _ (by omega) (hI.putObj (s:=(xs,M')) _ hi (by omega) hl rfl) ((World.putObj_heap_other (by omega)).trans hd) (λk hk=>(hM k hk).1)⟩
  .exact⟨V c,_,by have:=run_endLoop (P:=P) hl (by rw[hrec];simp);rw[hrec]at this;exact this,wpIn_wide.2 (hstop _ c pre M' _ (by omega) ((hIx c).putObj (s:=(pre,M')) _ hi (by omega) hl rfl) ((World.putObj_heap_other (by omega)).trans hd))⟩
def UZ{α:Type}{g:Operand}{r:Array Tmp}{H G:Code}{Q:Exit->Act->ly->Prop}{a:Act}{w:ly}{m:Nat}{L:Array ml}{encs:α->Array ml}{n:rc α}{B:rc Nat}
  (S:a.eval g=.func (.func m) #[] L) (eg:∀F w,(callFunc m F).run P w=.ok (.enter m F) w)
  (N:Lq P m L encs n B w) (B0:∀x,(encs x).size=r.size) (BA:∀k∈B,k<w.heap.size)
  (I:rc α->rc Nat->ly->Prop) (j:Code->rc α->rc Nat->ly->Prop)
  (hI:OwnFrom w.heap.size (fun(s:rc α×rc Nat) W=>I s.1 s.2 W)) (BT:∀c,OwnFrom w.heap.size (fun(s:rc α×rc Nat) W=>j c s.1 s.2 W)) (R:I [] B w)
  (o:Nat->α->Act->ly->Prop) (A1:∀e x d,OwnFrom w.heap.size (fun(_:Unit) W=>o e x d W))
  (A2:∀(l:Nat) (x:α) (W:ly) (f:Act->ly->Prop),x∈n->w.heap.size<=W.heap.size->(∀d E,Ac [] W E->o W.heap.size x d E->f d E)->
   H.wpIn (Fence.wide.inRound l) 0 P (Exit.then f (λ_ _ _=>False)) {tmps:=(r.zip (encs x)).foldl (λt (p,v)=>t.setIfInBounds p v) a.tmps,defers:=[]} W)
  (CL:∀(l e:Nat) (b:rc α) (x:α) (C:rc α) (M:rc Nat) (d:Act) (W:ly),n=b++x::C->I b M W->(∀k∈M,k<e)->w.heap.size<=e->e<=W.heap.size->o e x d W->
   G.wpIn (Fence.wide.inRound l) 0 P (Mw I j (b++[x]) M W) d W)
  (AR:∀(D:Nat) (i:rc Nat) (W:ly),w.heap.size<=D->I n i W->W.heap[D]?=V (.deferred (V []))->(∀k∈i,k≠D)->Q .normal {a with defers:=EU D::a.defers} W)
  (BS:∀(D:Nat) (c:Code) (b:rc α) (i:rc Nat) (W:ly),w.heap.size<=D->j c b i W->W.heap[D]?=V (.deferred (V []))->c.wp P Q {a with defers:=EU D::a.defers} W):
  (Code.rangeFunc g r H G).wp P Q a w:=
 TE (Off:=λx u _=>u=encs x) S eg (λl AT T W z q A y h5 hr h6=>N l AT T W z q A y h5 (λb x C M W1 he hj=>hr b x C M W1 (encs x) he hj rfl) h6) (λx u W h=>by rw[h];exact B0 x) BA I j hI BT R o A1 (λl x u W f z q A y=>by subst A;exact A2 l x W f z q y) CL AR BS
def BF{β:Type}{B:Nat}{I:β->ly->Prop}(h:∀s W b M,I s W->Ac M W b->(∀r∈M,B<=r/\∃o:Obj,W.heap[r]?=V o/\o.isCells=K)->I s b):OwnFrom B I:=λs W b g j a i=>
 h s W b g.toList j ⟨a.os,a.tape,a.output,a.size,λk d c=>a.block k d (λe=>c (by rw[<-e];simp))⟩ (λr f=>i r (by simpa using f))
def C3{W:ly}{B:Nat}{M:rc Nat}(e:∀r∈M,B<=r/\∃o:Obj,W.heap[r]?=V o/\o.isCells=K){b:Nat}{d:rc ml}{t:TypeId}(h:AI W b d t):b∉M:=λc=>by
 obtain⟨_,o,a,f⟩:=e b c;unfold AI at h;rw[h]at a;cases a
 cases f
def BZ{W:ly}{B:Nat}{M:rc Nat}(f:∀r∈M,B<=r/\∃o:Obj,W.heap[r]?=V o/\o.isCells=K){k e p n:Nat}{v:ml}{j:rc ml}(h:W.ownsRow k e p v n j):∀i,v.ownBlock=V i->i∉M:=λi a d=>by
 obtain⟨_,o,b,m⟩:=f i d;rcases h.2 with⟨rfl,_⟩|⟨g,c,q,rfl,_,l,_⟩
 .simp[qX]at a
 .simp only[qX,mB]at a;subst a;rw[l]at b;cases b
  cases m
def DS{a W b:ly}{B:Nat}{M:rc Nat}(h:Ac [] a W)(k:Ac M W b)(c:∀r∈M,B<=r/\∃o:Obj,W.heap[r]?=V o/\o.isCells=K)(e:a.heap.size<=B):Ac [] a b:=
 h.trans' k (λi d=>Or.inr (by have:=(c i d).1;omega))
def YD:rc Nat->ly->ly->Prop
 |[],w,w'=>w'=w
 |D::ds,w,w'=>YD ds (w.putObj D (.deferred Y)) w'
structure DC(B:Nat)(ds:rc Nat)(w:ly):Prop where
 nodup:ds.Nodup
 ge:∀D∈ds,B<=D
 at_:∀D∈ds,w.heap[D]?=V (.deferred (V []))
def YD.own{β:Type}{B:Nat}{I:β->ly->Prop}(f:OwnFrom B I){s:β}:∀{ds:rc Nat} {w a:ly},YD ds w a->DC B ds w->I s w->I s a
 |[],w,a,h,_,hi=>by
  have h:a=w:=h;rw[h];exact hi
 |D::ds,w,a,h,hm,hi=>by
  have c:=oB.1 hm.nodup;refine YD.own f (ds:=ds) h ⟨c.2,λd b=>hm.ge d (no _ b),λd b=>?_⟩ (OwnFrom.putObj f _ hi (hm.ge D (nK ..)) (hm.at_ D (nK ..)) rfl);rw[World.putObj_heap_other (λe=>c.1 (by rw[<-e];exact b))];exact hm.at_ d (no _ b)
def Dg{P:Program}{f:Func}{g:Array ml}{R:Ending->ly->Prop}{B:Nat}:∀(b:rc Nat) (w:ly),DC B b w->
  (∀a,YD b w a->∃v,(results f g).run P a=.ok v a/\R (kt v) a)->LeavesInM Fence.wide 0 P f g R (b.map EU) .returning w
 |[],w,_,h=>h w rfl
 |D::b,w,hm,h=>by
  have i:=oB.1 hm.nodup;refine⟨by simp,.inl ⟨D,_,rfl,run_takeDeferred (hm.at_ D (nK ..)),Dg (B:=B) b _ ⟨i.2,λd c=>hm.ge d (no _ c),λd c=>?_⟩ (λa j=>h a j)⟩⟩;rw[World.putObj_heap_other (λe=>i.1 (by rw[<-e];exact c))];exact hm.at_ d (no _ c)
def En{P:Program}{f:FuncId}{a:Func}{c:Code}{b:Array ml}{w:ly}{R:Ending->ly->Prop}(d:P.funcs[f]?=V a)(e:a.body=V c)
  (h:c.wp P (bodyPostM Fence.wide 0 P a R) {tmps:=b++Array.replicate (a.ntmps-b.size) undef,defers:=[]} w):Calls P f b w R:=
 callsIn_wide.1 (callsIn_of_wp_marks d e trivial (wpIn_wide.2 h))
def Px{P:Program}{a:Func}{R:Ending->ly->Prop}(h:∀w,¬R .outgrown w):¬LetsOut (bodyPostM Fence.wide 0 P a R):=fun⟨_,w,q⟩=>h w q
def IP{P:Program}{F:Fence}{n:Nat}(hF:∀f,F.fn f)(i:F.depth=Y)(x:Machine.fenced P F=Machine.fenced P Fence.wide){d:Array Oper}{Q:Exit->Act->ly->Prop}{g:rc Oper}{o:Oper}{a:Act}{w:ly}{l:Nat}{args:Array ml}{R:Ending->ly->Prop}
  (q:Region.wanted o (yielded d a.tmps)=jj) (u:(o.semAt F.round a.eval).run P w=(Instr.yield l args).run P w) (r:YieldAt Fence.wide 0 P l args w R)
  (y:∀e b,R e b->∃v,e=kt v/\wpListIn F n P d Q g (a.put o.dst v) b):wpListIn F n P d Q (o::g) a w:=by
 unfold wpListIn;rw[mK q];refine⟨λf _=>hF f,?_⟩;obtain⟨s,C,B,A,p,j⟩:=r;rw[u,p];refine⟨λh=>(by rw[i]at h;cases h),hF s,λc m _=>?_⟩;obtain⟨e,b,t,z⟩:=j.2 c m (room_wide _);obtain⟨v,rfl,k⟩:=y e b t;refine⟨kt v,b,k,?_⟩;rw[x];exact z
def Iv{P:Program}{α:Type}{g:Operand}{p q:Nat}{T:TypeId}{G F:Code}{Q:Exit->Act->ly->Prop}{a:Act}{w:ly}{r:Nat}{H:Array ml}{b:α->rc ml}{u:rc α}{B:rc Nat}
  (R:a.eval g=.func (.func r) #[] H) (eg:∀E w,(callFunc r E).run P w=.ok (.enter r E) w)
  (L:Lq P r H (λx=>#[oj (j2 (b x))]) u B w) (A1:∀k∈B,k<w.heap.size)
  (I:rc α->rc Nat->ly->Prop) (o:Code->rc α->rc Nat->ly->Prop)
  (hI:OwnFrom w.heap.size (fun(s:rc α×rc Nat) W=>I s.1 s.2 W)) (BT:∀c,OwnFrom w.heap.size (fun(s:rc α×rc Nat) W=>o c s.1 s.2 W)) (N:I [] B w)
  (A0:∀(l:Nat) (x:α) (W:ly) (j:Act->ly->Prop),x∈u->Hid (∀f,Ac [] W f->AI f W.heap.size (b x) T->j {tmps:=(a.tmps.setIfInBounds p (oj (j2 (b x)))).setIfInBounds q (j3 (V ⟨W.heap.size,0,Y⟩)),defers:=[]} f)->
   G.wpIn (Fence.wide.inRound l) 0 P (Exit.then j (λ_ _ _=>False)) {tmps:=a.tmps.setIfInBounds p (oj (j2 (b x))),defers:=[]} W)
  (B0:∀(l n:Nat) (d:rc α) (x:α) (C:rc α) (M:rc Nat) (W:ly),u=d++x::C->I d M W->(∀k∈M,k<n)->w.heap.size<=n->AI W n (b x) T->
   F.wpIn (Fence.wide.inRound l) 0 P (Mw I o (d++[x]) M W) {tmps:=(a.tmps.setIfInBounds p (oj (j2 (b x)))).setIfInBounds q (j3 (V ⟨n,0,Y⟩)),defers:=[]} W)
  (AR:∀(D:Nat) (m:rc Nat) (W:ly),w.heap.size<=D->I u m W->W.heap[D]?=V (.deferred (V []))->(∀k∈m,k≠D)->Q .normal {a with defers:=EU D::a.defers} W)
  (A2:∀(D:Nat) (c:Code) (d:rc α) (m:rc Nat) (W:ly),w.heap.size<=D->o c d m W->W.heap[D]?=V (.deferred (V []))->c.wp P Q {a with defers:=EU D::a.defers} W):
  (Code.rangeFunc g #[p] G F).wp P Q a w:=by
 refine UZ R eg L (λ_=>rfl) A1 I o hI BT N (λi x A W=>AI W i (b x) T/\A={tmps:=(a.tmps.setIfInBounds p (oj (j2 (b x)))).setIfInBounds q (j3 (V ⟨i,0,Y⟩)),defers:=[]}) ?_ ?_ ?_ AR A2
 .intro i x A;exact BF (λ_ W f M h k y=>⟨h.1.kept k (C3 y h.1),h.2⟩)
 .intro l x W j hx _ hK;have e:(#[p].zip #[oj (j2 (b x))]).foldl (λt (x:Nat×ml)=>match x with|(p,v)=>t.setIfInBounds p v) a.tmps=a.tmps.setIfInBounds p (oj (j2 (b x))):=by simp
  have h:=A0 l x W j hx (λf hk z=>hK _ f hk ⟨z,rfl⟩);rw[<-e]at h;exact h
 .rintro l i d x C M A W S hi y h1 h2 ⟨z,rfl⟩;exact B0 l i d x C M W S hi y h1 z
def GJ{P:Program}{d n:Nat}{b:rc Oper}{a:Act}{w:ly}{Q:Exit->Act->ly->Prop}(k:Nat)(e:¬LetsOut Q)
  (h:∀c:Act->ly->Prop,Hid (∀a w,wpListIn Fence.wide n P (j2 b) Q (b.drop k) a w->c a w)->wpList P (j2 b) (Exit.then c Q) (b.take k) a w):(Code.region d (j2 b) K).wp P Q a w:=
 O1 (n:=n) (nO k b).symm e (h _ (λ_ _ h=>h))
def QO{P:Program}{e n l:Nat}{b:rc Oper}{a:Act}{w:ly}{Q:Exit->Act->ly->Prop}(k:Nat)(d:D0 (b.take k)=jj)(f:¬LetsOut Q)
  (h:∀c:Act->ly->Prop,Hid (∀a w,wpListIn (Fence.wide.inRound l) n P (j2 b) Q (b.drop k) a w->c a w)->wpList P (j2 b) (Exit.then c Q) (b.take k) a w):(Code.region e (j2 b) K).wpIn (Fence.wide.inRound l) n P Q a w:=
 N6 (n:=n) (nO k b).symm d f (h _ (λ_ _ h=>h))
def Dj{P:Program}{n:Nat}{ops:Array Oper}{b:rc Oper}{a:Act}{w:ly}{Q:Exit->Act->ly->Prop}(d:¬LetsOut Q)(h:wpList P ops Q b a w):wpListIn Fence.wide n P ops Q b a w:=by
 have c:=Mg (P:=P) (ops:=ops) (Q:=Q) (n:=n) d [] b a w (by
  have f:Exit.then (wpListIn Fence.wide n P ops Q []) Q=Q:=by
   funext e a w
   cases e<;>rfl
  rw[f]
  exact h)
 rw[np]at c;exact c
def LH{P:Program}{n l:Nat}{ops:Array Oper}{b:rc Oper}{a:Act}{w:ly}{Q:Exit->Act->ly->Prop}(d:D0 b=jj)(f:¬LetsOut Q)(h:wpList P ops Q b a w):wpListIn (Fence.wide.inRound l) n P ops Q b a w:=by
 have c:=IN (P:=P) (ops:=ops) (Q:=Q) (n:=n) (l:=l) f [] b d a w (by
  have g:Exit.then (wpListIn (Fence.wide.inRound l) n P ops Q []) Q=Q:=by
   funext e a w
   cases e<;>rfl
  rw[g]
  exact h)
 rw[np]at c;exact c
end Go.Proofs.YtoihbhenbmffcaaGreatDoor
namespace Go.Proofs.YtoihbhenbmffcaaGreatDoor
open Go.RowKit Go.Proofs.Tryz
variable {P:Program}
section
variable {ops:Array Oper} {Q:Exit->Act->ly->Prop} {md:Region.Mode} {S:ly->Prop} {y l n:Nat}
def Gp(P:Program)(md:Region.Mode)(ops:Array Oper)(Q:Exit->Act->ly->Prop)(S:ly->Prop)(l n y:Nat):Nat->Array Bool->Act->ly->Prop
 |0,listed,a,w=>Region.ready md ops listed=[]/\Q .normal a w
 |fuel+1,listed,a,w=>(Region.ready md ops listed=[]->Q .normal a w)/\
  ∀i∈Region.ready md ops listed,if i=y then wpOpIn (Fence.wide.inRound l) n P ops Q i (Gp P md ops Q S l n y fuel (listed.setIfInBounds i jj)) a w
   else wpOp P ops Q i (λa' w'=>(listed.getD y jj=K->S w')/\Gp P md ops Q S l n y fuel (listed.setIfInBounds i jj) a' w') a w
def Gp.any(j:¬LetsOut Q)(d:D0 ops.toList=jj):∀(e:Nat) (m:Array Bool) (a:Act) (w:ly),Gp P md ops Q S l n y e m a w->wpAnyIn (Fence.wide.inRound l) n P md ops Q e m a w
 |0,_,_,_,h=>h
 |e+1,m,a,w,h=>by
  refine⟨h.1,λi s=>?_⟩;have b:=h.2 i s;by_cases q:i=y
  .rw[mK q]at b;exact wpOpIn_mono (λg f p=>Gp.any j d e _ g f p) b
  .rw[mJ q]at b;unfold wpOp at b;unfold wpOpIn;cases ho:ops[i]? with
   |none=>
    rw[ho]at b;exact Gp.any j d e _ a w b.2
   |some o=>
    rw[ho]at b;have t:∀c,o.op≠ .defer c:=by
     unfold D0 at d;rw[nY]at d;exact SF (d o (Array.mem_toList_iff.2 (Array.mem_of_getElem? ho)))
    simp only at b⊢;split
    .rename_i k;rw[mK k]at b;rcases b with b|b
     .exact St t (Oper.wp_mono (λg f p=>Gp.any j d e _ g f p.2) b)
     .obtain⟨_,g,f,r⟩:=b;exact absurd ⟨g,f,r⟩ j
    .rename_i k;rw[mJ k]at b;exact⟨λ_ _=>trivial,Gp.any j d e _ _ w b.2⟩
def Gp.first{i:Nat}{p:Oper}{v:ml}(F:ops[i]?=V p)(R:∀(j:Nat) (o:Oper) r b,ops[j]?=V o->o.op≠ .select r b)
  (hQ:∀c a w,Q (.panic c) (a.put p.dst v) w->Q (.panic c) a w) (A:i≠y) (hW:RL md ops y i=jj):
  ∀(s:Nat) (d:Array Bool) (a:Act) (w:ly),d.getD y jj=K->
   (∀j m,ops[j]?=V m->j≠i->d.getD j jj=K->(∀e∈m.after,Region.binds md e=jj->e.on≠i)->p.apart ops m=jj)->
   i∈Region.ready md ops d->YieldsIf P ops S p v a->S w->
   Gp P md ops Q S l n y s (d.setIfInBounds i jj) (a.put p.dst v) w->Gp P md ops Q S l n y (s+1) d a w:=by
 intro s
 induction s with
 |zero=>
  intro d a w E _ k x u H;refine⟨λh=>(by rw[h]at k;cases k),λj t=>?_⟩;by_cases f:j=i
  .subst f;rw[mJ A];exact x.wpOp F u ⟨λ_=>u,H⟩
  .have:=qC t f;rw[H.1]at this;cases this
 |succ s ih=>
  intro d a w E L k x u H;have D:=(mem_ready.1 k).1;refine⟨λh=>(by rw[h]at k;cases k),λj t=>?_⟩;by_cases f:j=i
  .subst f;rw[mJ A];exact x.wpOp F u ⟨λ_=>u,H⟩
  ·(have T:j≠y:=λe=>UB hW D (e▸t));have N:=H.2 j (qC t f);rw[mJ T]at N⊢;obtain⟨I,m,B,BA⟩:=mem_ready.1 t;have A1:∀e∈m.after,Region.binds md e=jj->e.on≠i:=λe he hb AO=>by
    have g:=BA e he hb;rw[AO]at g;rcases Nat.lt_or_ge i d.size with C|C
    .simp[C]at D g;rw[D]at g;cases g
    .simp[pU C]at g
   have g:=wpOp_putIf B (L j m B f I A1) (λr b=>R i p r b F) (λr b=>R j m r b B) hQ x N;(have G:(d.setIfInBounds i jj).getD y jj=K:=by rw[getD_set_ne jj A];exact E);refine wpOp_mono (λa' w' z=>⟨λ_=>z.2.1 G,ih (d.setIfInBounds j jj) a' w' (by rw[getD_set_ne jj T];exact E) (λq oq hq Bx W Ax=>L q oq hq Bx ?_ Ax) (qC k (Ne.symm f)) z.1 (z.2.1 G) ?_⟩) g
   .by_cases M:j=q
    .subst M;exact I
    .rw[getD_set_ne jj M]at W;exact W
   .rw[qD _ _ f];exact z.2.2
def mi(md:Region.Mode)(ops:Array Oper)(listed:Array Bool)(y i:Nat):Bool:=Region.noSelect ops&&Region.free md ops listed i&&(Region.ready md ops listed).contains i&&RL md ops y i&& !(i==y)&& !(listed.getD y jj)
def Gp.take{i:Nat}{d:Oper}{v:ml}{e:Nat}{b:Array Bool}{a:Act}{w:ly}(g:ops[i]?=V d)(f:mi md ops b y i=jj)
  (t:∀c a w,Q (.panic c) (a.put d.dst v) w->Q (.panic c) a w) (p:S w) (m:YieldsIf P ops S d v a)
  (h:Gp P md ops Q S l n y e (b.setIfInBounds i jj) (a.put d.dst v) w):Gp P md ops Q S l n y (e+1) b a w:=by
 unfold mi at f;simp only[mV,oJ,nj]at f;obtain⟨⟨⟨⟨⟨q,k⟩,s⟩,o⟩,r⟩,j⟩:=f;exact Gp.first g (Region.noSelect_spec q) t r o e b a w j (Region.free_spec g k) (by simpa using s) m p h
def Gp.one{i:Nat}{o:Oper}{m:Nat}{c:Array Bool}{a:Act}{w:ly}(p:Region.ready md ops c=[i])(t:(i==y)=K)(r:ops[i]?=V o)
  (h:∀f:Act->ly->Prop,Hid (∀k d,(c.getD y jj=K->S d)->Gp P md ops Q S l n y m (c.setIfInBounds i jj) k d->f k d)->
   if Region.wanted o (yielded ops a.tmps)=jj then o.wp P a w f Q else f (a.put o.dst undef) w):Gp P md ops Q S l n y (m+1) c a w:=by
 refine⟨λq=>(by rw[p]at q;cases q),λj g=>?_⟩;rw[p]at g;simp only[my]at g;subst g;rw[mJ (nj.1 t)];have b:=h _ (λk d s b=>And.intro s b);unfold wpOp;simp only[r];split
 .rename_i e;rw[mK e]at b;exact .inl b
 .rename_i e;rw[mJ e]at b;exact b
def Gp.yield{o:Oper}{m:Nat}{g:Array Bool}{a:Act}{w:ly}(d:Region.ready md ops g=[y])(x:ops[y]?=V o){q:Nat}{args:Array ml}{R:Ending->ly->Prop}
  (u:Region.wanted o (yielded ops a.tmps)=jj) (A:(o.semAt (Fence.wide.inRound l).round a.eval).run P w=(Instr.yield q args).run P w) (z:YieldAt Fence.wide 0 P q args w R)
  (B:∀e b,R e b->∃v,e=kt v/\Gp P md ops Q S l n y m (g.setIfInBounds y jj) (a.put o.dst v) b):Gp P md ops Q S l n y (m+1) g a w:=by
 refine⟨λk=>(by rw[d]at k;cases k),λj i=>?_⟩;rw[d]at i;simp only[my]at i;subst i;rw[mK rfl];unfold wpOpIn;simp only[x];rw[mK u];refine⟨λf _=>trivial,?_⟩;obtain⟨G,F,E,D,t,p⟩:=z;rw[A,t];refine⟨λh=>(by cases h),trivial,λc s _=>?_⟩;obtain⟨e,b,d,C⟩:=p.2 c s (room_wide _);obtain⟨v,rfl,r⟩:=B e b d;exact⟨kt v,b,r,C⟩
def Gp.done{b:Array Bool}{a:Act}{w:ly}(c:Region.ready md ops b=[])(h:Q .normal a w):∀d,Gp P md ops Q S l n y d b a w
 |0=>⟨c,h⟩
 |_+1=>⟨λ_=>h,by rw[c];simp⟩
def QV{c:Nat}{a:Act}{w:ly}(y:Nat)(S:ly->Prop)(b:P.follows .mixedOrders=jj)(e:D0 ops.toList=jj)(d:¬LetsOut Q)
  (h:Gp P .any ops Q S l n y ops.size (Array.replicate ops.size K) a w.drew):(Code.region c ops jj).wpIn (Fence.wide.inRound l) n P Q a w:=
 wpIn_region_any b (Gp.any d e _ _ _ _ h)
end
