import Derived.RangeFuncNested
import Derived.RangeFuncLeaves
import Derived.TacticsIn
import Derived.OrdersIn
import Derived.Test.YtoihbhenbmffcaaGreatDoorYAE
set_option linter.all false
set_option maxHeartbeats 0
open Bool renaming false->K,true->jj
open List renaming toArray->j2
open Go renaming World->j7
namespace Go.Proofs.YtoihbhenbmffcaaGreatDoor
open Go.RowKit Go.Proofs.Tryz
section
variable {P:Program} {ops:Array Oper} {Q:Exit->Act->j7->Prop} {l n:Nat}
def Ee(os:List Oper):Bool:=os.all λo=>match o.op with| .defer _=>K|_=>jj
def Uu{o:Oper}(h:(match o.op with| .defer _=>K|_=>jj)=jj):∀c,o.op≠ .defer c:=λc e=>by rw[e]at h;cases h
def Ub{o:Oper}{a:Act}{w:j7}{d:Act->j7->Prop}(f:∀c,o.op≠ .defer c)(h:o.wp P a w d Q):o.wpIn (Fence.wide.inRound l) n P a w d Q:=by
 refine⟨λ_ _=>trivial,?_⟩;have e:o.semAt (Fence.wide.inRound l).round a.eval=execOp a.eval o:=Oper.semAt_eq _ _ _ f;rw[e];unfold Oper.wp at h;generalize(execOp a.eval o).run P w=r at h;have b:((Fence.wide.inRound l).depth.isSome=jj->1<=n):=λh=>by cases h
 cases r with
 |ok x w'=>
  cases x<;>simp only[Oper.upon]at h<;>first
   |exact h
   |exact⟨b,CallsIn.inRound l (callsIn_wide.2 h)⟩
   |exact⟨b,λc g _=>let ⟨v,w'',r,s⟩:=h c g;⟨v,w'',r,stepsIn_wide.2 s⟩⟩
 |halt x w'=>cases x<;>simp only[Oper.upon]at h<;>exact h
def cK{o:Oper}{a:Act}{w:j7}{d:Act->j7->Prop}(h:o.wp P a w d Q):o.wpIn Fence.wide n P a w d Q:=by
 refine⟨λ_ _=>trivial,?_⟩;have e:o.semAt Fence.wide.round a.eval=execOp a.eval o:=Oper.semAt_none _ _;rw[e];unfold Oper.wp at h;generalize(execOp a.eval o).run P w=r at h;have b:(Fence.wide.depth.isSome=jj->1<=n):=λh=>by cases h
 cases r with
 |ok x w'=>
  cases x<;>simp only[Oper.upon]at h<;>first
   |exact h
   |exact⟨b,callsIn_wide.2 h⟩
   |exact⟨b,λc f _=>let ⟨v,w'',r,s⟩:=h c f;⟨v,w'',r,stepsIn_wide.2 s⟩⟩
 |halt x w'=>cases x<;>simp only[Oper.upon]at h<;>exact h
def GQ(j:¬LetsOut Q)(f:List Oper):∀(b:List Oper),Ee b=jj->∀(a:Act) (w:j7),
  wpList P ops (Exit.then (wpListIn (Fence.wide.inRound l) n P ops Q f) Q) b a w->wpListIn (Fence.wide.inRound l) n P ops Q (b++f) a w
 |[],_,a,w,h=>h
 |o::b,hp,a,w,h=>by
  have k:Ee b=jj:=by
   unfold Ee at hp⊢;rw[iI,eW]at hp;exact hp.2
  have s:∀c,o.op≠ .defer c:=by
   unfold Ee at hp;rw[iI,eW]at hp;exact Uu hp.1
  rw[gO];unfold wpListIn;unfold wpList at h;split
  .rename_i g;rw[eI g]at h;rcases h with h|h
   .refine Ub s (Oper.wp_mono (λi d m=>GQ j f b k i d m) ?_);unfold Oper.wp at h⊢;generalize(execOp a.eval o).run P w=r at h⊢;cases r with
    |ok x d=>
     cases x<;>simp only[Oper.upon]at h⊢<;>first
      |exact h
      |exact Calls.mono h (λe t q=>by cases e<;>exact q)
    |halt x d=>cases x<;>simp only[Oper.upon]at h⊢<;>exact h
   .obtain⟨_,i,d,p⟩:=h;exact absurd ⟨i,d,p⟩ j
  .rename_i g;rw[eE g]at h;exact⟨λ_ _=>trivial,GQ j f b k _ w h⟩
def Kb(i:¬LetsOut Q)(d:List Oper):∀(c:List Oper) (a:Act) (w:j7),
  wpList P ops (Exit.then (wpListIn Fence.wide n P ops Q d) Q) c a w->wpListIn Fence.wide n P ops Q (c++d) a w
 |[],a,w,h=>h
 |o::c,a,w,h=>by
  rw[gO];unfold wpListIn;unfold wpList at h;split
  .rename_i f;rw[eI f]at h;rcases h with h|h
   .refine cK (Oper.wp_mono (λg b j=>Kb i d c g b j) ?_);unfold Oper.wp at h⊢;generalize(execOp a.eval o).run P w=r at h⊢;cases r with
    |ok x b=>
     cases x<;>simp only[Oper.upon]at h⊢<;>first
      |exact h
      |exact Calls.mono h (λe m l=>by cases e<;>exact l)
    |halt x b=>cases x<;>simp only[Oper.upon]at h⊢<;>exact h
   .obtain⟨_,g,b,k⟩:=h;exact absurd ⟨g,b,k⟩ i
  .rename_i f;rw[eE f]at h;exact⟨λ_ _=>trivial,Kb i d c _ w h⟩
def Bi{d:Nat}{os:List Oper}{a:Act}{w:j7}(c:Ee os=jj)(f:¬LetsOut Q)(h:wpList P (j2 os) Q os a w):
  (Code.region d (j2 os) K).wpIn (Fence.wide.inRound l) n P Q a w:=by
 refine wpIn_region_lit ?_;have e:os=os++[]:=by simp
 have b:=GQ (P:=P) (ops:=j2 os) (Q:=Q) (l:=l) (n:=n) f [] os c a w (by
  have g:Exit.then (wpListIn (Fence.wide.inRound l) n P (j2 os) Q []) Q=Q:=by
   funext e a w
   cases e<;>rfl
  rw[g]
  exact h)
 rw[fh]at b;exact b
def LA{f:Nat}{os b c:List Oper}{a:Act}{w:j7}(g:os=b++c)(e:Ee b=jj)(i:¬LetsOut Q)
  (h:wpList P (j2 os) (Exit.then (wpListIn (Fence.wide.inRound l) n P (j2 os) Q c) Q) b a w):
  (Code.region f (j2 os) K).wpIn (Fence.wide.inRound l) n P Q a w:=by
 refine wpIn_region_lit ?_;have d:=GQ (P:=P) (ops:=j2 os) (Q:=Q) (l:=l) (n:=n) i c b e a w h;rw[<-g]at d;exact d
def Mw{e:Nat}{os c b:List Oper}{a:Act}{w:j7}(f:os=c++b)(g:¬LetsOut Q)
  (h:wpList P (j2 os) (Exit.then (wpListIn Fence.wide n P (j2 os) Q b) Q) c a w):
  (Code.region e (j2 os) K).wp P Q a w:=by
 refine wpIn_wide.1 (wpIn_region_lit (n:=n) ?_);have d:=Kb (P:=P) (ops:=j2 os) (Q:=Q) (n:=n) g b c a w h;rw[<-f]at d;exact d
def Kr(f:¬LetsOut Q){p:Region.Mode}(d:Ee ops.toList=jj):∀(e:Nat) (j:Array Bool) (a:Act) (w:j7),wpAny P p ops Q e j a w->wpAnyIn (Fence.wide.inRound l) n P p ops Q e j a w
 |0,_,_,_,h=>h
 |e+1,j,a,w,h=>by
  refine⟨h.1,λi s=>?_⟩;have b:=h.2 i s;unfold wpOp at b;unfold wpOpIn;cases ho:ops[i]? with
  |none=>
   rw[ho]at b;exact Kr f d e _ a w b
  |some o=>
   rw[ho]at b;have t:∀c,o.op≠ .defer c:=by
    unfold Ee at d;rw[gN]at d;refine Uu (d o ?_);have:=Array.mem_of_getElem? ho;exact Array.mem_toList_iff.2 this
   simp only at b⊢;split
   .rename_i g;rw[eI g]at b;rcases b with b|b
    .exact Ub t (Oper.wp_mono (λm k q=>Kr f d e _ m k q) b)
    .obtain⟨_,m,k,r⟩:=b;exact absurd ⟨m,k,r⟩ f
   .rename_i g;rw[eE g]at b;exact⟨λ_ _=>trivial,Kr f d e _ _ w b⟩
def D2{c:Nat}{a:Act}{w:j7}(k:Nat)(S:j7->Prop)(e:P.follows .mixedOrders=jj)(b:Ee ops.toList=jj)(d:¬LetsOut Q)
  (h:CI P .any ops Q S k ops.size (Array.replicate ops.size K) a w.drew):(Code.region c ops jj).wpIn (Fence.wide.inRound l) n P Q a w:=
 wpIn_region_any e (Kr d b _ _ _ _ (CI.any _ _ _ _ h))
end
