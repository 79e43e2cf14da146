import Derived.RangeFuncNested
import Derived.RangeFuncLeaves
import Derived.TacticsIn
import Derived.OrdersIn
import Derived.Test.YtoihbhenbmffcaaGreatDoorYAC
set_option linter.all false
set_option maxHeartbeats 0
open Bool renaming false->K,true->j1
open List renaming toArray->j3
open Go renaming World->l9
namespace Go.Proofs.YtoihbhenbmffcaaGreatDoor
open Go.RowKit Go.Proofs.Tryz
section
variable {P:Program} {ops:Array Oper} {Q:Exit->Act->l9->Prop} {l n:Nat}
def Dd(os:mc Oper):Bool:=os.all λo=>match o.op with| .defer _=>K|_=>j1
def Qz{o:Oper}(h:(match o.op with| .defer _=>K|_=>j1)=j1):∀c,o.op≠ .defer c:=λc e=>by rw[e]at h;cases h
def Qr{o:Oper}{a:Act}{w:l9}{d:Act->l9->Prop}(f:∀c,o.op≠ .defer c)(h:o.wp P a w d Q):o.wpIn (Fence.wide.inRound l) n P a w d Q:=by
 refine⟨λ_ _=>trivial,?_⟩;have e:o.semAt (Fence.wide.inRound l).round a.eval=execOp a.eval o:=Oper.semAt_eq _ _ _ f;rw[e];unfold Oper.wp at h;generalize(execOp a.eval o).run P w=r at h;have b:((Fence.wide.inRound l).depth.isSome=j1->1<=n):=λh=>by cases h
 cases r with
 |ok x w'=>
  cases x<;>simp only[Oper.upon]at h<;>first
   |exact h
   |exact⟨b,CallsIn.inRound l (callsIn_wide.2 h)⟩
   |exact⟨b,λc g _=>let ⟨v,w'',r,s⟩:=h c g;⟨v,w'',r,stepsIn_wide.2 s⟩⟩
 |halt x w'=>cases x<;>simp only[Oper.upon]at h<;>exact h
def eh{o:Oper}{a:Act}{w:l9}{d:Act->l9->Prop}(h:o.wp P a w d Q):o.wpIn Fence.wide n P a w d Q:=by
 refine⟨λ_ _=>trivial,?_⟩;have e:o.semAt Fence.wide.round a.eval=execOp a.eval o:=Oper.semAt_none _ _;rw[e];unfold Oper.wp at h;generalize(execOp a.eval o).run P w=r at h;have b:(Fence.wide.depth.isSome=j1->1<=n):=λh=>by cases h
 cases r with
 |ok x w'=>
  cases x<;>simp only[Oper.upon]at h<;>first
   |exact h
   |exact⟨b,callsIn_wide.2 h⟩
   |exact⟨b,λc f _=>let ⟨v,w'',r,s⟩:=h c f;⟨v,w'',r,stepsIn_wide.2 s⟩⟩
 |halt x w'=>cases x<;>simp only[Oper.upon]at h<;>exact h
def G1(j:¬LetsOut Q)(f:mc Oper):∀(b:mc Oper),Dd b=j1->∀(a:Act) (w:l9),
  wpList P ops (Exit.then (wpListIn (Fence.wide.inRound l) n P ops Q f) Q) b a w->wpListIn (Fence.wide.inRound l) n P ops Q (b++f) a w
 |[],_,a,w,h=>h
 |o::b,hp,a,w,h=>by
  have k:Dd b=j1:=by
   unfold Dd at hp⊢;rw[kH,iq]at hp;exact hp.2
  have s:∀c,o.op≠ .defer c:=by
   unfold Dd at hp;rw[kH,iq]at hp;exact Qz hp.1
  rw[js];unfold wpListIn;unfold wpList at h;split
  .rename_i g;rw[gY g]at h;rcases h with h|h
   .refine Qr s (Oper.wp_mono (λi d m=>G1 j f b k i d m) ?_);unfold Oper.wp at h⊢;generalize(execOp a.eval o).run P w=r at h⊢;cases r with
    |ok x d=>
     cases x<;>simp only[Oper.upon]at h⊢<;>first
      |exact h
      |exact Calls.mono h (λe t q=>by cases e<;>exact q)
    |halt x d=>cases x<;>simp only[Oper.upon]at h⊢<;>exact h
   .obtain⟨_,i,d,p⟩:=h;exact absurd ⟨i,d,p⟩ j
  .rename_i g;rw[gV g]at h;exact⟨λ_ _=>trivial,G1 j f b k _ w h⟩
def Kp(i:¬LetsOut Q)(d:mc Oper):∀(c:mc Oper) (a:Act) (w:l9),
  wpList P ops (Exit.then (wpListIn Fence.wide n P ops Q d) Q) c a w->wpListIn Fence.wide n P ops Q (c++d) a w
 |[],a,w,h=>h
 |o::c,a,w,h=>by
  rw[js];unfold wpListIn;unfold wpList at h;split
  .rename_i f;rw[gY f]at h;rcases h with h|h
   .refine eh (Oper.wp_mono (λg b j=>Kp i d c g b j) ?_);unfold Oper.wp at h⊢;generalize(execOp a.eval o).run P w=r at h⊢;cases r with
    |ok x b=>
     cases x<;>simp only[Oper.upon]at h⊢<;>first
      |exact h
      |exact Calls.mono h (λe m l=>by cases e<;>exact l)
    |halt x b=>cases x<;>simp only[Oper.upon]at h⊢<;>exact h
   .obtain⟨_,g,b,k⟩:=h;exact absurd ⟨g,b,k⟩ i
  .rename_i f;rw[gV f]at h;exact⟨λ_ _=>trivial,Kp i d c _ w h⟩
def AG{d:Nat}{os:mc Oper}{a:Act}{w:l9}(c:Dd os=j1)(f:¬LetsOut Q)(h:wpList P (j3 os) Q os a w):
  (Code.region d (j3 os) K).wpIn (Fence.wide.inRound l) n P Q a w:=by
 refine wpIn_region_lit ?_;have e:os=os++[]:=by simp
 have b:=G1 (P:=P) (ops:=j3 os) (Q:=Q) (l:=l) (n:=n) f [] os c a w (by
  have g:Exit.then (wpListIn (Fence.wide.inRound l) n P (j3 os) Q []) Q=Q:=by
   funext e a w
   cases e<;>rfl
  rw[g]
  exact h)
 rw[iJ]at b;exact b
def LZ{f:Nat}{os b c:mc Oper}{a:Act}{w:l9}(g:os=b++c)(e:Dd b=j1)(i:¬LetsOut Q)
  (h:wpList P (j3 os) (Exit.then (wpListIn (Fence.wide.inRound l) n P (j3 os) Q c) Q) b a w):
  (Code.region f (j3 os) K).wpIn (Fence.wide.inRound l) n P Q a w:=by
 refine wpIn_region_lit ?_;have d:=G1 (P:=P) (ops:=j3 os) (Q:=Q) (l:=l) (n:=n) i c b e a w h;rw[<-g]at d;exact d
def MO{e:Nat}{os c b:mc Oper}{a:Act}{w:l9}(f:os=c++b)(g:¬LetsOut Q)
  (h:wpList P (j3 os) (Exit.then (wpListIn Fence.wide n P (j3 os) Q b) Q) c a w):
  (Code.region e (j3 os) K).wp P Q a w:=by
 refine wpIn_wide.1 (wpIn_region_lit (n:=n) ?_);have d:=Kp (P:=P) (ops:=j3 os) (Q:=Q) (n:=n) g b c a w h;rw[<-f]at d;exact d
def KH(f:¬LetsOut Q){p:Region.Mode}(d:Dd ops.toList=j1):∀(e:Nat) (j:Array Bool) (a:Act) (w:l9),wpAny P p ops Q e j a w->wpAnyIn (Fence.wide.inRound l) n P p ops Q e j a w
 |0,_,_,_,h=>h
 |e+1,j,a,w,h=>by
  refine⟨h.1,λi s=>?_⟩;have b:=h.2 i s;unfold wpOp at b;unfold wpOpIn;cases ho:ops[i]? with
  |none=>
   rw[ho]at b;exact KH f d e _ a w b
  |some o=>
   rw[ho]at b;have t:∀c,o.op≠ .defer c:=by
    unfold Dd at d;rw[ji]at d;refine Qz (d o ?_);have:=Array.mem_of_getElem? ho;exact Array.mem_toList_iff.2 this
   simp only at b⊢;split
   .rename_i g;rw[gY g]at b;rcases b with b|b
    .exact Qr t (Oper.wp_mono (λm k q=>KH f d e _ m k q) b)
    .obtain⟨_,m,k,r⟩:=b;exact absurd ⟨m,k,r⟩ f
   .rename_i g;rw[gV g]at b;exact⟨λ_ _=>trivial,KH f d e _ _ w b⟩
def Ee{c:Nat}{a:Act}{w:l9}(k:Nat)(S:l9->Prop)(e:P.follows .mixedOrders=j1)(b:Dd ops.toList=j1)(d:¬LetsOut Q)
  (h:Cx P .any ops Q S k ops.size (Array.replicate ops.size K) a w.drew):(Code.region c ops j1).wpIn (Fence.wide.inRound l) n P Q a w:=
 wpIn_region_any e (KH d b _ _ _ _ (Cx.any _ _ _ _ h))
end
