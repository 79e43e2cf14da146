import Derived.RangeFuncNested
import Derived.RangeFuncLeaves
import Derived.TacticsIn
import Derived.OrdersIn
import Derived.Test.YtoihbhenbmffcaaGreatDoorYAD
set_option linter.all false
set_option maxHeartbeats 0
namespace Go.Proofs.YtoihbhenbmffcaaGreatDoor
open Go.RowKit Go.Proofs.Tryz
section
variable {P:Program} {ops:Array Oper} {Q:Exit->Act->World->Prop} {l n:Nat}
def CU(os:List Oper):Bool:=os.all λo=>match o.op with| .defer _=>false|_=>true
theorem Pc{o:Oper}(h:(match o.op with| .defer _=>false|_=>true)=true):∀c,o.op≠ .defer c:=λc e=>by rw[e]at h;cases h
theorem O5{o:Oper}{a:Act}{w:World}{K:Act->World->Prop}(d:∀c,o.op≠ .defer c)(h:o.wp P a w K Q):o.wpIn (Fence.wide.inRound l) n P a w K Q:=by
 refine⟨λ_ _=>trivial,?_⟩;have e:o.semAt (Fence.wide.inRound l).round a.eval=execOp a.eval o:=Oper.semAt_eq _ _ _ d;rw[e];unfold Oper.wp at h;generalize(execOp a.eval o).run P w=r at h;have b:((Fence.wide.inRound l).depth.isSome=true->1<=n):=λh=>by cases h
 cases r with
 |ok x w'=>
  cases x<;>simp only[Oper.upon]at h<;>first
   |exact h
   |exact⟨b,CallsIn.inRound l (callsIn_wide.2 h)⟩
   |exact⟨b,λc f _=>let ⟨v,w'',r,s⟩:=h c f;⟨v,w'',r,stepsIn_wide.2 s⟩⟩
 |halt x w'=>cases x<;>simp only[Oper.upon]at h<;>exact h
theorem Z7{o:Oper}{a:Act}{w:World}{K:Act->World->Prop}(h:o.wp P a w K Q):o.wpIn Fence.wide n P a w K Q:=by
 refine⟨λ_ _=>trivial,?_⟩;have e:o.semAt Fence.wide.round a.eval=execOp a.eval o:=Oper.semAt_none _ _;rw[e];unfold Oper.wp at h;generalize(execOp a.eval o).run P w=r at h;have b:(Fence.wide.depth.isSome=true->1<=n):=λh=>by cases h
 cases r with
 |ok x w'=>
  cases x<;>simp only[Oper.upon]at h<;>first
   |exact h
   |exact⟨b,callsIn_wide.2 h⟩
   |exact⟨b,λc d _=>let ⟨v,w'',r,s⟩:=h c d;⟨v,w'',r,stepsIn_wide.2 s⟩⟩
 |halt x w'=>cases x<;>simp only[Oper.upon]at h<;>exact h
theorem GC(j:¬LetsOut Q)(f:List Oper):∀(b:List Oper),CU b=true->∀(a:Act) (w:World),
  wpList P ops (Exit.then (wpListIn (Fence.wide.inRound l) n P ops Q f) Q) b a w->wpListIn (Fence.wide.inRound l) n P ops Q (b++f) a w
 |[],_,a,w,h=>h
 |o::b,hp,a,w,h=>by
  have k:CU b=true:=by
   unfold CU at hp⊢;rw[eP,cq]at hp;exact hp.2
  have s:∀c,o.op≠ .defer c:=by
   unfold CU at hp;rw[eP,cq]at hp;exact Pc hp.1
  rw[dG];unfold wpListIn;unfold wpList at h;split
  .rename_i g;rw[if_pos g]at h;rcases h with h|h
   .refine O5 s (Oper.wp_mono (λi d m=>GC j f b k i d m) ?_);unfold Oper.wp at h⊢;generalize(execOp a.eval o).run P w=r at h⊢;cases r with
    |ok x d=>
     cases x<;>simp only[Oper.upon]at h⊢<;>first
      |exact h
      |exact Calls.mono h (λe t q=>by cases e<;>exact q)
    |halt x d=>cases x<;>simp only[Oper.upon]at h⊢<;>exact h
   .obtain⟨_,i,d,p⟩:=h;exact absurd ⟨i,d,p⟩ j
  .rename_i g;rw[if_neg g]at h;exact⟨λ_ _=>trivial,GC j f b k _ w h⟩
theorem JD(i:¬LetsOut Q)(d:List Oper):∀(c:List Oper) (a:Act) (w:World),
  wpList P ops (Exit.then (wpListIn Fence.wide n P ops Q d) Q) c a w->wpListIn Fence.wide n P ops Q (c++d) a w
 |[],a,w,h=>h
 |o::c,a,w,h=>by
  rw[dG];unfold wpListIn;unfold wpList at h;split
  .rename_i f;rw[if_pos f]at h;rcases h with h|h
   .refine Z7 (Oper.wp_mono (λg b j=>JD i d c g b j) ?_);unfold Oper.wp at h⊢;generalize(execOp a.eval o).run P w=r at h⊢;cases r with
    |ok x b=>
     cases x<;>simp only[Oper.upon]at h⊢<;>first
      |exact h
      |exact Calls.mono h (λe m l=>by cases e<;>exact l)
    |halt x b=>cases x<;>simp only[Oper.upon]at h⊢<;>exact h
   .obtain⟨_,g,b,k⟩:=h;exact absurd ⟨g,b,k⟩ i
  .rename_i f;rw[if_neg f]at h;exact⟨λ_ _=>trivial,JD i d c _ w h⟩
theorem AZ{d:Nat}{os:List Oper}{a:Act}{w:World}(c:CU os=true)(f:¬LetsOut Q)(h:wpList P os.toArray Q os a w):
  (Code.region d os.toArray false).wpIn (Fence.wide.inRound l) n P Q a w:=by
 refine wpIn_region_lit ?_;have e:os=os++[]:=by simp
 have b:=GC (P:=P) (ops:=os.toArray) (Q:=Q) (l:=l) (n:=n) f [] os c a w (by
  have g:Exit.then (wpListIn (Fence.wide.inRound l) n P os.toArray Q []) Q=Q:=by
   funext e a w
   cases e<;>rfl
  rw[g]
  exact h)
 rw[cK]at b;exact b
theorem KU{f:Nat}{os b c:List Oper}{a:Act}{w:World}(g:os=b++c)(e:CU b=true)(i:¬LetsOut Q)
  (h:wpList P os.toArray (Exit.then (wpListIn (Fence.wide.inRound l) n P os.toArray Q c) Q) b a w):
  (Code.region f os.toArray false).wpIn (Fence.wide.inRound l) n P Q a w:=by
 refine wpIn_region_lit ?_;have d:=GC (P:=P) (ops:=os.toArray) (Q:=Q) (l:=l) (n:=n) i c b e a w h;rw[<-g]at d;exact d
theorem LZ{e:Nat}{os c b:List Oper}{a:Act}{w:World}(f:os=c++b)(g:¬LetsOut Q)
  (h:wpList P os.toArray (Exit.then (wpListIn Fence.wide n P os.toArray Q b) Q) c a w):
  (Code.region e os.toArray false).wp P Q a w:=by
 refine wpIn_wide.1 (wpIn_region_lit (n:=n) ?_);have d:=JD (P:=P) (ops:=os.toArray) (Q:=Q) (n:=n) g b c a w h;rw[<-f]at d;exact d
theorem JT(f:¬LetsOut Q){p:Region.Mode}(d:CU ops.toList=true):∀(e:Nat) (j:Array Bool) (a:Act) (w:World),wpAny P p ops Q e j a w->wpAnyIn (Fence.wide.inRound l) n P p ops Q e j a w
 |0,_,_,_,h=>h
 |e+1,j,a,w,h=>by
  refine⟨h.1,λi s=>?_⟩;have b:=h.2 i s;unfold wpOp at b;unfold wpOpIn;cases ho:ops[i]? with
  |none=>
   rw[ho]at b;exact JT f d e _ a w b
  |some o=>
   rw[ho]at b;have t:∀c,o.op≠ .defer c:=by
    unfold CU at d;rw[dO]at d;refine Pc (d o ?_);have:=Array.mem_of_getElem? ho;exact Array.mem_toList_iff.2 this
   simp only at b⊢;split
   .rename_i g;rw[if_pos g]at b;rcases b with b|b
    .exact O5 t (Oper.wp_mono (λm k q=>JT f d e _ m k q) b)
    .obtain⟨_,m,k,r⟩:=b;exact absurd ⟨m,k,r⟩ f
   .rename_i g;rw[if_neg g]at b;exact⟨λ_ _=>trivial,JT f d e _ _ w b⟩
theorem DO{c:Nat}{a:Act}{w:World}(k:Nat)(S:World->Prop)(e:P.follows .mixedOrders=true)(b:CU ops.toList=true)(d:¬LetsOut Q)
  (h:Ce P .any ops Q S k ops.size (Array.replicate ops.size false) a w.drew):(Code.region c ops true).wpIn (Fence.wide.inRound l) n P Q a w:=
 wpIn_region_any e (JT d b _ _ _ _ (Ce.any _ _ _ _ h))
end
