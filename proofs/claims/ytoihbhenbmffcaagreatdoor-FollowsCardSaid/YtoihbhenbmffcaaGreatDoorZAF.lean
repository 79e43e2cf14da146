import Derived.Test.YtoihbhenbmffcaaGreatDoorZAB
import Derived.Test.YtoihbhenbmffcaaGreatDoorZAD
set_option linter.unusedVariables false
set_option linter.unusedSimpArgs false
set_option maxHeartbeats 6400000
namespace Go.Proofs.YtoihbhenbmffcaaGreatDoor
open Go.RowKit
open Go.Proofs.Tryz
set_option maxRecDepth 100000
theorem VN(E:List Value)(j:Nat)(x:cL)(w:World)(c:E.length=26)(p:j<26)(q:(Value.agg E.toArray).cells=E.toArray)(g:∀v∈E,v.oneCell'=true):
  Calls prog 179 #[.agg E.toArray, .int .i32 ((j:Int)+65), .string x] w λr k=>r= .returned (.agg (E.set j (.string x)).toArray)/\Ac [] w k:=by
 have m:IntKind.i32.wrap (j:Int)=j:=by rw[IntKind.wrap_i32];omega
 have s:IntKind.i32.wrap ((j:Int)+65-65)=j:=by rw[show(j:Int)+65-65=j by omega];exact m
 have n:(0:Int)<=(j:Int):=by omega
 have o:(j:Int)<26:=by omega
 have i:Hid (∀v∈E.set j (.string x),v.oneCell'=true):=by
  intro v l;rcases List.mem_or_eq_of_mem_set l with h|rfl
  ·exact g v h
  ·rfl
 have a:Hid ((E.set j (.string x)).length=26):=by show _=_;simp[c]
 have d:Hid ((E.set j (.string x)).toArray.size=26):=by show _=_;simp[c]
 go_enter func179,ntmps179;go_wp2_with (first|(refine cm rfl 243 _ rfl w.heap.size 0 (by rfl) (E.set j (.string x)) _ ?_ underlying243 rfl ?_ ?_)|(refine cq rfl 243 _ _ rfl (w.heap.size+1) 0 (E.set j (.string x)).toArray (by rfl) (by rfl) ?_ ?_ ?_ ?_))
 ·exact((Aw.new w (E.set j (.string x)) 243).alloc _).range
 ·rw[Aa a];exact Tryz.size243
 ·have h:=(Aw.new (w.alloc (.cells (E.set j (.string x)).toArray 243)) (List.replicate 26 (.string ⟨#[]⟩)) 243).there;simp only[cc,aP]at h;rw[Aa d];exact h
 ·rw[Aa d];exact Tryz.size243
 ·exact bK (Aa i)
 ·have e:=(Aw.new (w.alloc (.cells (E.set j (.string x)).toArray 243)) (List.replicate 26 (.string ⟨#[]⟩)) 243).setAll (E.set j (.string x)) (by rw[Aa a];simp);have f:=((((Ac.refl [] w).alloc (.cells (E.set j (.string x)).toArray 243)).alloc (.cells (List.replicate 26 (.string ⟨#[]⟩)).toArray 243)).putCells (b:=w.heap.size+1) (Or.inr (by omega)) (E.set j (.string x)) 0);simp only[aP]at e;refine aE (AY (b:=w.heap.size+1) rfl (by rfl) e underlying243 rfl (by rw[Aa a];exact Tryz.size243)) rfl ⟨rfl,f⟩
