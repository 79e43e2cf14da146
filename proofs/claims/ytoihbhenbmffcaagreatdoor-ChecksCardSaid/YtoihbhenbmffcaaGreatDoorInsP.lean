import Derived.Test.YtoihbhenbmffcaaGreatDoorRisP
import Derived.Shelf.Spec.SlicesInsertGrow
set_option linter.unusedVariables false
set_option linter.unusedSimpArgs false

namespace Go.Proofs.YtoihbhenbmffcaaGreatDoor
open Go.RowKit

theorem Tryz.info21 : (Tryz.prog.info? 21).map (fun i => (i.zero, i.size, i.bytes)) = some (some (.int .i32 0), 1, 4) := by kernel_rfl

/-- A list with values laid over it from o on. -/
def setL : List Value → Nat → List Value → List Value
  | cs, _, [] => cs
  | cs, o, v :: r => setL (cs.set o v) (o + 1) r

theorem setL_eq : ∀ (vs cs : List Value) (o : Nat), o + vs.length ≤ cs.length → setL cs o vs = cs.take o ++ vs ++ cs.drop (o + vs.length)
  | [], cs, o, h => by simp [setL]
  | v :: r, cs, o, h => by
    simp only [List.length_cons] at h
    rw [setL, setL_eq r (cs.set o v) (o + 1) (by simp; omega)]
    have e1 : (cs.set o v).take (o + 1) = cs.take o ++ [v] := by
      rw [List.take_succ_eq_append_getElem (by simp; omega), List.take_set_of_le (by omega)]
      simp
    have e2 : (cs.set o v).drop (o + 1 + r.length) = cs.drop (o + (r.length + 1)) := by
      rw [List.drop_set_of_lt (by omega)]
      congr 1
      omega
    rw [e1, e2]
    simp

theorem setL_len : ∀ (vs cs : List Value) (o : Nat), (setL cs o vs).length = cs.length
  | [], cs, o => rfl
  | v :: r, cs, o => by rw [setL, setL_len r]; simp

theorem Blk.setCells {b : Nat} {t : TypeId} : ∀ (vs : List Value) {w : World} {cs : List Value} (o : Nat), Blk w b cs t → Blk (w.setCells b o vs) b (setL cs o vs) t
  | [], _, _, _, h => h
  | v :: r, w, cs, o, h => by
    rw [World.setCells, setL]
    exact Blk.setCells r (o + 1) (h.set o v)

theorem Kept.setCells {M : List Nat} {a : World} {b : Nat} (hb : b ∈ M ∨ a.heap.size ≤ b) : ∀ (vs : List Value) {w : World} (o : Nat), Kept M a w → Kept M a (w.setCells b o vs)
  | [], _, _, h => h
  | v :: r, w, o, h => by
    rw [World.setCells]
    exact Kept.setCells hb r (o + 1) (h.setCell (p := ⟨b, o, none⟩) hb v)

theorem Blk.shape {w : World} {b : Nat} {cs : List Value} {t : TypeId} (h : Blk w b cs t) : w.shape? b = some (t, cs.length) := by
  unfold Blk at h
  simp [World.shape?, h]

theorem Blk.some {w : World} {b : Nat} {cs : List Value} {t : TypeId} (h : Blk w b cs t) (k : Nat) (hk : k < cs.length) : (w.cell? ⟨b, k, none⟩).isSome = true := by
  rw [h.cell, List.getElem?_eq_getElem hk]; rfl

/-- A row of one's own with a value more, in its place. -/
theorem ins_list {cur cs : List Value} {n i : Nat} (hn : cur.take n = cs) (hcl : cs.length = n) (hi : i ≤ n) (hc : n + 1 ≤ cur.length) (x : Value) :
    (setL (setL cur (i + 1) (cs.drop i)) i [x]).take (n + 1) = cs.take i ++ x :: cs.drop i := by
  have hd : (cs.drop i).length = n - i := by rw [List.length_drop, hcl]
  rw [setL_eq [x] _ i (by rw [setL_len]; simp; omega), setL_eq (cs.drop i) cur (i + 1) (by rw [hd]; omega)]
  have e1 : (cur.take (i + 1) ++ cs.drop i ++ cur.drop (i + 1 + (cs.drop i).length)).take i = cs.take i := by
    rw [List.append_assoc, List.take_append_of_le_length (by simp; omega), List.take_take, Nat.min_eq_left (by omega), ← hn, List.take_take, Nat.min_eq_left hi]
  have e2 : (cur.take (i + 1) ++ cs.drop i ++ cur.drop (i + 1 + (cs.drop i).length)).drop (i + [x].length) = cs.drop i ++ cur.drop (i + 1 + (cs.drop i).length) := by
    rw [List.append_assoc, List.drop_left' (by simp; omega)]
  rw [e1, e2, List.append_assoc, List.take_append, List.take_of_length_le (by simp; omega)]
  congr 1
  have e3 : n + 1 - (cs.take i).length = (n - i) + 1 := by simp; omega
  rw [e3]
  simp only [List.singleton_append, List.cons_append, List.nil_append, List.take_succ_cons]
  rw [List.take_append_of_le_length (by omega), List.take_of_length_le (by omega)]

end Go.Proofs.YtoihbhenbmffcaaGreatDoor
