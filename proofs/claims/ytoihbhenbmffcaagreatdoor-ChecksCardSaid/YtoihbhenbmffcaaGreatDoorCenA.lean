import Derived.Test.YtoihbhenbmffcaaGreatDoorChkG
import Derived.Test.YtoihbhenbmffcaaGreatDoorChkF
set_option linter.unusedVariables false
set_option linter.unusedSimpArgs false

namespace Go.Proofs.YtoihbhenbmffcaaGreatDoor
open Go.RowKit

/-- The blocks below b are as they were. -/
structure Low (b : Nat) (w w' : World) : Prop where
  os : w'.os = w.os
  tape : w'.tape = w.tape
  output : w'.output = w.output
  size : w.heap.size ≤ w'.heap.size
  block : ∀ k, k < b → w'.heap[k]? = w.heap[k]?

theorem Low.refl (b : Nat) (w : World) : Low b w w := ⟨rfl, rfl, rfl, Nat.le_refl _, fun _ _ => rfl⟩
theorem Low.trans {b : Nat} {u v w : World} (h : Low b u v) (k : Low b v w) : Low b u w := ⟨k.os.trans h.os, k.tape.trans h.tape, k.output.trans h.output, Nat.le_trans h.size k.size, fun i hi => (k.block i hi).trans (h.block i hi)⟩
theorem Low.of {M : List Nat} {b : Nat} {w w' : World} (k : Kept M w w') (hb : b ≤ w.heap.size) (hm : ∀ i, i ∈ M → b ≤ i) : Low b w w' :=
  ⟨k.os, k.tape, k.output, k.size, fun i hi => k.block i (by omega) (fun h => by have := hm i h; omega)⟩
theorem Low.setCell {b : Nat} {u w : World} (h : Low b u w) {p : Addr} (hp : b ≤ p.block) (v : Value) : Low b u (w.setCell p v) :=
  h.trans ⟨rfl, rfl, rfl, by simp, fun k hk => Below.heap_setCell _ _ _ _ (by omega)⟩
theorem Low.kept {b : Nat} {w w' : World} (h : Low b w w') (hb : w.heap.size ≤ b) : Kept [] w w' := ⟨h.os, h.tape, h.output, h.size, fun k hk _ => h.block k (by omega)⟩

theorem ownsRow_low {b : Nat} {w w' : World} {base : Nat} {e : TypeId} {size : Nat} {v : Value} {n : Nat} {xs : List Value} (h : w.ownsRow base e size v n xs) (k : Low b w w') (hm : ∀ i, v.ownBlock = some i → i < b) : w'.ownsRow base e size v n xs := by
  refine ⟨h.1, ?_⟩
  rcases h.2 with hn | ⟨g, cap, cur, rfl, hb, hgg, rest⟩
  · exact .inl hn
  · refine .inr ⟨g, cap, cur, rfl, hb, ?_, rest⟩
    rw [k.block g (hm g rfl)]
    exact hgg

/-- A clause whose rows lie below b. -/
structure PcIn (w : World) (b : Nat) (c : PCV) : Prop where
  at_ : PcAt w 0 c.hv c.bv c.hts c.lvs
  lt1 : ∀ k, c.hv.ownBlock = some k → k < b
  lt2 : ∀ k, c.bv.ownBlock = some k → k < b
  lt3 : ∀ p ∈ c.lvs, ∀ k, p.2.ownBlock = some k → k < b

theorem PcIn.low {w w' : World} {b : Nat} {c : PCV} (h : PcIn w b c) (k : Low b w w') : PcIn w' b c :=
  ⟨⟨ownsRow_low h.at_.head k h.lt1, ⟨ownsRow_low h.at_.body.row k h.lt2, fun p hp => ⟨ownsRow_low (h.at_.body.each p hp).1 k (h.lt3 p hp), (h.at_.body.each p hp).2⟩⟩⟩, h.lt1, h.lt2, h.lt3⟩

/-- The census as it lies. -/
structure CenIn (w : World) (b : Nat) (n : Int) (nv tv : Value) (names things : List ByteArray) : Prop where
  blk : Blk w b [.int .i64 n, nv, tv] 210
  rn : w.ownsRow (b + 1) 9 1 nv names.length (names.flatMap strCell)
  rt : w.ownsRow (b + 1) 170 1 tv things.length (things.flatMap strCell)
  ant : Apart nv tv
  rin : Rise ltS names
  rit : Rise ltS things

theorem CenIn.kept {w w' : World} {b : Nat} {n : Int} {nv tv : Value} {names things : List ByteArray} (h : CenIn w b n nv tv names things) (k : Kept [] w w') : CenIn w' b n nv tv names things :=
  ⟨h.blk.kept k (by simp), ownsRow_kept h.rn k (by simp), ownsRow_kept h.rt k (by simp), h.ant, h.rin, h.rit⟩

theorem Apart.symm {u v : Value} (h : Apart u v) : Apart v u := fun k hk he => h k he hk

set_option maxRecDepth 100000 in
set_option maxHeartbeats 800000 in
theorem isTooMany_any (b : Nat) (n : Nat) (nv tv : Value) (names things : List ByteArray) (w : World) (h : CenIn w b n nv tv names things) :
    Calls Tryz.prog 117 #[.pointer (some ⟨b, 0, none⟩)] w fun e w' => e = .returned (.bool (decide (12 < n) || decide (6 < names.length) || decide (6 < things.length))) ∧ w' = w := by
  obtain ⟨nad, ncp, rfl⟩ := row_nil h.rn
  obtain ⟨tad, tcp, rfl⟩ := row_nil h.rt
  have c0 := h.blk.cell 0
  have c1 := h.blk.cell 1
  have c2 := h.blk.cell 2
  simp at c0 c1 c2
  clear h
  obtain ⟨V, hV⟩ : ∃ V, (decide (12 < n) || decide (6 < names.length) || decide (6 < things.length)) = V := ⟨_, rfl⟩
  rw [hV]
  have HVV := hide hV
  clear hV
  by_cases h1 : 12 < n
  · have h1i : (12 : Int) < (n : Int) := by omega
    have HV : Hid (V = true) := by show _ = _; rw [← unhide HVV]; simp [h1]
    go_enter Tryz.func117, Tryz.ntmps117
    go_wp2
    go_ret
    rw [unhide HV]
    exact ⟨by simp, rfl⟩
  · have h1i : ¬ (12 : Int) < (n : Int) := by omega
    by_cases h2 : 6 < names.length
    · have h2i : (6 : Int) < (names.length : Int) := by omega
      have HV : Hid (V = true) := by show _ = _; rw [← unhide HVV]; simp [h2]
      go_enter Tryz.func117, Tryz.ntmps117
      go_wp2
      go_ret
      rw [unhide HV]
      exact ⟨by simp, rfl⟩
    · have h2i : ¬ (6 : Int) < (names.length : Int) := by omega
      have HV : Hid (V = decide ((6 : Int) < (things.length : Int))) := by
        show _ = _
        rw [← unhide HVV]
        have e : decide ((6 : Int) < (things.length : Int)) = decide (6 < things.length) := by
          by_cases h : 6 < things.length
          · have : (6 : Int) < (things.length : Int) := by omega
            simp [h, this]
          · have : ¬ (6 : Int) < (things.length : Int) := by omega
            simp [h, this]
        rw [e]
        simp [h1, h2]
      go_enter Tryz.func117, Tryz.ntmps117
      go_wp2
      go_ret
      rw [unhide HV]
      exact ⟨by simp, rfl⟩

end Go.Proofs.YtoihbhenbmffcaaGreatDoor
