import Derived.Test.YtddpdjjlkakecaaGreatChkH
import Derived.Test.YtddpdjjlkakecaaGreatChkF
set_option linter.unusedVariables false
set_option linter.unusedSimpArgs false

namespace Go.Proofs.YtddpdjjlkakecaaGreat
open Go.RowKit

/-- The blocks below b are as they were. -/
structure Low (b : Nat) (w w' : World) : Prop where
  os : w'.os = w.os
  tape : w'.tape = w.tape
  output : w'.output = w.output
  size : w.heap.size ≤ w'.heap.size
  block : ∀ k, k < b → w'.heap[k]? = w.heap[k]?

theorem Low.refl (b : Nat) (w : World) : Low b w w := ⟨rfl, rfl, rfl, Nat.le_refl _, fun _ _ => rfl⟩
theorem Low.trans {b : Nat} {u v w : World} (h : Low b u v) (k : Low b v w) : Low b u w := ⟨k.os.trans h.os, k.tape.trans h.tape, k.output.trans h.output, Nat.le_trans h.size k.size, fun i hi => (k.block i hi).trans (h.block i hi)⟩
theorem Low.of {M : List Nat} {b : Nat} {w w' : World} (k : Kept M w w') (hb : b ≤ w.heap.size) (hm : ∀ i, i ∈ M → b ≤ i) : Low b w w' :=
  ⟨k.os, k.tape, k.output, k.size, fun i hi => k.block i (by omega) (fun h => by have := hm i h; omega)⟩
theorem Low.setCell {b : Nat} {u w : World} (h : Low b u w) {p : Addr} (hp : b ≤ p.block) (v : Value) : Low b u (w.setCell p v) :=
  h.trans ⟨rfl, rfl, rfl, by simp, fun k hk => Below.heap_setCell _ _ _ _ (by omega)⟩
theorem Low.kept {b : Nat} {w w' : World} (h : Low b w w') (hb : w.heap.size ≤ b) : Kept [] w w' := ⟨h.os, h.tape, h.output, h.size, fun k hk _ => h.block k (by omega)⟩

theorem ownsRow_low {b : Nat} {w w' : World} {base : Nat} {e : TypeId} {size : Nat} {v : Value} {n : Nat} {xs : List Value} (h : w.ownsRow base e size v n xs) (k : Low b w w') (hm : ∀ i, v.ownBlock = some i → i < b) : w'.ownsRow base e size v n xs := by
  refine ⟨h.1, ?_⟩
  rcases h.2 with hn | ⟨g, cap, cur, rfl, hb, hgg, rest⟩
  · exact .inl hn
  · refine .inr ⟨g, cap, cur, rfl, hb, ?_, rest⟩
    rw [k.block g (hm g rfl)]
    exact hgg

/-- A clause whose rows lie below b. -/
structure PcIn (w : World) (b : Nat) (c : PCV) : Prop where
  at_ : PcAt w 0 c.hv c.bv c.hts c.lvs
  lt1 : ∀ k, c.hv.ownBlock = some k → k < b
  lt2 : ∀ k, c.bv.ownBlock = some k → k < b
  lt3 : ∀ p ∈ c.lvs, ∀ k, p.2.ownBlock = some k → k < b

theorem PcIn.low {w w' : World} {b : Nat} {c : PCV} (h : PcIn w b c) (k : Low b w w') : PcIn w' b c :=
  ⟨⟨ownsRow_low h.at_.head k h.lt1, ⟨ownsRow_low h.at_.body.row k h.lt2, fun p hp => ⟨ownsRow_low (h.at_.body.each p hp).1 k (h.lt3 p hp), (h.at_.body.each p hp).2⟩⟩⟩, h.lt1, h.lt2, h.lt3⟩

def arCell (p : ByteArray × Nat) : List Value := [.string p.1, .int .i64 p.2]

/-- The census as it lies. -/
structure CenIn (w : World) (b : Nat) (n : Int) (nv tv av : Value) (names things : List ByteArray) (ars : List (ByteArray × Nat)) : Prop where
  blk : Blk w b [.int .i64 n, nv, tv, av] 128
  rn : w.ownsRow (b + 1) 9 1 nv names.length (names.flatMap strCell)
  rt : w.ownsRow (b + 1) 9 1 tv things.length (things.flatMap strCell)
  ra : w.ownsRow (b + 1) 162 2 av ars.length (ars.flatMap arCell)
  ant : Apart nv tv
  ana : Apart nv av
  ata : Apart tv av
  rin : Rise ltS names
  rit : Rise ltS things

theorem CenIn.kept {w w' : World} {b : Nat} {n : Int} {nv tv av : Value} {names things : List ByteArray} {ars : List (ByteArray × Nat)} (h : CenIn w b n nv tv av names things ars) (k : Kept [] w w') : CenIn w' b n nv tv av names things ars :=
  ⟨h.blk.kept k (by simp), ownsRow_kept h.rn k (by simp), ownsRow_kept h.rt k (by simp), ownsRow_kept h.ra k (by simp), h.ant, h.ana, h.ata, h.rin, h.rit⟩

theorem Apart.symm {u v : Value} (h : Apart u v) : Apart v u := fun k hk he => h k he hk

set_option maxRecDepth 100000 in
set_option maxHeartbeats 800000 in
theorem isTooMany_any (b : Nat) (n : Nat) (nv tv av : Value) (names things : List ByteArray) (ars : List (ByteArray × Nat)) (w : World) (h : CenIn w b n nv tv av names things ars) :
    Calls Tryz.prog 54 #[.pointer (some ⟨b, 0, none⟩)] w fun e w' => e = .returned (.bool (decide (12 < n) || decide (6 < names.length) || decide (6 < things.length))) ∧ w' = w := by
  obtain ⟨nad, ncp, rfl⟩ := row_nil h.rn
  obtain ⟨tad, tcp, rfl⟩ := row_nil h.rt
  have c0 := h.blk.cell 0
  have c1 := h.blk.cell 1
  have c2 := h.blk.cell 2
  simp at c0 c1 c2
  clear h
  obtain ⟨V, hV⟩ : ∃ V, (decide (12 < n) || decide (6 < names.length) || decide (6 < things.length)) = V := ⟨_, rfl⟩
  rw [hV]
  have HVV := hide hV
  clear hV
  by_cases h1 : 12 < n
  · have h1i : (12 : Int) < (n : Int) := by omega
    have HV : Hid (V = true) := by show _ = _; rw [← unhide HVV]; simp [h1]
    go_enter Tryz.func54, Tryz.ntmps54
    go_wp2
    go_ret
    rw [unhide HV]
    exact ⟨by simp, rfl⟩
  · have h1i : ¬ (12 : Int) < (n : Int) := by omega
    by_cases h2 : 6 < names.length
    · have h2i : (6 : Int) < (names.length : Int) := by omega
      have HV : Hid (V = true) := by show _ = _; rw [← unhide HVV]; simp [h2]
      go_enter Tryz.func54, Tryz.ntmps54
      go_wp2
      go_ret
      rw [unhide HV]
      exact ⟨by simp, rfl⟩
    · have h2i : ¬ (6 : Int) < (names.length : Int) := by omega
      have HV : Hid (V = decide ((6 : Int) < (things.length : Int))) := by
        show _ = _
        rw [← unhide HVV]
        have e : decide ((6 : Int) < (things.length : Int)) = decide (6 < things.length) := by
          by_cases h : 6 < things.length
          · have : (6 : Int) < (things.length : Int) := by omega
            simp [h, this]
          · have : ¬ (6 : Int) < (things.length : Int) := by omega
            simp [h, this]
        rw [e]
        simp [h1, h2]
      go_enter Tryz.func54, Tryz.ntmps54
      go_wp2
      go_ret
      rw [unhide HV]
      exact ⟨by simp, rfl⟩

def arFind (ars : List (ByteArray × Nat)) (x : ByteArray) : Option (ByteArray × Nat) := ars.find? fun p => p.1.toList == x.toList

def arOut : Option (ByteArray × Nat) → Value
  | some p => .tuple #[.agg #[.string p.1, .int .i64 p.2], .bool true]
  | none => .tuple #[.agg #[.string ⟨#[]⟩, .int .i64 0], .bool false]

theorem arCell_len (p : ByteArray × Nat) : (arCell p).length = 2 := rfl

set_option maxRecDepth 100000 in
set_option maxHeartbeats 1600000 in
theorem arityOf_any (b : Nat) (n : Int) (nv tv av : Value) (names things : List ByteArray) (ars : List (ByteArray × Nat)) (x : ByteArray) (w : World) (h : CenIn w b n nv tv av names things ars) (hlen : ars.length ≤ 900000) :
    Calls Tryz.prog 83 #[.pointer (some ⟨b, 0, none⟩), .string x] w fun e w' => e = .returned (arOut (arFind ars x)) ∧ Kept [] w w' := by
  obtain ⟨aad, acp, rfl⟩ := row_nil h.ra
  have HR := hide h.ra
  have hbw := h.blk.lt
  have c3 := ((h.blk.alloc (.cells [.string ⟨#[]⟩, .int .i64 0].toArray 162))).cell 3
  simp at c3
  obtain ⟨R, hR⟩ : ∃ R, arFind ars x = R := ⟨_, rfl⟩
  rw [hR]
  have HRR := hide hR
  clear hR h
  have HN := hide (Blk.new w [.string ⟨#[]⟩, .int .i64 0] 162)
  have HK := hide ((Kept.refl [] w).alloc (.cells [.string ⟨#[]⟩, .int .i64 0].toArray 162))
  go_enter Tryz.func83, Tryz.ntmps83
  go_wp2
  change Code.wp _ _ _ _ (w.alloc (.cells [.string ⟨#[]⟩, .int .i64 0].toArray 162))
  generalize w.alloc (.cells [.string ⟨#[]⟩, .int .i64 0].toArray 162) = w1 at HN HK c3 ⊢
  obtain ⟨N, hNe⟩ : ∃ N, w.heap.size = N := ⟨_, rfl⟩
  rw [hNe] at HN ⊢
  have HNe := hide hNe
  clear hNe c3
  go_loopg [13] ars.length (fun gk i wr => ∃ (k : Nat), i = .int .i64 k ∧ k ≤ ars.length ∧ gk = ars.length - k ∧ Hid ((ars.take k).any (fun p => p.1.toList == x.toList) = false) ∧ Hid (Kept [] w wr) ∧ Hid (Blk wr N [.string ⟨#[]⟩, .int .i64 0] 162))
  case atStart => exact ⟨0, rfl, by omega, rfl, by show _ = _; simp, HK, HN⟩
  case round =>
    clear HK HN
    obtain ⟨k, rfl, hk, hgk, HC, HK, HN⟩ := hrel
    have HG := hide hgk
    clear hgk
    have hNlt := (unhide HN).lt
    by_cases hlt : k < ars.length
    · obtain ⟨g, cap, he, _, hcell⟩ := row_get (ownsRow_kept (unhide HR) (unhide HK) (by simp)) (fun c _ => arCell_len c) k hlt
      simp only [Value.slice.injEq] at he
      obtain ⟨rfl, _, rfl⟩ := he
      have d0 := hcell k hlt 0 (by omega)
      have d1 := hcell k hlt 1 (by omega)
      simp [arCell] at d0 d1
      clear hcell
      have HY : Hid ((ars[k].1.toList == x.toList) = true → R = some ars[k]) := by
        intro hh
        rw [← unhide HRR]
        exact find_take _ _ k hlt (unhide HC) hh
      have HNo : Hid ((ars[k].1.toList == x.toList) = false → (ars.take (k + 1)).any (fun p => p.1.toList == x.toList) = false) := by
        intro hh
        rw [any_take _ _ k hlt (unhide HC)]
        exact hh
      have HKa := hide ((unhide HK).alloc (.cells [.string ars[k].1, .int .i64 ars[k].2].toArray 162))
      have HNa := (unhide HN).alloc (.cells [.string ars[k].1, .int .i64 ars[k].2].toArray 162)
      have n0 := (unhide HN).cell 0
      have n1 := (unhide HN).cell 1
      have nf := (unhide HN).frozen
      have m0 := fun o => ((unhide HN).alloc o).cell 0
      have m1 := fun o => ((unhide HN).alloc o).cell 1
      have mf := fun o => ((unhide HN).alloc o).frozen
      simp at n0 n1 m0 m1
      have HNb := hide HNa
      have q1 : ¬ N = wr.heap.size := by omega
      have q2 : ¬ wr.heap.size = N := by omega
      clear HNa
      go_wp2
      · rw [unhide HY (by assumption)]
        have hfin := (((unhide HN).set 0 (.string ars[k].1)).set 1 (.int .i64 ars[k].2)).alloc (.cells [.string ars[k].1, .int .i64 ars[k].2].toArray 162)
        refine bodyPost_ret (res_cell_tmp (P := Tryz.prog) (fn := Tryz.f83) (p := 4) (u := 5) rfl rfl hfin Tryz.underlying162 rfl (by kernel_rfl)) rfl ?_
        refine ⟨rfl, ?_⟩
        have := unhide HNe
        exact (((unhide HK).setCell (p := ⟨N, 0, none⟩) (by right; simp; omega) _).setCell (p := ⟨N, 1, none⟩) (by right; simp; omega) _).alloc _
      · go_roundg (ars.length - (k + 1))
        case measure => have := unhide HG; omega
        case rel => exact ⟨k + 1, by go_num, by omega, rfl, unhide HNo (by assumption), HKa, HNb⟩
    · have HE : Hid (R = none) := by
        have h := unhide HC
        rw [List.take_of_length_le (by omega)] at h
        show _ = _
        rw [← unhide HRR]
        unfold arFind
        rw [List.find?_eq_none]
        intro y hy hh
        rw [List.any_eq_false] at h
        exact h y hy hh
      have n0 := (unhide HN).cell 0
      have n1 := (unhide HN).cell 1
      have nf := (unhide HN).frozen
      simp at n0 n1
      go_wp2
      rw [HE.out]
      have hfin := ((unhide HN).set 0 (.string ⟨#[]⟩)).set 1 (.int .i64 0)
      refine bodyPost_ret (res_cell_tmp (P := Tryz.prog) (fn := Tryz.f83) (p := 4) (u := 5) rfl rfl hfin Tryz.underlying162 rfl (by kernel_rfl)) rfl ?_
      refine ⟨rfl, ?_⟩
      have := unhide HNe
      exact ((unhide HK).setCell (p := ⟨N, 0, none⟩) (by right; simp; omega) _).setCell (p := ⟨N, 1, none⟩) (by right; simp; omega) _

end Go.Proofs.YtddpdjjlkakecaaGreat
