import Derived.Test.YtoihbhenbmffcaaGreatDoorChkD
set_option linter.unusedVariables false
set_option linter.unusedSimpArgs false

namespace Go.Proofs.YtoihbhenbmffcaaGreatDoor
open Go.RowKit

theorem term_cells {w : World} {base : Nat} {v : Value} {l : List CTerm} (h : w.ownsRow base 215 2 v l.length (l.flatMap ctermVal)) (k : Nat) (hk : k < l.length) :
    ∃ g cap, v = .slice (some ⟨g, 0, none⟩) l.length cap ∧ w.cell? ⟨g, k * 2, none⟩ = some (.int .i32 l[k].v) ∧ w.cell? ⟨g, k * 2 + 1, none⟩ = some (.string l[k].s) := by
  obtain ⟨g, cap, he, _, hcell⟩ := row_get h (fun c _ => ctermVal_len c) k hk
  have d0 := hcell k hk 0 (by omega)
  have d1 := hcell k hk 1 (by omega)
  simp [ctermVal] at d0 d1
  exact ⟨g, cap, he, d0, d1⟩

/-- The variables of terms. -/
structure VarsIs (ts : List CTerm) (l : List Int) : Prop where
  rise : Rise ltI l
  mem : ∀ y, y ∈ l ↔ y ≠ 0 ∧ ∃ t ∈ ts, t.v = y
  le : l.length ≤ ts.length

theorem VarsIs.nil : VarsIs [] [] := ⟨fun i j hi => by simp at hi, fun y => by simp, by simp⟩

set_option maxRecDepth 100000 in
set_option maxHeartbeats 1600000 in
theorem variables_any (ad : Option Addr) (cp : Nat) (ts : List CTerm) (base : Nat) (w : World) (h : w.ownsRow base 215 2 (.slice ad ts.length cp) ts.length (ts.flatMap ctermVal)) (hlen : ts.length ≤ 900000) :
    Calls Tryz.prog 174 #[.slice ad ts.length cp] w fun e w' => ∃ l ad' cp', e = .returned (.slice ad' l.length cp') ∧ VarsIs ts l ∧ w'.ownsRow w.heap.size 21 1 (.slice ad' l.length cp') l.length (l.flatMap runeCell) ∧ Kept [] w w' := by
  have HT := hide h
  clear h
  go_enter Tryz.func174, Tryz.ntmps174
  go_wp2
  go_loopg [3, 8] ts.length (fun gk o i wr => ∃ (k : Nat) (l : List Int) (ad3 : Option Addr) (cp3 : Nat), o = .slice ad3 l.length cp3 ∧ i = .int .i64 k ∧ k ≤ ts.length ∧ gk = ts.length - k ∧ Hid (VarsIs (ts.take k) l) ∧ wr.ownsRow w.heap.size 21 1 (.slice ad3 l.length cp3) l.length (l.flatMap runeCell) ∧ Hid (Kept [] w wr))
  case atStart => exact ⟨0, [], none, 0, rfl, rfl, by omega, rfl, by show VarsIs _ _; simpa using VarsIs.nil, World.ownsRow_nil _ _ _ _, Kept.refl _ _⟩
  case round =>
    obtain ⟨k, l, ad3, cp3, rfl, rfl, hk, hgk, HV, hown, HK⟩ := hrel
    have HG := hide hgk
    clear hgk
    have hll := (unhide HV).le
    simp only [List.length_take] at hll
    have hKs := (unhide HK).size
    by_cases hlt : k < ts.length
    · obtain ⟨g, cap3, he, d0, d1⟩ := term_cells (ownsRow_kept (unhide HT) (unhide HK) (by simp)) k hlt
      simp only [Value.slice.injEq] at he
      obtain ⟨rfl, _, rfl⟩ := he
      have hK1 := hide ((unhide HK).alloc (.cells [.int .i32 ts[k].v, .string ts[k].s].toArray 215))
      have hown1 := World.ownsRow.alloc hown (.cells [.int .i32 ts[k].v, .string ts[k].s].toArray 215)
      cases hv : (ts[k].v == 0) with
      | true =>
        have hv2 : (ts[k].v != 0) = false := by simp [bne, hv]
        have HV2 : Hid (VarsIs (ts.take (k + 1)) l) := by
          have hA := unhide HV
          refine ⟨hA.rise, fun y => ?_, by have := hA.le; simp only [List.length_take] at this ⊢; omega⟩
          rw [hA.mem, List.take_succ_eq_append_getElem hlt]
          have hz : ts[k].v = 0 := by simpa using hv
          constructor
          · rintro ⟨h1, t, h2, h3⟩
            exact ⟨h1, t, List.mem_append_left _ h2, h3⟩
          · rintro ⟨h1, t, h2, h3⟩
            rcases List.mem_append.1 h2 with h2 | h2
            · exact ⟨h1, t, h2, h3⟩
            · simp only [List.mem_singleton] at h2
              subst h2
              exact absurd (h3.symm.trans hz) h1
        clear hv
        go_wp2
        go_roundg (ts.length - (k + 1))
        case measure => have := unhide HG; omega
        case rel => exact ⟨k + 1, l, ad3, cp3, rfl, by go_num, by omega, rfl, HV2, hown1, hK1⟩
      | false =>
        have hv2 : (ts[k].v != 0) = true := by simp [bne, hv]
        have hvz : ts[k].v ≠ 0 := by simpa using hv
        have HAd := hide (addI_any ad3 cp3 l ts[k].v w.heap.size (wr.alloc (.cells [.int .i32 ts[k].v, .string ts[k].s].toArray 215)) hown1 (by omega) (unhide HV).rise (by simp; omega))
        have HVz := hide hvz
        clear hv hvz
        go_wp2_with fail
        refine (unhide HAd).mono ?_
        rintro e w4 ⟨m', ad4, cp4, rfl, q1, q2, q3, q4, q5, q6, q7⟩
        have HK4 : Hid (Kept [] w w4) := (unhide hK1).trans' q6 (fun i hi => Or.inr ((hown1.lt i (by simpa using hi)).1))
        have HV4 : Hid (VarsIs (ts.take (k + 1)) m') := by
          have hA := unhide HV
          refine ⟨q1, fun y => ?_, by have := hA.le; simp only [List.length_take] at this ⊢; omega⟩
          rw [q2, hA.mem, List.take_succ_eq_append_getElem hlt]
          constructor
          · rintro (h1 | ⟨h1, t, h2, h3⟩)
            · exact ⟨by rw [h1]; exact unhide HVz, ts[k], List.mem_append_right _ (List.mem_singleton.2 rfl), h1.symm⟩
            · exact ⟨h1, t, List.mem_append_left _ h2, h3⟩
          · rintro ⟨h1, t, h2, h3⟩
            rcases List.mem_append.1 h2 with h2 | h2
            · exact Or.inr ⟨h1, t, h2, h3⟩
            · simp only [List.mem_singleton] at h2
              subst h2
              exact Or.inl h3.symm
        clear HAd q1 q2 q3 q4 q6 q7 hown hown1 hK1 HK HV
        go_wp2
        go_roundg (ts.length - (k + 1))
        case measure => have := unhide HG; omega
        case rel => exact ⟨k + 1, m', ad4, cp4, rfl, by go_num, by omega, rfl, HV4, q5, HK4⟩
    · have HE : Hid (VarsIs ts l) := by
        have h := unhide HV
        rw [List.take_of_length_le (by omega)] at h
        exact h
      go_wp2
      go_ret
      exact ⟨l, ad3, cp3, rfl, unhide HE, hown, unhide HK⟩

set_option maxRecDepth 100000 in
set_option maxHeartbeats 1600000 in
theorem without_any (ad : Option Addr) (cp : Nat) (l : List Int) (ad2 : Option Addr) (cp2 : Nat) (o : List Int) (base base2 : Nat) (w : World) (h : w.ownsRow base 21 1 (.slice ad l.length cp) l.length (l.flatMap runeCell)) (h2 : w.ownsRow base2 21 1 (.slice ad2 o.length cp2) o.length (o.flatMap runeCell)) (hl : l.length ≤ 900000) (ho : o.length ≤ 900000) (hr : Rise ltI o) :
    Calls Tryz.prog 173 #[.slice ad l.length cp, .slice ad2 o.length cp2] w fun e w' => ∃ ad' cp', e = .returned (.slice ad' (l.filter fun y => !inBI o y).length cp') ∧ w'.ownsRow w.heap.size 21 1 (.slice ad' (l.filter fun y => !inBI o y).length cp') (l.filter fun y => !inBI o y).length ((l.filter fun y => !inBI o y).flatMap runeCell) ∧ Kept [] w w' := by
  obtain ⟨i0, hi0, hz0, hz1, hz2⟩ := info_parts Tryz.info21
  have HT := hide h
  have HT2 := hide h2
  have HRi := hide hr
  obtain ⟨F, hF⟩ : ∃ F, (l.filter fun y => !inBI o y) = F := ⟨_, rfl⟩
  rw [hF]
  have HF := hide hF
  clear h h2 hF hr
  go_enter Tryz.func173, Tryz.ntmps173
  go_wp2
  go_loopg [5, 10] l.length (fun gk o' i wr => ∃ (k : Nat) (m : List Int) (ad3 : Option Addr) (cp3 : Nat), o' = .slice ad3 m.length cp3 ∧ i = .int .i64 k ∧ k ≤ l.length ∧ m.length ≤ k ∧ gk = l.length - k ∧ Hid (m = (l.take k).filter fun y => !inBI o y) ∧ wr.ownsRow w.heap.size 21 1 (.slice ad3 m.length cp3) m.length (m.flatMap runeCell) ∧ Hid (Kept [] w wr))
  case atStart => exact ⟨0, [], none, 0, rfl, rfl, by omega, by simp, rfl, by show _ = _; simp, World.ownsRow_nil _ _ _ _, Kept.refl _ _⟩
  case round =>
    obtain ⟨k, m, ad3, cp3, rfl, rfl, hk, hmk, hgk, HM, hown, HK⟩ := hrel
    have HG := hide hgk
    clear hgk
    have hKs := (unhide HK).size
    by_cases hlt : k < l.length
    · obtain ⟨g, cap3, he, _, hcell⟩ := row_get (ownsRow_kept (unhide HT) (unhide HK) (by simp)) (by simp [runeCell]) k hlt
      simp only [Value.slice.injEq] at he
      obtain ⟨rfl, _, rfl⟩ := he
      have d0 := hcell k hlt 0 (by omega)
      simp [runeCell] at d0
      clear hcell
      have HHas := hide (rhasI_any ad2 cp2 o l[k] base2 wr (ownsRow_kept (unhide HT2) (unhide HK) (by simp)) (by omega) (unhide HRi))
      have HTk : Hid ((l.take (k + 1)).filter (fun y => !inBI o y) = m ++ if inBI o l[k] then [] else [l[k]]) := by
        show _ = _
        rw [List.take_succ_eq_append_getElem hlt, List.filter_append, ← unhide HM]
        by_cases hh : inBI o l[k] = true <;> simp [hh]
      go_wp2_with fail
      refine (unhide HHas).mono ?_
      rintro e w4 ⟨rfl, rfl⟩
      clear HHas
      cases hh : inBI o l[k] with
      | true =>
        have HM2 : Hid (m = (l.take (k + 1)).filter fun y => !inBI o y) := by show _ = _; rw [unhide HTk, hh]; simp
        clear hh HTk HM
        go_wp2
        go_roundg (l.length - (k + 1))
        case measure => have := unhide HG; omega
        case rel => exact ⟨k + 1, m, ad3, cp3, rfl, by go_num, by omega, by omega, rfl, HM2, hown, HK⟩
      | false =>
        have HM2 : Hid (m ++ [l[k]] = (l.take (k + 1)).filter fun y => !inBI o y) := by show _ = _; rw [unhide HTk, hh]; simp
        clear hh HTk HM
        have hnew := heap_alloc_new w4 (.cells [Value.int .i32 l[k]].toArray 21)
        have hown8 := World.ownsRow.alloc hown (.cells [Value.int .i32 l[k]].toArray 21)
        have HFr : Hid (∀ w9, (w4.alloc (.cells [Value.int .i32 l[k]].toArray 21)).grownBy w9 (Value.slice ad3 m.length cp3).ownBlock → Kept [] w w9) := fun w9 hg => ((unhide HK).alloc _).grown hg (fun k hk => Or.inr ((hown.lt k hk).1))
        go_wp2_with (at_builtin; refine wpList_append_lies _ rfl (.tmp 18) (.tmp 20) _ rfl w.heap.size 21 i0 _ 1 4 Tryz.underlying234 hi0 hz0 hz1 hz2 rfl (by omega) (.slice ad3 m.length cp3) m.length (m.flatMap runeCell) rfl hown8 ⟨w4.heap.size, 0, none⟩ 1 1 [.int .i32 l[k]] rfl rfl (World.news_of_block (cs := [Value.int .i32 l[k]].toArray) (t := 21) (fr := (0, 0)) hnew) (by simp [Value.oneCell']) (by omega) (by unfold maxLen; omega) (by omega) (by simp; omega) (w4.heap.size + 1) (by simp) ?_; intro g1 cp1 w9 ho1 hg1 ha1 hl1)
        go_roundg (l.length - (k + 1))
        case measure => have := unhide HG; omega
        case rel => exact ⟨k + 1, m ++ [l[k]], some ⟨g1, 0, none⟩, cp1, by simp, by go_num, by omega, by simp; omega, rfl, HM2, by simpa [runeCell] using ho1, unhide HFr w9 hg1⟩
    · have HE : Hid (m = F) := by
        have h := unhide HM
        rw [List.take_of_length_le (by omega), unhide HF] at h
        exact h
      go_wp2
      go_ret
      rw [← HE.out]
      exact ⟨ad3, cp3, rfl, hown, unhide HK⟩

end Go.Proofs.YtoihbhenbmffcaaGreatDoor
