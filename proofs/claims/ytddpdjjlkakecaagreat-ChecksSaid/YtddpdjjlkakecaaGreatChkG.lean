import Derived.Test.YtddpdjjlkakecaaGreatChkE
import Derived.Test.YtddpdjjlkakecaaGreatComP
set_option linter.unusedVariables false
set_option linter.unusedSimpArgs false

namespace Go.Proofs.YtddpdjjlkakecaaGreat
open Go.RowKit

/-- The terms of the atoms that bind. -/
def bindT (lvs : List PLV) : List CTerm := lvs.flatMap fun p => if p.1.sort == 0 then p.1.ts else []

theorem bindT_take {lvs : List PLV} {k : Nat} (hk : k < lvs.length) : bindT (lvs.take (k + 1)) = bindT (lvs.take k) ++ (if lvs[k].1.sort == 0 then lvs[k].1.ts else []) := by
  unfold bindT
  rw [List.take_succ_eq_append_getElem hk, List.flatMap_append]
  simp

theorem bindT_len (lvs : List PLV) : (bindT lvs).length ≤ (bodyTerms lvs).length := by
  induction lvs with
  | nil => simp [bindT]
  | cons p l ih =>
    unfold bindT bodyTerms at *
    simp only [List.flatMap_cons, List.length_append]
    have : (if p.1.sort == 0 then p.1.ts else []).length ≤ (termsL p.1).length := by
      by_cases h : (p.1.sort == 0) = true
      · simp [h, termsL, hasAtomB]
      · simp [h]
    omega

structure LooseIs (c : PCV) (l : List Int) : Prop where
  rise : Rise ltI l
  mem : ∀ y, y ∈ l ↔ (y ≠ 0 ∧ ∃ t ∈ termsV c, t.v = y) ∧ ¬ ∃ t ∈ bindT c.lvs, t.v = y
  le : l.length ≤ 900000

theorem rise_filter {l : List Int} (h : Rise ltI l) (p : Int → Bool) : Rise ltI (l.filter p) := by
  rw [rise_iff] at h ⊢
  exact h.sublist List.filter_sublist

set_option maxRecDepth 100000 in
set_option maxHeartbeats 1600000 in
theorem loose_any (c : PCV) (w : World) (h : PcAt w 0 c.hv c.bv c.hts c.lvs) (hf : PcFit c) (hT : (termsV c).length ≤ 900000) :
    Calls Tryz.prog 84 #[.agg (pcvCells c).toArray] w fun e w' => ∃ l ad cp, e = .returned (.slice ad l.length cp) ∧ LooseIs c l ∧ w'.ownsRow w.heap.size 21 1 (.slice ad l.length cp) l.length (l.flatMap runeCell) ∧ Kept [] w w' := by
  obtain ⟨i0, hi0, hz0, hz1, hz2⟩ := info_parts Tryz.info135
  have HTm : Hid (∀ wr, Kept [] w wr → Calls Tryz.prog 80 #[.agg (pcvCells c).toArray] wr fun e w' => ∃ ad cp, e = .returned (.slice ad (termsV c).length cp) ∧ w'.ownsRow wr.heap.size 135 2 (.slice ad (termsV c).length cp) (termsV c).length ((termsV c).flatMap ctermVal) ∧ Kept [] wr w') := fun wr hk => cterms_any c wr (h.kept hk (by simp)) hf
  have HBl : Hid ((bindT c.lvs).length ≤ 900000) := by
    show _ ≤ _
    have := bindT_len c.lvs
    simp only [termsV, List.length_append] at hT
    omega
  have HTl := hide hT
  have HLs : Hid (∀ l1 l2, VarsIs (termsV c) l1 → VarsIs (bindT c.lvs) l2 → LooseIs c (l1.filter fun y => !inBI l2 y)) := by
    intro l1 l2 h1 h2
    refine ⟨rise_filter h1.rise _, fun y => ?_, by have := List.length_filter_le (fun y => !inBI l2 y) l1; have := h1.le; omega⟩
    rw [List.mem_filter, h1.mem]
    constructor
    · rintro ⟨⟨h3, h4⟩, h5⟩
      refine ⟨⟨h3, h4⟩, fun h6 => ?_⟩
      have : y ∈ l2 := (h2.mem y).2 ⟨h3, h6⟩
      rw [(inBI_iff l2 y).2 this] at h5
      cases h5
    · rintro ⟨⟨h3, h4⟩, h5⟩
      refine ⟨⟨h3, h4⟩, ?_⟩
      cases h6 : inBI l2 y with
      | false => rfl
      | true => exact absurd ((h2.mem y).1 ((inBI_iff l2 y).1 h6)).2 h5
  have HFit : Hid (∀ p ∈ c.lvs, (p.1.sort == 0) = true → 0 < p.1.ts.length ∧ p.1.ts.length ≤ 1000) := fun p hp hs => ⟨(hf.each p hp).1 (by simp [hasAtomB, hs]), (hf.each p hp).2⟩
  have hf3 := hf.lits
  clear hT hf
  generalize termsV c = TV at HTm HTl HLs
  obtain ⟨hp, hn, hts, hv, bv, lvs⟩ := c
  simp only at h hf3 HBl HFit
  obtain ⟨adh, cph, rfl⟩ := row_nil h.head
  obtain ⟨adb, cpb, rfl⟩ := row_nil h.body.row
  have HB := hide h.body
  clear h
  simp only [pcvCells] at HTm ⊢
  have HN := hide (Blk.new w [.int .i64 hp, .string hn, .slice adh hts.length cph, .slice adb lvs.length cpb] 123)
  have HK1 := hide ((Kept.refl [] w).alloc (.cells [.int .i64 hp, .string hn, .slice adh hts.length cph, .slice adb lvs.length cpb].toArray 123))
  go_enter Tryz.func84, Tryz.ntmps84
  go_wp2
  change Code.wp _ _ _ _ (w.alloc (.cells [.int .i64 hp, .string hn, .slice adh hts.length cph, .slice adb lvs.length cpb].toArray 123))
  generalize w.alloc (.cells [.int .i64 hp, .string hn, .slice adh hts.length cph, .slice adb lvs.length cpb].toArray 123) = w1 at HN HK1 ⊢
  obtain ⟨N, hNe⟩ : ∃ N, w.heap.size = N := ⟨_, rfl⟩
  rw [hNe] at HN ⊢
  have hNlt := (unhide HN).lt
  have HNe := hide hNe
  clear hNe
  go_loopg [3, 9] lvs.length (fun gk o i wr => ∃ (k : Nat) (acc : List CTerm) (ad : Option Addr) (cp : Nat), o = .slice ad acc.length cp ∧ i = .int .i64 k ∧ k ≤ lvs.length ∧ acc.length ≤ k * 1000 ∧ gk = lvs.length - k ∧ Hid (acc = bindT (lvs.take k)) ∧ wr.ownsRow (N + 1) 135 2 (.slice ad acc.length cp) acc.length (acc.flatMap ctermVal) ∧ Hid (Kept [] w wr) ∧ Hid (Blk wr N [.int .i64 hp, .string hn, .slice adh hts.length cph, .slice adb lvs.length cpb] 123))
  case atStart => exact ⟨0, [], none, 0, rfl, rfl, by omega, by simp, rfl, by show _ = _; simp [bindT], World.ownsRow_nil _ _ _ _, HK1, HN⟩
  case round =>
    clear HK1 HN
    obtain ⟨k, acc, ad, cp, rfl, rfl, hk, hacc, hgk, HA, hown, hK, HN⟩ := hrel
    have HG := hide hgk
    clear hgk
    have hNr := (unhide HN).lt
    by_cases hlt : k < lvs.length
    · have hB := (unhide HB).kept (unhide hK) (by simp)
      obtain ⟨g, cap, l, adl, cpl, hbv, hlk, hin, d0, d1, d2, d3, d4, d5, d6, d7, d8⟩ := lit_cells hB k hlt
      simp only [Value.slice.injEq] at hbv
      obtain ⟨rfl, _, rfl⟩ := hbv
      have HT := hide (bindT_take hlt)
      have HFk := hide (unhide HFit lvs[k] (List.getElem_mem hlt))
      rw [hlk] at HT HFk
      have hin1 := hide (ownsRow_kept hin ((Kept.refl [] wr).alloc (.cells (plvCells (l, .slice adl l.ts.length cpl)).toArray 137)) (by simp))
      clear hB hin hlk
      have hK3 := hide ((unhide hK).alloc (.cells (plvCells (l, .slice adl l.ts.length cpl)).toArray 137))
      have hown3 := World.ownsRow.alloc hown (.cells (plvCells (l, .slice adl l.ts.length cpl)).toArray 137)
      have HN3 := hide ((unhide HN).alloc (.cells (plvCells (l, .slice adl l.ts.length cpl)).toArray 137))
      have hbz : N + 1 ≤ (wr.alloc (.cells (plvCells (l, .slice adl l.ts.length cpl)).toArray 137)).heap.size := by simp; omega
      simp only [plvCells] at hin1 hK3 hown3 HN3 hbz
      cases hs : (l.sort == 0) with
      | false =>
        have HA2 : Hid (acc = bindT (lvs.take (k + 1))) := by show _ = _; rw [unhide HT, unhide HA]; simp [hs]
        clear HT HA HFk
        go_wp2
        go_roundg (lvs.length - (k + 1))
        case measure => have := unhide HG; omega
        case rel => exact ⟨k + 1, acc, ad, cp, rfl, by go_num, by omega, by omega, rfl, HA2, hown3, hK3, HN3⟩
      | true =>
        have HA2 : Hid (acc ++ l.ts = bindT (lvs.take (k + 1))) := by show _ = _; rw [unhide HT, unhide HA]; simp [hs]
        obtain ⟨hf1, hf2⟩ := unhide HFk hs
        simp only at hf1 hf2
        obtain ⟨gl, rfl, hl3, hn3, _, _⟩ := row_src (unhide hin1) hf1
        have HN3b := hide hn3
        have HF : Hid (∀ w9, (wr.alloc (.cells [.int .i64 l.place, .int .i64 l.sort, .int .i64 l.ap, .string l.an, .slice (some ⟨gl, 0, none⟩) l.ts.length cpl, .int .i32 l.l.v, .string l.l.s, .int .i32 l.r.v, .string l.r.s].toArray 137)).grownBy w9 (Value.slice ad acc.length cp).ownBlock → Kept [] w w9 ∧ Blk w9 N [.int .i64 hp, .string hn, .slice adh hts.length cph, .slice (some ⟨g, 0, none⟩) lvs.length cpb] 123) := fun w9 hg => ⟨(unhide hK3).grown hg (fun k hk => Or.inr (by have := (hown.lt k hk).1; have := unhide HNe; omega)), (unhide HN3).grown hg (fun e => by have := (hown.lt N e).1; omega)⟩
        clear HT HA HFk hn3 hin1
        have hal : (acc ++ l.ts).length ≤ (k + 1) * 1000 := by simp; omega
        have hkk : k ≤ 1000 := by omega
        go_wp2_with (at_builtin; refine wpList_append_lies _ rfl (.tmp 16) (.tmp 19) _ rfl (N + 1) 135 i0 _ 2 24 Tryz.underlying118 hi0 hz0 hz1 hz2 rfl (by omega) (.slice ad acc.length cp) acc.length (acc.flatMap ctermVal) rfl hown3 ⟨gl, 0, none⟩ l.ts.length cpl (l.ts.flatMap ctermVal) rfl hl3 (unhide HN3b) (one_terms _) (by omega) (by unfold maxLen; omega) (by omega) hbz _ rfl ?_; intro g1 cp1 w9 ho1 hg1 ha1 hl1)
        go_roundg (lvs.length - (k + 1))
        case measure => have := unhide HG; omega
        case rel => exact ⟨k + 1, acc ++ l.ts, some ⟨g1, 0, none⟩, cp1, by simp, by go_num, by omega, hal, rfl, HA2, by simpa using ho1, (unhide HF w9 hg1).1, (unhide HF w9 hg1).2⟩
    · have HE : Hid (acc = bindT lvs) := by
        have h := unhide HA
        rw [List.take_of_length_le (by omega)] at h
        exact h
      have hbl : acc.length ≤ 900000 := by rw [unhide HE]; exact unhide HBl
      have HTr := hide (unhide HTm wr (unhide hK))
      have c0 := (unhide HN).cell 0
      have c1 := (unhide HN).cell 1
      have c2 := (unhide HN).cell 2
      have c3 := (unhide HN).cell 3
      simp at c0 c1 c2 c3
      clear HA HTm
      go_wp2_with fail
      refine (unhide HTr).mono ?_
      rintro e w3 ⟨ad3, cp3, rfl, hrow3, k3⟩
      have hown3 := ownsRow_kept hown k3 (by simp)
      have HVa := hide (variables_any ad3 cp3 TV wr.heap.size w3 hrow3 (unhide HTl))
      have hK3 := hide ((unhide hK).trans k3)
      clear HTr hrow3 c0 c1 c2 c3
      go_wp2_with fail
      refine (unhide HVa).mono ?_
      rintro e w4 ⟨l1, ad4, cp4, rfl, hv1, hrow4, k4⟩
      have hown4 := ownsRow_kept hown3 k4 (by simp)
      have HVb := hide (variables_any ad cp acc (N + 1) w4 hown4 hbl)
      have hK4 := hide ((unhide hK3).trans k4)
      have HV1 := hide hv1
      have hl1 := hv1.le
      clear HVa hv1
      go_wp2_with fail
      refine (unhide HVb).mono ?_
      rintro e w5 ⟨l2, ad5, cp5, rfl, hv2, hrow5, k5⟩
      have hrow45 := ownsRow_kept hrow4 k5 (by simp)
      have hl2 := hv2.le
      have htl := unhide HTl
      have HWi := hide (without_any ad4 cp4 l1 ad5 cp5 l2 _ _ w5 hrow45 hrow5 (by omega) (by omega) hv2.rise)
      have hK5 := hide ((unhide hK4).trans k5)
      have HLo := hide (unhide HLs l1 l2 (unhide HV1) (by rw [← unhide HE]; exact hv2))
      clear HVb hv2
      generalize (l1.filter fun y => !inBI l2 y) = F at HWi HLo
      go_wp2_with fail
      refine (unhide HWi).mono ?_
      rintro e w6 ⟨ad6, cp6, rfl, hrow6, k6⟩
      have hK6 := hide ((unhide hK5).trans k6)
      have hrow6' := ownsRow_base hrow6 (hK5.out.size)
      clear HWi
      go_wp2
      go_ret
      rw [← unhide HNe]
      exact ⟨F, ad6, cp6, rfl, unhide HLo, hrow6', unhide hK6⟩

end Go.Proofs.YtddpdjjlkakecaaGreat
