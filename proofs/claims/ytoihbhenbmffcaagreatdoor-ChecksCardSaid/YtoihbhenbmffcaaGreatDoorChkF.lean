import Derived.Test.YtoihbhenbmffcaaGreatDoorChkD
import Derived.Test.YtoihbhenbmffcaaGreatDoorRefS
set_option linter.unusedVariables false
set_option linter.unusedSimpArgs false

namespace Go.Proofs.YtoihbhenbmffcaaGreatDoor
open Go.RowKit

/-- The number of an atom's terms. -/
def lenOf : Value → Nat
  | .slice _ n _ => n
  | _ => 0

def greatB (c : PCV) : Bool := (atomsV c).any (fun a => decide (2 < lenOf a.tv)) || decide (3 < c.lvs.length)

set_option maxRecDepth 100000 in
set_option maxHeartbeats 1600000 in
theorem isTooGreat_any (c : PCV) (w : World) (h : PcAt w 0 c.hv c.bv c.hts c.lvs) (hlen : c.lvs.length ≤ 1000) :
    Calls Tryz.prog 118 #[.agg (pcvCells c).toArray] w fun e w' => e = .returned (.bool (greatB c)) ∧ Kept [] w w' := by
  have hAt := hide (atoms_any c (w.alloc (.cells (pcvCells c).toArray 189)) (h.kept ((Kept.refl [] w).alloc _) (by simp)) hlen)
  have HForm := hide (atomsV_form h)
  have hAl : (atomsV c).length ≤ 1001 := by
    have := bodyAtoms_len c.lvs
    simp [atomsV]; omega
  have HGr : Hid (greatB c = ((atomsV c).any (fun a => decide (2 < lenOf a.tv)) || decide (3 < c.lvs.length))) := rfl
  obtain ⟨hp, hn, hts, hv, bv, lvs⟩ := c
  simp only at h hlen
  obtain ⟨adh, cph, rfl⟩ := row_nil h.head
  obtain ⟨adb, cpb, rfl⟩ := row_nil h.body.row
  generalize greatB ⟨hp, hn, hts, .slice adh hts.length cph, .slice adb lvs.length cpb, lvs⟩ = G at HGr ⊢
  generalize atomsV ⟨hp, hn, hts, .slice adh hts.length cph, .slice adb lvs.length cpb, lvs⟩ = aT at hAt HForm hAl HGr
  clear h
  have hN := hide (Blk.new w (pcvCells ⟨hp, hn, hts, .slice adh hts.length cph, .slice adb lvs.length cpb, lvs⟩) 189)
  simp only [pcvCells] at hAt hN ⊢
  go_enter Tryz.func118, Tryz.ntmps118
  go_wp2_with fail
  refine (unhide hAt).mono ?_
  rintro e w2 ⟨ad2, cp2, rfl, hown, k2⟩
  have hK2 : Hid (Kept [] w w2) := ((Kept.refl [] w).alloc _).trans k2
  have hN2 := hide ((unhide hN).kept k2 (by simp))
  have HO := hide hown
  clear hAt hown k2 hN
  go_wp2
  generalize w.heap.size = N at hN2 ⊢
  go_loopg [8] aT.length (fun gk i wr => ∃ (k : Nat), i = .int .i64 k ∧ k ≤ aT.length ∧ gk = aT.length - k ∧ Hid ((aT.take k).any (fun a => decide (2 < lenOf a.tv)) = false) ∧ Hid (Kept [] w wr) ∧ Hid (Kept [] w2 wr))
  case atStart => exact ⟨0, rfl, by omega, rfl, by show _ = _; simp, hK2, Kept.refl _ _⟩
  case round =>
    clear hK2
    obtain ⟨k, rfl, hk, hgk, HC, HK, HK2⟩ := hrel
    have HG := hide hgk
    clear hgk
    by_cases hlt : k < aT.length
    · obtain ⟨g, cap3, he, d0, d1, d2⟩ := atom_cells (ownsRow_kept (unhide HO) (unhide HK2) (by simp)) k hlt
      simp only [Value.slice.injEq] at he
      obtain ⟨rfl, _, rfl⟩ := he
      obtain ⟨adt, nt, cpt, htv⟩ := unhide HForm aT[k] (List.getElem_mem hlt)
      rw [htv] at d2
      have HY : Hid (2 < nt → G = true) := by
        intro hn
        rw [unhide HGr, any_hit _ _ k hlt (by simp [htv, lenOf, hn])]
        rfl
      have HN : Hid (¬ 2 < nt → (aT.take (k + 1)).any (fun a => decide (2 < lenOf a.tv)) = false) := by
        intro hn
        rw [any_take _ _ k hlt (unhide HC)]
        simp [htv, lenOf, hn]
      clear htv
      have HKa := hide ((unhide HK).alloc (.cells [.int .i64 aT[k].place, .string aT[k].name, .slice adt nt cpt].toArray 187))
      have HKa2 := hide ((unhide HK2).alloc (.cells [.int .i64 aT[k].place, .string aT[k].name, .slice adt nt cpt].toArray 187))
      by_cases hgt : 2 < nt
      · have HT := hide (unhide HY hgt)
        have hgi : (2 : Int) < (nt : Int) := by omega
        clear HY HN
        go_wp2
        go_ret
        rw [unhide HT]
        exact ⟨rfl, unhide HKa⟩
      · have HT := hide (unhide HN hgt)
        have hgi : ¬ (2 : Int) < (nt : Int) := by omega
        clear HY HN
        go_wp2
        go_roundg (aT.length - (k + 1))
        case measure => have := unhide HG; omega
        case rel => exact ⟨k + 1, by go_num, by omega, rfl, HT, HKa, HKa2⟩
    · have HE : Hid (G = decide (3 < lvs.length)) := by
        have h := unhide HC
        rw [List.take_of_length_le (by omega)] at h
        show _ = _
        rw [unhide HGr, h]
        rfl
      have c3 := ((unhide hN2).kept (unhide HK2) (by simp)).cell 3
      simp at c3
      by_cases hgt : 3 < lvs.length
      · have hgi : (3 : Int) < (lvs.length : Int) := by omega
        have HE2 : Hid (G = true) := by show _ = _; rw [unhide HE]; simp [hgt]
        go_wp2
        go_ret
        rw [HE2.out]
        exact ⟨by simp [hgi], unhide HK⟩
      · have hgi : ¬ (3 : Int) < (lvs.length : Int) := by omega
        have HE2 : Hid (G = false) := by show _ = _; rw [unhide HE]; simp [hgt]
        go_wp2
        go_ret
        rw [HE2.out]
        exact ⟨by simp [hgi], unhide HK⟩

end Go.Proofs.YtoihbhenbmffcaaGreatDoor
