import Derived.Test.YtoihbhenbmffcaaGreatDoorChkF
set_option linter.unusedVariables false
set_option linter.unusedSimpArgs false

namespace Go.Proofs.YtoihbhenbmffcaaGreatDoor
open Go.RowKit

def foundOut (o : Option Int) : Value := match o with | some p => .tuple #[.int .i64 p, .bool true] | none => .tuple #[.int .i64 0, .bool false]

theorem pcvCells_len (c : PCV) : (pcvCells c).length = 4 := rfl

/-- A program as it lies. -/
structure ProgIn (w : World) (lv : Value) (cs : List PCV) : Prop where
  row : w.ownsRow 0 189 4 lv cs.length (cs.flatMap pcvCells)
  each : ∀ c ∈ cs, PcAt w 0 c.hv c.bv c.hts c.lvs

theorem ProgIn.kept {w w' : World} {lv : Value} {cs : List PCV} (h : ProgIn w lv cs) (k : Kept [] w w') : ProgIn w' lv cs := ⟨ownsRow_kept h.row k (by simp), fun c hc => (h.each c hc).kept k (by simp)⟩

theorem pc_cells {w : World} {lv : Value} {cs : List PCV} (h : ProgIn w lv cs) (k : Nat) (hk : k < cs.length) :
    ∃ g cap hp hn hts adh cph adb cpb lvs, lv = .slice (some ⟨g, 0, none⟩) cs.length cap ∧ cs[k] = ⟨hp, hn, hts, .slice adh hts.length cph, .slice adb lvs.length cpb, lvs⟩ ∧
      w.cell? ⟨g, k * 4, none⟩ = some (.int .i64 hp) ∧ w.cell? ⟨g, k * 4 + 1, none⟩ = some (.string hn) ∧ w.cell? ⟨g, k * 4 + 2, none⟩ = some (.slice adh hts.length cph) ∧ w.cell? ⟨g, k * 4 + 3, none⟩ = some (.slice adb lvs.length cpb) := by
  obtain ⟨g, cap, he, _, hcell⟩ := row_get h.row (fun c _ => pcvCells_len c) k hk
  have hin := h.each _ (List.getElem_mem hk)
  have d0 := hcell k hk 0 (by omega)
  have d1 := hcell k hk 1 (by omega)
  have d2 := hcell k hk 2 (by omega)
  have d3 := hcell k hk 3 (by omega)
  obtain ⟨⟨hp, hn, hts, hv, bv, lvs⟩, hc⟩ : ∃ c, cs[k] = c := ⟨_, rfl⟩
  rw [hc] at d0 d1 d2 d3 hin
  simp only at hin
  obtain ⟨adh, cph, rfl⟩ := row_nil hin.head
  obtain ⟨adb, cpb, rfl⟩ := row_nil hin.body.row
  simp [pcvCells] at d0 d1 d2 d3
  exact ⟨g, cap, hp, hn, hts, adh, cph, adb, cpb, lvs, he, hc, d0, d1, d2, d3⟩

def isNm (x : ByteArray) (a : CAtom) : Bool := a.name.toList == x.toList
/-- With how many arguments a relation stands first. -/
def arV (cs : List PCV) (x : ByteArray) : Option Nat := ((cs.flatMap atomsV).find? (isNm x)).map fun a => lenOf a.tv
def badA (cs : List PCV) (a : CAtom) : Bool := decide (2 < lenOf a.tv) || (match arV cs a.name with | some n => !(n == lenOf a.tv) | none => false)
def arO (cs : List PCV) (l : List CAtom) : Option Int := (l.find? (badA cs)).map fun a => a.place

theorem find_none {α : Type} {p : α → Bool} {l : List α} (h : l.any p = false) : l.find? p = none := by
  rw [List.find?_eq_none]
  intro y hy hh
  rw [List.any_eq_false] at h
  exact h y hy hh

theorem parts_at {cs : List PCV} {k : Nat} (hk : k < cs.length) : cs.flatMap atomsV = (cs.take k).flatMap atomsV ++ (atomsV cs[k] ++ (cs.drop (k + 1)).flatMap atomsV) := by
  rw [show cs.flatMap atomsV = (cs.take k ++ cs[k] :: cs.drop (k + 1)).flatMap atomsV from by rw [List.getElem_cons_drop, List.take_append_drop]]
  rw [List.flatMap_append, List.flatMap_cons]

theorem arV_hit {cs : List PCV} {x : ByteArray} {k : Nat} (hk : k < cs.length) {l : List CAtom} (hl : atomsV cs[k] = l) (h1 : ((cs.take k).flatMap atomsV).any (isNm x) = false) {j : Nat} (hj : j < l.length) (h2 : (l.take j).any (isNm x) = false) (h3 : isNm x l[j] = true) :
    arV cs x = some (lenOf l[j].tv) := by
  unfold arV
  rw [parts_at hk, List.find?_append, find_none h1, hl, List.find?_append, find_take _ _ j hj h2 h3]
  rfl

theorem arV_step {cs : List PCV} {x : ByteArray} {k : Nat} (hk : k < cs.length) {l : List CAtom} (hl : atomsV cs[k] = l) (h1 : ((cs.take k).flatMap atomsV).any (isNm x) = false) (h2 : l.any (isNm x) = false) : ((cs.take (k + 1)).flatMap atomsV).any (isNm x) = false := by
  rw [List.take_succ_eq_append_getElem hk, List.flatMap_append, List.any_append, h1]
  simp [hl, h2]

set_option maxRecDepth 100000 in
set_option maxHeartbeats 1600000 in
theorem arityOf_any (x : ByteArray) (lad : Option Addr) (lcp : Nat) (cs : List PCV) (w : World) (h : ProgIn w (.slice lad cs.length lcp) cs) (hl3 : ∀ c ∈ cs, c.lvs.length ≤ 1000) (hlen : cs.length ≤ 1000) :
    Calls Tryz.prog 100 #[.string x, .slice lad cs.length lcp] w fun e w' => e = .returned (foundOut ((arV cs x).map fun (n : Nat) => (n : Int))) ∧ Kept [] w w' := by
  have HP := hide h
  have HL3 := hide hl3
  obtain ⟨R, hR⟩ : ∃ R, arV cs x = R := ⟨_, rfl⟩
  rw [hR]
  have HRR := hide hR
  clear h hl3 hR
  go_enter Tryz.func100, Tryz.ntmps100
  go_wp2
  go_loopg [12] cs.length (fun gk i wr => ∃ (k : Nat), i = .int .i64 k ∧ k ≤ cs.length ∧ gk = cs.length - k ∧ Hid (((cs.take k).flatMap atomsV).any (isNm x) = false) ∧ Hid (Kept [] w wr))
  case atStart => exact ⟨0, rfl, by omega, rfl, by show _ = _; simp, Kept.refl _ _⟩
  case round =>
    obtain ⟨k, rfl, hk, hgk, HC, HK⟩ := hrel
    have HG := hide hgk
    clear hgk
    by_cases hlt : k < cs.length
    · obtain ⟨g, cap, hp, hn, hts, adh, cph, adb, cpb, lvs, he, hck, d0, d1, d2, d3⟩ := pc_cells ((unhide HP).kept (unhide HK)) k hlt
      simp only [Value.slice.injEq] at he
      obtain ⟨rfl, _, rfl⟩ := he
      have hPat := ((unhide HP).kept (unhide HK)).each _ (List.getElem_mem hlt)
      have hl3k := unhide HL3 _ (List.getElem_mem hlt)
      obtain ⟨aT, haT⟩ : ∃ aT, atomsV cs[k] = aT := ⟨_, rfl⟩
      have HY := hide (fun j (hj : j < aT.length) h2 h3 => arV_hit hlt haT (unhide HC) hj h2 h3)
      have HS := hide (arV_step hlt haT (unhide HC))
      rw [hck] at hPat hl3k haT
      simp only at hPat hl3k
      have hAt := hide (atoms_any ⟨hp, hn, hts, .slice adh hts.length cph, .slice adb lvs.length cpb, lvs⟩ (wr.alloc (.cells [.int .i64 hp, .string hn, .slice adh hts.length cph, .slice adb lvs.length cpb].toArray 189)) (hPat.kept ((Kept.refl [] wr).alloc _) (by simp)) hl3k)
      have HForm := hide (atomsV_form (c := ⟨hp, hn, hts, .slice adh hts.length cph, .slice adb lvs.length cpb, lvs⟩) hPat)
      have hAl : aT.length ≤ 1001 := by
        have := bodyAtoms_len lvs
        rw [← haT]
        simp [atomsV]; omega
      rw [haT] at hAt HForm
      have HKa := hide ((unhide HK).alloc (.cells [.int .i64 hp, .string hn, .slice adh hts.length cph, .slice adb lvs.length cpb].toArray 189))
      clear hPat hck haT
      simp only [pcvCells] at hAt
      go_wp2_with fail
      refine (unhide hAt).mono ?_
      rintro e w2 ⟨ad2, cp2, rfl, hown, k2⟩
      have HK2 := hide ((unhide HKa).trans k2)
      have HO := hide hown
      clear hAt hown k2 HKa d0 d1 d2 d3
      go_wp2
      go_loopg [19] aT.length (fun gj i wj => ∃ (j : Nat), i = .int .i64 j ∧ j ≤ aT.length ∧ gj = aT.length - j ∧ Hid ((aT.take j).any (isNm x) = false) ∧ Hid (Kept [] w wj) ∧ Hid (Kept [] w2 wj))
      case atStart => exact ⟨0, rfl, by omega, rfl, by show _ = _; simp, HK2, Kept.refl _ _⟩
      case round =>
        clear HK2
        obtain ⟨j, rfl, hj, hgj, HCj, HKj, HKj2⟩ := hrel
        have HGj := hide hgj
        clear hgj
        by_cases hjl : j < aT.length
        · obtain ⟨gg, cap3, he, d0, d1, d2⟩ := atom_cells (ownsRow_kept (unhide HO) (unhide HKj2) (by simp)) j hjl
          simp only [Value.slice.injEq] at he
          obtain ⟨rfl, _, rfl⟩ := he
          obtain ⟨adt, nt, cpt, htv⟩ := unhide HForm aT[j] (List.getElem_mem hjl)
          rw [htv] at d2
          have HYj : Hid ((aT[j].name.toList == x.toList) = true → R = some nt) := by
            intro hh
            have := unhide HY j hjl (unhide HCj) hh
            rw [htv] at this
            rw [← unhide HRR]
            exact this
          have HNj : Hid ((aT[j].name.toList == x.toList) = false → (aT.take (j + 1)).any (isNm x) = false) := by
            intro hh
            rw [any_take _ _ j hjl (unhide HCj)]
            exact hh
          have HKa := hide ((unhide HKj).alloc (.cells [.int .i64 aT[j].place, .string aT[j].name, .slice adt nt cpt].toArray 187))
          have HKa2 := hide ((unhide HKj2).alloc (.cells [.int .i64 aT[j].place, .string aT[j].name, .slice adt nt cpt].toArray 187))
          clear htv
          cases hh : (aT[j].name.toList == x.toList) with
          | true =>
            have HT := hide (unhide HYj hh)
            clear HYj HNj
            go_wp2
            go_ret2
            rw [unhide HT]
            exact ⟨rfl, unhide HKa⟩
          | false =>
            have HT := hide (unhide HNj hh)
            clear HYj HNj
            go_wp2
            go_roundg (aT.length - (j + 1))
            case measure => have := unhide HGj; omega
            case rel => exact ⟨j + 1, by go_num, by omega, rfl, HT, HKa, HKa2⟩
        · have HE : Hid (((cs.take (k + 1)).flatMap atomsV).any (isNm x) = false) := by
            have h := unhide HCj
            rw [List.take_of_length_le (by omega)] at h
            exact unhide HS h
          go_wp2
          go_roundg (cs.length - (k + 1))
          case measure => have := unhide HG; omega
          case rel => exact ⟨k + 1, by go_num, by omega, rfl, HE, HKj⟩
    · have HE : Hid (R = none) := by
        have h := unhide HC
        rw [List.take_of_length_le (by omega)] at h
        show _ = _
        rw [← unhide HRR]
        unfold arV
        rw [find_none h]
        rfl
      go_wp2
      go_ret2
      rw [HE.out]
      exact ⟨rfl, unhide HK⟩

set_option maxRecDepth 100000 in
set_option maxHeartbeats 1600000 in
theorem findArity_any (ada : Option Addr) (cpa : Nat) (aT : List CAtom) (base : Nat) (lad : Option Addr) (lcp : Nat) (cs : List PCV) (w : World) (hrow : w.ownsRow base 187 3 (.slice ada aT.length cpa) aT.length (aT.flatMap catomVal)) (hform : ∀ a ∈ aT, ∃ ad n cp, a.tv = .slice ad n cp) (hal : aT.length ≤ 1001) (htl : ∀ a ∈ aT, lenOf a.tv ≤ 1000) (h : ProgIn w (.slice lad cs.length lcp) cs) (hl3 : ∀ c ∈ cs, c.lvs.length ≤ 1000) (hlen : cs.length ≤ 1000) :
    Calls Tryz.prog 91 #[.slice ada aT.length cpa, .slice lad cs.length lcp] w fun e w' => e = .returned (foundOut (arO cs aT)) ∧ Kept [] w w' := by
  have HO := hide hrow
  have HForm := hide hform
  have HAr : Hid (∀ x wr, Kept [] w wr → Calls Tryz.prog 100 #[.string x, .slice lad cs.length lcp] wr fun e w' => e = .returned (foundOut ((arV cs x).map fun (n : Nat) => (n : Int))) ∧ Kept [] wr w') := fun x wr hk => arityOf_any x lad lcp cs wr (h.kept hk) hl3 hlen
  obtain ⟨R, hR⟩ : ∃ R, arO cs aT = R := ⟨_, rfl⟩
  rw [hR]
  have HRR : Hid ((aT.find? (badA cs)).map (fun a => a.place) = R) := hR
  clear h hl3 hR hrow hform htl
  go_enter Tryz.func91, Tryz.ntmps91
  go_wp2
  go_loopg [12] aT.length (fun gk i wr => ∃ (k : Nat), i = .int .i64 k ∧ k ≤ aT.length ∧ gk = aT.length - k ∧ Hid ((aT.take k).any (badA cs) = false) ∧ Hid (Kept [] w wr))
  case atStart => exact ⟨0, rfl, by omega, rfl, by show _ = _; simp, Kept.refl _ _⟩
  case round =>
    obtain ⟨k, rfl, hk, hgk, HC, HK⟩ := hrel
    have HG := hide hgk
    clear hgk
    by_cases hlt : k < aT.length
    · obtain ⟨g, cap3, he, d0, d1, d2⟩ := atom_cells (ownsRow_kept (unhide HO) (unhide HK) (by simp)) k hlt
      simp only [Value.slice.injEq] at he
      obtain ⟨rfl, _, rfl⟩ := he
      obtain ⟨adt, nt, cpt, htv⟩ := unhide HForm aT[k] (List.getElem_mem hlt)
      rw [htv] at d2
      have HY : Hid (badA cs aT[k] = true → R = some aT[k].place) := by
        intro hh
        rw [← unhide HRR, find_take _ _ k hlt (unhide HC) hh]
        rfl
      have HN : Hid (badA cs aT[k] = false → (aT.take (k + 1)).any (badA cs) = false) := by
        intro hh
        rw [any_take _ _ k hlt (unhide HC)]
        exact hh
      have HBe : Hid (badA cs aT[k] = (decide (2 < nt) || (match arV cs aT[k].name with | some n => !(n == nt) | none => false))) := by
        show _ = _
        unfold badA
        rw [htv]
        rfl
      clear htv
      have hKa := (unhide HK).alloc (.cells [.int .i64 aT[k].place, .string aT[k].name, .slice adt nt cpt].toArray 187)
      have HBl := hide (Blk.new wr [.int .i64 aT[k].place, .string aT[k].name, .slice adt nt cpt] 187)
      have HCall := hide (unhide HAr aT[k].name _ hKa)
      have HKa := hide hKa
      clear hKa
      go_wp2_with fail
      refine (unhide HCall).mono ?_
      rintro e w3 ⟨rfl, k3⟩
      have hB3 := (unhide HBl).kept k3 (by simp)
      have HK3 := hide ((unhide HKa).trans k3)
      have c0 := hB3.cell 0
      have c2 := hB3.cell 2
      simp at c0 c2
      clear HCall HBl HKa k3 hB3 d0 d1 d2
      by_cases hgt : 2 < nt
      · have hgi : (2 : Int) < (nt : Int) := by omega
        have HT : Hid (R = some aT[k].place) := unhide HY (by rw [unhide HBe]; simp [hgt])
        clear HY HN HBe
        cases arV cs aT[k].name with
        | none =>
          simp only [Option.map_none, foundOut]
          go_wp2
          go_ret2
          rw [unhide HT]
          exact ⟨rfl, unhide HK3⟩
        | some n =>
          simp only [Option.map_some, foundOut]
          go_wp2
          go_ret2
          rw [unhide HT]
          exact ⟨rfl, unhide HK3⟩
      · have hgi : ¬ (2 : Int) < (nt : Int) := by omega
        cases hv : arV cs aT[k].name with
        | none =>
          have HT : Hid ((aT.take (k + 1)).any (badA cs) = false) := unhide HN (by rw [unhide HBe, hv]; simp [hgt])
          clear HY HN HBe hv
          simp only [Option.map_none, foundOut]
          go_wp2
          go_roundg (aT.length - (k + 1))
          case measure => have := unhide HG; omega
          case rel => exact ⟨k + 1, by go_num, by omega, rfl, HT, HK3⟩
        | some n =>
          by_cases hne : n = nt
          · have HT : Hid ((aT.take (k + 1)).any (badA cs) = false) := unhide HN (by rw [unhide HBe, hv]; simp [hgt, hne])
            have hei : ((nt : Int) != (n : Int)) = false := by rw [hne]; simp
            have hei2 : ((nt : Int) == (n : Int)) = true := by rw [hne]; simp
            clear HY HN HBe hv
            simp only [Option.map_some, foundOut]
            clear hne
            go_wp2
            go_roundg (aT.length - (k + 1))
            case measure => have := unhide HG; omega
            case rel => exact ⟨k + 1, by go_num, by omega, rfl, HT, HK3⟩
          · have HT : Hid (R = some aT[k].place) := unhide HY (by rw [unhide HBe, hv]; simp [hne])
            have hei : ((nt : Int) != (n : Int)) = true := by simp [bne]; omega
            have hei2 : ((nt : Int) == (n : Int)) = false := by rw [beq_eq_false_iff_ne]; omega
            clear HY HN HBe hv
            simp only [Option.map_some, foundOut]
            go_wp2
            go_ret2
            rw [unhide HT]
            exact ⟨rfl, unhide HK3⟩
    · have HE : Hid (R = none) := by
        have h := unhide HC
        rw [List.take_of_length_le (by omega)] at h
        show _ = _
        rw [← unhide HRR, find_none h]
        rfl
      go_wp2
      go_ret2
      rw [HE.out]
      exact ⟨rfl, unhide HK⟩

end Go.Proofs.YtoihbhenbmffcaaGreatDoor
