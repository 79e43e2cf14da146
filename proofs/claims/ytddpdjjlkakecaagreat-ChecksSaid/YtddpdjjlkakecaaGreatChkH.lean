import Derived.Test.YtddpdjjlkakecaaGreatChkG
set_option linter.unusedVariables false
set_option linter.unusedSimpArgs false

namespace Go.Proofs.YtddpdjjlkakecaaGreat
open Go.RowKit

/-- A term that is one of the sought variables. -/
def hitT (l : List Int) (t : CTerm) : Bool := t.v != 0 && inBI l t.v
def hitL (l : List Int) (p : PLV) : Bool := (termsL p.1).any (hitT l)

theorem vars_hit {ts : List CTerm} {a l : List Int} (h : VarsIs ts a) : (∃ y, y ∈ a ∧ y ∈ l) ↔ ts.any (hitT l) = true := by
  rw [List.any_eq_true]
  constructor
  · rintro ⟨y, h1, h2⟩
    obtain ⟨h3, t, h4, h5⟩ := (h.mem y).1 h1
    refine ⟨t, h4, ?_⟩
    unfold hitT
    rw [h5, (inBI_iff l y).2 h2]
    simp [h3]
  · rintro ⟨t, h1, h2⟩
    unfold hitT at h2
    simp only [Bool.and_eq_true, bne_iff_ne, ne_eq] at h2
    exact ⟨t.v, (h.mem _).2 ⟨h2.1, t, h1, rfl⟩, (inBI_iff l _).1 h2.2⟩

def foundOut (o : Option Int) : Value := match o with | some p => .tuple #[.int .i64 p, .bool true] | none => .tuple #[.int .i64 0, .bool false]

set_option maxRecDepth 100000 in
set_option maxHeartbeats 1600000 in
theorem findVariable_any (adb : Option Addr) (cpb : Nat) (lvs : List PLV) (ads : Option Addr) (cps : Nat) (l : List Int) (bs : Nat) (w : World) (h : BodyAt w 0 (.slice adb lvs.length cpb) lvs) (hs : w.ownsRow bs 21 1 (.slice ads l.length cps) l.length (l.flatMap runeCell)) (hll : l.length ≤ 900000) (hr : Rise ltI l) (hlen : lvs.length ≤ 1000) (htl : ∀ p ∈ lvs, (termsL p.1).length ≤ 1000) :
    Calls Tryz.prog 87 #[.slice adb lvs.length cpb, .slice ads l.length cps] w fun e w' => e = .returned (foundOut ((lvs.find? (hitL l)).map fun p => p.1.place)) ∧ Kept [] w w' := by
  have HB := hide h
  have HS := hide hs
  have HRi := hide hr
  have HTl := hide htl
  obtain ⟨R, hR⟩ : ∃ R, ((lvs.find? (hitL l)).map fun p => p.1.place) = R := ⟨_, rfl⟩
  rw [hR]
  have HRR := hide hR
  clear h hs hr htl hR
  go_enter Tryz.func87, Tryz.ntmps87
  go_wp2
  go_loopg [10] lvs.length (fun gk i wr => ∃ (k : Nat), i = .int .i64 k ∧ k ≤ lvs.length ∧ gk = lvs.length - k ∧ Hid ((lvs.take k).any (hitL l) = false) ∧ Hid (Kept [] w wr))
  case atStart => exact ⟨0, rfl, by omega, rfl, by show _ = _; simp, Kept.refl _ _⟩
  case round =>
    obtain ⟨k, rfl, hk, hgk, HC, HK⟩ := hrel
    have HG := hide hgk
    clear hgk
    by_cases hlt : k < lvs.length
    · obtain ⟨g, cap, q, adl, cpl, hbv, hlk, hin, d0, d1, d2, d3, d4, d5, d6, d7, d8⟩ := lit_cells ((unhide HB).kept (unhide HK) (by simp)) k hlt
      simp only [Value.slice.injEq] at hbv
      obtain ⟨rfl, _, rfl⟩ := hbv
      have htq := unhide HTl lvs[k] (List.getElem_mem hlt)
      have HY : Hid ((termsL q).any (hitT l) = true → R = some q.place) := by
        intro hh
        rw [← unhide HRR, find_take _ _ k hlt (unhide HC) (by unfold hitL; rw [hlk]; exact hh), hlk]
        rfl
      have HN : Hid ((termsL q).any (hitT l) = false → (lvs.take (k + 1)).any (hitL l) = false) := by
        intro hh
        rw [any_take _ _ k hlt (unhide HC)]
        unfold hitL
        rw [hlk]
        exact hh
      rw [hlk] at htq
      simp only at htq
      have HTm := hide (lterms_any q adl cpl (wr.alloc (.cells (plvCells (q, .slice adl q.ts.length cpl)).toArray 137)) (ownsRow_kept hin ((Kept.refl [] wr).alloc _) (by simp)))
      have hN := hide (Blk.new wr (plvCells (q, .slice adl q.ts.length cpl)) 137)
      have hK1 := hide ((unhide HK).alloc (.cells (plvCells (q, .slice adl q.ts.length cpl)).toArray 137))
      clear hin hlk
      simp only [plvCells] at HTm
      go_wp2_with fail
      refine (unhide HTm).mono ?_
      rintro e w3 ⟨ad3, cp3, rfl, hrow3, k3⟩
      have hN3 := hide ((unhide hN).kept k3 (by simp))
      have hK3 := hide ((unhide hK1).trans k3)
      have HVa := hide (variables_any ad3 cp3 (termsL q) 0 w3 hrow3 (by omega))
      clear HTm hrow3 k3 hN hK1 d0 d1 d2 d3 d4 d5 d6 d7 d8
      go_wp2_with fail
      refine (unhide HVa).mono ?_
      rintro e w4 ⟨l1, ad4, cp4, rfl, hv1, hrow4, k4⟩
      have hl1 := hv1.le
      have HHit := hide (vars_hit (l := l) hv1)
      have hN4 := hide ((unhide hN3).kept k4 (by simp))
      have hK4 := hide ((unhide hK3).trans k4)
      have hKa := (unhide hK4).alloc (.cells [.slice ad4 l1.length cp4, .slice ads l.length cps].toArray 165)
      have HCm := hide (common_any w4.heap.size ad4 ads cp4 cps l1 l _ _ (w4.alloc (.cells [.slice ad4 l1.length cp4, .slice ads l.length cps].toArray 165)) (Blk.new w4 _ 165) (World.ownsRow.alloc hrow4 _) (ownsRow_kept (unhide HS) hKa (by simp)) (by omega) hll hv1.rise (unhide HRi))
      have hN5 := hide ((unhide hN4).alloc (.cells [.slice ad4 l1.length cp4, .slice ads l.length cps].toArray 165))
      have HKa := hide hKa
      clear HVa hv1 hrow4 k4 hN3 hK3 hKa hN4
      go_wp2_with fail
      refine (unhide HCm).mono ?_
      rintro e w5 ⟨ad5, n5, cp5, rfl, hn5, k5⟩
      have hN6 := (unhide hN5).kept k5 (by simp)
      have hK6 := hide ((unhide HKa).trans k5)
      have HH5 : Hid (0 < n5 ↔ (termsL q).any (hitT l) = true) := Iff.trans hn5 (unhide HHit)
      clear HCm hn5 k5 hN5 HKa hK4 HHit
      by_cases hpos : 0 < n5
      · have HT := hide (unhide HY ((unhide HH5).1 hpos))
        have hpi : (0 : Int) < (n5 : Int) := by omega
        have c0 := hN6.cell 0
        simp [plvCells] at c0
        clear HY HN HH5 hN6
        go_wp2
        go_ret2
        rw [unhide HT]
        exact ⟨rfl, unhide hK6⟩
      · have HT := hide (unhide HN (by
          cases hh : (termsL q).any (hitT l) with
          | false => rfl
          | true => exact absurd ((unhide HH5).2 hh) hpos))
        have hpi : ¬ (0 : Int) < (n5 : Int) := by omega
        clear HY HN HH5 hN6
        go_wp2
        go_roundg (lvs.length - (k + 1))
        case measure => have := unhide HG; omega
        case rel => exact ⟨k + 1, by go_num, by omega, rfl, HT, hK6⟩
    · have HE : Hid (R = none) := by
        have h := unhide HC
        rw [List.take_of_length_le (by omega)] at h
        show _ = _
        rw [← unhide HRR]
        have : lvs.find? (hitL l) = none := by
          rw [List.find?_eq_none]
          intro x hx hh
          rw [List.any_eq_false] at h
          exact h x hx hh
        rw [this]
        rfl
      go_wp2
      go_ret2
      rw [HE.out]
      exact ⟨rfl, unhide HK⟩

/-- What findUnsafe tells. -/
def boundV (lvs : List PLV) (y : Int) : Bool := (bindT lvs).any fun t => t.v == y
def looseV (c : PCV) (t : CTerm) : Bool := t.v != 0 && !boundV c.lvs t.v
def unsafeO (c : PCV) : Option Int := if c.hts.any (looseV c) then some c.hp else (c.lvs.find? fun p => (termsL p.1).any (looseV c)).map fun p => p.1.place

theorem hit_loose {c : PCV} {l : List Int} (h : LooseIs c l) {t : CTerm} (ht : t ∈ termsV c) : hitT l t = looseV c t := by
  unfold hitT looseV
  cases h0 : (t.v != 0) with
  | false => rfl
  | true =>
    simp only [Bool.true_and]
    rw [Bool.eq_iff_iff, inBI_iff, h.mem]
    have h0' : t.v ≠ 0 := by simpa using h0
    unfold boundV
    constructor
    · rintro ⟨_, h2⟩
      rw [Bool.not_eq_true', List.any_eq_false]
      intro x hx hh
      exact h2 ⟨x, hx, by simpa using hh⟩
    · intro h2
      rw [Bool.not_eq_true', List.any_eq_false] at h2
      exact ⟨⟨h0', t, ht, rfl⟩, fun ⟨x, hx, hh⟩ => h2 x hx (by simpa using hh)⟩

theorem any_cong {α : Type} {f g : α → Bool} : ∀ {l : List α}, (∀ x ∈ l, f x = g x) → l.any f = l.any g
  | [], _ => rfl
  | x :: l, h => by rw [List.any_cons, List.any_cons, h x (by simp), any_cong (fun y hy => h y (by simp [hy]))]
theorem find_cong {α : Type} {f g : α → Bool} : ∀ {l : List α}, (∀ x ∈ l, f x = g x) → l.find? f = l.find? g
  | [], _ => rfl
  | x :: l, h => by rw [List.find?_cons, List.find?_cons, h x (by simp), find_cong (fun y hy => h y (by simp [hy]))]

set_option maxRecDepth 100000 in
set_option maxHeartbeats 1600000 in
theorem findUnsafe_any (c : PCV) (w : World) (h : PcAt w 0 c.hv c.bv c.hts c.lvs) (hf : PcFit c) (hT : (termsV c).length ≤ 900000) :
    Calls Tryz.prog 57 #[.agg (pcvCells c).toArray] w fun e w' => e = .returned (foundOut (unsafeO c)) ∧ Kept [] w w' := by
  have HLo := hide (loose_any c (w.alloc (.cells (pcvCells c).toArray 123)) (h.kept ((Kept.refl [] w).alloc _) (by simp)) hf hT)
  have HU : Hid (∀ l, LooseIs c l → (c.hts.any (hitT l) = true → unsafeO c = some c.hp) ∧ (c.hts.any (hitT l) = false → unsafeO c = (c.lvs.find? (hitL l)).map fun p => p.1.place)) := by
    intro l hl
    have e1 : c.hts.any (hitT l) = c.hts.any (looseV c) := any_cong (fun t ht => hit_loose hl (by unfold termsV; exact List.mem_append_left _ ht))
    have e2 : c.lvs.find? (hitL l) = c.lvs.find? fun p => (termsL p.1).any (looseV c) := find_cong (fun p hp => any_cong (fun t ht => hit_loose hl (by unfold termsV bodyTerms; exact List.mem_append_right _ (List.mem_flatMap.2 ⟨p, hp, ht⟩))))
    unfold unsafeO
    rw [e1, e2]
    constructor
    · intro hh; rw [hh]; rfl
    · intro hh; rw [hh]; rfl
  have HTl : Hid (∀ p ∈ c.lvs, (termsL p.1).length ≤ 1000) := fun p hp => (hf.terms hp).2
  have hf2 := hf.head.2
  have hf3 := hf.lits
  clear hT hf
  generalize unsafeO c = U at HU ⊢
  have HLc : Hid (∀ l, LooseIs c l → Rise ltI l ∧ l.length ≤ 900000) := fun l hl => ⟨hl.rise, hl.le⟩
  generalize LooseIs c = LI at HLo HU HLc
  obtain ⟨hp, hn, hts, hv, bv, lvs⟩ := c
  simp only at h HTl hf2 hf3 HU
  obtain ⟨adh, cph, rfl⟩ := row_nil h.head
  obtain ⟨adb, cpb, rfl⟩ := row_nil h.body.row
  have HPc := hide h
  clear h
  have HN := hide (Blk.new w [.int .i64 hp, .string hn, .slice adh hts.length cph, .slice adb lvs.length cpb] 123)
  have HK1 := hide ((Kept.refl [] w).alloc (.cells [.int .i64 hp, .string hn, .slice adh hts.length cph, .slice adb lvs.length cpb].toArray 123))
  simp only [pcvCells] at HLo ⊢
  go_enter Tryz.func57, Tryz.ntmps57
  go_wp2_with fail
  refine (unhide HLo).mono ?_
  rintro e w2 ⟨l, ad2, cp2, rfl, hli, hrow2, k2⟩
  have HN2 := (unhide HN).kept k2 (by simp)
  have hK2 := (unhide HK1).trans k2
  obtain ⟨hrl, hll⟩ := unhide HLc l hli
  have HUl := hide (unhide HU l hli)
  have HRl := hide hrl
  have HVa := hide (variables_any adh cph hts 0 w2 (ownsRow_kept (unhide HPc).head hK2 (by simp)) (by omega))
  have c2 := HN2.cell 2
  simp at c2
  have HNb := hide HN2
  have HKb := hide hK2
  clear HLo HN HK1 HLc hli HU hrl HN2 hK2 k2
  go_wp2_with fail
  refine (unhide HVa).mono ?_
  rintro e w4 ⟨l1, ad4, cp4, rfl, hv1, hrow4, k4⟩
  have hl1 := hv1.le
  have HHit := hide (vars_hit (l := l) hv1)
  have hN4 := (unhide HNb).kept k4 (by simp)
  have hK4 := (unhide HKb).trans k4
  have hrow24 := ownsRow_kept hrow2 k4 (by simp)
  have HCm := hide (common_any w4.heap.size ad4 ad2 cp4 cp2 l1 l _ _ (w4.alloc (.cells [.slice ad4 l1.length cp4, .slice ad2 l.length cp2].toArray 165)) (Blk.new w4 _ 165) (World.ownsRow.alloc hrow4 _) (World.ownsRow.alloc hrow24 _) (by omega) hll hv1.rise (unhide HRl))
  have hN5 := hide (hN4.alloc (.cells [.slice ad4 l1.length cp4, .slice ad2 l.length cp2].toArray 165))
  have hK5 := hide (hK4.alloc (.cells [.slice ad4 l1.length cp4, .slice ad2 l.length cp2].toArray 165))
  have hrow25 := hide (World.ownsRow.alloc hrow24 (.cells [.slice ad4 l1.length cp4, .slice ad2 l.length cp2].toArray 165))
  clear HVa hv1 hrow4 k4 hN4 hK4 hrow24 hrow2 c2 HNb HKb
  go_wp2_with fail
  refine (unhide HCm).mono ?_
  rintro e w5 ⟨ad5, n5, cp5, rfl, hn5, k5⟩
  have hN6 := (unhide hN5).kept k5 (by simp)
  have hK6 := hide ((unhide hK5).trans k5)
  have hrow26 := hide (ownsRow_kept (unhide hrow25) k5 (by simp))
  have HH5 : Hid (0 < n5 ↔ hts.any (hitT l) = true) := Iff.trans hn5 (unhide HHit)
  have c0 := hN6.cell 0
  have c3 := hN6.cell 3
  simp at c0 c3
  clear HCm hn5 k5 hN5 hK5 hrow25 hN6 HHit
  by_cases hpos : 0 < n5
  · have HT := hide ((unhide HUl).1 ((unhide HH5).1 hpos))
    have hpi : (0 : Int) < (n5 : Int) := by omega
    clear HUl HH5
    go_wp2
    go_ret2
    rw [unhide HT]
    exact ⟨rfl, unhide hK6⟩
  · have HT := hide ((unhide HUl).2 (by
      cases hh : hts.any (hitT l) with
      | false => rfl
      | true => exact absurd ((unhide HH5).2 hh) hpos))
    have hpi : ¬ (0 : Int) < (n5 : Int) := by omega
    have HFv := hide (findVariable_any adb cpb lvs ad2 cp2 l _ w5 ((unhide HPc).body.kept (unhide hK6) (by simp)) (unhide hrow26) hll (unhide HRl) hf3 (unhide HTl))
    clear HUl HH5
    go_wp2_with fail
    refine (unhide HFv).mono ?_
    rintro e w7 ⟨rfl, k7⟩
    rw [← unhide HT]
    have hK7 := hide ((unhide hK6).trans k7)
    clear HFv k7
    cases U with
    | none =>
      simp only [foundOut]
      go_wp2
      go_ret2
      exact ⟨rfl, unhide hK7⟩
    | some p =>
      simp only [foundOut]
      go_wp2
      go_ret2
      exact ⟨rfl, unhide hK7⟩

end Go.Proofs.YtddpdjjlkakecaaGreat
