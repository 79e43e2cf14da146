import Derived.Test.YtoihbhenbmffcaaGreatDoorChkE
import Derived.Test.YtoihbhenbmffcaaGreatDoorChkI
set_option linter.unusedVariables false
set_option linter.unusedSimpArgs false

namespace Go.Proofs.YtoihbhenbmffcaaGreatDoor
open Go.RowKit

/-- The terms of the atoms that bind. -/
def bindT (lvs : List PLV) : List CTerm := lvs.flatMap fun p => if p.1.sort == 0 then p.1.ts else []

theorem bindT_take {lvs : List PLV} {k : Nat} (hk : k < lvs.length) : bindT (lvs.take (k + 1)) = bindT (lvs.take k) ++ (if lvs[k].1.sort == 0 then lvs[k].1.ts else []) := by
  unfold bindT
  rw [List.take_succ_eq_append_getElem hk, List.flatMap_append]
  simp

theorem bindT_len (lvs : List PLV) : (bindT lvs).length ≤ (bodyTerms lvs).length := by
  induction lvs with
  | nil => simp [bindT]
  | cons p l ih =>
    unfold bindT bodyTerms at *
    simp only [List.flatMap_cons, List.length_append]
    have : (if p.1.sort == 0 then p.1.ts else []).length ≤ (termsL p.1).length := by
      by_cases h : (p.1.sort == 0) = true
      · simp [h, termsL, hasAtomB]
      · simp [h]
    omega

def boundV (lvs : List PLV) (y : Int) : Bool := (bindT lvs).any fun t => t.v == y
def looseW (lvs : List PLV) (t : CTerm) : Bool := t.v != 0 && !boundV lvs t.v

theorem loose_iff {ts : List CTerm} {lvs : List PLV} {l1 l2 : List Int} (h1 : VarsIs ts l1) (h2 : VarsIs (bindT lvs) l2) : 0 < (l1.filter fun y => !inBI l2 y).length ↔ ts.any (looseW lvs) = true := by
  rw [List.length_pos_iff_exists_mem, List.any_eq_true]
  constructor
  · rintro ⟨y, hy⟩
    obtain ⟨hy1, hy2⟩ := List.mem_filter.1 hy
    obtain ⟨h3, t, h4, h5⟩ := (h1.mem y).1 hy1
    refine ⟨t, h4, ?_⟩
    unfold looseW boundV
    rw [h5]
    have hb : ((bindT lvs).any fun t => t.v == y) = false := by
      rw [List.any_eq_false]
      intro u hu hh
      have : y ∈ l2 := (h2.mem y).2 ⟨h3, u, hu, by simpa using hh⟩
      rw [(inBI_iff l2 y).2 this] at hy2
      cases hy2
    rw [hb]
    simp [h3]
  · rintro ⟨t, ht, hl⟩
    unfold looseW boundV at hl
    simp only [Bool.and_eq_true, bne_iff_ne, ne_eq, Bool.not_eq_true', List.any_eq_false] at hl
    refine ⟨t.v, List.mem_filter.2 ⟨(h1.mem _).2 ⟨hl.1, t, ht, rfl⟩, ?_⟩⟩
    cases hb : inBI l2 t.v with
    | false => rfl
    | true =>
      obtain ⟨_, u, hu, hv⟩ := (h2.mem _).1 ((inBI_iff l2 _).1 hb)
      exact absurd (by simpa using hv) (hl.2 u hu)

set_option maxRecDepth 100000 in
set_option maxHeartbeats 1600000 in
theorem isLoose_any (adt : Option Addr) (cpt : Nat) (ts : List CTerm) (bt : Nat) (adb : Option Addr) (cpb : Nat) (lvs : List PLV) (w : World) (ht : w.ownsRow bt 215 2 (.slice adt ts.length cpt) ts.length (ts.flatMap ctermVal)) (h : BodyAt w 0 (.slice adb lvs.length cpb) lvs) (hlen : lvs.length ≤ 1000) (hfit : ∀ p ∈ lvs, (p.1.sort == 0) = true → 0 < p.1.ts.length ∧ p.1.ts.length ≤ 1000) (htl : ts.length ≤ 900000) (hbl : (bindT lvs).length ≤ 900000) :
    Calls Tryz.prog 136 #[.slice adt ts.length cpt, .slice adb lvs.length cpb] w fun e w' => e = .returned (.bool (ts.any (looseW lvs))) ∧ Kept [] w w' := by
  obtain ⟨i0, hi0, hz0, hz1, hz2⟩ := info_parts Tryz.info215
  have HLs : Hid (∀ l1 l2, VarsIs ts l1 → VarsIs (bindT lvs) l2 → (0 < (l1.filter fun y => !inBI l2 y).length ↔ ts.any (looseW lvs) = true)) := fun l1 l2 h1 h2 => loose_iff h1 h2
  generalize ts.any (looseW lvs) = LB at HLs ⊢
  have HT := hide ht
  have HB := hide h
  have HFit := hide hfit
  have HBl := hide hbl
  clear ht h hfit hbl
  go_enter Tryz.func136, Tryz.ntmps136
  go_wp2
  go_loopg [5, 10] lvs.length (fun gk o i wr => ∃ (k : Nat) (acc : List CTerm) (ad : Option Addr) (cp : Nat), o = .slice ad acc.length cp ∧ i = .int .i64 k ∧ k ≤ lvs.length ∧ acc.length ≤ k * 1000 ∧ gk = lvs.length - k ∧ Hid (acc = bindT (lvs.take k)) ∧ wr.ownsRow w.heap.size 215 2 (.slice ad acc.length cp) acc.length (acc.flatMap ctermVal) ∧ Hid (Kept [] w wr))
  case atStart => exact ⟨0, [], none, 0, rfl, rfl, by omega, by simp, rfl, by show _ = _; simp [bindT], World.ownsRow_nil _ _ _ _, Kept.refl _ _⟩
  case round =>
    obtain ⟨k, acc, ad, cp, rfl, rfl, hk, hacc, hgk, HA, hown, hK⟩ := hrel
    have HG := hide hgk
    clear hgk
    have hKs := (unhide hK).size
    by_cases hlt : k < lvs.length
    · have hB := (unhide HB).kept (unhide hK) (by simp)
      obtain ⟨g, cap, l, adl, cpl, hbv, hlk, hin, d0, d1, d2, d3, d4, d5, d6, d7, d8⟩ := lit_cells hB k hlt
      simp only [Value.slice.injEq] at hbv
      obtain ⟨rfl, _, rfl⟩ := hbv
      have HTk := hide (bindT_take hlt)
      have HFk := hide (unhide HFit lvs[k] (List.getElem_mem hlt))
      rw [hlk] at HTk HFk
      have hin1 := hide (ownsRow_kept hin ((Kept.refl [] wr).alloc (.cells (plvCells (l, .slice adl l.ts.length cpl)).toArray 217)) (by simp))
      clear hB hin hlk
      have hK3 := hide ((unhide hK).alloc (.cells (plvCells (l, .slice adl l.ts.length cpl)).toArray 217))
      have hown3 := World.ownsRow.alloc hown (.cells (plvCells (l, .slice adl l.ts.length cpl)).toArray 217)
      have hbz : w.heap.size ≤ (wr.alloc (.cells (plvCells (l, .slice adl l.ts.length cpl)).toArray 217)).heap.size := by simp; omega
      simp only [plvCells] at hin1 hK3 hown3 hbz
      cases hs : (l.sort == 0) with
      | false =>
        have HA2 : Hid (acc = bindT (lvs.take (k + 1))) := by show _ = _; rw [unhide HTk, unhide HA]; simp [hs]
        clear HTk HA HFk
        go_wp2
        go_roundg (lvs.length - (k + 1))
        case measure => have := unhide HG; omega
        case rel => exact ⟨k + 1, acc, ad, cp, rfl, by go_num, by omega, by omega, rfl, HA2, hown3, hK3⟩
      | true =>
        have HA2 : Hid (acc ++ l.ts = bindT (lvs.take (k + 1))) := by show _ = _; rw [unhide HTk, unhide HA]; simp [hs]
        obtain ⟨hf1, hf2⟩ := unhide HFk hs
        simp only at hf1 hf2
        obtain ⟨gl, rfl, hl3, hn3, _, _⟩ := row_src (unhide hin1) hf1
        have HN3b := hide hn3
        have HF : Hid (∀ w9, (wr.alloc (.cells [.int .i64 l.place, .int .i64 l.sort, .int .i64 l.ap, .string l.an, .slice (some ⟨gl, 0, none⟩) l.ts.length cpl, .int .i32 l.l.v, .string l.l.s, .int .i32 l.r.v, .string l.r.s].toArray 217)).grownBy w9 (Value.slice ad acc.length cp).ownBlock → Kept [] w w9) := fun w9 hg => (unhide hK3).grown hg (fun k hk => Or.inr ((hown.lt k hk).1))
        clear HTk HA HFk hn3 hin1
        have hal : (acc ++ l.ts).length ≤ (k + 1) * 1000 := by simp; omega
        have hkk : k ≤ 1000 := by omega
        go_wp2_with (at_builtin; refine wpList_append_lies _ rfl (.tmp 17) (.tmp 20) _ rfl w.heap.size 215 i0 _ 2 24 Tryz.underlying185 hi0 hz0 hz1 hz2 rfl (by omega) (.slice ad acc.length cp) acc.length (acc.flatMap ctermVal) rfl hown3 ⟨gl, 0, none⟩ l.ts.length cpl (l.ts.flatMap ctermVal) rfl hl3 (unhide HN3b) (one_terms _) (by omega) (by unfold maxLen; omega) (by omega) hbz _ rfl ?_; intro g1 cp1 w9 ho1 hg1 ha1 hl1)
        go_roundg (lvs.length - (k + 1))
        case measure => have := unhide HG; omega
        case rel => exact ⟨k + 1, acc ++ l.ts, some ⟨g1, 0, none⟩, cp1, by simp, by go_num, by omega, hal, rfl, HA2, by simpa using ho1, unhide HF w9 hg1⟩
    · have HE : Hid (acc = bindT lvs) := by
        have h := unhide HA
        rw [List.take_of_length_le (by omega)] at h
        exact h
      have hbl : acc.length ≤ 900000 := by rw [unhide HE]; exact unhide HBl
      have HVa := hide (variables_any adt cpt ts bt wr (ownsRow_kept (unhide HT) (unhide hK) (by simp)) htl)
      clear HA
      go_wp2_with fail
      refine (unhide HVa).mono ?_
      rintro e w4 ⟨l1, ad4, cp4, rfl, hv1, hrow4, k4⟩
      have hown4 := ownsRow_kept hown k4 (by simp)
      have HVb := hide (variables_any ad cp acc w.heap.size w4 hown4 hbl)
      have hK4 := hide ((unhide hK).trans k4)
      have HV1 := hide hv1
      have hl1 := hv1.le
      clear HVa hv1
      go_wp2_with fail
      refine (unhide HVb).mono ?_
      rintro e w5 ⟨l2, ad5, cp5, rfl, hv2, hrow5, k5⟩
      have hrow45 := ownsRow_kept hrow4 k5 (by simp)
      have hl2 := hv2.le
      have HWi := hide (without_any ad4 cp4 l1 ad5 cp5 l2 _ _ w5 hrow45 hrow5 (by omega) (by omega) hv2.rise)
      have hK5 := hide ((unhide hK4).trans k5)
      have HLo := hide (unhide HLs l1 l2 (unhide HV1) (by rw [← unhide HE]; exact hv2))
      clear HVb hv2
      generalize (l1.filter fun y => !inBI l2 y) = F at HWi HLo
      go_wp2_with fail
      refine (unhide HWi).mono ?_
      rintro e w6 ⟨ad6, cp6, rfl, hrow6, k6⟩
      have hK6 := hide ((unhide hK5).trans k6)
      clear HWi
      by_cases hpos : 0 < F.length
      · have hpi : (0 : Int) < (F.length : Int) := by omega
        have HT2 : Hid (LB = true) := (unhide HLo).1 hpos
        go_wp2
        go_ret
        rw [HT2.out]
        exact ⟨by simp [hpi], unhide hK6⟩
      · have hpi : ¬ (0 : Int) < (F.length : Int) := by omega
        have HT2 : Hid (LB = false) := by
          cases hb : LB with
          | false => rfl
          | true => exact absurd ((unhide HLo).2 hb) hpos
        go_wp2
        go_ret
        rw [HT2.out]
        exact ⟨by simp [hpi], unhide hK6⟩

set_option maxRecDepth 100000 in
set_option maxHeartbeats 1600000 in
theorem findUnsafeLit_any (adb : Option Addr) (cpb : Nat) (lvs : List PLV) (w : World) (h : BodyAt w 0 (.slice adb lvs.length cpb) lvs) (hlen : lvs.length ≤ 1000) (hfit : ∀ p ∈ lvs, (p.1.sort == 0) = true → 0 < p.1.ts.length ∧ p.1.ts.length ≤ 1000) (htl : ∀ p ∈ lvs, (termsL p.1).length ≤ 1000) (hbl : (bindT lvs).length ≤ 900000) :
    Calls Tryz.prog 93 #[.slice adb lvs.length cpb] w fun e w' => e = .returned (foundOut ((lvs.find? fun p => (termsL p.1).any (looseW lvs)).map fun p => p.1.place)) ∧ Kept [] w w' := by
  have HB := hide h
  have HTl := hide htl
  have HIs : Hid (∀ (adt : Option Addr) (cpt : Nat) (ts : List CTerm) (wr : World), Kept [] w wr → wr.ownsRow 0 215 2 (.slice adt ts.length cpt) ts.length (ts.flatMap ctermVal) → ts.length ≤ 900000 → Calls Tryz.prog 136 #[.slice adt ts.length cpt, .slice adb lvs.length cpb] wr fun e w' => e = .returned (.bool (ts.any (looseW lvs))) ∧ Kept [] wr w') := fun adt cpt ts wr hk hr hl => isLoose_any adt cpt ts 0 adb cpb lvs wr hr (h.kept hk (by simp)) hlen hfit hl hbl
  obtain ⟨R, hR⟩ : ∃ R, ((lvs.find? fun p => (termsL p.1).any (looseW lvs)).map fun p => p.1.place) = R := ⟨_, rfl⟩
  rw [hR]
  have HRR := hide hR
  clear h htl hR hfit hbl
  go_enter Tryz.func93, Tryz.ntmps93
  go_wp2
  go_loopg [8] lvs.length (fun gk i wr => ∃ (k : Nat), i = .int .i64 k ∧ k ≤ lvs.length ∧ gk = lvs.length - k ∧ Hid ((lvs.take k).any (fun p => (termsL p.1).any (looseW lvs)) = false) ∧ Hid (Kept [] w wr))
  case atStart => exact ⟨0, rfl, by omega, rfl, by show _ = _; simp, Kept.refl _ _⟩
  case round =>
    obtain ⟨k, rfl, hk, hgk, HC, HK⟩ := hrel
    have HG := hide hgk
    clear hgk
    by_cases hlt : k < lvs.length
    · obtain ⟨g, cap, q, adl, cpl, hbv, hlk, hin, d0, d1, d2, d3, d4, d5, d6, d7, d8⟩ := lit_cells ((unhide HB).kept (unhide HK) (by simp)) k hlt
      simp only [Value.slice.injEq] at hbv
      obtain ⟨rfl, _, rfl⟩ := hbv
      have htq := unhide HTl lvs[k] (List.getElem_mem hlt)
      have HY : Hid ((termsL q).any (looseW lvs) = true → R = some q.place) := by
        intro hh
        rw [← unhide HRR, find_take _ _ k hlt (unhide HC) (by rw [hlk]; exact hh), hlk]
        rfl
      have HN : Hid ((termsL q).any (looseW lvs) = false → (lvs.take (k + 1)).any (fun p => (termsL p.1).any (looseW lvs)) = false) := by
        intro hh
        rw [any_take _ _ k hlt (unhide HC)]
        rw [hlk]
        exact hh
      rw [hlk] at htq
      simp only at htq
      have HTm := hide (lterms_any q adl cpl (wr.alloc (.cells (plvCells (q, .slice adl q.ts.length cpl)).toArray 217)) (ownsRow_kept hin ((Kept.refl [] wr).alloc _) (by simp)))
      have hN := hide (Blk.new wr (plvCells (q, .slice adl q.ts.length cpl)) 217)
      have hK1 := hide ((unhide HK).alloc (.cells (plvCells (q, .slice adl q.ts.length cpl)).toArray 217))
      clear hin hlk
      simp only [plvCells] at HTm
      go_wp2_with fail
      refine (unhide HTm).mono ?_
      rintro e w3 ⟨ad3, cp3, rfl, hrow3, k3⟩
      have hN3 := hide ((unhide hN).kept k3 (by simp))
      have hK3 := hide ((unhide hK1).trans k3)
      have HLo := hide (unhide HIs ad3 cp3 (termsL q) w3 (unhide hK3) hrow3 (by omega))
      clear HTm hrow3 k3 hN hK1 d0 d1 d2 d3 d4 d5 d6 d7 d8
      generalize (termsL q).any (looseW lvs) = LB at HLo HY HN
      generalize (termsL q).length = tl at HLo htq ⊢
      go_wp2_with fail
      refine (unhide HLo).mono ?_
      rintro e w5 ⟨rfl, k5⟩
      have hN6 := (unhide hN3).kept k5 (by simp)
      have hK6 := hide ((unhide hK3).trans k5)
      clear HLo k5 hN3
      cases LB with
      | true =>
        have HT := hide (unhide HY rfl)
        have c0 := hN6.cell 0
        simp [plvCells] at c0
        clear HY HN hN6
        go_wp2
        go_ret2
        rw [unhide HT]
        exact ⟨rfl, unhide hK6⟩
      | false =>
        have HT := hide (unhide HN rfl)
        clear HY HN hN6
        go_wp2
        go_roundg (lvs.length - (k + 1))
        case measure => have := unhide HG; omega
        case rel => exact ⟨k + 1, by go_num, by omega, rfl, HT, hK6⟩
    · have HE : Hid (R = none) := by
        have h := unhide HC
        rw [List.take_of_length_le (by omega)] at h
        show _ = _
        rw [← unhide HRR, find_none h]
        rfl
      go_wp2
      go_ret2
      rw [HE.out]
      exact ⟨rfl, unhide HK⟩

/-- What findUnsafe tells. -/
def looseV (c : PCV) (t : CTerm) : Bool := t.v != 0 && !boundV c.lvs t.v
def unsafeO (c : PCV) : Option Int := if c.hts.any (looseV c) then some c.hp else (c.lvs.find? fun p => (termsL p.1).any (looseV c)).map fun p => p.1.place

theorem any_cong {α : Type} {f g : α → Bool} : ∀ {l : List α}, (∀ x ∈ l, f x = g x) → l.any f = l.any g
  | [], _ => rfl
  | x :: l, h => by rw [List.any_cons, List.any_cons, h x (by simp), any_cong (fun y hy => h y (by simp [hy]))]
theorem find_cong {α : Type} {f g : α → Bool} : ∀ {l : List α}, (∀ x ∈ l, f x = g x) → l.find? f = l.find? g
  | [], _ => rfl
  | x :: l, h => by rw [List.find?_cons, List.find?_cons, h x (by simp), find_cong (fun y hy => h y (by simp [hy]))]

set_option maxRecDepth 100000 in
set_option maxHeartbeats 1600000 in
theorem findUnsafe_any (c : PCV) (w : World) (h : PcAt w 0 c.hv c.bv c.hts c.lvs) (hf : PcFit c) (hT : (termsV c).length ≤ 900000) :
    Calls Tryz.prog 120 #[.agg (pcvCells c).toArray] w fun e w' => e = .returned (foundOut (unsafeO c)) ∧ Kept [] w w' := by
  have hbl : (bindT c.lvs).length ≤ 900000 := by
    have := bindT_len c.lvs
    simp only [termsV, List.length_append] at hT
    omega
  have hht : c.hts.length ≤ 900000 := by have := hf.head.2; omega
  have hfit : ∀ p ∈ c.lvs, (p.1.sort == 0) = true → 0 < p.1.ts.length ∧ p.1.ts.length ≤ 1000 := fun p hp hs => ⟨(hf.each p hp).1 (by simp [hasAtomB, hs]), (hf.each p hp).2⟩
  have htl : ∀ p ∈ c.lvs, (termsL p.1).length ≤ 1000 := fun p hp => (hf.terms hp).2
  have hlen := hf.lits
  have HUe : Hid (unsafeO c = if c.hts.any (looseW c.lvs) then some c.hp else (c.lvs.find? fun p => (termsL p.1).any (looseW c.lvs)).map fun p => p.1.place) := rfl
  generalize unsafeO c = U at HUe ⊢
  clear hf hT
  obtain ⟨hp, hn, hts, hv, bv, lvs⟩ := c
  simp only at h hbl hht hfit htl hlen HUe
  obtain ⟨adh, cph, rfl⟩ := row_nil h.head
  obtain ⟨adb, cpb, rfl⟩ := row_nil h.body.row
  have HN := hide (Blk.new w [.int .i64 hp, .string hn, .slice adh hts.length cph, .slice adb lvs.length cpb] 189)
  have kA := (Kept.refl [] w).alloc (.cells [.int .i64 hp, .string hn, .slice adh hts.length cph, .slice adb lvs.length cpb].toArray 189)
  have HIs := hide (isLoose_any adh cph hts 0 adb cpb lvs _ (ownsRow_kept h.head kA (by simp)) (h.body.kept kA (by simp)) hlen hfit hht hbl)
  have HFu : Hid (∀ wr, Kept [] w wr → Calls Tryz.prog 93 #[.slice adb lvs.length cpb] wr fun e w' => e = .returned (foundOut ((lvs.find? fun p => (termsL p.1).any (looseW lvs)).map fun p => p.1.place)) ∧ Kept [] wr w') := fun wr hk => findUnsafeLit_any adb cpb lvs wr (h.body.kept hk (by simp)) hlen hfit htl hbl
  have HK1 := hide kA
  generalize ((lvs.find? fun p => (termsL p.1).any (looseW lvs)).map fun p => p.1.place) = FO at HFu HUe
  generalize hts.any (looseW lvs) = LB at HIs HUe
  clear h kA hfit htl
  simp only [pcvCells]
  go_enter Tryz.func120, Tryz.ntmps120
  go_wp2_with fail
  refine (unhide HIs).mono ?_
  rintro e w2 ⟨rfl, k2⟩
  have HN2 := (unhide HN).kept k2 (by simp)
  have hK2 := hide ((unhide HK1).trans k2)
  have c0 := HN2.cell 0
  have c3 := HN2.cell 3
  simp at c0 c3
  have HF2 := hide (unhide HFu w2 (unhide hK2))
  clear HIs HN HK1 k2 HN2 HFu
  cases LB with
  | true =>
    have HT : Hid (U = some hp) := by have h := unhide HUe; exact h
    clear HUe
    go_wp2
    go_ret2
    rw [unhide HT]
    exact ⟨rfl, unhide hK2⟩
  | false =>
    have HT : Hid (U = FO) := by have h := unhide HUe; exact h
    clear HUe
    go_wp2_with fail
    refine (unhide HF2).mono ?_
    rintro e w7 ⟨rfl, k7⟩
    have hK7 := hide ((unhide hK2).trans k7)
    clear HF2 k7
    cases FO with
    | none =>
      simp only [foundOut]
      go_wp2
      go_ret2
      rw [unhide HT]
      exact ⟨rfl, unhide hK7⟩
    | some p =>
      simp only [foundOut]
      go_wp2
      go_ret2
      rw [unhide HT]
      exact ⟨rfl, unhide hK7⟩

end Go.Proofs.YtoihbhenbmffcaaGreatDoor
