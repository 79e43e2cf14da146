import Derived.Test.YtoihbhenbmffcaaGreatDoorCodM
import Derived.Test.YtoihbhenbmffcaaGreatDoorApp
import Derived.Test.YtoihbhenbmffcaaGreatDoorInsP
set_option linter.unusedVariables false
set_option linter.unusedSimpArgs false

namespace Go.Proofs.YtoihbhenbmffcaaGreatDoor
open Go.RowKit

def hasAtomB (l : PL) : Bool := l.sort == 0 || l.sort == 1
def termsL (l : PL) : List CTerm := if hasAtomB l then l.ts else [l.l, l.r]

set_option maxHeartbeats 400000 in
theorem hasAtom_any (l : PL) (ad : Option Addr) (n cp : Nat) (w : World) :
    Calls Tryz.prog 135 #[.agg (plvCells (l, .slice ad n cp)).toArray] w fun e w' => e = .returned (.bool (hasAtomB l)) ∧ Kept [] w w' := by
  have hK := (Kept.refl [] w).alloc (.cells (plvCells (l, .slice ad n cp)).toArray 217)
  obtain ⟨pl, so, ap, an, ts, ll, lr⟩ := l
  have HH : Hid (∀ b, hasAtomB ⟨pl, so, ap, an, ts, ll, lr⟩ = b → (so == 0 || so == 1) = b) := fun b h => h
  simp only [plvCells] at hK ⊢
  go_enter Tryz.func135, Tryz.ntmps135
  cases h0 : (so == 0) with
  | true =>
    have HV : Hid (hasAtomB ⟨pl, so, ap, an, ts, ll, lr⟩ = true) := by show _ = _; unfold hasAtomB; simp only; rw [h0]; rfl
    go_wp2
    go_ret
    rw [HV.out]
    exact ⟨rfl, hK⟩
  | false =>
    have HV : Hid (hasAtomB ⟨pl, so, ap, an, ts, ll, lr⟩ = (so == 1)) := by show _ = _; unfold hasAtomB; simp only; rw [h0]; rfl
    go_wp2
    go_ret
    rw [HV.out]
    exact ⟨rfl, hK⟩

theorem row_cells {w : World} {N : Nat} {cs : List Value} {t : TypeId} (h : Blk w N cs t) {n size : Nat} (hl : cs.length = n * size) (hn : n ≤ maxLen) : w.ownsRow 0 t size (.slice (some ⟨N, 0, none⟩) n n) n cs := by
  refine ⟨hl, Or.inr ⟨N, n, cs.toArray, rfl, Nat.zero_le _, h, Nat.le_refl _, hn, by simpa using hl, ?_⟩⟩
  rw [← hl]
  simp

set_option maxHeartbeats 800000 in
theorem lterms_any (l : PL) (ad : Option Addr) (cp : Nat) (w : World) (h : PlIn w 0 (l, .slice ad l.ts.length cp)) :
    Calls Tryz.prog 137 #[.agg (plvCells (l, .slice ad l.ts.length cp)).toArray] w fun e w' => ∃ ad' cp', e = .returned (.slice ad' (termsL l).length cp') ∧ w'.ownsRow 0 215 2 (.slice ad' (termsL l).length cp') (termsL l).length ((termsL l).flatMap ctermVal) ∧ Kept [] w w' := by
  have hK := hide ((Kept.refl [] w).alloc (.cells (plvCells (l, .slice ad l.ts.length cp)).toArray 217))
  have hN := hide (Blk.new w (plvCells (l, .slice ad l.ts.length cp)) 217)
  have HP := hide (ownsRow_kept h (unhide hK) (by simp))
  have HHas : Hid (∀ w, Calls Tryz.prog 135 #[.agg (plvCells (l, .slice ad l.ts.length cp)).toArray] w fun e w' => e = .returned (.bool (hasAtomB l)) ∧ Kept [] w w') := fun w => hasAtom_any l ad l.ts.length cp w
  clear h
  obtain ⟨pl, so, ap, an, ts, ll, lr⟩ := l
  simp only [plvCells] at hK hN HP HHas ⊢
  go_enter Tryz.func137, Tryz.ntmps137
  go_wp2_with fail
  change Calls _ _ _ (w.alloc (.cells [.int .i64 pl, .int .i64 so, .int .i64 ap, .string an, .slice ad ts.length cp, .int .i32 ll.v, .string ll.s, .int .i32 lr.v, .string lr.s].toArray 217)) _
  generalize w.alloc (.cells [.int .i64 pl, .int .i64 so, .int .i64 ap, .string an, .slice ad ts.length cp, .int .i32 ll.v, .string ll.s, .int .i32 lr.v, .string lr.s].toArray 217) = w1 at hK hN HP ⊢
  generalize w.heap.size = N at hN ⊢
  refine (unhide HHas w1).mono ?_
  rintro e w2 ⟨rfl, k2⟩
  have hN2 := (unhide hN).kept k2 (by simp)
  have hK2 := hide ((unhide hK).trans k2)
  have HP2 := hide (ownsRow_kept (unhide HP) k2 (by simp))
  have c4 := hN2.cell 4
  have c5 := hN2.cell 5
  have c6 := hN2.cell 6
  have c7 := hN2.cell 7
  have c8 := hN2.cell 8
  simp at c4 c5 c6 c7 c8
  clear hN2 hN HP hK k2 HHas
  cases hh : hasAtomB ⟨pl, so, ap, an, ts, ll, lr⟩ with
  | true =>
    have HT : Hid (termsL ⟨pl, so, ap, an, ts, ll, lr⟩ = ts) := by show _ = _; unfold termsL; rw [hh]; rfl
    clear hh
    go_wp2
    go_ret
    rw [HT.out]
    exact ⟨ad, cp, rfl, unhide HP2, unhide hK2⟩
  | false =>
    have HT : Hid (termsL ⟨pl, so, ap, an, ts, ll, lr⟩ = [ll, lr]) := by show _ = _; unfold termsL; rw [hh]; rfl
    clear hh
    have HN : Hid ((w2.alloc (.cells [.int .i32 ll.v, .string ll.s, .int .i32 lr.v, .string lr.s].toArray 215)).ownsRow 0 215 2 (.slice (some ⟨w2.heap.size, 0, none⟩) 2 2) 2 [.int .i32 ll.v, .string ll.s, .int .i32 lr.v, .string lr.s]) := row_cells (Blk.new w2 _ 215) rfl (by unfold maxLen; omega)
    go_wp2
    go_ret
    rw [HT.out]
    exact ⟨_, _, rfl, unhide HN, (unhide hK2).alloc _⟩

end Go.Proofs.YtoihbhenbmffcaaGreatDoor

namespace Go.Proofs.YtoihbhenbmffcaaGreatDoor
open Go.RowKit

theorem Tryz.info187 : (Tryz.prog.info? 187).map (fun i => (i.zero, i.size, i.bytes)) = some (some (.agg #[.int .i64 0, .string ⟨#[]⟩, .slice none 0 0]), 3, 48) := by kernel_rfl

theorem plvCells_len (p : PLV) : (plvCells p).length = 9 := rfl
theorem catomVal_len (p : CAtom) : (catomVal p).length = 3 := rfl
theorem ctermVal_len (p : CTerm) : (ctermVal p).length = 2 := rfl

/-- A literal of a body, read by its index. -/
theorem lit_cells {w : World} {base : Nat} {bv : Value} {lvs : List PLV} (h : BodyAt w base bv lvs) (k : Nat) (hk : k < lvs.length) :
    ∃ g cap l ad cp, bv = .slice (some ⟨g, 0, none⟩) lvs.length cap ∧ lvs[k] = (l, .slice ad l.ts.length cp) ∧ PlIn w base (l, .slice ad l.ts.length cp) ∧
      w.cell? ⟨g, k * 9, none⟩ = some (.int .i64 l.place) ∧ w.cell? ⟨g, k * 9 + 1, none⟩ = some (.int .i64 l.sort) ∧ w.cell? ⟨g, k * 9 + 2, none⟩ = some (.int .i64 l.ap) ∧ w.cell? ⟨g, k * 9 + 3, none⟩ = some (.string l.an) ∧ w.cell? ⟨g, k * 9 + 4, none⟩ = some (.slice ad l.ts.length cp) ∧
      w.cell? ⟨g, k * 9 + 5, none⟩ = some (.int .i32 l.l.v) ∧ w.cell? ⟨g, k * 9 + 6, none⟩ = some (.string l.l.s) ∧ w.cell? ⟨g, k * 9 + 7, none⟩ = some (.int .i32 l.r.v) ∧ w.cell? ⟨g, k * 9 + 8, none⟩ = some (.string l.r.s) := by
  obtain ⟨g, cap, he, _, hcell⟩ := row_get h.row (fun c _ => plvCells_len c) k hk
  have hin := (h.each _ (List.getElem_mem hk)).1
  obtain ⟨ad, cp, hav⟩ := row_nil hin
  have d0 := hcell k hk 0 (by omega)
  have d1 := hcell k hk 1 (by omega)
  have d2 := hcell k hk 2 (by omega)
  have d3 := hcell k hk 3 (by omega)
  have d4 := hcell k hk 4 (by omega)
  have d5 := hcell k hk 5 (by omega)
  have d6 := hcell k hk 6 (by omega)
  have d7 := hcell k hk 7 (by omega)
  have d8 := hcell k hk 8 (by omega)
  obtain ⟨l, tv, hl⟩ : ∃ l tv, lvs[k] = (l, tv) := ⟨_, _, rfl⟩
  rw [hl] at d0 d1 d2 d3 d4 d5 d6 d7 d8 hin hav
  simp only at hav
  subst hav
  simp [plvCells] at d0 d1 d2 d3 d4 d5 d6 d7 d8
  exact ⟨g, cap, l, ad, cp, he, hl, hin, d0, d1, d2, d3, d4, d5, d6, d7, d8⟩

/-- The atoms of a body. -/
def bodyAtoms (lvs : List PLV) : List CAtom := (lvs.filter fun p => hasAtomB p.1).map fun p => ⟨p.1.ap, p.1.an, p.2⟩
def atomsV (c : PCV) : List CAtom := ⟨c.hp, c.hn, c.hv⟩ :: bodyAtoms c.lvs

theorem bodyAtoms_take {lvs : List PLV} {k : Nat} (hk : k < lvs.length) : bodyAtoms (lvs.take (k + 1)) = bodyAtoms (lvs.take k) ++ (if hasAtomB lvs[k].1 then [⟨lvs[k].1.ap, lvs[k].1.an, lvs[k].2⟩] else []) := by
  unfold bodyAtoms
  rw [List.take_succ_eq_append_getElem hk, List.filter_append, List.map_append]
  congr 1
  by_cases h : hasAtomB lvs[k].1 = true <;> simp [h]

theorem bodyAtoms_len (lvs : List PLV) : (bodyAtoms lvs).length ≤ lvs.length := by
  unfold bodyAtoms
  rw [List.length_map]
  exact List.length_filter_le _ _

set_option maxRecDepth 100000 in
set_option maxHeartbeats 1600000 in
theorem bodyAtoms_any (adb : Option Addr) (cpb : Nat) (lvs : List PLV) (w : World) (h : BodyAt w 0 (.slice adb lvs.length cpb) lvs) (hlen : lvs.length ≤ 1000) :
    Calls Tryz.prog 92 #[.slice adb lvs.length cpb] w fun e w' => ∃ ad cp, e = .returned (.slice ad (bodyAtoms lvs).length cp) ∧ w'.ownsRow w.heap.size 187 3 (.slice ad (bodyAtoms lvs).length cp) (bodyAtoms lvs).length ((bodyAtoms lvs).flatMap catomVal) ∧ Kept [] w w' := by
  obtain ⟨i0, hi0, hz0, hz1, hz2⟩ := info_parts Tryz.info187
  have HB := hide h
  clear h
  go_enter Tryz.func92, Tryz.ntmps92
  go_wp2
  go_loopg [3, 8] lvs.length (fun gk o i wr => ∃ (k : Nat) (acc : List CAtom) (ad : Option Addr) (cp : Nat), o = .slice ad acc.length cp ∧ i = .int .i64 k ∧ k ≤ lvs.length ∧ acc.length ≤ k ∧ gk = lvs.length - k ∧ Hid (acc = bodyAtoms (lvs.take k)) ∧ wr.ownsRow w.heap.size 187 3 (.slice ad acc.length cp) acc.length (acc.flatMap catomVal) ∧ Hid (Kept [] w wr))
  case atStart => exact ⟨0, [], none, 0, rfl, rfl, by omega, by simp, rfl, by show _ = _; simp [bodyAtoms], World.ownsRow_nil _ _ _ _, Kept.refl _ _⟩
  case round =>
    obtain ⟨k, acc, ad, cp, rfl, rfl, hk, hacc, hgk, HA, hown, hK⟩ := hrel
    have HG := hide hgk
    clear hgk
    by_cases hlt : k < lvs.length
    · have hB := (unhide HB).kept (unhide hK) (by simp)
      have hKs := (unhide hK).size
      obtain ⟨g, cap, l, adl, cpl, hbv, hlk, hin, d0, d1, d2, d3, d4, d5, d6, d7, d8⟩ := lit_cells hB k hlt
      simp only [Value.slice.injEq] at hbv
      obtain ⟨rfl, _, rfl⟩ := hbv
      have HT := hide (bodyAtoms_take hlt)
      rw [hlk] at HT
      clear hB hin hlk
      have hHas := hide (hasAtom_any l adl l.ts.length cpl (wr.alloc (.cells (plvCells (l, .slice adl l.ts.length cpl)).toArray 217)))
      simp only [plvCells] at hHas
      have hN := hide (Blk.new wr (plvCells (l, .slice adl l.ts.length cpl)) 217)
      have hK3 := hide ((unhide hK).alloc (.cells (plvCells (l, .slice adl l.ts.length cpl)).toArray 217))
      have hown3 := hide (World.ownsRow.alloc hown (.cells (plvCells (l, .slice adl l.ts.length cpl)).toArray 217))
      go_wp2_with fail
      refine (unhide hHas).mono ?_
      rintro e w3 ⟨rfl, k3⟩
      have hN3 := (unhide hN).kept k3 (by simp)
      have hK4 := hide ((unhide hK3).trans k3)
      have hown4 := ownsRow_kept (unhide hown3) k3 (by simp)
      have hs4 := k3.size
      have hs5 : wr.heap.size + 1 ≤ w3.heap.size := by simpa using hs4
      have c2 := hN3.cell 2
      have c3 := hN3.cell 3
      have c4 := hN3.cell 4
      simp [plvCells] at c2 c3 c4
      clear hN3 k3 hN hK3 hown3 hHas d0 d1 d2 d3 d4 d5 d6 d7 d8 hown hK hs4
      cases hh : hasAtomB l with
      | false =>
        have HA2 : Hid (acc = bodyAtoms (lvs.take (k + 1))) := by show _ = _; rw [unhide HT, hh, unhide HA]; simp
        clear hh HA HT
        go_wp2
        go_roundg (lvs.length - (k + 1))
        case measure => have := unhide HG; omega
        case rel => exact ⟨k + 1, acc, ad, cp, rfl, by go_num, by omega, by omega, rfl, HA2, hown4, hK4⟩
      | true =>
        have HA2 : Hid (acc ++ [⟨l.ap, l.an, .slice adl l.ts.length cpl⟩] = bodyAtoms (lvs.take (k + 1))) := by show _ = _; rw [unhide HT, hh, unhide HA]; simp
        clear hh HA HT
        have hnew := heap_alloc_new w3 (.cells (catomVal ⟨l.ap, l.an, .slice adl l.ts.length cpl⟩).toArray 187)
        have hown8 := World.ownsRow.alloc hown4 (.cells (catomVal ⟨l.ap, l.an, .slice adl l.ts.length cpl⟩).toArray 187)
        have HF : Hid (∀ w9, (w3.alloc (.cells (catomVal ⟨l.ap, l.an, .slice adl l.ts.length cpl⟩).toArray 187)).grownBy w9 (Value.slice ad acc.length cp).ownBlock → Kept [] w w9) := fun w9 hg => ((unhide hK4).alloc _).grown hg (fun k hk => Or.inr ((hown4.lt k hk).1))
        go_wp2_with (at_builtin; refine wpList_append_lies _ rfl (.tmp 14) (.tmp 17) _ rfl w.heap.size 187 i0 _ 3 48 Tryz.underlying163 hi0 hz0 hz1 hz2 rfl (by omega) (.slice ad acc.length cp) acc.length (acc.flatMap catomVal) rfl hown8 ⟨w3.heap.size, 0, none⟩ 1 1 (catomVal ⟨l.ap, l.an, .slice adl l.ts.length cpl⟩) rfl rfl (World.news_of_block (cs := (catomVal ⟨l.ap, l.an, .slice adl l.ts.length cpl⟩).toArray) (t := 187) (fr := (0, 0)) hnew) (by simp [Value.oneCell', catomVal]) (by omega) (by unfold maxLen; omega) (by omega) (by simp; omega) (w3.heap.size + 1) (by simp) ?_; intro g1 cp1 w9 ho1 hg1 ha1 hl1)
        go_roundg (lvs.length - (k + 1))
        case measure => have := unhide HG; omega
        case rel => exact ⟨k + 1, acc ++ [⟨l.ap, l.an, .slice adl l.ts.length cpl⟩], some ⟨g1, 0, none⟩, cp1, by simp, by go_num, by omega, by simp; omega, rfl, HA2, by simpa using ho1, unhide HF w9 hg1⟩
    · have HE : Hid (acc = bodyAtoms lvs) := by
        have h := unhide HA
        rw [List.take_of_length_le (by omega)] at h
        exact h
      go_wp2
      go_ret
      rw [← HE.out]
      exact ⟨ad, cp, rfl, hown, unhide hK⟩

theorem one_atoms (w : World) (base : Nat) (lvs : List PLV) (v : Value) (h : BodyAt w base v lvs) : ∀ u ∈ (bodyAtoms lvs).flatMap catomVal, u.oneCell' = true := by
  intro u hu
  obtain ⟨t, ht, h2⟩ := List.mem_flatMap.1 hu
  obtain ⟨p, hp, rfl⟩ := List.mem_map.1 ht
  obtain ⟨ad, cp, e⟩ := row_nil (h.each p (List.mem_filter.1 hp).1).1
  simp only [catomVal, List.mem_cons, List.not_mem_nil, or_false] at h2
  rcases h2 with rfl | rfl | rfl
  · rfl
  · rfl
  · rw [e]; rfl

set_option maxRecDepth 100000 in
set_option maxHeartbeats 1600000 in
theorem atoms_any (c : PCV) (w : World) (h : PcAt w 0 c.hv c.bv c.hts c.lvs) (hlen : c.lvs.length ≤ 1000) :
    Calls Tryz.prog 119 #[.agg (pcvCells c).toArray] w fun e w' => ∃ ad cp, e = .returned (.slice ad (atomsV c).length cp) ∧ w'.ownsRow w.heap.size 187 3 (.slice ad (atomsV c).length cp) (atomsV c).length ((atomsV c).flatMap catomVal) ∧ Kept [] w w' := by
  obtain ⟨i0, hi0, hz0, hz1, hz2⟩ := info_parts Tryz.info187
  obtain ⟨hp, hn, hts, hv, bv, lvs⟩ := c
  simp only at h hlen
  obtain ⟨adh, cph, rfl⟩ := row_nil h.head
  obtain ⟨adb, cpb, rfl⟩ := row_nil h.body.row
  have HBA : Hid (∀ wr, Kept [] w wr → Calls Tryz.prog 92 #[.slice adb lvs.length cpb] wr fun e w' => ∃ ad cp, e = .returned (.slice ad (bodyAtoms lvs).length cp) ∧ w'.ownsRow wr.heap.size 187 3 (.slice ad (bodyAtoms lvs).length cp) (bodyAtoms lvs).length ((bodyAtoms lvs).flatMap catomVal) ∧ Kept [] wr w') := fun wr hk => bodyAtoms_any adb cpb lvs wr (h.body.kept hk (by simp)) hlen
  have HOne := hide (one_atoms w 0 lvs _ h.body)
  have hbl := bodyAtoms_len lvs
  have HAe : Hid (atomsV ⟨hp, hn, hts, .slice adh hts.length cph, .slice adb lvs.length cpb, lvs⟩ = [⟨hp, hn, .slice adh hts.length cph⟩] ++ bodyAtoms lvs) := rfl
  generalize atomsV ⟨hp, hn, hts, .slice adh hts.length cph, .slice adb lvs.length cpb, lvs⟩ = AT at HAe ⊢
  generalize bodyAtoms lvs = BA at HBA HOne hbl HAe
  clear h
  simp only [pcvCells]
  have HN := hide (Blk.new w [.int .i64 hp, .string hn, .slice adh hts.length cph, .slice adb lvs.length cpb] 189)
  have HK := hide ((Kept.refl [] w).alloc (.cells [.int .i64 hp, .string hn, .slice adh hts.length cph, .slice adb lvs.length cpb].toArray 189))
  go_enter Tryz.func119, Tryz.ntmps119
  go_wp2_with fail
  change Code.wp _ _ _ _ (w.alloc (.cells [.int .i64 hp, .string hn, .slice adh hts.length cph, .slice adb lvs.length cpb].toArray 189))
  have hs1 : (w.alloc (.cells [.int .i64 hp, .string hn, .slice adh hts.length cph, .slice adb lvs.length cpb].toArray 189)).heap.size = w.heap.size + 1 := by simp
  generalize w.alloc (.cells [.int .i64 hp, .string hn, .slice adh hts.length cph, .slice adb lvs.length cpb].toArray 189) = w1 at HN HK hs1 ⊢
  obtain ⟨N, hNe⟩ : ∃ N, w.heap.size = N := ⟨_, rfl⟩
  rw [hNe] at HN hs1 ⊢
  have c0 := (unhide HN).cell 0
  have c1 := (unhide HN).cell 1
  have c2 := (unhide HN).cell 2
  have c3 := (unhide HN).cell 3
  simp at c0 c1 c2 c3
  have HNe := hide hNe
  have hl : AT.length = 1 + BA.length := by rw [unhide HAe]; simp; omega
  have HFin : Hid (∀ (w9 : World) (ad9 : Option Addr) (cp9 : Nat), w9.ownsRow N 187 3 (.slice ad9 (1 + BA.length) cp9) (1 + BA.length) (catomVal ⟨hp, hn, .slice adh hts.length cph⟩ ++ BA.flatMap catomVal) → w9.ownsRow N 187 3 (.slice ad9 AT.length cp9) AT.length (AT.flatMap catomVal)) := by
    intro w9 ad9 cp9 ho
    rw [hl, unhide HAe, List.flatMap_append]
    simpa using ho
  have HLn := hide hl
  have HRowA : Hid ((w1.drew.alloc (.cells (catomVal ⟨hp, hn, .slice adh hts.length cph⟩).toArray 187)).ownsRow N 187 3 (.slice (some ⟨N + 1, 0, none⟩) 1 1) 1 (catomVal ⟨hp, hn, .slice adh hts.length cph⟩)) := by
    have hh := Blk.new w1.drew (catomVal ⟨hp, hn, .slice adh hts.length cph⟩) 187
    rw [show w1.drew.heap.size = N + 1 from hs1] at hh
    exact ⟨rfl, Or.inr ⟨N + 1, 1, _, rfl, by omega, hh, Nat.le_refl _, by unfold maxLen; omega, rfl, rfl⟩⟩
  have HRowB : Hid (∀ wt : World, N ≤ wt.heap.size → (wt.alloc (.cells (catomVal ⟨hp, hn, .slice adh hts.length cph⟩).toArray 187)).ownsRow N 187 3 (.slice (some ⟨wt.heap.size, 0, none⟩) 1 1) 1 (catomVal ⟨hp, hn, .slice adh hts.length cph⟩)) := fun wt hk => ⟨rfl, Or.inr ⟨wt.heap.size, 1, _, rfl, hk, Blk.new wt _ 187, Nat.le_refl _, by unfold maxLen; omega, rfl, rfl⟩⟩
  clear hNe hl
  go_region_law
    (first
      | (go_simp; go_at_call 92; refine (unhide HBA _ (by first | exact (unhide HK).drew | exact ((unhide HK).drew).alloc _)).mono ?_; rintro e wt ⟨adt, cpt, rfl, hrow, kt⟩;
         have hst := kt.size;
         first
           | (have hdA := ownsRow_kept (unhide HRowA) kt (by simp); have hKt := ((unhide HK).drew.alloc _).trans kt; have hsz : N + 2 ≤ wt.heap.size := by simp at hst; omega)
           | (have hB3 := (unhide HN).drew.kept kt (by simp); have e0 := hB3.cell 0; have e1 := hB3.cell 1; have e2 := hB3.cell 2; simp at e0 e1 e2; have hKt := (unhide HK).drew.trans kt; have hsz : N + 1 ≤ wt.heap.size := by simp at hst; omega))
      | (refine step_append_any _ (by rfl) _ _ _ (by rfl) N 187 i0 _ 3 48 Tryz.underlying163 hi0 hz0 hz1 hz2 rfl (by omega) (some ⟨N + 1, 0, none⟩) 1 1 (catomVal ⟨hp, hn, .slice adh hts.length cph⟩) (by rfl) hdA _ adt BA.length cpt (BA.flatMap catomVal) (by rfl) hrow (unhide HOne) (by unfold maxLen; omega) (by omega) (by omega) ?_; intro ad9 cp9 w9 ho9 hg9 hn9; have HR9 := hide (And.intro (unhide HFin w9 ad9 cp9 ho9) (hKt.grown hg9 (fun k hk => Or.inr (by simp [Value.ownBlock] at hk; have := unhide HNe; omega)))); clear ho9 hg9 hn9)
      | (refine step_append_any _ (by rfl) _ _ _ (by rfl) N 187 i0 _ 3 48 Tryz.underlying163 hi0 hz0 hz1 hz2 rfl (by omega) (some ⟨wt.heap.size, 0, none⟩) 1 1 (catomVal ⟨hp, hn, .slice adh hts.length cph⟩) (by rfl) (unhide HRowB wt (by omega)) _ adt BA.length cpt (BA.flatMap catomVal) (by rfl) (World.ownsRow.alloc hrow _) (unhide HOne) (by unfold maxLen; omega) (by omega) (by simp; omega) ?_; intro ad9 cp9 w9 ho9 hg9 hn9; have HR9 := hide (And.intro (unhide HFin w9 ad9 cp9 ho9) ((hKt.alloc _).grown hg9 (fun k hk => Or.inr (by simp [Value.ownBlock] at hk; have := unhide HNe; omega)))); clear ho9 hg9 hn9))
  all_goals
    go_wp2
    go_ret
    rw [unhide HNe, unhide HLn]
    exact ⟨ad9, cp9, rfl, by have h := (unhide HR9).1; rw [unhide HLn] at h; exact h, (unhide HR9).2⟩

end Go.Proofs.YtoihbhenbmffcaaGreatDoor

namespace Go.Proofs.YtoihbhenbmffcaaGreatDoor
open Go.RowKit

def bodyTerms (lvs : List PLV) : List CTerm := lvs.flatMap fun p => termsL p.1
def termsV (c : PCV) : List CTerm := c.hts ++ bodyTerms c.lvs

theorem bodyTerms_take {lvs : List PLV} {k : Nat} (hk : k < lvs.length) : bodyTerms (lvs.take (k + 1)) = bodyTerms (lvs.take k) ++ termsL lvs[k].1 := by
  unfold bodyTerms
  rw [List.take_succ_eq_append_getElem hk, List.flatMap_append]
  simp

theorem one_terms (ts : List CTerm) : ∀ u ∈ ts.flatMap ctermVal, u.oneCell' = true := by
  intro u hu
  obtain ⟨t, _, h⟩ := List.mem_flatMap.1 hu
  simp [ctermVal] at h
  rcases h with rfl | rfl <;> rfl

/-- A row that has something, as a source. -/
theorem row_src {w : World} {base : Nat} {e : TypeId} {size : Nat} {ad : Option Addr} {n cp : Nat} {xs : List Value} (h : w.ownsRow base e size (.slice ad n cp) n xs) (hn : 0 < n) :
    ∃ g, ad = some ⟨g, 0, none⟩ ∧ xs.length = n * size ∧ (∀ j u, xs[j]? = some u → w.cell? ((⟨g, 0, none⟩ : Addr).add j) = some u) ∧ base ≤ g ∧ g < w.heap.size := by
  rcases h.2 with ⟨he, h0⟩ | ⟨g, cap, cur, he, hb, rest⟩
  · omega
  · simp only [Value.slice.injEq] at he
    obtain ⟨rfl, _, rfl⟩ := he
    exact ⟨g, rfl, h.1, h.cells rfl, (h.lt g rfl)⟩

/-- What a clause must have for its terms to be gathered. -/
structure PcFit (c : PCV) : Prop where
  head : 0 < c.hts.length ∧ c.hts.length ≤ 1000
  lits : c.lvs.length ≤ 1000
  each : ∀ p ∈ c.lvs, (hasAtomB p.1 = true → 0 < p.1.ts.length) ∧ p.1.ts.length ≤ 1000

theorem PcFit.terms {c : PCV} (h : PcFit c) {p : PLV} (hp : p ∈ c.lvs) : 0 < (termsL p.1).length ∧ (termsL p.1).length ≤ 1000 := by
  have := h.each p hp
  unfold termsL
  split
  · rename_i hh; exact ⟨this.1 hh, this.2⟩
  · simp

/-- slices.Grow at nil. -/
theorem growT_any (n : Nat) (w : World) (hn : 0 < n) (hbig : n ≤ 2000000) :
    Calls Tryz.prog 228 #[.slice none 0 0, .int .i64 n] w fun e w' => ∃ g G, e = .returned (.slice (some ⟨g, 0, none⟩) 0 G) ∧ w'.ownsRow w.heap.size 215 2 (.slice (some ⟨g, 0, none⟩) 0 G) 0 [] ∧ Kept [] w w' := by
  obtain ⟨i0, hi0, hz0, hzs, hzb⟩ := info_parts Tryz.info215
  have hold : (Builtin.firstCells i0.size 0 (.slice none 0 0)).run Tryz.prog w.drew = .ok ([] : List Value).toArray w.drew := run_firstCells_none w.drew i0.size 0 0 0
  have hrz : ∀ ty, (Builtin.append_ #[185, 3] ty #[.slice none 0 0, .int .i64 (n : Int)]).run Tryz.prog w =
      .ok (.slice (some ⟨w.heap.size, 0, none⟩) n (grownCap w n 0 215)) (w.drew.alloc (.cells (([] : List Value).toArray ++ Builtin.zeroCells (Value.agg #[.int .i32 0, .string ⟨#[]⟩] : Value).cells n ++ Builtin.zeroCells (Value.agg #[.int .i32 0, .string ⟨#[]⟩] : Value).cells (grownCap w n 0 215 - n)) 215)) := fun ty => by
    have h := Lib.run_append_grow_zeros w 185 3 ty 215 i0 _ .i64 .i64 Tryz.underlying185 Tryz.underlying3 hi0 hz0 none 0 0 [] hold n hn (by omega) (by omega) (by omega) (by rw [hzb]; omega) (by rw [hzb, Nat.zero_add]; exact growslice_fits (by omega) (by omega))
    simp only [Nat.zero_add] at h
    exact h
  obtain ⟨G, hG⟩ : ∃ G, G = grownCap w n 0 215 := ⟨_, rfl⟩
  obtain ⟨ROW, hROW⟩ : ∃ ROW : Array Value, ROW = ([] : List Value).toArray ++ Builtin.zeroCells (Value.agg #[.int .i32 0, .string ⟨#[]⟩] : Value).cells n ++ Builtin.zeroCells (Value.agg #[.int .i32 0, .string ⟨#[]⟩] : Value).cells (G - n) := ⟨_, rfl⟩
  rw [← hG, ← hROW] at hrz
  have hGn : n ≤ G := by rw [hG]; exact grownCap_ge w _ _ _
  have hGm : G ≤ maxLen := by rw [hG]; exact grownCap_le_maxLen w n 0 215 (by unfold maxLen; omega)
  have hRG : ROW.size = G * 2 := by
    rw [hROW]
    simp [Builtin.zeroCells, Value.cells]
    omega
  have hG63 : G ≤ 9223372036854775807 := by unfold maxLen at hGm; omega
  have HFin : Hid ((w.alloc (.cells ROW 215)).ownsRow w.heap.size 215 2 (.slice (some ⟨w.heap.size, 0, none⟩) 0 G) 0 [] ∧ Kept [] w (w.alloc (.cells ROW 215))) :=
    ⟨⟨rfl, Or.inr ⟨w.heap.size, G, ROW, rfl, Nat.le_refl _, heap_alloc_new w _, Nat.zero_le _, hGm, hRG, by simp⟩⟩, (Kept.refl [] w).alloc _⟩
  have hni : (0 : Int) < (n : Int) := by omega
  have hnn : ¬ ((n : Int) < 0) := by omega
  clear hold hROW hG hRG hGm
  go_enter Tryz.func228, Tryz.ntmps228
  go_wp2_with (at_builtin; refine Lib.wpList_append_run _ rfl _ _ _ _ rfl _ _ rfl rfl _ _ (hrz _) ?_)
  go_ret
  exact ⟨_, G, rfl, (unhide HFin).1, (unhide HFin).2.drew⟩

set_option maxRecDepth 100000 in
set_option maxHeartbeats 1600000 in
/-- slices.Concat of two rows. -/
theorem concatT_any (vb : Nat) (ad1 : Option Addr) (cp1 : Nat) (ad2 : Option Addr) (cp2 : Nat) (a b : List CTerm) (b1 b2 : Nat) (w : World) (hV : Blk w vb [.slice ad1 a.length cp1, .slice ad2 b.length cp2] 185) (h1 : w.ownsRow b1 215 2 (.slice ad1 a.length cp1) a.length (a.flatMap ctermVal)) (h2 : w.ownsRow b2 215 2 (.slice ad2 b.length cp2) b.length (b.flatMap ctermVal)) (hpos : 0 < a.length) (hlen : a.length + b.length ≤ 2000000) :
    Calls Tryz.prog 213 #[.slice (some ⟨vb, 0, none⟩) 2 2] w fun e w' => ∃ ad cp, e = .returned (.slice ad (a ++ b).length cp) ∧ w'.ownsRow w.heap.size 215 2 (.slice ad (a ++ b).length cp) (a ++ b).length ((a ++ b).flatMap ctermVal) ∧ Kept [] w w' := by
  obtain ⟨i0, hi0, hz0, hz1, hz2⟩ := info_parts Tryz.info215
  have HV := hide hV
  have H1 := hide h1
  have H2 := hide h2
  have c0 := hV.cell 0
  have c1 := hV.cell 1
  simp at c0 c1
  have HGr := hide (growT_any (a.length + b.length) w (by omega) hlen)
  have HAB : Hid ((a ++ b).length = a.length + b.length) := by show _ = _; simp
  generalize hAB : a ++ b = ab at HAB ⊢
  have HABe := hide hAB
  have HPos := hide hpos
  clear hV h1 h2 hAB hpos
  have hpi : ¬ ((a.length : Int) < 0) := by omega
  have hpi2 : ¬ ((a.length : Int) + (b.length : Int) < 0) := by omega
  go_enter Tryz.func213, Tryz.ntmps213
  go_wp2
  go_loopg [3, 11] 2 (fun gk o i wr => ∃ k : Nat, i = .int .i64 k ∧ ((k = 0 ∧ o = .int .i64 0) ∨ (k = 1 ∧ o = .int .i64 a.length) ∨ (k = 2 ∧ o = .int .i64 ((a.length : Int) + (b.length : Int)))) ∧ gk = 2 - k ∧ w = wr)
  case atStart => exact ⟨0, rfl, Or.inl ⟨rfl, rfl⟩, rfl, rfl⟩
  case round =>
    obtain ⟨k, rfl, hk, hgk, rfl⟩ := hrel
    rcases hk with ⟨rfl, rfl⟩ | ⟨rfl, rfl⟩ | ⟨rfl, rfl⟩
    · go_wp2
      go_roundg 1
      case measure => omega
      case rel => exact ⟨1, by go_num, Or.inr (Or.inl ⟨rfl, by go_num⟩), rfl, rfl⟩
    · go_wp2
      go_roundg 0
      case measure => omega
      case rel => exact ⟨2, by go_num, Or.inr (Or.inr ⟨rfl, by go_num⟩), rfl, rfl⟩
    · go_wp2_with fail
      refine (unhide HGr).mono ?_
      rintro e w2 ⟨g, G, rfl, hrow0, k2⟩
      have HR0 := hide hrow0
      have HK2 := hide k2
      clear HGr hrow0 k2 c0 c1
      go_wp2
      go_loopg [6, 27] 2 (fun gk o i wr => ∃ (k : Nat) (acc : List CTerm) (ad : Option Addr) (cp : Nat), o = .slice ad acc.length cp ∧ i = .int .i64 k ∧ ((k = 0 ∧ Hid (acc = [])) ∨ (k = 1 ∧ Hid (acc = a)) ∨ (k = 2 ∧ Hid (acc = ab))) ∧ gk = 2 - k ∧ acc.length ≤ a.length + b.length ∧ (wr.ownsRow w.heap.size 215 2 (.slice ad acc.length cp) acc.length (acc.flatMap ctermVal)) ∧ Hid (Kept [] w wr))
      case atStart => exact ⟨0, [], _, _, rfl, rfl, Or.inl ⟨rfl, rfl⟩, rfl, by simp, unhide HR0, HK2⟩
      case round =>
        clear HR0 HK2
        obtain ⟨k, acc, ad, cp, rfl, rfl, hk, hgk, hal, hown, HK⟩ := hrel
        have HG := hide hgk
        clear hgk
        have hks := (unhide HK).size
        rcases hk with ⟨rfl, HA⟩ | ⟨rfl, HA⟩ | ⟨rfl, HA⟩
        · have c0 := ((unhide HV).kept (unhide HK) (by simp)).cell 0
          simp at c0
          have hsrc := ownsRow_kept (unhide H1) (unhide HK) (by simp)
          have hz : acc.length = 0 := by rw [unhide HA]; rfl
          have HF : Hid (∀ w9, wr.grownBy w9 (Value.slice ad acc.length cp).ownBlock → Kept [] w w9) := fun w9 hg => (unhide HK).grown hg (fun k hk => Or.inr ((hown.lt k hk).1))
          have HE : Hid (acc ++ a = a) := by show _ = _; rw [unhide HA]; rfl
          have HZ := hide hz
          clear hz
          go_wp2_with (at_builtin; refine wpList_append_any _ rfl (.tmp 31) (.tmp 32) _ rfl w.heap.size 215 i0 _ 2 24 Tryz.underlying185 hi0 hz0 hz1 hz2 rfl (by omega) ad acc.length cp (acc.flatMap ctermVal) rfl hown b1 ad1 a.length cp1 (a.flatMap ctermVal) rfl hsrc (one_terms _) (by have := unhide HZ; unfold maxLen; omega) (by have := unhide HZ; omega) (by omega) ?_; intro ad9 cp9 w9 ho9 hg9 hn9)
          go_roundg 1
          case measure => have := unhide HG; omega
          case rel => exact ⟨1, acc ++ a, ad9, cp9, by simp, by go_num, Or.inr (Or.inl ⟨rfl, HE⟩), rfl, by simp; have := unhide HZ; omega, by simpa using ho9, unhide HF w9 hg9⟩
        · have c1 := ((unhide HV).kept (unhide HK) (by simp)).cell 1
          simp at c1
          have hsrc := ownsRow_kept (unhide H2) (unhide HK) (by simp)
          have HZ : Hid (acc.length = a.length) := by show _ = _; rw [unhide HA]
          have HF : Hid (∀ w9, wr.grownBy w9 (Value.slice ad acc.length cp).ownBlock → Kept [] w w9) := fun w9 hg => (unhide HK).grown hg (fun k hk => Or.inr ((hown.lt k hk).1))
          have HE : Hid (acc ++ b = ab) := by show _ = _; rw [unhide HA]; exact unhide HABe
          go_wp2_with (at_builtin; refine wpList_append_any _ rfl (.tmp 31) (.tmp 32) _ rfl w.heap.size 215 i0 _ 2 24 Tryz.underlying185 hi0 hz0 hz1 hz2 rfl (by omega) ad acc.length cp (acc.flatMap ctermVal) rfl hown b2 ad2 b.length cp2 (b.flatMap ctermVal) rfl hsrc (one_terms _) (by have := unhide HZ; unfold maxLen; omega) (by have := unhide HZ; omega) (by omega) ?_; intro ad9 cp9 w9 ho9 hg9 hn9)
          go_roundg 0
          case measure => have := unhide HG; omega
          case rel => exact ⟨2, acc ++ b, ad9, cp9, by simp, by go_num, Or.inr (Or.inr ⟨rfl, HE⟩), rfl, by simp; have := unhide HZ; omega, by simpa using ho9, unhide HF w9 hg9⟩
        · go_wp2
          go_ret
          rw [← unhide HA]
          exact ⟨ad, cp, rfl, hown, unhide HK⟩

set_option maxRecDepth 100000 in
set_option maxHeartbeats 1600000 in
theorem bterms_any (adb : Option Addr) (cpb : Nat) (lvs : List PLV) (w : World) (h : BodyAt w 0 (.slice adb lvs.length cpb) lvs) (hlen : lvs.length ≤ 1000) (hfit : ∀ p ∈ lvs, 0 < (termsL p.1).length ∧ (termsL p.1).length ≤ 1000) :
    Calls Tryz.prog 139 #[.slice adb lvs.length cpb] w fun e w' => ∃ ad cp, e = .returned (.slice ad (bodyTerms lvs).length cp) ∧ w'.ownsRow w.heap.size 215 2 (.slice ad (bodyTerms lvs).length cp) (bodyTerms lvs).length ((bodyTerms lvs).flatMap ctermVal) ∧ Kept [] w w' := by
  obtain ⟨i0, hi0, hz0, hz1, hz2⟩ := info_parts Tryz.info215
  have HB := hide h
  have HFit := hide hfit
  clear h hfit
  go_enter Tryz.func139, Tryz.ntmps139
  go_wp2
  go_loopg [3, 8] lvs.length (fun gk o i wr => ∃ (k : Nat) (acc : List CTerm) (ad : Option Addr) (cp : Nat), o = .slice ad acc.length cp ∧ i = .int .i64 k ∧ k ≤ lvs.length ∧ acc.length ≤ k * 1000 ∧ gk = lvs.length - k ∧ Hid (acc = bodyTerms (lvs.take k)) ∧ wr.ownsRow w.heap.size 215 2 (.slice ad acc.length cp) acc.length (acc.flatMap ctermVal) ∧ Hid (Kept [] w wr))
  case atStart => exact ⟨0, [], none, 0, rfl, rfl, by omega, by simp, rfl, by show _ = _; simp [bodyTerms], World.ownsRow_nil _ _ _ _, Kept.refl _ _⟩
  case round =>
    obtain ⟨k, acc, ad, cp, rfl, rfl, hk, hacc, hgk, HA, hown, hK⟩ := hrel
    have HG := hide hgk
    clear hgk
    by_cases hlt : k < lvs.length
    · have hB := (unhide HB).kept (unhide hK) (by simp)
      have hKs := (unhide hK).size
      obtain ⟨g, cap, l, adl, cpl, hbv, hlk, hin, d0, d1, d2, d3, d4, d5, d6, d7, d8⟩ := lit_cells hB k hlt
      simp only [Value.slice.injEq] at hbv
      obtain ⟨rfl, _, rfl⟩ := hbv
      have HT := hide (bodyTerms_take hlt)
      have hfit := unhide HFit lvs[k] (List.getElem_mem hlt)
      rw [hlk] at HT hfit
      simp only at hfit
      have HTm := hide (lterms_any l adl cpl (wr.alloc (.cells (plvCells (l, .slice adl l.ts.length cpl)).toArray 217)) (ownsRow_kept hin ((Kept.refl [] wr).alloc _) (by simp)))
      clear hB hin hlk
      simp only [plvCells] at HTm
      have hK3 := hide ((unhide hK).alloc (.cells (plvCells (l, .slice adl l.ts.length cpl)).toArray 217))
      have hown3 := hide (World.ownsRow.alloc hown (.cells (plvCells (l, .slice adl l.ts.length cpl)).toArray 217))
      go_wp2_with fail
      refine (unhide HTm).mono ?_
      rintro e w3 ⟨ad3, cp3, rfl, hsrc, k3⟩
      have hK4 := hide ((unhide hK3).trans k3)
      have hown4 := ownsRow_kept (unhide hown3) k3 (by simp)
      have hs4 := k3.size
      have hs5 : wr.heap.size + 1 ≤ w3.heap.size := by simpa using hs4
      obtain ⟨g3, rfl, hl3, hn3, _, _⟩ := row_src hsrc hfit.1
      have HN3 := hide hn3
      have HA2 : Hid (acc ++ termsL l = bodyTerms (lvs.take (k + 1))) := by show _ = _; rw [unhide HT, unhide HA]
      have HF : Hid (∀ w9, w3.grownBy w9 (Value.slice ad acc.length cp).ownBlock → Kept [] w w9) := fun w9 hg => (unhide hK4).grown hg (fun k hk => Or.inr ((hown4.lt k hk).1))
      clear k3 hK3 hown3 HTm d0 d1 d2 d3 d4 d5 d6 d7 d8 hown hK hs4 hsrc hn3 HT HA
      have hal : (acc ++ termsL l).length ≤ (k + 1) * 1000 := by simp; omega
      have hkk : k ≤ 1000 := by omega
      go_wp2_with (at_builtin; refine wpList_append_lies _ rfl (.tmp 12) (.tmp 14) _ rfl w.heap.size 215 i0 _ 2 24 Tryz.underlying185 hi0 hz0 hz1 hz2 rfl (by omega) (.slice ad acc.length cp) acc.length (acc.flatMap ctermVal) rfl hown4 ⟨g3, 0, none⟩ (termsL l).length cp3 ((termsL l).flatMap ctermVal) rfl hl3 (unhide HN3) (one_terms _) (by omega) (by unfold maxLen; omega) (by omega) (by omega) _ rfl ?_; intro g1 cp1 w9 ho1 hg1 ha1 hl1)
      go_roundg (lvs.length - (k + 1))
      case measure => have := unhide HG; omega
      case rel => exact ⟨k + 1, acc ++ termsL l, some ⟨g1, 0, none⟩, cp1, by simp, by go_num, by omega, hal, rfl, HA2, by simpa using ho1, unhide HF w9 hg1⟩
    · have HE : Hid (acc = bodyTerms lvs) := by
        have h := unhide HA
        rw [List.take_of_length_le (by omega)] at h
        exact h
      go_wp2
      go_ret
      rw [← HE.out]
      exact ⟨ad, cp, rfl, hown, unhide hK⟩

theorem bodyTerms_len {lvs : List PLV} (h : ∀ p ∈ lvs, (termsL p.1).length ≤ 1000) : (bodyTerms lvs).length ≤ lvs.length * 1000 := by
  unfold bodyTerms
  induction lvs with
  | nil => simp
  | cons p l ih =>
    have h1 := h p (by simp)
    have h2 := ih (fun q hq => h q (by simp [hq]))
    simp only [List.flatMap_cons, List.length_append, List.length_cons]
    omega

set_option maxRecDepth 100000 in
set_option maxHeartbeats 1600000 in
theorem cterms_any (c : PCV) (w : World) (h : PcAt w 0 c.hv c.bv c.hts c.lvs) (hf : PcFit c) :
    Calls Tryz.prog 184 #[.agg (pcvCells c).toArray] w fun e w' => ∃ ad cp, e = .returned (.slice ad (termsV c).length cp) ∧ w'.ownsRow w.heap.size 215 2 (.slice ad (termsV c).length cp) (termsV c).length ((termsV c).flatMap ctermVal) ∧ Kept [] w w' := by
  have HFit : Hid (∀ p ∈ c.lvs, 0 < (termsL p.1).length ∧ (termsL p.1).length ≤ 1000) := fun p hp => hf.terms hp
  obtain ⟨hp, hn, hts, hv, bv, lvs⟩ := c
  obtain ⟨⟨hf1, hf2⟩, hf3, hf4⟩ := hf
  simp only at h hf1 hf2 hf3 HFit
  clear hf4
  obtain ⟨adh, cph, rfl⟩ := row_nil h.head
  obtain ⟨adb, cpb, rfl⟩ := row_nil h.body.row
  have hbl := bodyTerms_len (fun p hp => (unhide HFit p hp).2)
  have hbl2 : (bodyTerms lvs).length ≤ 1000000 := by omega
  have HBT : Hid (∀ wr, Kept [] w wr → Calls Tryz.prog 139 #[.slice adb lvs.length cpb] wr fun e w' => ∃ ad cp, e = .returned (.slice ad (bodyTerms lvs).length cp) ∧ w'.ownsRow wr.heap.size 215 2 (.slice ad (bodyTerms lvs).length cp) (bodyTerms lvs).length ((bodyTerms lvs).flatMap ctermVal) ∧ Kept [] wr w') := fun wr hk => bterms_any adb cpb lvs wr (h.body.kept hk (by simp)) hf3 (unhide HFit)
  have HH := hide h.head
  have HAe : Hid (termsV ⟨hp, hn, hts, .slice adh hts.length cph, .slice adb lvs.length cpb, lvs⟩ = hts ++ bodyTerms lvs) := rfl
  generalize termsV ⟨hp, hn, hts, .slice adh hts.length cph, .slice adb lvs.length cpb, lvs⟩ = TV at HAe ⊢
  generalize bodyTerms lvs = BT at HBT hbl2 HAe
  have HCo : Hid (∀ (wr : World) (adt : Option Addr) (cpt bt : Nat), Kept [] w wr → wr.ownsRow bt 215 2 (.slice adt BT.length cpt) BT.length (BT.flatMap ctermVal) → Calls Tryz.prog 213 #[.slice (some ⟨wr.heap.size, 0, none⟩) 2 2] (wr.alloc (.cells #[.slice adh hts.length cph, .slice adt BT.length cpt] 185)) fun e w' => ∃ ad cp, e = .returned (.slice ad TV.length cp) ∧ w'.ownsRow w.heap.size 215 2 (.slice ad TV.length cp) TV.length (TV.flatMap ctermVal) ∧ Kept [] w w') := by
    intro wr adt cpt bt hk hr
    have kA := (Kept.refl [] wr).alloc (.cells #[.slice adh hts.length cph, .slice adt BT.length cpt] 185)
    refine (concatT_any wr.heap.size adh cph adt cpt hts BT 0 bt _ (Blk.new wr [.slice adh hts.length cph, .slice adt BT.length cpt] 185) (ownsRow_kept (unhide HH) (hk.trans kA) (by simp)) (ownsRow_kept hr kA (by simp)) hf1 (by omega)).mono ?_
    rintro e w' ⟨ad, cp, rfl, ho, k2⟩
    rw [unhide HAe]
    exact ⟨ad, cp, rfl, ownsRow_base ho (by have := (hk.trans kA).size; exact this), (hk.trans kA).trans k2⟩
  clear h hbl
  simp only [pcvCells]
  have HN := hide (Blk.new w [.int .i64 hp, .string hn, .slice adh hts.length cph, .slice adb lvs.length cpb] 189)
  have HK := hide ((Kept.refl [] w).alloc (.cells [.int .i64 hp, .string hn, .slice adh hts.length cph, .slice adb lvs.length cpb].toArray 189))
  go_enter Tryz.func184, Tryz.ntmps184
  go_wp2_with fail
  change Code.wp _ _ _ _ (w.alloc (.cells [.int .i64 hp, .string hn, .slice adh hts.length cph, .slice adb lvs.length cpb].toArray 189))
  generalize w.alloc (.cells [.int .i64 hp, .string hn, .slice adh hts.length cph, .slice adb lvs.length cpb].toArray 189) = w1 at HN HK ⊢
  obtain ⟨N, hNe⟩ : ∃ N, w.heap.size = N := ⟨_, rfl⟩
  rw [hNe] at HN HCo ⊢
  have c2 := (unhide HN).cell 2
  have c3 := (unhide HN).cell 3
  simp at c2 c3
  have HNe := hide hNe
  clear hNe
  go_region_law
    (first
      | (go_simp; go_at_call 139; refine (unhide HBT _ (unhide HK).drew).mono ?_; rintro e wt ⟨adt, cpt, rfl, hrow, kt⟩; have ct2 := ((unhide HN).drew.kept kt (by simp)).cell 2; simp at ct2; have HKt := hide ((unhide HK).drew.trans kt); have HRt := hide hrow; clear hrow kt)
      | (go_simp; go_at_call 213; refine (unhide HCo wt adt cpt _ (unhide HKt) (unhide HRt)).mono ?_; rintro e w9 ⟨ad9, cp9, rfl, hrow9, k9⟩; have HR9 := hide (And.intro hrow9 k9); clear hrow9 k9))
  all_goals
    go_wp2
    go_ret
    rw [unhide HNe]
    exact ⟨ad9, cp9, rfl, (unhide HR9).1, (unhide HR9).2⟩

end Go.Proofs.YtoihbhenbmffcaaGreatDoor
