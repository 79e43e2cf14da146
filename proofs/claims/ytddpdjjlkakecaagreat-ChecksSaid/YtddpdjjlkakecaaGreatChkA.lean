import Derived.Test.YtddpdjjlkakecaaGreatCodM
set_option linter.unusedVariables false
set_option linter.unusedSimpArgs false

namespace Go.Proofs.YtddpdjjlkakecaaGreat
open Go.RowKit

def hasAtomB (l : PL) : Bool := l.sort == 0 || l.sort == 1
def termsL (l : PL) : List CTerm := if hasAtomB l then l.ts else [l.l, l.r]

set_option maxHeartbeats 400000 in
theorem hasAtom_any (l : PL) (ad : Option Addr) (n cp : Nat) (w : World) :
    Calls Tryz.prog 98 #[.agg (plvCells (l, .slice ad n cp)).toArray] w fun e w' => e = .returned (.bool (hasAtomB l)) ∧ Kept [] w w' := by
  have hK := (Kept.refl [] w).alloc (.cells (plvCells (l, .slice ad n cp)).toArray 137)
  obtain ⟨pl, so, ap, an, ts, ll, lr⟩ := l
  have HH : Hid (∀ b, hasAtomB ⟨pl, so, ap, an, ts, ll, lr⟩ = b → (so == 0 || so == 1) = b) := fun b h => h
  simp only [plvCells] at hK ⊢
  go_enter Tryz.func98, Tryz.ntmps98
  cases h0 : (so == 0) with
  | true =>
    have HV : Hid (hasAtomB ⟨pl, so, ap, an, ts, ll, lr⟩ = true) := by show _ = _; unfold hasAtomB; simp only; rw [h0]; rfl
    go_wp2
    go_ret
    rw [HV.out]
    exact ⟨rfl, hK⟩
  | false =>
    have HV : Hid (hasAtomB ⟨pl, so, ap, an, ts, ll, lr⟩ = (so == 1)) := by show _ = _; unfold hasAtomB; simp only; rw [h0]; rfl
    go_wp2
    go_ret
    rw [HV.out]
    exact ⟨rfl, hK⟩

theorem row_cells {w : World} {N : Nat} {cs : List Value} {t : TypeId} (h : Blk w N cs t) {n size : Nat} (hl : cs.length = n * size) (hn : n ≤ maxLen) : w.ownsRow 0 t size (.slice (some ⟨N, 0, none⟩) n n) n cs := by
  refine ⟨hl, Or.inr ⟨N, n, cs.toArray, rfl, Nat.zero_le _, h, Nat.le_refl _, hn, by simpa using hl, ?_⟩⟩
  rw [← hl]
  simp

set_option maxHeartbeats 800000 in
theorem lterms_any (l : PL) (ad : Option Addr) (cp : Nat) (w : World) (h : PlIn w 0 (l, .slice ad l.ts.length cp)) :
    Calls Tryz.prog 96 #[.agg (plvCells (l, .slice ad l.ts.length cp)).toArray] w fun e w' => ∃ ad' cp', e = .returned (.slice ad' (termsL l).length cp') ∧ w'.ownsRow 0 135 2 (.slice ad' (termsL l).length cp') (termsL l).length ((termsL l).flatMap ctermVal) ∧ Kept [] w w' := by
  have hK := hide ((Kept.refl [] w).alloc (.cells (plvCells (l, .slice ad l.ts.length cp)).toArray 137))
  have hN := hide (Blk.new w (plvCells (l, .slice ad l.ts.length cp)) 137)
  have HP := hide (ownsRow_kept h (unhide hK) (by simp))
  have HHas : Hid (∀ w, Calls Tryz.prog 98 #[.agg (plvCells (l, .slice ad l.ts.length cp)).toArray] w fun e w' => e = .returned (.bool (hasAtomB l)) ∧ Kept [] w w') := fun w => hasAtom_any l ad l.ts.length cp w
  clear h
  obtain ⟨pl, so, ap, an, ts, ll, lr⟩ := l
  simp only [plvCells] at hK hN HP HHas ⊢
  go_enter Tryz.func96, Tryz.ntmps96
  go_wp2_with fail
  change Calls _ _ _ (w.alloc (.cells [.int .i64 pl, .int .i64 so, .int .i64 ap, .string an, .slice ad ts.length cp, .int .i32 ll.v, .string ll.s, .int .i32 lr.v, .string lr.s].toArray 137)) _
  generalize w.alloc (.cells [.int .i64 pl, .int .i64 so, .int .i64 ap, .string an, .slice ad ts.length cp, .int .i32 ll.v, .string ll.s, .int .i32 lr.v, .string lr.s].toArray 137) = w1 at hK hN HP ⊢
  generalize w.heap.size = N at hN ⊢
  refine (unhide HHas w1).mono ?_
  rintro e w2 ⟨rfl, k2⟩
  have hN2 := (unhide hN).kept k2 (by simp)
  have hK2 := hide ((unhide hK).trans k2)
  have HP2 := hide (ownsRow_kept (unhide HP) k2 (by simp))
  have c4 := hN2.cell 4
  have c5 := hN2.cell 5
  have c6 := hN2.cell 6
  have c7 := hN2.cell 7
  have c8 := hN2.cell 8
  simp at c4 c5 c6 c7 c8
  clear hN2 hN HP hK k2 HHas
  cases hh : hasAtomB ⟨pl, so, ap, an, ts, ll, lr⟩ with
  | true =>
    have HT : Hid (termsL ⟨pl, so, ap, an, ts, ll, lr⟩ = ts) := by show _ = _; unfold termsL; rw [hh]; rfl
    clear hh
    go_wp2
    go_ret
    rw [HT.out]
    exact ⟨ad, cp, rfl, unhide HP2, unhide hK2⟩
  | false =>
    have HT : Hid (termsL ⟨pl, so, ap, an, ts, ll, lr⟩ = [ll, lr]) := by show _ = _; unfold termsL; rw [hh]; rfl
    clear hh
    have HN : Hid ((w2.alloc (.cells [.int .i32 ll.v, .string ll.s, .int .i32 lr.v, .string lr.s].toArray 135)).ownsRow 0 135 2 (.slice (some ⟨w2.heap.size, 0, none⟩) 2 2) 2 [.int .i32 ll.v, .string ll.s, .int .i32 lr.v, .string lr.s]) := row_cells (Blk.new w2 _ 135) rfl (by unfold maxLen; omega)
    go_wp2
    go_ret
    rw [HT.out]
    exact ⟨_, _, rfl, unhide HN, (unhide hK2).alloc _⟩

end Go.Proofs.YtddpdjjlkakecaaGreat

namespace Go.Proofs.YtddpdjjlkakecaaGreat
open Go.RowKit

theorem Tryz.info120 : (Tryz.prog.info? 120).map (fun i => (i.zero, i.size, i.bytes)) = some (some (.agg #[.int .i64 0, .string ⟨#[]⟩, .slice none 0 0]), 3, 48) := by kernel_rfl

theorem plvCells_len (p : PLV) : (plvCells p).length = 9 := rfl
theorem catomVal_len (p : CAtom) : (catomVal p).length = 3 := rfl
theorem ctermVal_len (p : CTerm) : (ctermVal p).length = 2 := rfl

/-- A literal of a body, read by its index. -/
theorem lit_cells {w : World} {base : Nat} {bv : Value} {lvs : List PLV} (h : BodyAt w base bv lvs) (k : Nat) (hk : k < lvs.length) :
    ∃ g cap l ad cp, bv = .slice (some ⟨g, 0, none⟩) lvs.length cap ∧ lvs[k] = (l, .slice ad l.ts.length cp) ∧ PlIn w base (l, .slice ad l.ts.length cp) ∧
      w.cell? ⟨g, k * 9, none⟩ = some (.int .i64 l.place) ∧ w.cell? ⟨g, k * 9 + 1, none⟩ = some (.int .i64 l.sort) ∧ w.cell? ⟨g, k * 9 + 2, none⟩ = some (.int .i64 l.ap) ∧ w.cell? ⟨g, k * 9 + 3, none⟩ = some (.string l.an) ∧ w.cell? ⟨g, k * 9 + 4, none⟩ = some (.slice ad l.ts.length cp) ∧
      w.cell? ⟨g, k * 9 + 5, none⟩ = some (.int .i32 l.l.v) ∧ w.cell? ⟨g, k * 9 + 6, none⟩ = some (.string l.l.s) ∧ w.cell? ⟨g, k * 9 + 7, none⟩ = some (.int .i32 l.r.v) ∧ w.cell? ⟨g, k * 9 + 8, none⟩ = some (.string l.r.s) := by
  obtain ⟨g, cap, he, _, hcell⟩ := row_get h.row (fun c _ => plvCells_len c) k hk
  have hin := (h.each _ (List.getElem_mem hk)).1
  obtain ⟨ad, cp, hav⟩ := row_nil hin
  have d0 := hcell k hk 0 (by omega)
  have d1 := hcell k hk 1 (by omega)
  have d2 := hcell k hk 2 (by omega)
  have d3 := hcell k hk 3 (by omega)
  have d4 := hcell k hk 4 (by omega)
  have d5 := hcell k hk 5 (by omega)
  have d6 := hcell k hk 6 (by omega)
  have d7 := hcell k hk 7 (by omega)
  have d8 := hcell k hk 8 (by omega)
  obtain ⟨l, tv, hl⟩ : ∃ l tv, lvs[k] = (l, tv) := ⟨_, _, rfl⟩
  rw [hl] at d0 d1 d2 d3 d4 d5 d6 d7 d8 hin hav
  simp only at hav
  subst hav
  simp [plvCells] at d0 d1 d2 d3 d4 d5 d6 d7 d8
  exact ⟨g, cap, l, ad, cp, he, hl, hin, d0, d1, d2, d3, d4, d5, d6, d7, d8⟩

/-- The atoms of a body. -/
def bodyAtoms (lvs : List PLV) : List CAtom := (lvs.filter fun p => hasAtomB p.1).map fun p => ⟨p.1.ap, p.1.an, p.2⟩
def atomsV (c : PCV) : List CAtom := ⟨c.hp, c.hn, c.hv⟩ :: bodyAtoms c.lvs

theorem bodyAtoms_take {lvs : List PLV} {k : Nat} (hk : k < lvs.length) : bodyAtoms (lvs.take (k + 1)) = bodyAtoms (lvs.take k) ++ (if hasAtomB lvs[k].1 then [⟨lvs[k].1.ap, lvs[k].1.an, lvs[k].2⟩] else []) := by
  unfold bodyAtoms
  rw [List.take_succ_eq_append_getElem hk, List.filter_append, List.map_append]
  congr 1
  by_cases h : hasAtomB lvs[k].1 = true <;> simp [h]

theorem bodyAtoms_len (lvs : List PLV) : (bodyAtoms lvs).length ≤ lvs.length := by
  unfold bodyAtoms
  rw [List.length_map]
  exact List.length_filter_le _ _

set_option maxRecDepth 100000 in
set_option maxHeartbeats 1600000 in
theorem atoms_any (c : PCV) (w : World) (h : PcAt w 0 c.hv c.bv c.hts c.lvs) (hlen : c.lvs.length ≤ 1000) :
    Calls Tryz.prog 82 #[.agg (pcvCells c).toArray] w fun e w' => ∃ ad cp, e = .returned (.slice ad (atomsV c).length cp) ∧ w'.ownsRow w.heap.size 120 3 (.slice ad (atomsV c).length cp) (atomsV c).length ((atomsV c).flatMap catomVal) ∧ Kept [] w w' := by
  obtain ⟨i0, hi0, hz0, hz1, hz2⟩ := info_parts Tryz.info120
  obtain ⟨hp, hn, hts, hv, bv, lvs⟩ := c
  simp only at h hlen
  obtain ⟨adh, cph, rfl⟩ := row_nil h.head
  obtain ⟨adb, cpb, rfl⟩ := row_nil h.body.row
  have HB := hide h.body
  simp only [pcvCells]
  have hK2 : Hid (Kept [] w ((w.alloc (.cells [.int .i64 hp, .string hn, .slice adh hts.length cph, .slice adb lvs.length cpb].toArray 123)).alloc (.cells [.int .i64 hp, .string hn, .slice adh hts.length cph].toArray 120))) := (((Kept.refl [] w).alloc _).alloc _)
  have hrow0 : ((w.alloc (.cells [.int .i64 hp, .string hn, .slice adh hts.length cph, .slice adb lvs.length cpb].toArray 123)).alloc (.cells [.int .i64 hp, .string hn, .slice adh hts.length cph].toArray 120)).ownsRow w.heap.size 120 3 (.slice (some ⟨w.heap.size + 1, 0, none⟩) 1 1) 1 ([⟨hp, hn, .slice adh hts.length cph⟩].flatMap catomVal) := by
    have hh := Blk.new (w.alloc (.cells [.int .i64 hp, .string hn, .slice adh hts.length cph, .slice adb lvs.length cpb].toArray 123)) [.int .i64 hp, .string hn, .slice adh hts.length cph] 120
    rw [show (w.alloc (.cells [.int .i64 hp, .string hn, .slice adh hts.length cph, .slice adb lvs.length cpb].toArray 123)).heap.size = w.heap.size + 1 from by simp] at hh
    exact ⟨rfl, Or.inr ⟨w.heap.size + 1, 1, _, rfl, by omega, hh, Nat.le_refl _, by unfold maxLen; omega, rfl, rfl⟩⟩
  have HR0 := hide hrow0
  clear h hrow0
  go_enter Tryz.func82, Tryz.ntmps82
  go_wp2
  change Code.wp _ _ _ _ ((w.alloc (.cells [.int .i64 hp, .string hn, .slice adh hts.length cph, .slice adb lvs.length cpb].toArray 123)).alloc (.cells [.int .i64 hp, .string hn, .slice adh hts.length cph].toArray 120))
  generalize (w.alloc (.cells [.int .i64 hp, .string hn, .slice adh hts.length cph, .slice adb lvs.length cpb].toArray 123)).alloc (.cells [.int .i64 hp, .string hn, .slice adh hts.length cph].toArray 120) = w1 at hK2 HR0 ⊢
  go_loopg [3, 12] lvs.length (fun gk o i wr => ∃ (k : Nat) (acc : List CAtom) (ad : Option Addr) (cp : Nat), o = .slice ad acc.length cp ∧ i = .int .i64 k ∧ k ≤ lvs.length ∧ acc.length ≤ k + 1 ∧ gk = lvs.length - k ∧ Hid (acc = ⟨hp, hn, .slice adh hts.length cph⟩ :: bodyAtoms (lvs.take k)) ∧ wr.ownsRow w.heap.size 120 3 (.slice ad acc.length cp) acc.length (acc.flatMap catomVal) ∧ Hid (Kept [] w wr))
  case atStart => exact ⟨0, [⟨hp, hn, .slice adh hts.length cph⟩], _, _, rfl, rfl, by omega, by simp, rfl, by show _ = _; simp [bodyAtoms], unhide HR0, hK2⟩
  case round =>
    clear HR0 hK2
    obtain ⟨k, acc, ad, cp, rfl, rfl, hk, hacc, hgk, HA, hown, hK⟩ := hrel
    have HG := hide hgk
    clear hgk
    by_cases hlt : k < lvs.length
    · have hB := (unhide HB).kept (unhide hK) (by simp)
      have hKs := (unhide hK).size
      obtain ⟨g, cap, l, adl, cpl, hbv, hlk, hin, d0, d1, d2, d3, d4, d5, d6, d7, d8⟩ := lit_cells hB k hlt
      simp only [Value.slice.injEq] at hbv
      obtain ⟨rfl, _, rfl⟩ := hbv
      have HT := hide (bodyAtoms_take hlt)
      rw [hlk] at HT
      clear hB hin hlk
      have hHas := hide (hasAtom_any l adl l.ts.length cpl (wr.alloc (.cells (plvCells (l, .slice adl l.ts.length cpl)).toArray 137)))
      simp only [plvCells] at hHas
      have hN := hide (Blk.new wr (plvCells (l, .slice adl l.ts.length cpl)) 137)
      have hK3 := hide ((unhide hK).alloc (.cells (plvCells (l, .slice adl l.ts.length cpl)).toArray 137))
      have hown3 := hide (World.ownsRow.alloc hown (.cells (plvCells (l, .slice adl l.ts.length cpl)).toArray 137))
      go_wp2_with fail
      refine (unhide hHas).mono ?_
      rintro e w3 ⟨rfl, k3⟩
      have hN3 := (unhide hN).kept k3 (by simp)
      have hK4 := hide ((unhide hK3).trans k3)
      have hown4 := ownsRow_kept (unhide hown3) k3 (by simp)
      have hs4 := k3.size
      have hs5 : wr.heap.size + 1 ≤ w3.heap.size := by simpa using hs4
      have c2 := hN3.cell 2
      have c3 := hN3.cell 3
      have c4 := hN3.cell 4
      simp [plvCells] at c2 c3 c4
      clear hN3 k3 hN hK3 hown3 hHas d0 d1 d2 d3 d4 d5 d6 d7 d8 hown hK hs4
      cases hh : hasAtomB l with
      | false =>
        have HA2 : Hid (acc = ⟨hp, hn, .slice adh hts.length cph⟩ :: bodyAtoms (lvs.take (k + 1))) := by show _ = _; rw [unhide HT, hh, unhide HA]; simp
        clear hh HA HT
        go_wp2
        go_roundg (lvs.length - (k + 1))
        case measure => have := unhide HG; omega
        case rel => exact ⟨k + 1, acc, ad, cp, rfl, by go_num, by omega, by omega, rfl, HA2, hown4, hK4⟩
      | true =>
        have HA2 : Hid (acc ++ [⟨l.ap, l.an, .slice adl l.ts.length cpl⟩] = ⟨hp, hn, .slice adh hts.length cph⟩ :: bodyAtoms (lvs.take (k + 1))) := by show _ = _; rw [unhide HT, hh, unhide HA]; simp
        clear hh HA HT
        have hnew := heap_alloc_new w3 (.cells (catomVal ⟨l.ap, l.an, .slice adl l.ts.length cpl⟩).toArray 120)
        have hown8 := World.ownsRow.alloc hown4 (.cells (catomVal ⟨l.ap, l.an, .slice adl l.ts.length cpl⟩).toArray 120)
        have HF : Hid (∀ w9, (w3.alloc (.cells (catomVal ⟨l.ap, l.an, .slice adl l.ts.length cpl⟩).toArray 120)).grownBy w9 (Value.slice ad acc.length cp).ownBlock → Kept [] w w9) := fun w9 hg => ((unhide hK4).alloc _).grown hg (fun k hk => Or.inr ((hown4.lt k hk).1))
        go_wp2_with (at_builtin; refine wpList_append_lies _ rfl (.tmp 18) (.tmp 21) _ rfl w.heap.size 120 i0 _ 3 48 Tryz.underlying159 hi0 hz0 hz1 hz2 rfl (by omega) (.slice ad acc.length cp) acc.length (acc.flatMap catomVal) rfl hown8 ⟨w3.heap.size, 0, none⟩ 1 1 (catomVal ⟨l.ap, l.an, .slice adl l.ts.length cpl⟩) rfl rfl (World.news_of_block (cs := (catomVal ⟨l.ap, l.an, .slice adl l.ts.length cpl⟩).toArray) (t := 120) (fr := (0, 0)) hnew) (by simp [Value.oneCell', catomVal]) (by omega) (by unfold maxLen; omega) (by omega) (by simp; omega) (w3.heap.size + 1) (by simp) ?_; intro g1 cp1 w9 ho1 hg1 ha1 hl1)
        go_roundg (lvs.length - (k + 1))
        case measure => have := unhide HG; omega
        case rel => exact ⟨k + 1, acc ++ [⟨l.ap, l.an, .slice adl l.ts.length cpl⟩], some ⟨g1, 0, none⟩, cp1, by simp, by go_num, by omega, by simp; omega, rfl, HA2, by simpa using ho1, unhide HF w9 hg1⟩
    · have HE : Hid (acc = atomsV ⟨hp, hn, hts, .slice adh hts.length cph, .slice adb lvs.length cpb, lvs⟩) := by
        have h := unhide HA
        rw [List.take_of_length_le (by omega)] at h
        exact h
      go_wp2
      go_ret
      rw [← HE.out]
      exact ⟨ad, cp, rfl, hown, unhide hK⟩

end Go.Proofs.YtddpdjjlkakecaaGreat

namespace Go.Proofs.YtddpdjjlkakecaaGreat
open Go.RowKit

def bodyTerms (lvs : List PLV) : List CTerm := lvs.flatMap fun p => termsL p.1
def termsV (c : PCV) : List CTerm := c.hts ++ bodyTerms c.lvs

theorem bodyTerms_take {lvs : List PLV} {k : Nat} (hk : k < lvs.length) : bodyTerms (lvs.take (k + 1)) = bodyTerms (lvs.take k) ++ termsL lvs[k].1 := by
  unfold bodyTerms
  rw [List.take_succ_eq_append_getElem hk, List.flatMap_append]
  simp

theorem one_terms (ts : List CTerm) : ∀ u ∈ ts.flatMap ctermVal, u.oneCell' = true := by
  intro u hu
  obtain ⟨t, _, h⟩ := List.mem_flatMap.1 hu
  simp [ctermVal] at h
  rcases h with rfl | rfl <;> rfl

/-- A row that has something, as a source. -/
theorem row_src {w : World} {base : Nat} {e : TypeId} {size : Nat} {ad : Option Addr} {n cp : Nat} {xs : List Value} (h : w.ownsRow base e size (.slice ad n cp) n xs) (hn : 0 < n) :
    ∃ g, ad = some ⟨g, 0, none⟩ ∧ xs.length = n * size ∧ (∀ j u, xs[j]? = some u → w.cell? ((⟨g, 0, none⟩ : Addr).add j) = some u) ∧ base ≤ g ∧ g < w.heap.size := by
  rcases h.2 with ⟨he, h0⟩ | ⟨g, cap, cur, he, hb, rest⟩
  · omega
  · simp only [Value.slice.injEq] at he
    obtain ⟨rfl, _, rfl⟩ := he
    exact ⟨g, rfl, h.1, h.cells rfl, (h.lt g rfl)⟩

/-- What a clause must have for its terms to be gathered. -/
structure PcFit (c : PCV) : Prop where
  head : 0 < c.hts.length ∧ c.hts.length ≤ 1000
  lits : c.lvs.length ≤ 1000
  each : ∀ p ∈ c.lvs, (hasAtomB p.1 = true → 0 < p.1.ts.length) ∧ p.1.ts.length ≤ 1000

theorem PcFit.terms {c : PCV} (h : PcFit c) {p : PLV} (hp : p ∈ c.lvs) : 0 < (termsL p.1).length ∧ (termsL p.1).length ≤ 1000 := by
  have := h.each p hp
  unfold termsL
  split
  · rename_i hh; exact ⟨this.1 hh, this.2⟩
  · simp

set_option maxRecDepth 100000 in
set_option maxHeartbeats 1600000 in
theorem cterms_any (c : PCV) (w : World) (h : PcAt w 0 c.hv c.bv c.hts c.lvs) (hf : PcFit c) :
    Calls Tryz.prog 80 #[.agg (pcvCells c).toArray] w fun e w' => ∃ ad cp, e = .returned (.slice ad (termsV c).length cp) ∧ w'.ownsRow w.heap.size 135 2 (.slice ad (termsV c).length cp) (termsV c).length ((termsV c).flatMap ctermVal) ∧ Kept [] w w' := by
  obtain ⟨i0, hi0, hz0, hz1, hz2⟩ := info_parts Tryz.info135
  obtain ⟨hp, hn, hts, hv, bv, lvs⟩ := c
  obtain ⟨⟨hf1, hf2⟩, hf3, hf4⟩ := hf
  have HFit : Hid (∀ p ∈ lvs, 0 < (termsL p.1).length ∧ (termsL p.1).length ≤ 1000) := by
    intro p hp'
    exact PcFit.terms (c := ⟨hp, hn, hts, hv, bv, lvs⟩) ⟨⟨hf1, hf2⟩, hf3, hf4⟩ hp'
  simp only at h hf1 hf2 hf3
  clear hf4
  obtain ⟨adh, cph, rfl⟩ := row_nil h.head
  obtain ⟨adb, cpb, rfl⟩ := row_nil h.body.row
  have HB := hide h.body
  obtain ⟨gh, rfl, hl0, hn0, _, hgl⟩ := row_src h.head hf1
  simp only [pcvCells]
  have hK1 : Kept [] w (w.alloc (.cells [.int .i64 hp, .string hn, .slice (some ⟨gh, 0, none⟩) hts.length cph, .slice adb lvs.length cpb].toArray 123)) := (Kept.refl [] w).alloc _
  have hn1 := (row_src (ownsRow_kept h.head hK1 (by simp)) hf1)
  obtain ⟨gh', hgh', _, hnews, _, _⟩ := hn1
  simp only [Option.some.injEq, Addr.mk.injEq] at hgh'
  obtain ⟨rfl, _⟩ := hgh'
  have HK1 := hide hK1
  have HN := hide hnews
  have HAC : Hid (∀ w9, (w.alloc (.cells [.int .i64 hp, .string hn, .slice (some ⟨gh, 0, none⟩) hts.length cph, .slice adb lvs.length cpb].toArray 123)).grownBy w9 (Value.slice none 0 0).ownBlock → w9.cell? ⟨w.heap.size, 3, none⟩ = some (.slice adb lvs.length cpb) ∧ Kept [] w w9) := by
    intro w9 hg
    exact ⟨((Blk.new w [.int .i64 hp, .string hn, .slice (some ⟨gh, 0, none⟩) hts.length cph, .slice adb lvs.length cpb] 123).grown hg (by simp [Value.ownBlock])).cell 3, (unhide HK1).grown hg (fun k hk => by simp [Value.ownBlock] at hk)⟩
  have hbase : w.heap.size ≤ (w.alloc (.cells [.int .i64 hp, .string hn, .slice (some ⟨gh, 0, none⟩) hts.length cph, .slice adb lvs.length cpb].toArray 123)).heap.size := by simp
  clear h hn0 hnews hK1
  go_enter Tryz.func80, Tryz.ntmps80
  go_wp2_with (at_builtin; refine wpList_append_lies _ rfl (.tmp 6) (.tmp 9) _ rfl w.heap.size 135 i0 _ 2 24 Tryz.underlying118 hi0 hz0 hz1 hz2 rfl (by omega) (.slice none 0 0) 0 [] rfl (World.ownsRow_nil _ _ _ _) ⟨gh, 0, none⟩ hts.length cph (hts.flatMap ctermVal) rfl hl0 (unhide HN) (one_terms hts) (by omega) (by unfold maxLen; omega) (by omega) hbase _ rfl ?_; intro g1 cp1 w2 ho1 hg1 ha1 hl1; have hc9 := (unhide HAC w2 hg1).1)
  have hK2 := hide (unhide HAC w2 hg1).2
  have hR0 : w2.ownsRow w.heap.size 135 2 (.slice (some ⟨g1, 0, none⟩) hts.length cp1) hts.length (hts.flatMap ctermVal) := by simpa using ho1
  have HR0 := hide hR0
  clear hR0
  clear HAC HK1 HN hg1 ha1 hl1 ho1 hc9 hl0 hbase
  go_loopg [3, 14] lvs.length (fun gk o i wr => ∃ (k : Nat) (acc : List CTerm) (ad : Option Addr) (cp : Nat), o = .slice ad acc.length cp ∧ i = .int .i64 k ∧ k ≤ lvs.length ∧ acc.length ≤ (k + 1) * 1000 ∧ gk = lvs.length - k ∧ Hid (acc = hts ++ bodyTerms (lvs.take k)) ∧ wr.ownsRow w.heap.size 135 2 (.slice ad acc.length cp) acc.length (acc.flatMap ctermVal) ∧ Hid (Kept [] w wr))
  case atStart => exact ⟨0, hts, _, _, by simp, rfl, by omega, by omega, rfl, by show _ = _; simp [bodyTerms], unhide HR0, hK2⟩
  case round =>
    clear HR0 hK2
    obtain ⟨k, acc, ad, cp, rfl, rfl, hk, hacc, hgk, HA, hown, hK⟩ := hrel
    have HG := hide hgk
    clear hgk
    by_cases hlt : k < lvs.length
    · have hB := (unhide HB).kept (unhide hK) (by simp)
      have hKs := (unhide hK).size
      obtain ⟨g, cap, l, adl, cpl, hbv, hlk, hin, d0, d1, d2, d3, d4, d5, d6, d7, d8⟩ := lit_cells hB k hlt
      simp only [Value.slice.injEq] at hbv
      obtain ⟨rfl, _, rfl⟩ := hbv
      have HT := hide (bodyTerms_take hlt)
      have hfit := unhide HFit lvs[k] (List.getElem_mem hlt)
      rw [hlk] at HT hfit
      simp only at hfit
      have HTm := hide (lterms_any l adl cpl (wr.alloc (.cells (plvCells (l, .slice adl l.ts.length cpl)).toArray 137)) (ownsRow_kept hin ((Kept.refl [] wr).alloc _) (by simp)))
      clear hB hin hlk
      simp only [plvCells] at HTm
      have hK3 := hide ((unhide hK).alloc (.cells (plvCells (l, .slice adl l.ts.length cpl)).toArray 137))
      have hown3 := hide (World.ownsRow.alloc hown (.cells (plvCells (l, .slice adl l.ts.length cpl)).toArray 137))
      go_wp2_with fail
      refine (unhide HTm).mono ?_
      rintro e w3 ⟨ad3, cp3, rfl, hsrc, k3⟩
      have hK4 := hide ((unhide hK3).trans k3)
      have hown4 := ownsRow_kept (unhide hown3) k3 (by simp)
      have hs4 := k3.size
      have hs5 : wr.heap.size + 1 ≤ w3.heap.size := by simpa using hs4
      obtain ⟨g3, rfl, hl3, hn3, _, _⟩ := row_src hsrc hfit.1
      have HN3 := hide hn3
      have HA2 : Hid (acc ++ termsL l = hts ++ bodyTerms (lvs.take (k + 1))) := by show _ = _; rw [unhide HT, unhide HA]; simp
      have HF : Hid (∀ w9, w3.grownBy w9 (Value.slice ad acc.length cp).ownBlock → Kept [] w w9) := fun w9 hg => (unhide hK4).grown hg (fun k hk => Or.inr ((hown4.lt k hk).1))
      clear k3 hK3 hown3 HTm d0 d1 d2 d3 d4 d5 d6 d7 d8 hown hK hs4 hsrc hn3 HT HA
      have hal : (acc ++ termsL l).length ≤ (k + 1 + 1) * 1000 := by simp; omega
      have hkk : k ≤ 1000 := by omega
      go_wp2_with (at_builtin; refine wpList_append_lies _ rfl (.tmp 18) (.tmp 20) _ rfl w.heap.size 135 i0 _ 2 24 Tryz.underlying118 hi0 hz0 hz1 hz2 rfl (by omega) (.slice ad acc.length cp) acc.length (acc.flatMap ctermVal) rfl hown4 ⟨g3, 0, none⟩ (termsL l).length cp3 ((termsL l).flatMap ctermVal) rfl hl3 (unhide HN3) (one_terms _) (by omega) (by unfold maxLen; omega) (by omega) (by omega) _ rfl ?_; intro g1 cp1 w9 ho1 hg1 ha1 hl1)
      go_roundg (lvs.length - (k + 1))
      case measure => have := unhide HG; omega
      case rel => exact ⟨k + 1, acc ++ termsL l, some ⟨g1, 0, none⟩, cp1, by simp, by go_num, by omega, hal, rfl, HA2, by simpa using ho1, unhide HF w9 hg1⟩
    · have HE : Hid (acc = termsV ⟨hp, hn, hts, .slice (some ⟨gh, 0, none⟩) hts.length cph, .slice adb lvs.length cpb, lvs⟩) := by
        have h := unhide HA
        rw [List.take_of_length_le (by omega)] at h
        exact h
      go_wp2
      go_ret
      rw [← HE.out]
      exact ⟨ad, cp, rfl, hown, unhide hK⟩

end Go.Proofs.YtddpdjjlkakecaaGreat
