import Derived.Test.YtbnnbnmlocefdaaGreatDoorCenA
import Derived.Test.YtbnnbnmlocefdaaGreatDoorInsT
set_option linter.unusedVariables false
set_option linter.unusedSimpArgs false

namespace Go.Proofs.YtbnnbnmlocefdaaGreatDoor
open Go.RowKit

/-- A cell of the census turned: the rest stays. -/
theorem CenIn.setN {w : World} {b : Nat} {n m : Int} {nv tv : Value} {names things : List ByteArray} (h : CenIn w b n nv tv names things) : CenIn (w.setCell ⟨b, 0, none⟩ (.int .i64 m)) b m nv tv names things := by
  have hne : ∀ {e : TypeId} {sz : Nat} {v : Value} {k : Nat} {xs : List Value}, w.ownsRow (b + 1) e sz v k xs → v.ownBlock ≠ some b := fun h e => by have := (h.lt b e).1; omega
  exact ⟨h.blk.set 0 _, ownsRow_set h.rn (p := ⟨b, 0, none⟩) (hne h.rn) _, ownsRow_set h.rt (p := ⟨b, 0, none⟩) (hne h.rt) _, h.ant, h.rin, h.rit⟩

theorem new_apart {w : World} {v v' u : Value} {base : Nat} {e : TypeId} {sz k : Nat} {xs : List Value} (hu : w.ownsRow base e sz u k xs) (ha : Apart v u) (hn : ∀ q, v'.ownBlock = some q → v.ownBlock = some q ∨ w.heap.size ≤ q) : Apart v' u := fun q hq he => by
  rcases hn q hq with h | h
  · exact ha q h he
  · have := (hu.lt q he).2; omega

/-- New names. -/
theorem CenIn.names {w w' : World} {b : Nat} {n : Int} {nv tv : Value} {names things : List ByteArray} (h : CenIn w b n nv tv names things) {nv' : Value} {names' : List ByteArray}
    (hk : Kept nv.ownBlock.toList w w') (ho : w'.ownsRow (b + 1) 9 1 nv' names'.length (names'.flatMap strCell)) (hn : ∀ q, nv'.ownBlock = some q → nv.ownBlock = some q ∨ w.heap.size ≤ q) (hr : Rise ltS names') :
    CenIn (w'.setCell ⟨b, 1, none⟩ nv') b n nv' tv names' things ∧ w'.cell? ⟨b, 1, none⟩ = some nv ∧ w'.frozen? ⟨b, 1, none⟩ = false := by
  have hne : ∀ {w : World} {e : TypeId} {sz : Nat} {v : Value} {k : Nat} {xs : List Value}, w.ownsRow (b + 1) e sz v k xs → v.ownBlock ≠ some b := fun h e => by have := (h.lt b e).1; omega
  have hb : Blk w' b [.int .i64 n, nv, tv] 177 := h.blk.kept hk (fun hm => hne h.rn (by simpa using hm))
  have ht := ownsRow_keptOf h.rt hk (fun i hi hm => h.ant i (by simpa using hm) hi)
  exact ⟨⟨hb.set 1 _, ownsRow_set ho (p := ⟨b, 1, none⟩) (hne ho) _, ownsRow_set ht (p := ⟨b, 1, none⟩) (hne ht) _, new_apart h.rt h.ant hn, hr, h.rit⟩, hb.cell 1, hb.frozen 1⟩

theorem CenIn.things {w w' : World} {b : Nat} {n : Int} {nv tv : Value} {names things : List ByteArray} (h : CenIn w b n nv tv names things) {tv' : Value} {things' : List ByteArray}
    (hk : Kept tv.ownBlock.toList w w') (ho : w'.ownsRow (b + 1) 149 1 tv' things'.length (things'.flatMap strCell)) (hn : ∀ q, tv'.ownBlock = some q → tv.ownBlock = some q ∨ w.heap.size ≤ q) (hr : Rise ltS things') :
    CenIn (w'.setCell ⟨b, 2, none⟩ tv') b n nv tv' names things' ∧ w'.cell? ⟨b, 2, none⟩ = some tv ∧ w'.frozen? ⟨b, 2, none⟩ = false := by
  have hne : ∀ {w : World} {e : TypeId} {sz : Nat} {v : Value} {k : Nat} {xs : List Value}, w.ownsRow (b + 1) e sz v k xs → v.ownBlock ≠ some b := fun h e => by have := (h.lt b e).1; omega
  have hb : Blk w' b [.int .i64 n, nv, tv] 177 := h.blk.kept hk (fun hm => hne h.rt (by simpa using hm))
  have ht := ownsRow_keptOf h.rn hk (fun i hi hm => h.ant i hi (by simpa using hm))
  exact ⟨⟨hb.set 2 _, ownsRow_set ht (p := ⟨b, 2, none⟩) (hne ht) _, ownsRow_set ho (p := ⟨b, 2, none⟩) (hne ho) _, (new_apart h.rn h.ant.symm hn).symm, h.rin, hr⟩, hb.cell 2, hb.frozen 2⟩

theorem CenIn.lows {w : World} {b : Nat} {n : Int} {nv tv : Value} {names things : List ByteArray} (h : CenIn w b n nv tv names things) : (∀ i, i ∈ nv.ownBlock.toList → b ≤ i) ∧ (∀ i, i ∈ tv.ownBlock.toList → b ≤ i) :=
  ⟨fun i hi => by have := (h.rn.lt i (by simpa using hi)).1; omega, fun i hi => by have := (h.rt.lt i (by simpa using hi)).1; omega⟩

theorem Low.drew {b : Nat} {u w : World} (h : Low b u w) : Low b u w.drew := ⟨h.os, h.tape, h.output, h.size, h.block⟩
theorem CenIn.drew {w : World} {b : Nat} {n : Int} {nv tv : Value} {names things : List ByteArray} (h : CenIn w b n nv tv names things) : CenIn w.drew b n nv tv names things := h.kept (Kept.refl [] w).drew

/-- What a step that turns one cell of the census comes to. -/
structure CenStep (M : List Nat) (b N : Nat) (cs : List Value) (u w' : World) (i : Nat) (old new : Value) (n : Int) (nv tv : Value) (names things : List ByteArray) : Prop where
  cell : w'.cell? ⟨b, i, none⟩ = some old
  frozen : w'.frozen? ⟨b, i, none⟩ = false
  cen : CenIn (w'.setCell ⟨b, i, none⟩ new) b n nv tv names things
  low : Kept M u (w'.setCell ⟨b, i, none⟩ new)
  box : Blk (w'.setCell ⟨b, i, none⟩ new) N cs 173

/-- The things among terms. -/
def ThingsIs (ts : List CTerm) (l l' : List ByteArray) : Prop := ∀ y, y ∈ l' ↔ (∃ t ∈ ts, t.v = 0 ∧ t.s = y) ∨ y ∈ l

set_option maxRecDepth 100000 in
set_option maxHeartbeats 1600000 in
theorem count_any (b : Nat) (n : Nat) (nv tv : Value) (names things : List ByteArray) (c : PCV) (w : World) (h : CenIn w b n nv tv names things) (hc : PcIn w b c) (hf : PcFit c) (hT : (termsV c).length ≤ 90000) (hn : n ≤ 1000) (hnm : names.length ≤ 800000) (hth : things.length ≤ 800000) :
    Calls Tryz.prog 87 #[.pointer (some ⟨b, 0, none⟩), .agg (pcvCells c).toArray] w fun e w' => e = .returned (.tuple #[]) ∧ ∃ nv' tv' names' things', CenIn w' b ((n + 1 : Nat) : Int) nv' tv' names' things' ∧ (∀ y, y ∈ names' ↔ y ∈ namesV c ∨ y ∈ names) ∧ ThingsIs (termsV c) things things' ∧ names'.length ≤ names.length + 1001 ∧ things'.length ≤ things.length + 90000 ∧ Kept (b :: (nv.ownBlock.toList ++ tv.ownBlock.toList)) w w' := by
  have hbw := h.blk.lt
  obtain ⟨nad, ncp, rfl⟩ := row_nil h.rn
  obtain ⟨tad, tcp, rfl⟩ := row_nil h.rt
  obtain ⟨M, hMe⟩ : ∃ M, b :: ((Value.slice nad names.length ncp).ownBlock.toList ++ (Value.slice tad things.length tcp).ownBlock.toList) = M := ⟨_, rfl⟩
  rw [hMe]
  have HMb : Hid (b ∈ M ∧ (∀ i, i ∈ (Value.slice nad names.length ncp).ownBlock.toList → i ∈ M) ∧ (∀ i, i ∈ (Value.slice tad things.length tcp).ownBlock.toList → i ∈ M)) := by
    rw [← hMe]
    exact ⟨by simp, fun i hi => by simp only [List.mem_cons, List.mem_append]; exact Or.inr (Or.inl hi), fun i hi => by simp only [List.mem_cons, List.mem_append]; exact Or.inr (Or.inr hi)⟩
  have HLo : Hid (∀ wr, Kept M w wr → Low b w wr) := by
    intro wr hk
    refine Low.of hk (by omega) (fun i hi => ?_)
    rw [← hMe] at hi
    simp only [List.mem_cons, List.mem_append] at hi
    rcases hi with hi | hi | hi
    · omega
    · exact h.lows.1 i hi
    · exact h.lows.2 i hi
  clear hMe
  have HTm : Hid (∀ wr, Low b w wr → Calls Tryz.prog 132 #[.agg (pcvCells c).toArray] wr fun e w' => ∃ ad cp, e = .returned (.slice ad (termsV c).length cp) ∧ w'.ownsRow wr.heap.size 182 2 (.slice ad (termsV c).length cp) (termsV c).length ((termsV c).flatMap ctermVal) ∧ Kept [] wr w') := fun wr hk => cterms_any c wr (hc.low hk).at_ hf
  have HAdd : Hid (∀ wr ad cap l, Low b w wr → wr.ownsRow (b + 1) 9 1 (.slice ad l.length cap) l.length (l.flatMap strCell) → l.length ≤ 900000 → Rise ltS l → b + 1 ≤ wr.heap.size → Calls Tryz.prog 131 #[.slice ad l.length cap, .agg (pcvCells c).toArray] wr fun e w' => ∃ l' ad' cp', e = .returned (.slice ad' l'.length cp') ∧ AddsOut (b + 1) (.slice ad l.length cap) l (namesV c) wr l' ad' cp' w') := fun wr ad cap l hk h1 h2 h3 h4 => addNames_any c ad cap l (b + 1) wr (hc.low hk).at_ hf.lits h1 h2 h3 h4
  have HNl : Hid ((namesV c).length ≤ 1001) := by
    show _ ≤ _
    have := hf.lits
    have h2 := List.length_filter_le (fun p => hasAtomB p.1) c.lvs
    simp only [namesV, bodyNames, List.length_cons, List.length_map]
    omega
  generalize termsV c = TV at HTm hT ⊢
  generalize namesV c = NV at HAdd HNl ⊢
  obtain ⟨hp, hn', hts, hv, bv, lvs⟩ := c
  have hat := hc.at_
  clear hc hf
  simp only at hat
  obtain ⟨adh, cph, rfl⟩ := row_nil hat.head
  obtain ⟨adb, cpb, rfl⟩ := row_nil hat.body.row
  clear hat
  simp only [pcvCells] at HTm HAdd ⊢
  have c0 := h.blk.cell 0
  have cf := h.blk.frozen
  have d0 := fun o => (h.blk.alloc o).cell 0
  have df := fun o => (h.blk.alloc o).frozen
  simp at c0 d0
  have q1 : ¬ b = w.heap.size := by omega
  have q2 : ¬ w.heap.size = b := by omega
  have H0 := hide h
  clear h
  go_enter Tryz.func87, Tryz.ntmps87
  go_wp2_with fail
  obtain ⟨N, hNe⟩ : ∃ N, w.heap.size = N := ⟨_, rfl⟩
  have hbN : b < N := by omega
  have HN1 : Hid (Blk ((w.setCell ⟨b, 0, none⟩ (.int .i64 ((n : Int) + 1))).alloc (.cells [.int .i64 hp, .string hn', .slice adh hts.length cph, .slice adb lvs.length cpb].toArray 173)) N [.int .i64 hp, .string hn', .slice adh hts.length cph, .slice adb lvs.length cpb] 173) := by
    have hh := Blk.new (w.setCell ⟨b, 0, none⟩ (.int .i64 ((n : Int) + 1))) [.int .i64 hp, .string hn', .slice adh hts.length cph, .slice adb lvs.length cpb] 173
    rw [show (w.setCell ⟨b, 0, none⟩ (.int .i64 ((n : Int) + 1))).heap.size = N from by simp [hNe]] at hh
    exact hh
  have HC1 := hide (((unhide H0).setN (m := (n : Int) + 1)).kept ((Kept.refl [] _).alloc (.cells [.int .i64 hp, .string hn', .slice adh hts.length cph, .slice adb lvs.length cpb].toArray 173)))
  have HL1 : Hid (Kept M w ((w.setCell ⟨b, 0, none⟩ (.int .i64 ((n : Int) + 1))).alloc (.cells [.int .i64 hp, .string hn', .slice adh hts.length cph, .slice adb lvs.length cpb].toArray 173))) := ((Kept.refl M w).setCell (p := ⟨b, 0, none⟩) (Or.inl (unhide HMb).1) _).alloc _
  have HNn : Hid ((Value.slice nad names.length ncp).ownBlock ≠ some N ∧ (Value.slice tad things.length tcp).ownBlock ≠ some N) := ⟨fun e => by have := ((unhide H0).rn.lt _ e).2; omega, fun e => by have := ((unhide H0).rt.lt _ e).2; omega⟩
  have hs1 : N + 1 ≤ ((w.setCell ⟨b, 0, none⟩ (.int .i64 ((n : Int) + 1))).alloc (.cells [.int .i64 hp, .string hn', .slice adh hts.length cph, .slice adb lvs.length cpb].toArray 173)).heap.size := by simp [hNe]
  clear c0 cf d0 df q1 q2 H0
  change Code.wp _ _ _ _ ((w.setCell ⟨b, 0, none⟩ (.int .i64 ((n : Int) + 1))).alloc (.cells [.int .i64 hp, .string hn', .slice adh hts.length cph, .slice adb lvs.length cpb].toArray 173))
  generalize (w.setCell ⟨b, 0, none⟩ (.int .i64 ((n : Int) + 1))).alloc (.cells [.int .i64 hp, .string hn', .slice adh hts.length cph, .slice adb lvs.length cpb].toArray 173) = w1 at HN1 HC1 HL1 hs1 ⊢
  rw [hNe]
  have HNe := hide hNe
  clear hNe
  have HSt : Hid (Calls Tryz.prog 131 #[.slice nad names.length ncp, .agg #[.int .i64 hp, .string hn', .slice adh hts.length cph, .slice adb lvs.length cpb]] w1.drew fun e w' => ∃ l' ad' cp', e = .returned (.slice ad' l'.length cp') ∧ CenStep M b N [.int .i64 hp, .string hn', .slice adh hts.length cph, .slice adb lvs.length cpb] w w' 1 (.slice nad names.length ncp) (.slice ad' l'.length cp') ((n : Int) + 1) (.slice ad' l'.length cp') (.slice tad things.length tcp) l' things ∧ (∀ y, y ∈ l' ↔ y ∈ NV ∨ y ∈ names) ∧ l'.length ≤ names.length + 1001 ∧ N + 1 ≤ w'.heap.size) := by
    refine (unhide HAdd w1.drew nad ncp names (unhide HLo _ (unhide HL1).drew) (unhide HC1).drew.rn (by omega) (unhide HC1).rin (by show b + 1 ≤ w1.heap.size; omega)).mono ?_
    rintro e w' ⟨l', ad', cp', rfl, hA⟩
    obtain ⟨hcen, hcell, hfr⟩ := (unhide HC1).drew.names hA.kept hA.own hA.new hA.rise
    have hl1 := (unhide HC1).drew.lows.1
    refine ⟨l', ad', cp', rfl, ⟨hcell, hfr, hcen, ?_, ?_⟩, hA.mem, by have := hA.le; have := unhide HNl; omega, by have := hA.kept.size; have h2 : w1.drew.heap.size = w1.heap.size := rfl; omega⟩
    · exact ((unhide HL1).drew.trans' hA.kept (fun i hi => Or.inl ((unhide HMb).2.1 i hi))).setCell (p := ⟨b, 1, none⟩) (Or.inl (unhide HMb).1) _
    · exact ((unhide HN1).drew.kept hA.kept (fun hm => (unhide HNn).1 (by simpa using hm))).set_other ⟨b, 1, none⟩ (by simp; omega) _
  have e1 := (unhide HC1).blk.cell 1
  have b0 := (unhide HN1).cell 0
  have b1 := (unhide HN1).cell 1
  have b2 := (unhide HN1).cell 2
  have b3 := (unhide HN1).cell 3
  simp at e1 b0 b1 b2 b3
  clear HAdd HC1 HL1 HN1
  go_region_law
    (go_simp; go_at_call 131; refine (unhide HSt).mono ?_; rintro e wt ⟨l', ad', cp', rfl, hst, hmem, hlen, hsz⟩; have ecell := hst.cell; have efr := hst.frozen; have HST := hide hst; clear hst)
  all_goals
    have HC2 := hide (unhide HST).cen
    have HL2 := hide (unhide HST).low
    have HN2 := hide (unhide HST).box
    have hs2 : N + 1 ≤ (wt.setCell ⟨b, 1, none⟩ (.slice ad' l'.length cp')).heap.size := by simp; omega
    have HMm := hide hmem
    clear HST ecell efr HSt hmem e1 b0 b1 b2 b3 hsz
    generalize wt.setCell ⟨b, 1, none⟩ (.slice ad' l'.length cp') = w2 at HC2 HL2 HN2 hs2 ⊢
    have b0 := (unhide HN2).cell 0
    have b1 := (unhide HN2).cell 1
    have b2 := (unhide HN2).cell 2
    have b3 := (unhide HN2).cell 3
    simp at b0 b1 b2 b3
    have HTr := hide (unhide HTm w2 (unhide HLo _ (unhide HL2)))
    clear HTm
    go_wp2_with fail
    refine (unhide HTr).mono ?_
    rintro e w3 ⟨ad3, cp3, rfl, hrow3, k3⟩
    have HC3 := hide ((unhide HC2).kept k3)
    have HL3 := hide ((unhide HL2).trans' k3 (by simp))
    have HR3 := hide hrow3
    have hs3 := k3.size
    have HT0 : Hid (∀ q, (Value.slice tad things.length tcp).ownBlock = some q → q < w2.heap.size) := fun q hq => ((unhide HC2).rt.lt q hq).2
    have HN0 := hide (unhide HNn).2
    clear HTr HC2 HL2 HN2 hrow3 k3 b0 b1 b2 b3
    go_wp2
    go_loopg [25] TV.length (fun gk i wr => ∃ (k : Nat) (th : List ByteArray) (ad4 : Option Addr) (cp4 : Nat), i = .int .i64 k ∧ k ≤ TV.length ∧ gk = TV.length - k ∧ th.length ≤ things.length + k ∧ Hid (CenIn wr b ((n : Int) + 1) (.slice ad' l'.length cp') (.slice ad4 th.length cp4) l' th) ∧ Hid (ThingsIs (TV.take k) things th) ∧ Hid (Kept M w wr) ∧ Hid (wr.ownsRow w2.heap.size 182 2 (.slice ad3 TV.length cp3) TV.length (TV.flatMap ctermVal)) ∧ Hid (∀ q, (Value.slice ad4 th.length cp4).ownBlock = some q → (Value.slice tad things.length tcp).ownBlock = some q ∨ w3.heap.size ≤ q) ∧ w3.heap.size ≤ wr.heap.size)
    case atStart => exact ⟨0, things, tad, tcp, rfl, by omega, rfl, by omega, HC3, fun y => by simp, HL3, HR3, fun q hq => Or.inl hq, by omega⟩
    case round =>
      clear HC3 HL3
      obtain ⟨k, th, ad4, cp4, rfl, hk, hgk, hthl, HC, HT, HL, HR, HNw, hsr⟩ := hrel
      have HG := hide hgk
      clear hgk
      by_cases hlt : k < TV.length
      · obtain ⟨g, cap, he, d0, d1⟩ := term_cells (unhide HR) k hlt
        simp only [Value.slice.injEq] at he
        obtain ⟨rfl, _, rfl⟩ := he
        have HCa := hide ((unhide HC).kept ((Kept.refl [] wr).alloc (.cells [.int .i32 TV[k].v, .string TV[k].s].toArray 182)))
        have HLa := hide ((unhide HL).alloc (.cells [.int .i32 TV[k].v, .string TV[k].s].toArray 182))
        have HRa := hide (ownsRow_kept (unhide HR) ((Kept.refl [] wr).alloc (.cells [.int .i32 TV[k].v, .string TV[k].s].toArray 182)) (by simp))
        have hsa : w3.heap.size ≤ (wr.alloc (.cells [.int .i32 TV[k].v, .string TV[k].s].toArray 182)).heap.size := by simp; omega
        cases hv : (TV[k].v == 0) with
        | false =>
          have HT2' : Hid (ThingsIs (TV.take (k + 1)) things th) := by
            intro y
            rw [(unhide HT) y, List.take_succ_eq_append_getElem hlt]
            have hz : TV[k].v ≠ 0 := by simpa using hv
            constructor
            · rintro (⟨t, h1, h2⟩ | h1)
              · exact Or.inl ⟨t, List.mem_append_left _ h1, h2⟩
              · exact Or.inr h1
            · rintro (⟨t, h1, h2⟩ | h1)
              · rcases List.mem_append.1 h1 with h1 | h1
                · exact Or.inl ⟨t, h1, h2⟩
                · simp only [List.mem_singleton] at h1
                  subst h1
                  exact absurd h2.1 hz
              · exact Or.inr h1
          clear HT
          go_wp2
          go_roundg (TV.length - (k + 1))
          case measure => have := unhide HG; omega
          case rel => exact ⟨k + 1, th, ad4, cp4, by go_num, by omega, rfl, by omega, HCa, HT2', HLa, HRa, HNw, hsa⟩
        | true =>
          have hz : TV[k].v = 0 := by simpa using hv
          have HZ := hide hz
          have HSt : Hid (Calls Tryz.prog 133 #[.slice ad4 th.length cp4, .string TV[k].s] (wr.alloc (.cells [.int .i32 TV[k].v, .string TV[k].s].toArray 182)).drew fun e w' => ∃ l5 ad5 cp5, e = .returned (.slice ad5 l5.length cp5) ∧ w'.cell? ⟨b, 2, none⟩ = some (.slice ad4 th.length cp4) ∧ w'.frozen? ⟨b, 2, none⟩ = false ∧ CenIn (w'.setCell ⟨b, 2, none⟩ (.slice ad5 l5.length cp5)) b ((n : Int) + 1) (.slice ad' l'.length cp') (.slice ad5 l5.length cp5) l' l5 ∧ ThingsIs (TV.take (k + 1)) things l5 ∧ l5.length ≤ things.length + (k + 1) ∧ Kept M w (w'.setCell ⟨b, 2, none⟩ (.slice ad5 l5.length cp5)) ∧ (w'.setCell ⟨b, 2, none⟩ (.slice ad5 l5.length cp5)).ownsRow w2.heap.size 182 2 (.slice (some ⟨g, 0, none⟩) TV.length cp3) TV.length (TV.flatMap ctermVal) ∧ (∀ q, (Value.slice ad5 l5.length cp5).ownBlock = some q → (Value.slice tad things.length tcp).ownBlock = some q ∨ w3.heap.size ≤ q) ∧ w3.heap.size ≤ (w'.setCell ⟨b, 2, none⟩ (.slice ad5 l5.length cp5)).heap.size) := by
            have hCd := (unhide HCa).drew
            refine (addT_any ad4 cp4 th TV[k].s (b + 1) _ hCd.rt (by omega) hCd.rit (by show b + 1 ≤ (wr.alloc _).heap.size; simp; omega)).mono ?_
            rintro e w' ⟨l5, ad5, cp5, rfl, q1, q2, q3, q4, q5, q6, q7⟩
            obtain ⟨hcen, hcell, hfr⟩ := hCd.things q6 q5 q7 q1
            have hsd : (wr.alloc (.cells [.int .i32 TV[k].v, .string TV[k].s].toArray 182)).drew.heap.size = wr.heap.size + 1 := by
              show (wr.alloc _).heap.size = _
              simp
            have hs6 := q6.size
            refine ⟨l5, ad5, cp5, rfl, hcell, hfr, hcen, ?_, by omega, ?_, ?_, ?_, ?_⟩
            · intro y
              rw [q2, (unhide HT) y, List.take_succ_eq_append_getElem hlt]
              constructor
              · rintro (h1 | ⟨t, h1, h2⟩ | h1)
                · exact Or.inl ⟨TV[k], List.mem_append_right _ (List.mem_singleton.2 rfl), unhide HZ, h1.symm⟩
                · exact Or.inl ⟨t, List.mem_append_left _ h1, h2⟩
                · exact Or.inr h1
              · rintro (⟨t, h1, h2⟩ | h1)
                · rcases List.mem_append.1 h1 with h1 | h1
                  · exact Or.inr (Or.inl ⟨t, h1, h2⟩)
                  · simp only [List.mem_singleton] at h1
                    subst h1
                    exact Or.inl h2.2.symm
                · exact Or.inr (Or.inr h1)
            · refine ((unhide HLa).drew.trans' q6 (fun i hi => ?_)).setCell (p := ⟨b, 2, none⟩) (Or.inl (unhide HMb).1) _
              rcases unhide HNw i (by simpa using hi) with h1 | h1
              · exact Or.inl ((unhide HMb).2.2 i (by simpa using h1))
              · exact Or.inr (by have := unhide HNe; omega)
            · have hr6 := ownsRow_keptOf (ownsRow_drew (unhide HRa)) q6 (fun i hi hm => by
                have h1 := ((unhide HR3).lt i hi)
                rcases (unhide HNw) i (by simpa using hm) with h2 | h2
                · have := unhide HT0 i h2
                  omega
                · omega)
              exact ownsRow_set hr6 (p := ⟨b, 2, none⟩) (fun e => by have := (hr6.lt _ e).1; simp at this; omega) _
            · intro q hq
              rcases q7 q hq with h1 | h1
              · exact unhide HNw q h1
              · exact Or.inr (by omega)
            · simp; omega
          have e2 := (unhide HCa).blk.cell 2
          simp at e2
          clear HCa HLa HRa HT HL HC HR hsa hz
          go_wp2_with fail
          go_region_law
            (go_simp; go_at_call 133; refine (unhide HSt).mono ?_; rintro e wt5 ⟨l5, ad5, cp5, rfl, ecell, efr, r1, r2, r3, r4, r5, r6, r7⟩; have HST := hide (And.intro r1 (And.intro r2 (And.intro r4 (And.intro r5 (And.intro r6 r7))))); clear r1 r2 r4 r5 r6 r7)
          all_goals
            clear HSt
            go_wp2_with fail
            go_roundg (TV.length - (k + 1))
            case measure => have := unhide HG; omega
            case rel =>
              obtain ⟨r1, r2, r4, r5, r6, r7⟩ := unhide HST
              exact ⟨k + 1, l5, ad5, cp5, by go_num, by omega, rfl, r3, r1, r2, r4, r5, r6, r7⟩
      · have HE : Hid (ThingsIs TV things th) := by
          have h := unhide HT
          rw [List.take_of_length_le (by omega)] at h
          exact h
        go_wp2
        go_end0
        exact ⟨rfl, _, _, l', th, unhide HC, unhide HMm, unhide HE, hlen, by omega, unhide HL⟩

end Go.Proofs.YtbnnbnmlocefdaaGreatDoor
