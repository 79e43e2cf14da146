import Derived.Test.YtoihbhenbmffcaaGreatDoorCenA
import Derived.Test.YtoihbhenbmffcaaGreatDoorInsT
set_option linter.unusedVariables false
set_option linter.unusedSimpArgs false

namespace Go.Proofs.YtoihbhenbmffcaaGreatDoor
open Go.RowKit

/-- A cell of the census turned: the rest stays. -/
theorem CenIn.setN {w : World} {b : Nat} {n m : Int} {nv tv : Value} {names things : List ByteArray} (h : CenIn w b n nv tv names things) : CenIn (w.setCell ⟨b, 0, none⟩ (.int .i64 m)) b m nv tv names things := by
  have hne : ∀ {e : TypeId} {sz : Nat} {v : Value} {k : Nat} {xs : List Value}, w.ownsRow (b + 1) e sz v k xs → v.ownBlock ≠ some b := fun h e => by have := (h.lt b e).1; omega
  exact ⟨h.blk.set 0 _, ownsRow_set h.rn (p := ⟨b, 0, none⟩) (hne h.rn) _, ownsRow_set h.rt (p := ⟨b, 0, none⟩) (hne h.rt) _, h.ant, h.rin, h.rit⟩

theorem new_apart {w : World} {v v' u : Value} {base : Nat} {e : TypeId} {sz k : Nat} {xs : List Value} (hu : w.ownsRow base e sz u k xs) (ha : Apart v u) (hn : ∀ q, v'.ownBlock = some q → v.ownBlock = some q ∨ w.heap.size ≤ q) : Apart v' u := fun q hq he => by
  rcases hn q hq with h | h
  · exact ha q h he
  · have := (hu.lt q he).2; omega

/-- New names. -/
theorem CenIn.names {w w' : World} {b : Nat} {n : Int} {nv tv : Value} {names things : List ByteArray} (h : CenIn w b n nv tv names things) {nv' : Value} {names' : List ByteArray}
    (hk : Kept nv.ownBlock.toList w w') (ho : w'.ownsRow (b + 1) 9 1 nv' names'.length (names'.flatMap strCell)) (hn : ∀ q, nv'.ownBlock = some q → nv.ownBlock = some q ∨ w.heap.size ≤ q) (hr : Rise ltS names') :
    CenIn (w'.setCell ⟨b, 1, none⟩ nv') b n nv' tv names' things ∧ w'.cell? ⟨b, 1, none⟩ = some nv ∧ w'.frozen? ⟨b, 1, none⟩ = false := by
  have hne : ∀ {w : World} {e : TypeId} {sz : Nat} {v : Value} {k : Nat} {xs : List Value}, w.ownsRow (b + 1) e sz v k xs → v.ownBlock ≠ some b := fun h e => by have := (h.lt b e).1; omega
  have hb : Blk w' b [.int .i64 n, nv, tv] 210 := h.blk.kept hk (fun hm => hne h.rn (by simpa using hm))
  have ht := ownsRow_keptOf h.rt hk (fun i hi hm => h.ant i (by simpa using hm) hi)
  exact ⟨⟨hb.set 1 _, ownsRow_set ho (p := ⟨b, 1, none⟩) (hne ho) _, ownsRow_set ht (p := ⟨b, 1, none⟩) (hne ht) _, new_apart h.rt h.ant hn, hr, h.rit⟩, hb.cell 1, hb.frozen 1⟩

theorem CenIn.things {w w' : World} {b : Nat} {n : Int} {nv tv : Value} {names things : List ByteArray} (h : CenIn w b n nv tv names things) {tv' : Value} {things' : List ByteArray}
    (hk : Kept tv.ownBlock.toList w w') (ho : w'.ownsRow (b + 1) 170 1 tv' things'.length (things'.flatMap strCell)) (hn : ∀ q, tv'.ownBlock = some q → tv.ownBlock = some q ∨ w.heap.size ≤ q) (hr : Rise ltS things') :
    CenIn (w'.setCell ⟨b, 2, none⟩ tv') b n nv tv' names things' ∧ w'.cell? ⟨b, 2, none⟩ = some tv ∧ w'.frozen? ⟨b, 2, none⟩ = false := by
  have hne : ∀ {w : World} {e : TypeId} {sz : Nat} {v : Value} {k : Nat} {xs : List Value}, w.ownsRow (b + 1) e sz v k xs → v.ownBlock ≠ some b := fun h e => by have := (h.lt b e).1; omega
  have hb : Blk w' b [.int .i64 n, nv, tv] 210 := h.blk.kept hk (fun hm => hne h.rt (by simpa using hm))
  have ht := ownsRow_keptOf h.rn hk (fun i hi hm => h.ant i hi (by simpa using hm))
  exact ⟨⟨hb.set 2 _, ownsRow_set ht (p := ⟨b, 2, none⟩) (hne ht) _, ownsRow_set ho (p := ⟨b, 2, none⟩) (hne ho) _, (new_apart h.rn h.ant.symm hn).symm, h.rin, hr⟩, hb.cell 2, hb.frozen 2⟩

theorem CenIn.lows {w : World} {b : Nat} {n : Int} {nv tv : Value} {names things : List ByteArray} (h : CenIn w b n nv tv names things) : (∀ i, i ∈ nv.ownBlock.toList → b ≤ i) ∧ (∀ i, i ∈ tv.ownBlock.toList → b ≤ i) :=
  ⟨fun i hi => by have := (h.rn.lt i (by simpa using hi)).1; omega, fun i hi => by have := (h.rt.lt i (by simpa using hi)).1; omega⟩

theorem Low.drew {b : Nat} {u w : World} (h : Low b u w) : Low b u w.drew := ⟨h.os, h.tape, h.output, h.size, h.block⟩
theorem CenIn.drew {w : World} {b : Nat} {n : Int} {nv tv : Value} {names things : List ByteArray} (h : CenIn w b n nv tv names things) : CenIn w.drew b n nv tv names things := h.kept (Kept.refl [] w).drew

/-- What a step that turns one cell of the census comes to. -/
structure CenStep (M : List Nat) (b N : Nat) (cs : List Value) (u w' : World) (i : Nat) (old new : Value) (n : Int) (nv tv : Value) (names things : List ByteArray) : Prop where
  cell : w'.cell? ⟨b, i, none⟩ = some old
  frozen : w'.frozen? ⟨b, i, none⟩ = false
  cen : CenIn (w'.setCell ⟨b, i, none⟩ new) b n nv tv names things
  low : Kept M u (w'.setCell ⟨b, i, none⟩ new)
  box : Blk (w'.setCell ⟨b, i, none⟩ new) N cs 189

/-- The things among terms. -/
def ThingsIs (ts : List CTerm) (l l' : List ByteArray) : Prop := ∀ y, y ∈ l' ↔ (∃ t ∈ ts, t.v = 0 ∧ t.s = y) ∨ y ∈ l

/-- What a call that adds things comes to. -/
structure AddsTOut (base : Nat) (lv : Value) (l : List ByteArray) (ts : List CTerm) (w : World) (l' : List ByteArray) (ad' : Option Addr) (cp' : Nat) (w' : World) : Prop where
  rise : Rise ltS l'
  mem : ThingsIs ts l l'
  le : l'.length ≤ l.length + ts.length
  own : w'.ownsRow base 170 1 (.slice ad' l'.length cp') l'.length (l'.flatMap strCell)
  kept : Kept lv.ownBlock.toList w w'
  new : ∀ k, (Value.slice ad' l'.length cp').ownBlock = some k → lv.ownBlock = some k ∨ w.heap.size ≤ k

theorem ThingsIs.skip {l l' : List ByteArray} {TV : List CTerm} {k : Nat} (hlt : k < TV.length) (hz : TV[k].v ≠ 0) (h : ThingsIs (TV.take k) l l') : ThingsIs (TV.take (k + 1)) l l' := by
  intro y
  rw [h y, List.take_succ_eq_append_getElem hlt]
  constructor
  · rintro (⟨t, h1, h2⟩ | h1)
    · exact Or.inl ⟨t, List.mem_append_left _ h1, h2⟩
    · exact Or.inr h1
  · rintro (⟨t, h1, h2⟩ | h1)
    · rcases List.mem_append.1 h1 with h1 | h1
      · exact Or.inl ⟨t, h1, h2⟩
      · simp only [List.mem_singleton] at h1
        subst h1
        exact absurd h2.1 hz
    · exact Or.inr h1

theorem ThingsIs.take {l l' l5 : List ByteArray} {TV : List CTerm} {k : Nat} (hlt : k < TV.length) (hz : TV[k].v = 0) (h : ThingsIs (TV.take k) l l') (q2 : ∀ y, y ∈ l5 ↔ y = TV[k].s ∨ y ∈ l') : ThingsIs (TV.take (k + 1)) l l5 := by
  intro y
  rw [q2, h y, List.take_succ_eq_append_getElem hlt]
  constructor
  · rintro (h1 | ⟨t, h1, h2⟩ | h1)
    · exact Or.inl ⟨TV[k], List.mem_append_right _ (List.mem_singleton.2 rfl), hz, h1.symm⟩
    · exact Or.inl ⟨t, List.mem_append_left _ h1, h2⟩
    · exact Or.inr h1
  · rintro (⟨t, h1, h2⟩ | h1)
    · rcases List.mem_append.1 h1 with h1 | h1
      · exact Or.inr (Or.inl ⟨t, h1, h2⟩)
      · simp only [List.mem_singleton] at h1
        subst h1
        exact Or.inl h2.2.symm
    · exact Or.inr (Or.inr h1)

set_option maxRecDepth 100000 in
set_option maxHeartbeats 1600000 in
theorem addThings_any (c : PCV) (ad : Option Addr) (cap : Nat) (l : List ByteArray) (base : Nat) (w : World) (h : PcAt w 0 c.hv c.bv c.hts c.lvs) (hf : PcFit c) (hT : (termsV c).length ≤ 90000)
    (hl : w.ownsRow base 170 1 (.slice ad l.length cap) l.length (l.flatMap strCell)) (hll : l.length ≤ 900000) (hr : Rise ltS l) (hbase : base ≤ w.heap.size) :
    Calls Tryz.prog 148 #[.slice ad l.length cap, .agg (pcvCells c).toArray] w fun e w' => ∃ l' ad' cp', e = .returned (.slice ad' l'.length cp') ∧ AddsTOut base (.slice ad l.length cap) l (termsV c) w l' ad' cp' w' := by
  have hAt := hide (cterms_any c (w.alloc (.cells (pcvCells c).toArray 189)) (h.kept ((Kept.refl [] w).alloc _) (by simp)) hf)
  generalize termsV c = TV at hAt hT ⊢
  obtain ⟨hp, hn, hts, hv, bv, lvs⟩ := c
  simp only at h
  obtain ⟨adh, cph, rfl⟩ := row_nil h.head
  obtain ⟨adb, cpb, rfl⟩ := row_nil h.body.row
  have HL := hide hl
  have HRi := hide hr
  clear h hl hr hf
  simp only [pcvCells] at hAt ⊢
  go_enter Tryz.func148, Tryz.ntmps148
  go_wp2_with fail
  refine (unhide hAt).mono ?_
  rintro e w2 ⟨ad2, cp2, rfl, hown, k2⟩
  have hK2 : Hid (Kept [] w w2) := ((Kept.refl [] w).alloc _).trans k2
  have hs2 : w.heap.size + 1 ≤ w2.heap.size := by have := k2.size; simpa using this
  have HO := hide (ownsRow_base hown (show w.heap.size ≤ _ by simp))
  clear hAt hown k2
  go_wp2
  go_loopg [0, 10] TV.length (fun gk o i wr => ∃ (k : Nat) (m : List ByteArray) (ad3 : Option Addr) (cp3 : Nat), o = .slice ad3 m.length cp3 ∧ i = .int .i64 k ∧ k ≤ TV.length ∧ gk = TV.length - k ∧ m.length ≤ l.length + k ∧ Hid (AddsTOut base (.slice ad l.length cap) l (TV.take k) w m ad3 cp3 wr) ∧ Hid (wr.ownsRow w.heap.size 215 2 (.slice ad2 TV.length cp2) TV.length (TV.flatMap ctermVal)) ∧ Hid (∀ q, (Value.slice ad3 m.length cp3).ownBlock = some q → (Value.slice ad l.length cap).ownBlock = some q ∨ w2.heap.size ≤ q) ∧ w2.heap.size ≤ wr.heap.size)
  case atStart => exact ⟨0, l, ad, cap, rfl, rfl, by omega, rfl, by omega, ⟨unhide HRi, fun y => by simp, by omega, ownsRow_kept (unhide HL) (unhide hK2) (by simp), (unhide hK2).mono (by simp), fun k hk => Or.inl hk⟩, HO, fun q hq => Or.inl hq, by omega⟩
  case round =>
    clear hK2
    obtain ⟨k, m, ad3, cp3, rfl, rfl, hk, hgk, hml, HAd, HO3, HNew, hs3⟩ := hrel
    have HG := hide hgk
    clear hgk
    by_cases hlt : k < TV.length
    · obtain ⟨g, cap3, he, d0, d1⟩ := term_cells (unhide HO3) k hlt
      simp only [Value.slice.injEq] at he
      obtain ⟨rfl, _, rfl⟩ := he
      have hka : Kept [] wr (wr.alloc (.cells [.int .i32 TV[k].v, .string TV[k].s].toArray 215)) := (Kept.refl [] wr).alloc _
      have HOa := hide (ownsRow_kept (unhide HO3) hka (by simp))
      have hsa : w2.heap.size ≤ (wr.alloc (.cells [.int .i32 TV[k].v, .string TV[k].s].toArray 215)).heap.size := by simp; omega
      cases hv : (TV[k].v == 0) with
      | false =>
        have hz : TV[k].v ≠ 0 := by simpa using hv
        have HR4 : Hid (AddsTOut base (.slice ad l.length cap) l (TV.take (k + 1)) w m ad3 cp3 (wr.alloc (.cells [.int .i32 TV[k].v, .string TV[k].s].toArray 215))) := by
          have hA := unhide HAd
          refine ⟨hA.rise, hA.mem.skip hlt hz, ?_, World.ownsRow.alloc hA.own _, hA.kept.alloc _, hA.new⟩
          have := hA.le
          simp only [List.length_take] at this ⊢
          omega
        clear HAd HO3 hka hz
        go_wp2
        go_roundg (TV.length - (k + 1))
        case measure => have := unhide HG; omega
        case rel => exact ⟨k + 1, m, ad3, cp3, rfl, by go_num, by omega, rfl, by omega, HR4, HOa, HNew, hsa⟩
      | true =>
        have hz : TV[k].v = 0 := by simpa using hv
        have HZ := hide hz
        have HAd2 := hide (addT_any ad3 cp3 m TV[k].s base (wr.alloc (.cells [.int .i32 TV[k].v, .string TV[k].s].toArray 215)) (World.ownsRow.alloc (unhide HAd).own _) (by omega) (unhide HAd).rise (by simp; omega))
        clear hz hka
        go_wp2_with fail
        refine (unhide HAd2).mono ?_
        rintro e w4 ⟨m', ad4, cp4, rfl, q1, q2, q3, q4, q5, q6, q7⟩
        have hk4 : Kept (Value.slice ad3 m.length cp3).ownBlock.toList wr w4 := ((Kept.refl _ wr).alloc _).trans q6
        have hs4 : wr.heap.size + 1 ≤ w4.heap.size := by have := q6.size; simpa using this
        have HR4 : Hid (AddsTOut base (.slice ad l.length cap) l (TV.take (k + 1)) w m' ad4 cp4 w4) := by
          have hA := unhide HAd
          refine ⟨q1, hA.mem.take hlt (unhide HZ) q2, ?_, q5, hA.kept.trans' hk4 (fun i hi => ?_), fun q hq => ?_⟩
          · have := hA.le
            simp only [List.length_take] at this ⊢
            omega
          · rcases hA.new i (by simpa using hi) with h | h
            · exact Or.inl (by simp [h])
            · exact Or.inr h
          · rcases q7 q hq with h | h
            · exact hA.new q h
            · exact Or.inr (by have := hA.kept.size; simp at h; omega)
        have HO4 : Hid (w4.ownsRow w.heap.size 215 2 (.slice (some ⟨g, 0, none⟩) TV.length cp2) TV.length (TV.flatMap ctermVal)) := by
          refine ownsRow_keptOf (unhide HO3) hk4 (fun i hi hm => ?_)
          have h1 := ((unhide HO).lt i hi)
          rcases unhide HNew i (by simpa using hm) with h | h
          · have := ((unhide HL).lt i h).2
            omega
          · omega
        have HNew4 : Hid (∀ q, (Value.slice ad4 m'.length cp4).ownBlock = some q → (Value.slice ad l.length cap).ownBlock = some q ∨ w2.heap.size ≤ q) := by
          intro q hq
          rcases q7 q hq with h | h
          · exact unhide HNew q h
          · exact Or.inr (by simp at h; omega)
        clear HAd2 q1 q2 q3 q5 q6 q7 hk4 HAd HO3 HOa hsa HNew d0 d1
        go_wp2
        go_roundg (TV.length - (k + 1))
        case measure => have := unhide HG; omega
        case rel => exact ⟨k + 1, m', ad4, cp4, rfl, by go_num, by omega, rfl, by omega, HR4, HO4, HNew4, by omega⟩
    · have HE : Hid (AddsTOut base (.slice ad l.length cap) l TV w m ad3 cp3 wr) := by
        have h := unhide HAd
        rw [List.take_of_length_le (by omega)] at h
        exact h
      go_wp2
      go_ret
      exact ⟨m, ad3, cp3, rfl, unhide HE⟩

set_option maxRecDepth 100000 in
set_option maxHeartbeats 1600000 in
theorem count_any (b : Nat) (n : Nat) (nv tv : Value) (names things : List ByteArray) (c : PCV) (w : World) (h : CenIn w b n nv tv names things) (hc : PcIn w b c) (hf : PcFit c) (hT : (termsV c).length ≤ 90000) (hn : n ≤ 1000) (hnm : names.length ≤ 800000) (hth : things.length ≤ 800000) :
    Calls Tryz.prog 116 #[.pointer (some ⟨b, 0, none⟩), .agg (pcvCells c).toArray] w fun e w' => e = .returned (.tuple #[]) ∧ ∃ nv' tv' names' things', CenIn w' b ((n + 1 : Nat) : Int) nv' tv' names' things' ∧ (∀ y, y ∈ names' ↔ y ∈ namesV c ∨ y ∈ names) ∧ ThingsIs (termsV c) things things' ∧ names'.length ≤ names.length + 1001 ∧ things'.length ≤ things.length + 90000 ∧ Kept (b :: (nv.ownBlock.toList ++ tv.ownBlock.toList)) w w' := by
  have hbw := h.blk.lt
  obtain ⟨nad, ncp, rfl⟩ := row_nil h.rn
  obtain ⟨tad, tcp, rfl⟩ := row_nil h.rt
  obtain ⟨M, hMe⟩ : ∃ M, b :: ((Value.slice nad names.length ncp).ownBlock.toList ++ (Value.slice tad things.length tcp).ownBlock.toList) = M := ⟨_, rfl⟩
  rw [hMe]
  have HMb : Hid (b ∈ M ∧ (∀ i, i ∈ (Value.slice nad names.length ncp).ownBlock.toList → i ∈ M) ∧ (∀ i, i ∈ (Value.slice tad things.length tcp).ownBlock.toList → i ∈ M)) := by
    rw [← hMe]
    exact ⟨by simp, fun i hi => by simp only [List.mem_cons, List.mem_append]; exact Or.inr (Or.inl hi), fun i hi => by simp only [List.mem_cons, List.mem_append]; exact Or.inr (Or.inr hi)⟩
  have HLo : Hid (∀ wr, Kept M w wr → Low b w wr) := by
    intro wr hk
    refine Low.of hk (by omega) (fun i hi => ?_)
    rw [← hMe] at hi
    simp only [List.mem_cons, List.mem_append] at hi
    rcases hi with hi | hi | hi
    · omega
    · exact h.lows.1 i hi
    · exact h.lows.2 i hi
  clear hMe
  have HTm : Hid (∀ wr ad cap l, Low b w wr → wr.ownsRow (b + 1) 170 1 (.slice ad l.length cap) l.length (l.flatMap strCell) → l.length ≤ 900000 → Rise ltS l → b + 1 ≤ wr.heap.size → Calls Tryz.prog 148 #[.slice ad l.length cap, .agg (pcvCells c).toArray] wr fun e w' => ∃ l' ad' cp', e = .returned (.slice ad' l'.length cp') ∧ AddsTOut (b + 1) (.slice ad l.length cap) l (termsV c) wr l' ad' cp' w') := fun wr ad cap l hk h1 h2 h3 h4 => addThings_any c ad cap l (b + 1) wr (hc.low hk).at_ hf hT h1 h2 h3 h4
  have HAdd : Hid (∀ wr ad cap l, Low b w wr → wr.ownsRow (b + 1) 9 1 (.slice ad l.length cap) l.length (l.flatMap strCell) → l.length ≤ 900000 → Rise ltS l → b + 1 ≤ wr.heap.size → Calls Tryz.prog 164 #[.slice ad l.length cap, .agg (pcvCells c).toArray] wr fun e w' => ∃ l' ad' cp', e = .returned (.slice ad' l'.length cp') ∧ AddsOut (b + 1) (.slice ad l.length cap) l (namesV c) wr l' ad' cp' w') := fun wr ad cap l hk h1 h2 h3 h4 => addNames_any c ad cap l (b + 1) wr (hc.low hk).at_ hf.lits h1 h2 h3 h4
  have HNl : Hid ((namesV c).length ≤ 1001) := by
    show _ ≤ _
    have := hf.lits
    have h2 := List.length_filter_le (fun p => hasAtomB p.1) c.lvs
    simp only [namesV, bodyNames, List.length_cons, List.length_map]
    omega
  generalize termsV c = TV at HTm hT ⊢
  generalize namesV c = NV at HAdd HNl ⊢
  obtain ⟨hp, hn', hts, hv, bv, lvs⟩ := c
  have hat := hc.at_
  clear hc hf
  simp only at hat
  obtain ⟨adh, cph, rfl⟩ := row_nil hat.head
  obtain ⟨adb, cpb, rfl⟩ := row_nil hat.body.row
  clear hat
  simp only [pcvCells] at HTm HAdd ⊢
  have c0 := h.blk.cell 0
  have cf := h.blk.frozen
  have d0 := fun o => (h.blk.alloc o).cell 0
  have df := fun o => (h.blk.alloc o).frozen
  simp at c0 d0
  have q1 : ¬ b = w.heap.size := by omega
  have q2 : ¬ w.heap.size = b := by omega
  have H0 := hide h
  clear h
  go_enter Tryz.func116, Tryz.ntmps116
  go_wp2_with fail
  obtain ⟨N, hNe⟩ : ∃ N, w.heap.size = N := ⟨_, rfl⟩
  have hbN : b < N := by omega
  have HN1 : Hid (Blk ((w.setCell ⟨b, 0, none⟩ (.int .i64 ((n : Int) + 1))).alloc (.cells [.int .i64 hp, .string hn', .slice adh hts.length cph, .slice adb lvs.length cpb].toArray 189)) N [.int .i64 hp, .string hn', .slice adh hts.length cph, .slice adb lvs.length cpb] 189) := by
    have hh := Blk.new (w.setCell ⟨b, 0, none⟩ (.int .i64 ((n : Int) + 1))) [.int .i64 hp, .string hn', .slice adh hts.length cph, .slice adb lvs.length cpb] 189
    rw [show (w.setCell ⟨b, 0, none⟩ (.int .i64 ((n : Int) + 1))).heap.size = N from by simp [hNe]] at hh
    exact hh
  have HC1 := hide (((unhide H0).setN (m := (n : Int) + 1)).kept ((Kept.refl [] _).alloc (.cells [.int .i64 hp, .string hn', .slice adh hts.length cph, .slice adb lvs.length cpb].toArray 189)))
  have HL1 : Hid (Kept M w ((w.setCell ⟨b, 0, none⟩ (.int .i64 ((n : Int) + 1))).alloc (.cells [.int .i64 hp, .string hn', .slice adh hts.length cph, .slice adb lvs.length cpb].toArray 189))) := ((Kept.refl M w).setCell (p := ⟨b, 0, none⟩) (Or.inl (unhide HMb).1) _).alloc _
  have HNn : Hid ((Value.slice nad names.length ncp).ownBlock ≠ some N ∧ (Value.slice tad things.length tcp).ownBlock ≠ some N) := ⟨fun e => by have := ((unhide H0).rn.lt _ e).2; omega, fun e => by have := ((unhide H0).rt.lt _ e).2; omega⟩
  have hs1 : N + 1 ≤ ((w.setCell ⟨b, 0, none⟩ (.int .i64 ((n : Int) + 1))).alloc (.cells [.int .i64 hp, .string hn', .slice adh hts.length cph, .slice adb lvs.length cpb].toArray 189)).heap.size := by simp [hNe]
  clear c0 cf d0 df q1 q2 H0
  change Code.wp _ _ _ _ ((w.setCell ⟨b, 0, none⟩ (.int .i64 ((n : Int) + 1))).alloc (.cells [.int .i64 hp, .string hn', .slice adh hts.length cph, .slice adb lvs.length cpb].toArray 189))
  generalize (w.setCell ⟨b, 0, none⟩ (.int .i64 ((n : Int) + 1))).alloc (.cells [.int .i64 hp, .string hn', .slice adh hts.length cph, .slice adb lvs.length cpb].toArray 189) = w1 at HN1 HC1 HL1 hs1 ⊢
  rw [hNe]
  have HNe := hide hNe
  clear hNe
  have HSt : Hid (Calls Tryz.prog 164 #[.slice nad names.length ncp, .agg #[.int .i64 hp, .string hn', .slice adh hts.length cph, .slice adb lvs.length cpb]] w1.drew fun e w' => ∃ l' ad' cp', e = .returned (.slice ad' l'.length cp') ∧ CenStep M b N [.int .i64 hp, .string hn', .slice adh hts.length cph, .slice adb lvs.length cpb] w w' 1 (.slice nad names.length ncp) (.slice ad' l'.length cp') ((n : Int) + 1) (.slice ad' l'.length cp') (.slice tad things.length tcp) l' things ∧ (∀ y, y ∈ l' ↔ y ∈ NV ∨ y ∈ names) ∧ l'.length ≤ names.length + 1001 ∧ N + 1 ≤ w'.heap.size) := by
    refine (unhide HAdd w1.drew nad ncp names (unhide HLo _ (unhide HL1).drew) (unhide HC1).drew.rn (by omega) (unhide HC1).rin (by show b + 1 ≤ w1.heap.size; omega)).mono ?_
    rintro e w' ⟨l', ad', cp', rfl, hA⟩
    obtain ⟨hcen, hcell, hfr⟩ := (unhide HC1).drew.names hA.kept hA.own hA.new hA.rise
    have hl1 := (unhide HC1).drew.lows.1
    refine ⟨l', ad', cp', rfl, ⟨hcell, hfr, hcen, ?_, ?_⟩, hA.mem, by have := hA.le; have := unhide HNl; omega, by have := hA.kept.size; have h2 : w1.drew.heap.size = w1.heap.size := rfl; omega⟩
    · exact ((unhide HL1).drew.trans' hA.kept (fun i hi => Or.inl ((unhide HMb).2.1 i hi))).setCell (p := ⟨b, 1, none⟩) (Or.inl (unhide HMb).1) _
    · exact ((unhide HN1).drew.kept hA.kept (fun hm => (unhide HNn).1 (by simpa using hm))).set_other ⟨b, 1, none⟩ (by simp; omega) _
  have e1 := (unhide HC1).blk.cell 1
  have b0 := (unhide HN1).cell 0
  have b1 := (unhide HN1).cell 1
  have b2 := (unhide HN1).cell 2
  have b3 := (unhide HN1).cell 3
  simp at e1 b0 b1 b2 b3
  clear HAdd HC1 HL1 HN1
  go_region_law
    (go_simp; go_at_call 164; refine (unhide HSt).mono ?_; rintro e wt ⟨l', ad', cp', rfl, hst, hmem, hlen, hsz⟩; have ecell := hst.cell; have efr := hst.frozen; have HST := hide hst; clear hst)
  all_goals
    have HC2 := hide (unhide HST).cen
    have HL2 := hide (unhide HST).low
    have HN2 := hide (unhide HST).box
    have hs2 : N + 1 ≤ (wt.setCell ⟨b, 1, none⟩ (.slice ad' l'.length cp')).heap.size := by simp; omega
    have HMm := hide hmem
    clear HST ecell efr HSt hmem e1 b0 b1 b2 b3 hsz
    generalize wt.setCell ⟨b, 1, none⟩ (.slice ad' l'.length cp') = w2 at HC2 HL2 HN2 hs2 ⊢
    have b0 := (unhide HN2).cell 0
    have b1 := (unhide HN2).cell 1
    have b2 := (unhide HN2).cell 2
    have b3 := (unhide HN2).cell 3
    simp at b0 b1 b2 b3
    have e2 := (unhide HC2).blk.cell 2
    simp at e2
    have HSu : Hid (Calls Tryz.prog 148 #[.slice tad things.length tcp, .agg #[.int .i64 hp, .string hn', .slice adh hts.length cph, .slice adb lvs.length cpb]] w2.drew fun e w' => ∃ l5 ad5 cp5, e = .returned (.slice ad5 l5.length cp5) ∧ w'.cell? ⟨b, 2, none⟩ = some (.slice tad things.length tcp) ∧ w'.frozen? ⟨b, 2, none⟩ = false ∧ CenIn (w'.setCell ⟨b, 2, none⟩ (.slice ad5 l5.length cp5)) b ((n : Int) + 1) (.slice ad' l'.length cp') (.slice ad5 l5.length cp5) l' l5 ∧ ThingsIs TV things l5 ∧ l5.length ≤ things.length + 90000 ∧ Kept M w (w'.setCell ⟨b, 2, none⟩ (.slice ad5 l5.length cp5))) := by
      have hCd := (unhide HC2).drew
      refine (unhide HTm w2.drew tad tcp things (unhide HLo _ (unhide HL2).drew) hCd.rt (by omega) hCd.rit (by show b + 1 ≤ w2.heap.size; omega)).mono ?_
      rintro e w' ⟨l5, ad5, cp5, rfl, hA⟩
      obtain ⟨hcen, hcell, hfr⟩ := hCd.things hA.kept hA.own hA.new hA.rise
      refine ⟨l5, ad5, cp5, rfl, hcell, hfr, hcen, hA.mem, by have := hA.le; omega, ?_⟩
      exact ((unhide HL2).drew.trans' hA.kept (fun i hi => Or.inl ((unhide HMb).2.2 i hi))).setCell (p := ⟨b, 2, none⟩) (Or.inl (unhide HMb).1) _
    clear HTm HC2 HL2 HN2
    go_wp2_with fail
    go_region_law
      (go_simp; go_at_call 148; refine (unhide HSu).mono ?_; rintro e wt5 ⟨l5, ad5, cp5, rfl, ecell, efr, r1, r2, r3, r4⟩; have HST5 := hide (And.intro r1 (And.intro r2 (And.intro r3 r4))); clear r1 r2 r3 r4)
    all_goals
      clear HSu
      go_wp2_with fail
      go_end0
      obtain ⟨r1, r2, r3, r4⟩ := unhide HST5
      exact ⟨rfl, _, _, l', l5, r1, unhide HMm, r2, hlen, r3, r4⟩

end Go.Proofs.YtoihbhenbmffcaaGreatDoor
