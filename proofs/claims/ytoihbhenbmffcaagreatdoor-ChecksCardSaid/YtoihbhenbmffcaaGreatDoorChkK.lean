import Derived.Test.YtoihbhenbmffcaaGreatDoorLeaA
import Derived.Test.YtoihbhenbmffcaaGreatDoorRefU
set_option linter.unusedVariables false
set_option linter.unusedSimpArgs false

namespace Go.Proofs.YtoihbhenbmffcaaGreatDoor
open Go.RowKit

/-- Each once. -/
def ddp (l : List ByteArray) : List ByteArray := l.foldl nameT []
def thingsV (c : PCV) : List ByteArray := ((termsV c).filter fun t => t.v == 0).map fun t => t.s

theorem hasB_iff (l : List ByteArray) (x : ByteArray) : hasB l x = true ↔ x ∈ l := inBS_iff l x

theorem nameT_mem (l : List ByteArray) (x y : ByteArray) : y ∈ nameT l x ↔ y = x ∨ y ∈ l := by
  unfold nameT
  cases h : hasB l x with
  | true =>
    simp only [if_true]
    have hx := (hasB_iff l x).1 h
    exact ⟨Or.inr, fun h2 => by rcases h2 with rfl | h2; exact hx; exact h2⟩
  | false =>
    simp only [Bool.false_eq_true, if_false, List.mem_append, List.mem_singleton]
    exact ⟨fun h2 => by rcases h2 with h2 | h2; exact Or.inr h2; exact Or.inl h2, fun h2 => by rcases h2 with h2 | h2; exact Or.inr h2; exact Or.inl h2⟩

theorem nameT_nodup {l : List ByteArray} (h : l.Nodup) (x : ByteArray) : (nameT l x).Nodup := by
  unfold nameT
  cases hb : hasB l x with
  | true => simpa using h
  | false =>
    simp only [Bool.false_eq_true, if_false]
    rw [List.nodup_append]
    refine ⟨h, by simp, fun a ha b hb2 e => ?_⟩
    simp only [List.mem_singleton] at hb2
    subst e hb2
    rw [(hasB_iff l a).2 ha] at hb
    cases hb

theorem fold_names : ∀ (xs l : List ByteArray), l.Nodup → (xs.foldl nameT l).Nodup ∧ ∀ y, y ∈ xs.foldl nameT l ↔ y ∈ xs ∨ y ∈ l
  | [], l, h => ⟨h, fun y => by simp⟩
  | x :: xs, l, h => by
    obtain ⟨h1, h2⟩ := fold_names xs (nameT l x) (nameT_nodup h x)
    refine ⟨h1, fun y => ?_⟩
    rw [List.foldl_cons, h2, nameT_mem, List.mem_cons]
    exact ⟨fun h => by rcases h with h | h | h; exact Or.inl (Or.inr h); exact Or.inl (Or.inl h); exact Or.inr h, fun h => by rcases h with (h | h) | h; exact Or.inr (Or.inl h); exact Or.inl h; exact Or.inr (Or.inr h)⟩

theorem ddp_spec (l : List ByteArray) : (ddp l).Nodup ∧ ∀ y, y ∈ ddp l ↔ y ∈ l := by
  obtain ⟨h1, h2⟩ := fold_names l [] List.nodup_nil
  exact ⟨h1, fun y => by rw [ddp, h2]; simp⟩

theorem len_of_mem {a b : List ByteArray} (ha : a.Nodup) (hb : b.Nodup) (h : ∀ y, y ∈ a ↔ y ∈ b) : a.length = b.length :=
  Nat.le_antisymm (pigeon a b ha (fun y hy => (h y).1 hy)) (pigeon b a hb (fun y hy => (h y).2 hy))

/-- What the check of one clause tells. -/
def manyB (cs : List PCV) (k : Nat) : Bool := decide (12 < k + 1) || decide (6 < (ddp ((cs.take (k + 1)).flatMap namesV)).length) || decide (6 < (ddp ((cs.take (k + 1)).flatMap thingsV)).length)
def chkC (cs : List PCV) (k : Nat) (c : PCV) : Option (Int × Int) :=
  if manyB cs k || greatB c then some (3, c.hp)
  else match arO cs (atomsV c) with
    | some p => some (4, p)
    | none => match unsafeO c with
      | some p => some (5, p)
      | none => none
def chkL (cs : List PCV) : Nat → List PCV → Option (Int × Int)
  | _, [] => none
  | k, c :: l => match chkC cs k c with
    | some r => some r
    | none => chkL cs (k + 1) l

def errOut : Option (Int × Int) → Value
  | some r => .tuple #[.int .i64 r.1, .int .i64 r.2]
  | none => .tuple #[.int .i64 0, .int .i64 0]

structure Fit (c : PCV) : Prop where
  pc : PcFit c
  terms : (termsV c).length ≤ 90000

theorem Fit.atoms {c : PCV} (h : Fit c) {w : World} (hp : PcAt w 0 c.hv c.bv c.hts c.lvs) : ∀ a ∈ atomsV c, lenOf a.tv ≤ 1000 := by
  intro a ha
  rcases List.mem_cons.1 ha with rfl | ha
  · obtain ⟨ad, cp, e⟩ := row_nil hp.head
    simp only
    rw [e]
    exact h.pc.head.2
  · unfold bodyAtoms at ha
    obtain ⟨p, hp', rfl⟩ := List.mem_map.1 ha
    have hpm := (List.mem_filter.1 hp').1
    obtain ⟨ad, cp, e⟩ := row_nil (hp.body.each p hpm).1
    simp only
    rw [e]
    exact (h.pc.each p hpm).2

theorem things_step {cs : List PCV} {k : Nat} (hk : k < cs.length) {th th' : List ByteArray} (h : ∀ y, y ∈ th ↔ y ∈ (cs.take k).flatMap thingsV) (h2 : ThingsIs (termsV cs[k]) th th') : ∀ y, y ∈ th' ↔ y ∈ (cs.take (k + 1)).flatMap thingsV := by
  intro y
  rw [h2 y, h y, List.take_succ_eq_append_getElem hk, List.flatMap_append, List.mem_append]
  simp only [List.flatMap_cons, List.flatMap_nil, List.append_nil]
  have : (∃ t ∈ termsV cs[k], t.v = 0 ∧ t.s = y) ↔ y ∈ thingsV cs[k] := by
    unfold thingsV
    rw [List.mem_map]
    constructor
    · rintro ⟨t, h1, h2, h3⟩
      exact ⟨t, List.mem_filter.2 ⟨h1, by simpa using h2⟩, h3⟩
    · rintro ⟨t, h1, h3⟩
      obtain ⟨h4, h5⟩ := List.mem_filter.1 h1
      exact ⟨t, h4, by simpa using h5, h3⟩
  rw [this]
  exact ⟨fun h => by rcases h with h | h; exact Or.inr h; exact Or.inl h, fun h => by rcases h with h | h; exact Or.inr h; exact Or.inl h⟩

theorem names_step {cs : List PCV} {k : Nat} (hk : k < cs.length) {nm nm' : List ByteArray} (h : ∀ y, y ∈ nm ↔ y ∈ (cs.take k).flatMap namesV) (h2 : ∀ y, y ∈ nm' ↔ y ∈ namesV cs[k] ∨ y ∈ nm) : ∀ y, y ∈ nm' ↔ y ∈ (cs.take (k + 1)).flatMap namesV := by
  intro y
  rw [h2 y, h y, List.take_succ_eq_append_getElem hk, List.flatMap_append, List.mem_append]
  simp only [List.flatMap_cons, List.flatMap_nil, List.append_nil]
  exact ⟨fun h => by rcases h with h | h; exact Or.inr h; exact Or.inl h, fun h => by rcases h with h | h; exact Or.inr h; exact Or.inl h⟩

set_option maxRecDepth 100000 in
set_option maxHeartbeats 3200000 in
theorem checkClauses_any (lad : Option Addr) (lcp : Nat) (cs : List PCV) (w : World) (h : ProgIn w (.slice lad cs.length lcp) cs) (hlt : ∀ c ∈ cs, PcIn w w.heap.size c) (hlen : cs.length ≤ 1000) (hf : ∀ c ∈ cs, Fit c) :
    Calls Tryz.prog 72 #[.slice lad cs.length lcp] w fun e w' => e = .returned (errOut (chkL cs 0 cs)) ∧ Kept [] w w' := by
  have HP := hide h
  have HFi := hide hf
  have HPc := hide hlt
  obtain ⟨R, hR⟩ : ∃ R, chkL cs 0 cs = R := ⟨_, rfl⟩
  rw [hR]
  have HRR := hide hR
  clear h hf hlt hR
  have HC0 : Hid (CenIn (w.alloc (.cells [.int .i64 0, .slice none 0 0, .slice none 0 0].toArray 210)) w.heap.size ((0 : Nat) : Int) (.slice none 0 0) (.slice none 0 0) [] []) :=
    ⟨Blk.new w _ 210, World.ownsRow_nil _ _ _ _, World.ownsRow_nil _ _ _ _, fun k hk => by simp [Value.ownBlock] at hk, fun i j hi => by simp at hi, fun i j hi => by simp at hi⟩
  have HL0 := hide (Low.of ((Kept.refl [] w).alloc (.cells [.int .i64 0, .slice none 0 0, .slice none 0 0].toArray 210)) (Nat.le_refl _) (by simp))
  have HBe : Hid (∀ wr, Low w.heap.size w wr → Kept [] w wr) := fun wr hl => hl.kept (Nat.le_refl _)
  go_enter Tryz.func72, Tryz.ntmps72
  go_wp2
  change Code.wp _ _ _ _ (w.alloc (.cells [.int .i64 0, .slice none 0 0, .slice none 0 0].toArray 210))
  generalize w.alloc (.cells [.int .i64 0, .slice none 0 0, .slice none 0 0].toArray 210) = w1 at HC0 HL0 ⊢
  obtain ⟨b, hbe⟩ : ∃ b, w.heap.size = b := ⟨_, rfl⟩
  rw [hbe] at HC0 HL0 HPc HBe ⊢
  have HBw := hide hbe
  clear hbe
  go_loopg [13] cs.length (fun gk i wr => ∃ (k : Nat) (nv tv : Value) (nm th : List ByteArray), i = .int .i64 k ∧ k ≤ cs.length ∧ k ≤ 12 ∧ gk = cs.length - k ∧ nm.length ≤ 6 ∧ th.length ≤ 6 ∧ Hid (CenIn wr b (k : Int) nv tv nm th) ∧ Hid (∀ y, y ∈ nm ↔ y ∈ (cs.take k).flatMap namesV) ∧ Hid (∀ y, y ∈ th ↔ y ∈ (cs.take k).flatMap thingsV) ∧ Hid (chkL cs k (cs.drop k) = R) ∧ Hid (Low b w wr))
  case atStart => exact ⟨0, _, _, [], [], rfl, by omega, by omega, rfl, by simp, by simp, HC0, fun y => by simp, fun y => by simp, HRR, HL0⟩
  case round =>
    clear HC0 HL0 HRR
    obtain ⟨k, nv, tv, nm, th, rfl, hk, hk12, hgk, hnl, htl, HC, HNm, HTh, HR, HL⟩ := hrel
    have HG := hide hgk
    clear hgk
    by_cases hlt : k < cs.length
    · have hKw := unhide HBe wr (unhide HL)
      have hPr := (unhide HP).kept hKw
      obtain ⟨g, cap, hp, hn, hts, adh, cph, adb, cpb, lvs, he, hck, d0, d1, d2, d3⟩ := pc_cells hPr k hlt
      simp only [Value.slice.injEq] at he
      obtain ⟨rfl, _, rfl⟩ := he
      have HPk := hide ((unhide HPc _ (List.getElem_mem hlt)).low (unhide HL))
      have HFk := hide (unhide HFi _ (List.getElem_mem hlt))
      have HRk : Hid ((match chkC cs k cs[k] with | some r => some r | none => chkL cs (k + 1) (cs.drop (k + 1))) = R) := by
        have h := unhide HR
        rw [List.drop_eq_getElem_cons hlt, chkL] at h
        exact h
      have HNs := hide (fun nm' => names_step (nm' := nm') hlt (unhide HNm))
      have HTs := hide (fun th' => things_step (th' := th') hlt (unhide HTh))
      rw [hck] at HPk HFk HRk HNs HTs
      clear hPr hck HR HNm HTh hKw
      have hbr := (unhide HC).blk.lt
      have kA := (Kept.refl [] wr).alloc (.cells [.int .i64 hp, .string hn, .slice adh hts.length cph, .slice adb lvs.length cpb].toArray 189)
      have HCa := hide ((unhide HC).kept kA)
      have HTa := hide (Blk.new wr [.int .i64 hp, .string hn, .slice adh hts.length cph, .slice adb lvs.length cpb] 189)
      have lA := Low.of kA (b := b) (by omega) (by simp)
      have HLa := hide ((unhide HL).trans lA)
      have HPa := hide ((unhide HPk).low lA)
      have HTr : Hid (∀ v : Value, (v = nv ∨ v = tv) → v.ownBlock ≠ some wr.heap.size) := by
        intro v hv e
        rcases hv with rfl | rfl
        · have := ((unhide HC).rn.lt _ e).2; omega
        · have := ((unhide HC).rt.lt _ e).2; omega
      have HCt := hide (count_any b k nv tv nm th ⟨hp, hn, hts, .slice adh hts.length cph, .slice adb lvs.length cpb, lvs⟩ _ (unhide HCa) (unhide HPa) (unhide HFk).pc (unhide HFk).terms (by omega) (by omega) (by omega))
      have hsa : b + 1 ≤ (wr.alloc (.cells [.int .i64 hp, .string hn, .slice adh hts.length cph, .slice adb lvs.length cpb].toArray 189)).heap.size := by simp; omega
      clear kA lA
      simp only [pcvCells] at HCt
      go_wp2_with fail
      refine (unhide HCt).mono ?_
      rintro e w5 ⟨rfl, nv5, tv5, nm5, th5, hc5, hnm5, hth5, hn5l, ht5l, k5⟩
      have hT5 := (unhide HTa).kept k5 (by
        intro hm
        simp only [List.mem_cons, List.mem_append] at hm
        rcases hm with hm | hm | hm
        · omega
        · exact unhide HTr nv (Or.inl rfl) (by simpa using hm)
        · exact unhide HTr tv (Or.inr rfl) (by simpa using hm))
      have l5 : Low b (wr.alloc (.cells [.int .i64 hp, .string hn, .slice adh hts.length cph, .slice adb lvs.length cpb].toArray 189)) w5 := Low.of k5 (by omega) (fun i hi => by
        simp only [List.mem_cons, List.mem_append] at hi
        rcases hi with hi | hi | hi
        · omega
        · exact (unhide HCa).lows.1 i hi
        · exact (unhide HCa).lows.2 i hi)
      have HL5 := hide ((unhide HLa).trans l5)
      have HP5 := hide ((unhide HPa).low l5)
      have HNm5 := hide (unhide HNs nm5 hnm5)
      have HTh5 := hide (unhide HTs th5 hth5)
      have HMany : Hid ((decide (12 < k + 1) || decide (6 < nm5.length) || decide (6 < th5.length)) = manyB cs k) := by
        show _ = _
        unfold manyB
        rw [len_of_mem (hc5.rin.nodup ordS) (ddp_spec _).1 (fun y => (unhide HNm5 y).trans ((ddp_spec _).2 y).symm), len_of_mem (hc5.rit.nodup ordS) (ddp_spec _).1 (fun y => (unhide HTh5 y).trans ((ddp_spec _).2 y).symm)]
      have HTm := hide (isTooMany_any b (k + 1) nv5 tv5 nm5 th5 w5 hc5)
      rw [unhide HMany] at HTm
      have hs5 : wr.heap.size < w5.heap.size := hT5.lt
      have HT5 := hide hT5
      have HC5 := hide hc5
      have hTb : wr.heap.size ≠ b := by omega
      clear HCt hc5 hnm5 hth5 k5 l5 HCa HTa HLa HPa HTr HNs HTs hT5 d0 d1 d2 d3 hsa HL HPk HC
      generalize wr.heap.size = T at HT5 hs5 hTb ⊢
      go_wp2_with fail
      refine (unhide HTm).mono ?_
      rintro e w6 ⟨rfl, hw6⟩
      subst hw6
      clear HTm
      have t0 := (unhide HT5).cell 0
      have t1 := (unhide HT5).cell 1
      have t2 := (unhide HT5).cell 2
      have t3 := (unhide HT5).cell 3
      simp at t0 t1 t2 t3
      cases hm : manyB cs k with
      | true =>
        have HE : Hid (R = some (3, hp)) := by
          show _ = _
          rw [← unhide HRk]
          unfold chkC
          rw [hm]
          rfl
        clear hm HMany HRk
        go_wp2_with fail
        go_region_held3 (fun w' => w'.cell? ⟨T, 0, none⟩ = some (.int .i64 hp)) (go_keep) (fail)
        rename_i hHeldX
        clear hHeldX
        go_wp2
        go_ret2
        rw [unhide HE]
        exact ⟨rfl, unhide HBe _ (unhide HL5).drew⟩
      | false =>
        have hM := unhide HMany
        rw [hm] at hM
        simp only [Bool.or_eq_false_iff, decide_eq_false_iff_not] at hM
        have HGr := hide (isTooGreat_any ⟨hp, hn, hts, .slice adh hts.length cph, .slice adb lvs.length cpb, lvs⟩ w6 (unhide HP5).at_ (unhide HFk).pc.lits)
        simp only [pcvCells] at HGr
        have HM0 := hide hm
        have hM1 := hM.1.1
        have hM2 := hM.1.2
        have hM3 := hM.2
        clear hm HMany hM
        go_wp2_with fail
        refine (unhide HGr).mono ?_
        rintro e w7 ⟨rfl, k7⟩
        have HT7 := hide ((unhide HT5).kept k7 (by simp))
        have HC7 := hide ((unhide HC5).kept k7)
        have l7 := Low.of k7 (b := b) (by have := (unhide HC5).blk.lt; omega) (by simp)
        have HL7 := hide ((unhide HL5).trans l7)
        have HP7 := hide ((unhide HP5).low l7)
        have hs7 : T < w7.heap.size := (unhide HT7).lt
        have hb7 : b ≤ w7.heap.size := by have := (unhide HC7).blk.lt; omega
        clear t0 t1 t2 t3 HGr k7 l7 HT5 HC5 HL5 HP5
        have t0 := (unhide HT7).cell 0
        have t1 := (unhide HT7).cell 1
        have t2 := (unhide HT7).cell 2
        have t3 := (unhide HT7).cell 3
        simp at t0 t1 t2 t3
        cases hg : greatB ⟨hp, hn, hts, .slice adh hts.length cph, .slice adb lvs.length cpb, lvs⟩ with
        | true =>
          have HE : Hid (R = some (3, hp)) := by
            show _ = _
            rw [← unhide HRk]
            unfold chkC
            rw [hg, Bool.or_true]
            rfl
          clear hg HRk
          go_wp2_with fail
          go_region_held3 (fun w' => w'.cell? ⟨T, 0, none⟩ = some (.int .i64 hp)) (go_keep) (fail)
          rename_i hHeldX
          clear hHeldX
          go_wp2
          go_ret2
          rw [unhide HE]
          exact ⟨rfl, unhide HBe _ (unhide HL7).drew⟩
        | false =>
          have HRm : Hid ((match (match arO cs (atomsV ⟨hp, hn, hts, .slice adh hts.length cph, .slice adb lvs.length cpb, lvs⟩) with | some p => some ((4 : Int), p) | none => match unsafeO ⟨hp, hn, hts, .slice adh hts.length cph, .slice adb lvs.length cpb, lvs⟩ with | some p => some ((5 : Int), p) | none => none) with | some r => some r | none => chkL cs (k + 1) (cs.drop (k + 1))) = R) := by
            have h := unhide HRk
            unfold chkC at h
            rw [unhide HM0, hg] at h
            exact h
          clear hg HRk HM0
          have hAt := hide (atoms_any ⟨hp, hn, hts, .slice adh hts.length cph, .slice adb lvs.length cpb, lvs⟩ w7 (unhide HP7).at_ (unhide HFk).pc.lits)
          have HForm := hide (atomsV_form (unhide HP7).at_)
          have hAl : (atomsV ⟨hp, hn, hts, .slice adh hts.length cph, .slice adb lvs.length cpb, lvs⟩).length ≤ 1001 := by
            have := bodyAtoms_len lvs
            have h2 := (unhide HFk).pc.lits
            simp only at h2
            simp [atomsV]; omega
          have HAtl := hide ((unhide HFk).atoms (unhide HP7).at_)
          simp only [pcvCells] at hAt
          generalize atomsV ⟨hp, hn, hts, .slice adh hts.length cph, .slice adb lvs.length cpb, lvs⟩ = aT at hAt HRm HForm hAl HAtl
          go_wp2_with fail
          refine (unhide hAt).mono ?_
          rintro e wa ⟨ada, cpa, rfl, hrowa, ka⟩
          have HTa := hide ((unhide HT7).kept ka (by simp))
          have HCa := hide ((unhide HC7).kept ka)
          have la := Low.of ka (b := b) hb7 (by simp)
          have HLa := hide ((unhide HL7).trans la)
          have HPa := hide ((unhide HP7).low la)
          have hba : b ≤ wa.heap.size := by have := (unhide HCa).blk.lt; omega
          have HAr := hide (findArity_any ada cpa aT _ _ _ cs wa hrowa (unhide HForm) hAl (unhide HAtl) ((unhide HP).kept (unhide HBe wa (unhide HLa))) (fun c hc => (unhide HFi c hc).pc.lits) hlen)
          clear hAt hrowa ka la HT7 HC7 HL7 HP7 t0 t1 t2 t3
          generalize arO cs aT = RO at HAr HRm
          go_wp2_with fail
          refine (unhide HAr).mono ?_
          rintro e w8 ⟨rfl, k8⟩
          have HT8 := hide ((unhide HTa).kept k8 (by simp))
          have HC8 := hide ((unhide HCa).kept k8)
          have l8 : Low b wa w8 := Low.of k8 hba (by simp)
          have HL8 := hide ((unhide HLa).trans l8)
          have HP8 := hide ((unhide HPa).low l8)
          have hb8 : b ≤ w8.heap.size := by have := (unhide HC8).blk.lt; omega
          clear HAr k8 l8 HTa HCa HLa HPa
          have t0 := (unhide HT8).cell 0
          have t1 := (unhide HT8).cell 1
          have t2 := (unhide HT8).cell 2
          have t3 := (unhide HT8).cell 3
          simp at t0 t1 t2 t3
          cases RO with
          | some p =>
            have HE : Hid (R = some (4, p)) := (unhide HRm).symm
            clear HRm
            simp only [foundOut]
            go_wp2
            go_ret2
            rw [unhide HE]
            exact ⟨rfl, unhide HBe _ (unhide HL8)⟩
          | none =>
            have HUn := hide (findUnsafe_any ⟨hp, hn, hts, .slice adh hts.length cph, .slice adb lvs.length cpb, lvs⟩ w8 (unhide HP8).at_ (unhide HFk).pc (by have := (unhide HFk).terms; omega))
            simp only [pcvCells] at HUn
            simp only at HRm
            generalize unsafeO ⟨hp, hn, hts, .slice adh hts.length cph, .slice adb lvs.length cpb, lvs⟩ = UO at HUn HRm
            simp only [foundOut]
            go_wp2_with fail
            refine (unhide HUn).mono ?_
            rintro e w9 ⟨rfl, k9⟩
            have HC9 := hide ((unhide HC8).kept k9)
            have HL9 := hide ((unhide HL8).trans (Low.of k9 hb8 (by simp)))
            clear HUn k9 HC8 HL8 HP8 HT8 t0 t1 t2 t3
            cases UO with
            | some p =>
              have HE : Hid (R = some (5, p)) := (unhide HRm).symm
              clear HRm
              simp only [foundOut]
              go_wp2
              go_ret2
              rw [unhide HE]
              exact ⟨rfl, unhide HBe _ (unhide HL9)⟩
            | none =>
              have HRn : Hid (chkL cs (k + 1) (cs.drop (k + 1)) = R) := unhide HRm
              clear HRm
              simp only [foundOut]
              go_wp2
              go_roundg (cs.length - (k + 1))
              case measure => have := unhide HG; omega
              case rel => exact ⟨k + 1, nv5, tv5, nm5, th5, by go_num, by omega, by omega, rfl, by omega, by omega, HC9, HNm5, HTh5, HRn, HL9⟩
    · have HE : Hid (R = none) := by
        have h := unhide HR
        rw [List.drop_eq_nil_of_le (by omega), chkL] at h
        exact h.symm
      go_wp2
      go_ret2
      rw [HE.out]
      exact ⟨rfl, unhide HBe wr (unhide HL)⟩

end Go.Proofs.YtoihbhenbmffcaaGreatDoor

namespace Go.Proofs.YtoihbhenbmffcaaGreatDoor
open Go.RowKit

def loadR (f : ByteArray → ByteArray → Bool) (pcs : List PCV) : Int × Int := match chkL pcs 0 pcs with
  | some r => r
  | none => match loopO f pcs with
    | some p => (6, p)
    | none => (0, 0)

/-- A clause's slices have the lengths of its lists. -/
structure Wf (c : PCV) : Prop where
  head : lenOf c.hv = c.hts.length
  lits : ∀ p ∈ c.lvs, lenOf p.2 = p.1.ts.length

theorem PcAt.wf {w : World} {c : PCV} (h : PcAt w 0 c.hv c.bv c.hts c.lvs) : Wf c := by
  refine ⟨?_, fun p hp => ?_⟩
  · obtain ⟨ad, cp, e⟩ := row_nil h.head
    rw [e]; rfl
  · obtain ⟨ad, cp, e⟩ := row_nil (h.body.each p hp).1
    rw [e]; rfl

/-- What load tells: the error and its place. -/
def LoadIs (s : ByteArray) (f : ByteArray → ByteArray → Bool) (r : Int × Int) : Prop :=
  if 300 < s.size then r = (1, 0)
  else match progM (cutR s) 0 [] with
    | .error p => r = (2, p)
    | .ok cs => ∃ pcs : List PCV, pcs.map PCV.pc = cs ∧ (∀ c ∈ pcs, Wf c) ∧ r = loadR f pcs

structure GoodPs (f : ByteArray → ByteArray → Bool) (pcs : List PCV) : Prop where
  leans : ∀ x y, f x y = true ↔ LeansOn pcs x y
  fit : ∀ c ∈ pcs, Fit c
  len : pcs.length ≤ 1000
  names : (pcs.flatMap namesV).length ≤ 800000

theorem ProgAt.into {w : World} {base : Nat} {lv : Value} {cs : List PCV} (h : ProgAt w base lv cs) : ProgIn w lv cs ∧ ∀ c ∈ cs, PcIn w w.heap.size c := by
  refine ⟨⟨ownsRow_base h.row (Nat.zero_le _), fun c hc => (h.each c hc).at_.base (Nat.zero_le _)⟩, fun c hc => ?_⟩
  have hh := (h.each c hc).at_
  exact ⟨hh.base (Nat.zero_le _), fun k hk => (hh.head.lt k hk).2, fun k hk => (hh.body.row.lt k hk).2, fun p hp k hk => (World.ownsRow.lt (hh.body.each p hp).1 k hk).2⟩

theorem chkC_ne {cs : List PCV} {k : Nat} {c : PCV} {r : Int × Int} (h : chkC cs k c = some r) : r.1 ≠ 0 := by
  unfold chkC at h
  split at h
  · simp only [Option.some.injEq] at h; subst h; simp
  · split at h
    · simp only [Option.some.injEq] at h; subst h; simp
    · split at h
      · simp only [Option.some.injEq] at h; subst h; simp
      · cases h

theorem chkL_ne {cs : List PCV} : ∀ (l : List PCV) (k : Nat) {r : Int × Int}, chkL cs k l = some r → r.1 ≠ 0
  | [], k, r, h => by simp [chkL] at h
  | c :: l, k, r, h => by
    rw [chkL] at h
    split at h
    · rename_i r' hr
      simp only [Option.some.injEq] at h
      subst h
      exact chkC_ne hr
    · exact chkL_ne l (k + 1) h

set_option maxRecDepth 100000 in
set_option maxHeartbeats 1600000 in
theorem load_any (s : ByteArray) (f : ByteArray → ByteArray → Bool) (w : World) (hsz : s.size ≤ 9223372036854775807) (hg : s.size ≤ 300 → ∀ cs, progM (cutR s) 0 [] = .ok cs → ∀ pcs, pcs.map PCV.pc = cs → GoodPs f pcs) :
    Calls Tryz.prog 40 #[.string s] w fun e w' => ∃ (ad : Option Addr) (n cp : Nat) (r : Int × Int), e = .returned (.tuple #[.slice ad n cp, .int .i64 r.1, .int .i64 r.2]) ∧ LoadIs s f r ∧ Kept [] w w' := by
  by_cases hbig : 300 < s.size
  · have hbi : (300 : Int) < (s.size : Int) := by omega
    have HE : Hid (LoadIs s f (1, 0)) := by
      show LoadIs _ _ _
      unfold LoadIs
      rw [if_pos hbig]
    clear hg
    go_enter Tryz.func40, Tryz.ntmps40
    go_wp2
    go_ret3
    exact ⟨none, 0, 0, (1, 0), rfl, unhide HE, Kept.refl _ _⟩
  · have hbi : ¬ (300 : Int) < (s.size : Int) := by omega
    have HRd := hide (readProgram_any s w (by omega))
    have HGd := hide (hg (by omega))
    have HLs : Hid (∀ r, LoadIs s f r ↔ (match progM (cutR s) 0 [] with | .error p => r = (2, p) | .ok cs => ∃ pcs : List PCV, pcs.map PCV.pc = cs ∧ (∀ c ∈ pcs, Wf c) ∧ r = loadR f pcs)) := by
      intro r
      unfold LoadIs
      rw [if_neg hbig]
    clear hg
    go_enter Tryz.func40, Tryz.ntmps40
    go_wp2_with fail
    refine (unhide HRd).mono ?_
    intro e w2 hout
    clear HRd
    cases hp : progM (cutR s) 0 [] with
    | error p =>
      rw [hp] at hout
      obtain ⟨rfl, k2⟩ := hout
      have HE : Hid (LoadIs s f (2, p)) := by
        show LoadIs _ _ _
        rw [unhide HLs, hp]
      have HK := hide k2
      clear hp HLs HGd k2
      go_wp2
      go_ret3
      exact ⟨none, 0, 0, (2, p), rfl, unhide HE, unhide HK⟩
    | ok cs =>
      rw [hp] at hout
      obtain ⟨ad, cp, pcs, rfl, hmap, hpa, k2⟩ := hout
      have hgd := unhide HGd cs hp pcs hmap
      have hpl : cs.length = pcs.length := by rw [← hmap]; simp
      rw [hpl] at hpa ⊢
      obtain ⟨hpi, hpc⟩ := hpa.into
      have HE : Hid (∀ r, r = loadR f pcs → LoadIs s f r) := by
        intro r hr
        rw [unhide HLs, hp]
        exact ⟨pcs, hmap, fun c hc => (hpi.each c hc).wf, hr⟩
      have HCk := hide (checkClauses_any ad cp pcs w2 hpi hpc hgd.len hgd.fit)
      have HPi := hide hpi
      have HGp := hide hgd
      have HK := hide k2
      clear hp HLs HGd k2 hmap hpa hpi hpc hgd
      go_wp2_with fail
      refine (unhide HCk).mono ?_
      rintro e w3 ⟨rfl, k3⟩
      have HPi3 := hide ((unhide HPi).kept k3)
      have HK3 := hide ((unhide HK).trans k3)
      clear HCk HPi HK k3
      cases hc : chkL pcs 0 pcs with
      | some r =>
        have hrne := chkL_ne _ _ hc
        have hr2 : (r.1 != 0) = true := by simp [bne, hrne]
        have HE2 := hide (unhide HE r (by unfold loadR; rw [hc]))
        obtain ⟨r1, r2⟩ := r
        simp only at hr2 hrne
        clear hc HE
        simp only [errOut]
        go_wp2
        go_ret3
        exact ⟨none, 0, 0, (r1, r2), rfl, unhide HE2, unhide HK3⟩
      | none =>
        have HFl := hide (findLoop_any f ad cp pcs (unhide HGp).leans w3 (unhide HPi3) (unhide HGp).len (fun c hc => ((unhide HGp).fit c hc).pc.lits) (unhide HGp).names)
        have HE2 : Hid (∀ r, r = (match loopO f pcs with | some p => ((6 : Int), p) | none => (0, 0)) → LoadIs s f r) := by
          intro r hr
          refine unhide HE r ?_
          unfold loadR
          rw [hc]
          exact hr
        clear hc HE HGp
        simp only [errOut]
        go_wp2_with fail
        refine (unhide HFl).mono ?_
        rintro e w4 ⟨rfl, k4⟩
        have HK4 := hide ((unhide HK3).trans k4)
        clear HFl k4 HK3 HPi3
        cases hl : loopO f pcs with
        | some p =>
          rw [hl] at HE2
          have HE3 := hide (unhide HE2 (6, p) rfl)
          clear hl HE2
          simp only [foundOut]
          go_wp2
          go_ret3
          exact ⟨none, 0, 0, (6, p), rfl, unhide HE3, unhide HK4⟩
        | none =>
          rw [hl] at HE2
          have HE3 := hide (unhide HE2 (0, 0) rfl)
          clear hl HE2
          simp only [foundOut]
          go_wp2
          go_ret3
          exact ⟨ad, pcs.length, cp, (0, 0), rfl, unhide HE3, unhide HK4⟩

set_option maxHeartbeats 400000 in
theorem check_any (s : ByteArray) (f : ByteArray → ByteArray → Bool) (w : World) (hsz : s.size ≤ 9223372036854775807) (hg : s.size ≤ 300 → ∀ cs, progM (cutR s) 0 [] = .ok cs → ∀ pcs, pcs.map PCV.pc = cs → GoodPs f pcs) :
    Calls Tryz.prog 67 #[.string s] w fun e w' => ∃ r : Int × Int, e = .returned (.tuple #[.int .i64 r.1, .int .i64 r.2]) ∧ LoadIs s f r ∧ Kept [] w w' := by
  have HLd := hide (load_any s f w hsz hg)
  clear hg
  go_enter Tryz.func67, Tryz.ntmps67
  go_wp2_with fail
  refine (unhide HLd).mono ?_
  rintro e w2 ⟨ad, n, cp, r, rfl, hl, k2⟩
  have HR := hide (And.intro hl k2)
  clear HLd hl k2
  go_wp2
  go_ret2
  exact ⟨r, rfl, (unhide HR).1, (unhide HR).2⟩

end Go.Proofs.YtoihbhenbmffcaaGreatDoor
