import Derived.Test.YtoihbhenbmffcaaGreatDoorRefD
import Derived.Deep.RegionHeld3
import Derived.Deep.RegionLaw
set_option linter.unusedVariables false
set_option linter.unusedSimpArgs false

namespace Go.Proofs.YtoihbhenbmffcaaGreatDoor
open Go.RowKit

theorem wordR_le (s : ByteArray) (at_ : Nat) (bad : Bool) (h : at_ ≤ s.size) : (wordR s at_ bad).2.1 ≤ s.size := by
  unfold wordR
  have h1 := gapTo_le s at_ h
  have h2 := runTo_le lowerB s _ h1
  split
  · exact h
  · split <;> simp <;> omega

theorem wordR_gt {s : ByteArray} {at_ : Nat} (h : (wordR s at_ false).2.2 = false) : at_ < (wordR s at_ false).2.1 := by
  unfold wordR at h ⊢
  have h1 := gapTo_ge s at_
  have h2 := runTo_ge lowerB s (gapTo s at_)
  simp only [Bool.false_eq_true, if_false] at h ⊢
  split at h
  · cases h
  · rename_i h3; simp only [h3, if_false]; omega

theorem termR_le (s : ByteArray) (at_ : Nat) (bad : Bool) (h : at_ ≤ s.size) : (termR s at_ bad).2.1 ≤ s.size := by
  have h1 := gapTo_le s at_ h
  have h2 := runTo_le digitB s _ h1
  have h3 := wordR_le s _ false h1
  unfold termR
  split
  · exact h
  · split
    · split
      · simp; omega
      · split
        · exact h3
        · split <;> simp <;> omega
    · exact h1

theorem termR_gt {s : ByteArray} {at_ : Nat} (h : (termR s at_ false).2.2 = false) : at_ < (termR s at_ false).2.1 := by
  have h1 := gapTo_ge s at_
  unfold termR at h ⊢
  simp only [Bool.false_eq_true, if_false] at h ⊢
  split at h
  · rename_i hlt
    simp only [hlt, dite_true]
    split at h
    · rename_i hu; simp only [hu, if_true]; omega
    · rename_i hu
      simp only [hu, if_false, Bool.false_eq_true]
      split at h
      · rename_i hd
        simp only [hd, if_true]
        have := wordR_gt h
        omega
      · rename_i hd
        simp only [hd, if_false, Bool.false_eq_true]
        split at h
        · cases h
        · rename_i h3
          simp only [h3, if_false]
          have hd' : digitB s[gapTo s at_] = true := by simpa using hd
          have h5 := runTo_yes digitB s _ hlt hd'
          have h6 := runTo_ge digitB s (gapTo s at_ + 1)
          show at_ < runTo digitB s (gapTo s at_)
          omega
  · cases h

/-- The terms between the brackets, from the first on. -/
def argsR (s : ByteArray) (at_ : Nat) : List RTerm × Nat × Bool :=
  if h : (!(termR s at_ false).2.2 && atB s (gapB s (termR s at_ false).2.1 (termR s at_ false).2.2) 44) = true ∧ at_ < isTo s (termR s at_ false).2.1 (termR s at_ false).2.2 44 ∧ at_ < s.size then
    have _h1 : at_ < s.size := h.2.2
    have _h2 := h.2.1
    ((termR s at_ false).1 :: (argsR s (isTo s (termR s at_ false).2.1 (termR s at_ false).2.2 44)).1, (argsR s (isTo s (termR s at_ false).2.1 (termR s at_ false).2.2 44)).2)
  else ([(termR s at_ false).1], isTo s (termR s at_ false).2.1 (termR s at_ false).2.2 44, (termR s at_ false).2.2)

theorem isTo_ge (s : ByteArray) (at_ : Nat) (bad : Bool) (c : UInt8) : at_ ≤ isTo s at_ bad c := by
  unfold isTo gapB
  have := gapTo_ge s at_
  split <;> split <;> omega

/-- One round of the list: with more to come, or at its end. -/
theorem argsR_more {s : ByteArray} {at_ a : Nat} {t : RTerm} {bd : Bool} (ht : termR s at_ false = (t, a, bd)) (hat : at_ ≤ s.size) (hm : (!bd && atB s (gapB s a bd) 44) = true) :
    at_ < isTo s a bd 44 ∧ argsR s at_ = (t :: (argsR s (isTo s a bd 44)).1, (argsR s (isTo s a bd 44)).2) := by
  have hbd : bd = false := by cases bd <;> simp_all
  subst hbd
  have h1 := termR_gt (s := s) (at_ := at_) (by rw [ht])
  have h2 := termR_le s at_ false hat
  rw [ht] at h1 h2
  simp only at h1 h2
  have h3 := isTo_ge s a false 44
  refine ⟨by omega, ?_⟩
  conv => lhs; rw [argsR]
  rw [dif_pos (by rw [ht]; exact ⟨hm, by simp only; omega, by omega⟩)]
  simp only [ht]

theorem argsR_last {s : ByteArray} {at_ a : Nat} {t : RTerm} {bd : Bool} (ht : termR s at_ false = (t, a, bd)) (hm : (!bd && atB s (gapB s a bd) 44) = false) :
    argsR s at_ = ([t], isTo s a bd 44, bd) := by
  conv => lhs; rw [argsR]
  rw [dif_neg (by rw [ht]; intro h; rw [h.1] at hm; cases hm), ht]

structure RAtom where
  name : ByteArray
  args : List RTerm
  at_ : Nat

def mustTo (s : ByteArray) (at_ : Nat) (bad : Bool) (c : UInt8) : Nat × Bool := (isTo s at_ bad c, !(!bad && atB s (gapB s at_ bad) c))

/-- The arguments, where the scanner is not broken off. -/
def argsB (s : ByteArray) (p : Nat × Bool) : List RTerm × Nat × Bool := if p.2 then ([], p.1, true) else argsR s p.1

def atomR (s : ByteArray) (at_ : Nat) (bad : Bool) : RAtom × Nat × Bool :=
  let nm := wordR s (gapB s at_ bad) bad
  let l := argsB s (mustTo s nm.2.1 nm.2.2 40)
  (⟨nm.1, l.1, gapB s at_ bad⟩, mustTo s l.2.1 l.2.2 41)

theorem argsR_le (s : ByteArray) (at_ : Nat) (h : at_ ≤ s.size) : (argsR s at_).2.1 ≤ s.size := by
  fun_induction argsR s at_ with
  | case1 at_ hc _ _ ih => exact ih (isTo_le _ _ _ _ (termR_le _ _ _ h))
  | case2 at_ hc => exact isTo_le _ _ _ _ (termR_le _ _ _ h)

end Go.Proofs.YtoihbhenbmffcaaGreatDoor

namespace Go.Proofs.YtoihbhenbmffcaaGreatDoor
open Go.RowKit

theorem Tryz.info93 : (Tryz.prog.info? 93).map (fun i => (i.zero, i.size, i.bytes)) = some (some (.agg #[.int .u8 0, .string ⟨#[]⟩]), 2, 24) := by kernel_rfl

def atomVal (nm : ByteArray) (av : Value) (j : Nat) : List Value := [.string nm, av, .int .i64 j]

/-- Where the loop over the arguments stands. -/
def ArgsRel (s : ByteArray) (mb bd : Bool) (a : Nat) (acc : List RTerm) (R : List RTerm × Nat × Bool) : Prop :=
  if (mb && !bd) = true then (acc ++ (argsR s a).1, (argsR s a).2) = R else (acc, a, bd) = R

theorem ArgsRel.step {s : ByteArray} {a a' : Nat} {acc : List RTerm} {R : List RTerm × Nat × Bool} {t : RTerm} {bd : Bool} (h : ArgsRel s true false a acc R) (ht : termR s a false = (t, a', bd)) (ha : a ≤ s.size) (hl : acc.length ≤ a) :
    isTo s a' bd 44 ≤ s.size ∧ (acc ++ [t]).length ≤ isTo s a' bd 44 + 1 ∧ (((!bd && atB s (gapB s a' bd) 44) && !bd) = true → (acc ++ [t]).length ≤ isTo s a' bd 44) ∧
    2 * (s.size - isTo s a' bd 44) + (if ((!bd && atB s (gapB s a' bd) 44) && !bd) = true then 1 else 0) < 2 * (s.size - a) + 1 ∧
    ArgsRel s (!bd && atB s (gapB s a' bd) 44) bd (isTo s a' bd 44) (acc ++ [t]) R := by
  have h2 := termR_le s a false ha
  have hge := isTo_ge s a' bd 44
  have hgt : bd = false → a < a' := fun hb => by
    have := termR_gt (s := s) (at_ := a) (by rw [ht]; exact hb)
    rw [ht] at this; exact this
  have hge0 : a ≤ a' := by
    cases bd with
    | false => have := hgt rfl; omega
    | true =>
      have h1 := gapTo_ge s a
      have e : a' = (termR s a false).2.1 := by rw [ht]
      have e2 : (termR s a false).2.2 = true := by rw [ht]
      rw [e]
      unfold termR at e2 ⊢
      simp only [Bool.false_eq_true, if_false] at e2 ⊢
      split
      · rename_i hlt
        simp only [hlt, dite_true] at e2
        split
        · simp only; omega
        · split
          · simp only
            have h3 := gapTo_ge s (gapTo s a)
            have h4 := runTo_ge lowerB s (gapTo s (gapTo s a))
            unfold wordR
            simp only [Bool.false_eq_true, if_false]
            split <;> simp only <;> omega
          · have h4 := runTo_ge digitB s (gapTo s a)
            split <;> simp only <;> omega
      · exact h1
  rw [ht] at h2
  simp only at h2
  have hle := isTo_le s a' bd 44 h2
  unfold ArgsRel at h
  simp only [Bool.not_false, Bool.and_self, if_true] at h
  cases hm : (!bd && atB s (gapB s a' bd) 44) with
  | true =>
    have hbd : bd = false := by cases bd <;> simp_all
    subst hbd
    obtain ⟨h5, h6⟩ := argsR_more ht ha hm
    have := hgt rfl
    refine ⟨hle, by simp; omega, by simp; omega, by simp; omega, ?_⟩
    unfold ArgsRel
    simp only [Bool.not_false, Bool.and_self, if_true]
    rw [h6] at h
    rw [← h]
    simp
  | false =>
    refine ⟨hle, by simp; omega, by simp, by simp; omega, ?_⟩
    unfold ArgsRel
    rw [argsR_last ht hm] at h
    rw [← h]
    simp

theorem ArgsRel.done {s : ByteArray} {a : Nat} {mb bd : Bool} {acc L : List RTerm} {a3 : Nat} {b3 : Bool} (h : ArgsRel s mb bd a acc (L, a3, b3)) (hc : (mb && !bd) = false) : acc = L ∧ a = a3 ∧ bd = b3 := by
  unfold ArgsRel at h
  rw [if_neg (by rw [hc]; exact Bool.false_ne_true)] at h
  simpa using h

set_option maxRecDepth 100000 in
set_option maxHeartbeats 1600000 in
theorem atom_any (b : Nat) (s : ByteArray) (at_ : Nat) (bad : Bool) (w : World) (hs : s.size ≤ 1000000) (hat : at_ ≤ s.size) (hB : Blk w b (scan s at_ bad) 73) :
    Calls Tryz.prog 79 #[.pointer (some ⟨b, 0, none⟩)] w fun e w' => ∃ av, e = .returned (.agg (atomVal (atomR s at_ bad).1.name av (atomR s at_ bad).1.at_).toArray) ∧
      w'.ownsRow w.heap.size 93 2 av (atomR s at_ bad).1.args.length ((atomR s at_ bad).1.args.flatMap termVal) ∧ Blk w' b (scan s (atomR s at_ bad).2.1 (atomR s at_ bad).2.2) 73 ∧ Kept [b] w w' := by
  obtain ⟨i0, hi0, hz0, hz1, hz2⟩ := info_parts Tryz.info93
  have hbw := hB.lt
  have hg1 := gapB_le s at_ bad hat
  obtain ⟨j, hj⟩ : ∃ j, gapB s at_ bad = j := ⟨_, rfl⟩
  obtain ⟨nm, a1, b1, hnm⟩ : ∃ nm a1 b1, wordR s j bad = (nm, a1, b1) := ⟨_, _, _, rfl⟩
  obtain ⟨a2, b2, hm1⟩ : ∃ a2 b2, mustTo s a1 b1 40 = (a2, b2) := ⟨_, _, rfl⟩
  obtain ⟨L, a3, b3, hL⟩ : ∃ L a3 b3, argsB s (a2, b2) = (L, a3, b3) := ⟨_, _, _, rfl⟩
  obtain ⟨a4, b4, hm2⟩ : ∃ a4 b4, mustTo s a3 b3 41 = (a4, b4) := ⟨_, _, rfl⟩
  have hR : atomR s at_ bad = (⟨nm, L, j⟩, a4, b4) := by
    simp only [atomR, hj, hnm, hm1, hL, hm2]
  rw [hR]
  rw [hj] at hg1
  have ha1 : a1 ≤ s.size := by have := wordR_le s j bad hg1; rw [hnm] at this; exact this
  have ha2 : a2 ≤ s.size := by have := isTo_le s a1 b1 40 ha1; simp only [mustTo, Prod.mk.injEq] at hm1; omega
  have ha3 : a3 ≤ s.size := by
    unfold argsB at hL
    split at hL
    · simp only [Prod.mk.injEq] at hL; omega
    · have := argsR_le s a2 ha2; rw [hL] at this; exact this
  have HJ : Hid (gapB s at_ bad = j ∧ wordR s j bad = (nm, a1, b1) ∧ mustTo s a1 b1 40 = (a2, b2) ∧ argsB s (a2, b2) = (L, a3, b3) ∧ mustTo s a3 b3 41 = (a4, b4)) := ⟨hj, hnm, hm1, hL, hm2⟩
  clear hR hj hnm hm1 hL hm2
  go_enter Tryz.func79, Tryz.ntmps79
  go_wp2_with fail
  refine (gap_any b s at_ bad _ hs hat (hB.alloc _)).mono ?_
  rintro e w1 ⟨rfl, hb, hK⟩
  rw [HJ.out.1] at hb
  have hn := (Blk.new w _ _).kept hK (by simp; omega)
  have hK1 := ((Kept.refl [b] w).alloc _).trans hK
  clear hB hK
  have hb1 := hb.lt
  have hn1 := hn.lt
  have hc1 := hb.cell 1
  simp [scan] at hc1
  go_wp2_with fail
  refine (word_any b s j bad _ hs hg1 ?_).mono ?_
  · exact hb.alloc _
  rintro e w2 ⟨rfl, hb2, hK2⟩
  have hA2 := (Blk.new w1 _ _).kept hK2 (by simp; omega)
  have hn2 := (hn.alloc _).kept hK2 (by simp; omega)
  have hK2' := (hK1.alloc _).trans hK2
  rw [HJ.out.2.1] at hb2 ⊢
  obtain ⟨N, hN⟩ : ∃ N, w1.heap.size = N := ⟨_, rfl⟩
  rw [hN] at hA2 ⊢
  have hNb : b < N := by omega
  have hNw : w.heap.size < N := by omega
  clear hK1 hb hn hb1 hn1 hc1 hK2 hN
  have hx0 := hA2.cell 0
  have hxf := hA2.frozen 0
  simp at hx0
  simp only
  go_wp2_with fail
  refine (must_any b s a1 b1 40 40 _ rfl hs ha1 ?_).mono ?_
  · exact hb2.set_other _ (by simp; omega) _
  rintro e w3 ⟨rfl, hb3, hK3⟩
  have hA3 := (hA2.set 0 _).kept hK3 (by simp; omega)
  have hn3 := (hn2.set_other _ (by simp; omega) _).kept hK3 (by simp; omega)
  have hK3' := (hK2'.setCell (p := ⟨N, 0, none⟩) (by simp; omega) _).trans hK3
  have hm1 := HJ.out.2.2.1
  simp only [mustTo, Prod.mk.injEq] at hm1
  rw [hm1.1, hm1.2] at hb3
  simp only [List.set_cons_zero] at hA3
  clear hb2 hA2 hn2 hK2' hK3 hx0 hxf hm1
  go_wp2_with fail
  have hlen := hA3.lt
  go_loopg [4] (2 * (s.size - a2) + (if (true && !b2) = true then 1 else 0)) (fun k more wr => ∃ (mb bd : Bool) (a : Nat) (acc : List RTerm) (av : Value), more = .bool mb ∧ a ≤ s.size ∧ acc.length ≤ a + 1 ∧ ((mb && !bd) = true → acc.length ≤ a) ∧
    k = 2 * (s.size - a) + (if (mb && !bd) = true then 1 else 0) ∧ Hid (ArgsRel s mb bd a acc (L, a3, b3)) ∧ Blk wr b (scan s a bd) 73 ∧ Blk wr N (atomVal nm av j) 79 ∧ Blk wr w.heap.size [.string ⟨#[]⟩, .slice none 0 0, .int .i64 0] 79 ∧
    wr.ownsRow (N + 1) 93 2 av acc.length (acc.flatMap termVal) ∧ Kept [b] w wr)
  case atStart =>
    refine ⟨true, b2, a2, [], .slice none 0 0, rfl, ha2, by simp, by simp, rfl, ?_, hb3, hA3, hn3, World.ownsRow_nil _ _ _ _, hK3'⟩
    have h := HJ.out.2.2.2.1
    show ArgsRel _ _ _ _ _ _
    unfold ArgsRel
    unfold argsB at h
    cases b2 with
    | true => simpa using h
    | false => simp at h; simp [h]
  case round =>
    obtain ⟨mb, bd, a, acc, av, rfl, ha, hacc, hacc2, hk, HAr, hb4, hA4, hn4, hown, hK4⟩ := hrel
    clear hb3 hA3 hn3 hK3'
    have hk' : Hid (gk = 2 * (s.size - a) + (if (mb && !bd) = true then 1 else 0)) := hk
    clear hk
    cases mb with
    | false =>
      obtain ⟨rfl, rfl, rfl⟩ := HAr.out.done rfl
      obtain ⟨ad, cap, rfl⟩ := ownsRow_form hown
      have hc2 := hb4.cell 2
      simp [scan] at hc2
      have hNlt := hA4.lt
      have hblt := hb4.lt
      clear hacc hacc2 hk' HAr
      go_wp2_with fail
      refine (must_any b s a bd 41 41 _ rfl hs ha hb4).mono ?_
      rintro e w6 ⟨rfl, hb6, hK6⟩
      have hm2 := HJ.out.2.2.2.2
      simp only [mustTo, Prod.mk.injEq] at hm2
      rw [hm2.1, hm2.2] at hb6
      have hA6 := hA4.kept hK6 (by simp; omega)
      have hn6 := hn4.kept hK6 (by simp; omega)
      have hown6 := ownsRow_kept hown hK6 (by simp; omega)
      have hK6' := hK4.trans hK6
      clear hb4 hA4 hn4 hown hK4 hK6 hm2 hc2
      have hx0 := hA6.cell 0
      have hx1 := hA6.cell 1
      have hx2 := hA6.cell 2
      have hy0 := hn6.cell 0
      have hy1 := hn6.cell 1
      have hy2 := hn6.cell 2
      have hyf := hn6.frozen
      simp [atomVal] at hx0 hx1 hx2 hy0 hy1 hy2
      go_wp2
      refine bodyPost_ret (res_cell rfl rfl (((hn6.set 0 _).set 1 _).set 2 _) Tryz.underlying79 rfl (by kernel_rfl)) rfl ⟨_, rfl, ?_, ?_, ?_⟩
      · exact ownsRow_set (ownsRow_set (ownsRow_set (ownsRow_base hown6 (by omega)) (by simpa using ownsRow_new hown6 w.heap.size (by omega)) _) (by simpa using ownsRow_new hown6 w.heap.size (by omega)) _) (by simpa using ownsRow_new hown6 w.heap.size (by omega)) _
      · exact ((hb6.set_other _ (by simp; omega) _).set_other _ (by simp; omega) _).set_other _ (by simp; omega) _
      · exact ((hK6'.setCell (by simp) _).setCell (by simp) _).setCell (by simp) _
    | true =>
      cases bd with
      | true =>
        obtain ⟨rfl, rfl, rfl⟩ := HAr.out.done rfl
        obtain ⟨ad, cap, rfl⟩ := ownsRow_form hown
        have hc2 := hb4.cell 2
        simp [scan] at hc2
        have hNlt := hA4.lt
        have hblt := hb4.lt
        clear hacc hacc2 hk' HAr
        go_wp2_with fail
        refine (must_any b s a true 41 41 _ rfl hs ha hb4).mono ?_
        rintro e w6 ⟨rfl, hb6, hK6⟩
        have hm2 := HJ.out.2.2.2.2
        simp only [mustTo, Prod.mk.injEq] at hm2
        rw [hm2.1, hm2.2] at hb6
        have hA6 := hA4.kept hK6 (by simp; omega)
        have hn6 := hn4.kept hK6 (by simp; omega)
        have hown6 := ownsRow_kept hown hK6 (by simp; omega)
        have hK6' := hK4.trans hK6
        clear hb4 hA4 hn4 hown hK4 hK6 hm2 hc2
        have hx0 := hA6.cell 0
        have hx1 := hA6.cell 1
        have hx2 := hA6.cell 2
        have hy0 := hn6.cell 0
        have hy1 := hn6.cell 1
        have hy2 := hn6.cell 2
        have hyf := hn6.frozen
        simp [atomVal] at hx0 hx1 hx2 hy0 hy1 hy2
        go_wp2
        refine bodyPost_ret (res_cell rfl rfl (((hn6.set 0 _).set 1 _).set 2 _) Tryz.underlying79 rfl (by kernel_rfl)) rfl ⟨_, rfl, ?_, ?_, ?_⟩
        · exact ownsRow_set (ownsRow_set (ownsRow_set (ownsRow_base hown6 (by omega)) (by simpa using ownsRow_new hown6 w.heap.size (by omega)) _) (by simpa using ownsRow_new hown6 w.heap.size (by omega)) _) (by simpa using ownsRow_new hown6 w.heap.size (by omega)) _
        · exact ((hb6.set_other _ (by simp; omega) _).set_other _ (by simp; omega) _).set_other _ (by simp; omega) _
        · exact ((hK6'.setCell (by simp) _).setCell (by simp) _).setCell (by simp) _
      | false =>
        have hc2 := hb4.cell 2
        have hc1 := hA4.cell 1
        have hf1 := hA4.frozen 1
        simp [scan, atomVal] at hc2 hc1
        have hNlt := hA4.lt
        have hblt := hb4.lt
        have hacc3 : acc.length ≤ a := hacc2 rfl
        clear hacc hacc2
        obtain ⟨t, a', bd', ht⟩ : ∃ t a' bd', termR s a false = (t, a', bd') := ⟨_, _, _, rfl⟩
        have ha' : a' ≤ s.size := by have := termR_le s a false ha; rw [ht] at this; exact this
        have HS := HAr.out.step ht ha hacc3
        obtain ⟨m, hm⟩ : ∃ m, (!bd' && atB s (gapB s a' bd') 44) = m := ⟨_, rfl⟩
        obtain ⟨a6, ha6⟩ : ∃ a6, isTo s a' bd' 44 = a6 := ⟨_, rfl⟩
        rw [hm, ha6] at HS
        obtain ⟨q1, q2, q3, q4, q5⟩ := HS
        have HQ : Hid (termR s a false = (t, a', bd') ∧ (!bd' && atB s (gapB s a' bd') 44) = m ∧ isTo s a' bd' 44 = a6 ∧ a6 ≤ s.size ∧ (acc ++ [t]).length ≤ a6 + 1 ∧ ((m && !bd') = true → (acc ++ [t]).length ≤ a6) ∧ 2 * (s.size - a6) + (if (m && !bd') = true then 1 else 0) < gk ∧ ArgsRel s m bd' a6 (acc ++ [t]) (L, a3, b3)) :=
          ⟨ht, hm, ha6, q1, q2, q3, by have := hk'.out; simp at this; omega, q5⟩
        clear ht hm ha6 q1 q2 q3 q4 q5 hk' HAr
        go_wp2_with fail
        go_region_law
          (first
            | (go_simp; go_at_call 127; refine (term_any b s a false _ hs ha (by first | exact hb4 | exact hb4.drew)).mono ?_; rintro e wt ⟨rfl, hbt, hKt⟩; rw [HQ.out.1] at hbt ⊢; have hAt := hA4.drew.kept hKt (by simp; omega); have hct := hAt.cell 1; have hft := hAt.frozen 1; have hca := fun o => (hAt.alloc o).cell 1; simp [atomVal] at hct hca; simp only [termVal])
            | (refine step_append_lies _ (by rfl) _ _ _ (by rfl) (N + 1) 93 i0 _ 2 24 Tryz.underlying77 hi0 hz0 hz1 hz2 rfl (by omega) av acc.length (acc.flatMap termVal) (by rfl) ((ownsRow_kept (ownsRow_drew hown) hKt (by simp; omega)).alloc _)
                 ⟨wt.heap.size, 0, none⟩ 1 1 (termVal t) (by rfl) (by rfl) (World.news_of_block (cs := (termVal t).toArray) (t := 93) (fr := (0, 0)) (heap_alloc_new wt _)) (by simp [Value.oneCell', termVal])
                 (by omega) (by unfold maxLen; omega) (by omega) (by simp; have := hKt.size; simp at this; omega) (wt.heap.size + 1) (by simp) ?_; intro gg cap w5 hown5 hgrow hat5 hlt5;
               have hA5 := (hAt.alloc _).grown hgrow (ownsRow_new hown N (by omega)); have hc5 := hA5.cell 1; have hf5 := hA5.frozen 1; simp [atomVal] at hc5))
        all_goals
          go_wp2_with fail
          have hb5 := ((hbt.alloc _).grown hgrow (ownsRow_new hown b (by omega))).set_other ⟨N, 1, none⟩ (by simp; omega) (.slice (some ⟨gg, 0, none⟩) (acc.length + 1) cap)
          have hgg := (hown5.lt gg rfl).1
          have hA5' := hA5.set 1 (.slice (some ⟨gg, 0, none⟩) (acc.length + 1) cap)
          have hn5' := ((((hn4.drew).kept hKt (by simp; omega)).alloc _).grown hgrow (ownsRow_new hown w.heap.size (by omega))).set_other ⟨N, 1, none⟩ (by simp; omega) (.slice (some ⟨gg, 0, none⟩) (acc.length + 1) cap)
          have hK5' := (((hK4.drew.trans hKt).alloc _).grown hgrow (fun k hk => Or.inr (by have := (hown.lt k hk).1; omega))).setCell (p := ⟨N, 1, none⟩) (by simp; omega) (.slice (some ⟨gg, 0, none⟩) (acc.length + 1) cap)
          have hown5' := ownsRow_set hown5 (p := ⟨N, 1, none⟩) (by simp [Value.ownBlock]; omega) (.slice (some ⟨gg, 0, none⟩) (acc.length + 1) cap)
          clear hown5 hA5 hc5 hf5 hgrow hat5 hlt5 hct hft hca hAt hbt hKt hown hK4 hn4 hA4 hb4 hc1 hc2 hf1
          refine (is_any b s a' bd' 44 44 _ rfl hs ha' hb5).mono ?_
          rintro e w6 ⟨rfl, hb6, hK6⟩
          have hA6 := hA5'.kept hK6 (by simp; omega)
          have hn6 := hn5'.kept hK6 (by simp; omega)
          have hK6' := hK5'.trans hK6
          have hown6 := ownsRow_kept hown5' hK6 (by simp; omega)
          rw [HQ.out.2.2.1] at hb6
          rw [HQ.out.2.1]
          clear hb5 hA5' hn5' hK5' hown5' hK6
          go_wp2_with fail
          go_roundg (2 * (s.size - a6) + (if (m && !bd') = true then 1 else 0))
          case measure => exact HQ.out.2.2.2.2.2.2.1
          case rel =>
            obtain ⟨_, _, _, q1, q2, q3, _, q5⟩ := HQ.out
            refine ⟨m, bd', a6, acc ++ [t], .slice (some ⟨gg, 0, none⟩) (acc.length + 1) cap, rfl, q1, q2, q3, rfl, q5, hb6, hA6, hn6, ?_, hK6'⟩
            simpa using hown6

end Go.Proofs.YtoihbhenbmffcaaGreatDoor

namespace Go.Proofs.YtoihbhenbmffcaaGreatDoor
open Go.RowKit

theorem gapTo_idem (s : ByteArray) (at_ : Nat) : gapTo s (gapTo s at_) = gapTo s at_ := by
  fun_induction gapTo s at_ with
  | case1 at_ h hb ih => exact ih
  | case2 at_ h hb => rw [gapTo]; simp [h, hb]
  | case3 at_ h => rw [gapTo]; simp [h]

structure RLit where
  kind : UInt8
  A : RAtom
  L : RTerm
  R : RTerm
  at_ : Nat

def noTerm : RTerm := ⟨0, ByteArray.empty⟩
def noAtom : RAtom := ⟨ByteArray.empty, [], 0⟩

def litVal (x : RLit) (av : Value) : List Value := [.int .u8 x.kind.toNat, .string x.A.name, av, .int .i64 x.A.at_, .int .u8 x.L.v.toNat, .string x.L.s, .int .u8 x.R.v.toNat, .string x.R.s, .int .i64 x.at_]

def openB (s : ByteArray) (j : Nat) : Bool := !(wordR s j false).2.2 && atB s (gapB s (wordR s j false).2.1 (wordR s j false).2.2) 40
def lowerAt (s : ByteArray) (j : Nat) : Bool := if h : j < s.size then lowerB s[j] else false

def byteAt (s : ByteArray) (i : Nat) : UInt8 := if h : i < s.size then s[i] else 0

/-- The sign of a comparison, and what stands behind it. -/
def cmpR (s : ByteArray) (j a3 : Nat) (t : RTerm) (b2 : Bool) : RLit × Nat × Bool :=
  if !b2 && (atB s a3 61 || atB s a3 35 || atB s a3 60) then
    (⟨byteAt s a3, noAtom, t, (termR s (a3 + 1) false).1, j⟩, (termR s (a3 + 1) false).2)
  else (⟨0, noAtom, t, noTerm, j⟩, a3, true)

/-- A literal, from a scanner that is not broken off. -/
def litR (s : ByteArray) (at_ : Nat) : RLit × Nat × Bool :=
  let j := gapTo s at_
  if atB s j 33 then (⟨33, (atomR s (j + 1) false).1, noTerm, noTerm, j⟩, (atomR s (j + 1) false).2)
  else if lowerAt s j && openB s j then (⟨97, (atomR s j false).1, noTerm, noTerm, j⟩, (atomR s j false).2)
  else cmpR s j (gapB s (termR s j false).2.1 (termR s j false).2.2) (termR s j false).1 (termR s j false).2.2

set_option maxRecDepth 100000 in
set_option maxHeartbeats 1600000 in
theorem lit_not (b : Nat) (s : ByteArray) (at_ j : Nat) (w : World) (hs : s.size ≤ 1000000) (hat : at_ ≤ s.size) (hj : gapTo s at_ = j) (hx : atB s j 33 = true) (hB : Blk w b (scan s at_ false) 73) :
    Calls Tryz.prog 129 #[.pointer (some ⟨b, 0, none⟩)] w fun e w' => ∃ av, e = .returned (.agg (litVal ⟨33, (atomR s (j + 1) false).1, noTerm, noTerm, j⟩ av).toArray) ∧
      w'.ownsRow w.heap.size 93 2 av (atomR s (j + 1) false).1.args.length ((atomR s (j + 1) false).1.args.flatMap termVal) ∧ Blk w' b (scan s (atomR s (j + 1) false).2.1 (atomR s (j + 1) false).2.2) 73 ∧ Kept [b] w w' := by
  have hbw := hB.lt
  have hjs := atB_lt hx
  have hgj : gapB s j false = j := by rw [← hj]; exact gapTo_idem s at_
  have hisj : isTo s j false 33 = j + 1 := by unfold isTo; rw [hgj, hx]; rfl
  have hisb : (!false && atB s (gapB s j false) 33) = true := by rw [hgj, hx]; rfl
  have HJ : Hid (gapTo s at_ = j ∧ isTo s j false 33 = j + 1 ∧ (!false && atB s (gapB s j false) 33) = true) := ⟨hj, hisj, hisb⟩
  clear hj hx hgj hisj hisb
  go_enter Tryz.func129, Tryz.ntmps129
  go_wp2_with fail
  refine (gap_any b s at_ false _ hs hat (hB.alloc _)).mono ?_
  rintro e w1 ⟨rfl, hb, hK⟩
  rw [show gapB s at_ false = j from HJ.out.1] at hb
  have hn := (Blk.new w _ _).kept hK (by simp; omega)
  have hK1 := ((Kept.refl [b] w).alloc _).trans hK
  clear hB hK
  have hb1 := hb.lt
  have hn1 := hn.lt
  have hc1 := hb.cell 1
  simp [scan] at hc1
  go_wp2_with fail
  refine (is_any b s j false 33 33 _ rfl hs (by omega) (hb.alloc _)).mono ?_
  rintro e w2 ⟨rfl, hb2, hK2⟩
  rw [HJ.out.2.1] at hb2
  rw [HJ.out.2.2]
  have hA2 := (Blk.new w1 _ _).kept hK2 (by simp; omega)
  have hn2 := (hn.alloc _).kept hK2 (by simp; omega)
  have hK2' := (hK1.alloc _).trans hK2
  obtain ⟨N, hN⟩ : ∃ N, w1.heap.size = N := ⟨_, rfl⟩
  rw [hN] at hA2 ⊢
  have hNb : b < N := by omega
  have hNw : w.heap.size < N := by omega
  clear hK1 hb hn hb1 hn1 hc1 hK2 hN
  have hx0 := hA2.cell 0
  have hxf := hA2.frozen 0
  simp at hx0
  go_wp2_with fail
  refine (atom_any b s (j + 1) false _ hs (by omega) (hb2.set_other _ (by simp; omega) _)).mono ?_
  rintro e w3 ⟨av, rfl, hown, hb3, hK3⟩
  have hA3 := (hA2.set 0 _).kept hK3 (by simp; omega)
  have hn3 := (hn2.set_other _ (by simp; omega) _).kept hK3 (by simp; omega)
  have hsz3 := hK3.size
  have hAlt := hA2.lt
  simp only [World.size_setCell] at hsz3 hown
  have hK3' := (hK2'.setCell (p := ⟨N, 0, none⟩) (by simp; omega) _).trans hK3
  clear hb2 hA2 hn2 hK2' hK3 hx0 hxf
  obtain ⟨ad, cap, rfl⟩ := ownsRow_form hown
  have hd0 := hA3.cell
  have hdf := hA3.frozen
  have hy0 := hn3.cell
  have hyf := hn3.frozen
  simp only [atomVal]
  have e0 := hd0 0
  have e1 := hd0 1
  have e2 := hd0 2
  have e3 := hd0 3
  have e4 := hd0 4
  have e5 := hd0 5
  have e6 := hd0 6
  have e7 := hd0 7
  have e8 := hd0 8
  have f0 := hy0 0
  have f1 := hy0 1
  have f2 := hy0 2
  have f3 := hy0 3
  have f4 := hy0 4
  have f5 := hy0 5
  have f6 := hy0 6
  have f7 := hy0 7
  have f8 := hy0 8
  simp at e0 e1 e2 e3 e4 e5 e6 e7 e8 f0 f1 f2 f3 f4 f5 f6 f7 f8
  clear hd0 hy0
  go_wp2
  have hrow := fun k hk => ownsRow_new hown k hk
  refine bodyPost_ret (res_cell rfl rfl ((((((((((((hn3.set_other _ (by simp; omega) _).set_other _ (by simp; omega) _).set_other _ (by simp; omega) _).set 0 _).set 1 _).set 2 _).set 3 _).set 4 _).set 5 _).set 6 _).set 7 _).set 8 _) Tryz.underlying95 rfl (by kernel_rfl)) rfl ⟨_, rfl, ?_, ?_, ?_⟩
  · repeat (refine ownsRow_set ?_ (by have := hrow w.heap.size (by omega); have := hrow N (by omega); assumption) _)
    exact ownsRow_base hown (by omega)
  · repeat (refine Blk.set_other ?_ _ (by simp; omega) _)
    exact hb3
  · repeat (refine Kept.setCell ?_ (by simp; try omega) _)
    exact hK3'

end Go.Proofs.YtoihbhenbmffcaaGreatDoor

namespace Go.Proofs.YtoihbhenbmffcaaGreatDoor
open Go.RowKit

set_option maxRecDepth 100000 in
set_option maxHeartbeats 1600000 in
theorem lit_atom (b : Nat) (s : ByteArray) (at_ j : Nat) (w : World) (hs : s.size ≤ 1000000) (hat : at_ ≤ s.size) (hj : gapTo s at_ = j) (hx : atB s j 33 = false) (hlt : j < s.size) (hl : lowerB s[j] = true) (ho : Hid (openB s j = true)) (hB : Blk w b (scan s at_ false) 73) :
    Calls Tryz.prog 129 #[.pointer (some ⟨b, 0, none⟩)] w fun e w' => ∃ av, e = .returned (.agg (litVal ⟨97, (atomR s j false).1, noTerm, noTerm, j⟩ av).toArray) ∧
      w'.ownsRow w.heap.size 93 2 av (atomR s j false).1.args.length ((atomR s j false).1.args.flatMap termVal) ∧ Blk w' b (scan s (atomR s j false).2.1 (atomR s j false).2.2) 73 ∧ Kept [b] w w' := by
  have hbw := hB.lt
  have hjs : j ≤ s.size := by have := gapTo_le s at_ hat; omega
  have hgj : gapB s j false = j := by rw [← hj]; exact gapTo_idem s at_
  have hisj : isTo s j false 33 = j := by unfold isTo; rw [hgj, hx]; rfl
  have hisb : (!false && atB s (gapB s j false) 33) = false := by rw [hgj, hx]; rfl
  have HJ : Hid (gapTo s at_ = j ∧ isTo s j false 33 = j ∧ (!false && atB s (gapB s j false) 33) = false) := ⟨hj, hisj, hisb⟩
  clear hj hx hgj hisj hisb
  go_enter Tryz.func129, Tryz.ntmps129
  go_wp2_with fail
  refine (gap_any b s at_ false _ hs hat (hB.alloc _)).mono ?_
  rintro e w1 ⟨rfl, hb, hK⟩
  rw [show gapB s at_ false = j from HJ.out.1] at hb
  have hn := (Blk.new w _ _).kept hK (by simp; omega)
  have hK1 := ((Kept.refl [b] w).alloc _).trans hK
  clear hB hK
  have hb1 := hb.lt
  have hn1 := hn.lt
  have hc1 := hb.cell 1
  simp [scan] at hc1
  go_wp2_with fail
  refine (is_any b s j false 33 33 _ rfl hs (by omega) (hb.alloc _)).mono ?_
  rintro e w2 ⟨rfl, hb2, hK2⟩
  rw [HJ.out.2.1] at hb2
  rw [HJ.out.2.2]
  have hA2 := (Blk.new w1 _ _).kept hK2 (by simp; omega)
  have hn2 := (hn.alloc _).kept hK2 (by simp; omega)
  have hK2' := (hK1.alloc _).trans hK2
  obtain ⟨N, hN⟩ : ∃ N, w1.heap.size = N := ⟨_, rfl⟩
  rw [hN] at hA2 ⊢
  have hNb : b < N := by omega
  have hNw : w.heap.size < N := by omega
  clear hK1 hb hn hb1 hn1 hc1 hK2 hN HJ
  have hNlt := hA2.lt
  have hblt := hb2.lt
  have hwlt := hn2.lt
  have hc0 := hb2.cell 0
  have hc1 := hb2.cell 1
  have hc2 := hb2.cell 2
  simp [scan] at hc0 hc1 hc2
  have hlt' : (j : Int) < (s.size : Int) := by omega
  obtain ⟨wd, a3, b3, hwd⟩ : ∃ wd a3 b3, wordR s j false = (wd, a3, b3) := ⟨_, _, _, rfl⟩
  have ha3 : a3 ≤ s.size := by have := wordR_le s j false (by omega); rw [hwd] at this; exact this
  have ho' : (!b3 && atB s (gapB s a3 b3) 40) = true := by have h := ho.out; unfold openB at h; rw [hwd] at h; exact h
  have HW : Hid (wordR s j false = (wd, a3, b3) ∧ (!b3 && atB s (gapB s a3 b3) 40) = true) := ⟨hwd, ho'⟩
  clear hwd ho'
  go_wp2_with fail
  go_quiet ((go_at_call 169; exact Calls.quiet_of_same (lower_any _ s[j] _ rfl)))
  go_wp2_with fail
  go_region
  go_wp2_with fail
  refine (word_any w2.heap.size s j false _ hs (by omega) (Blk.new (w2.drewN _) (scan s j false) 73)).mono ?_
  rintro e w3 ⟨rfl, hb3, hK3⟩
  rw [HW.out.1] at hb3 ⊢
  have hb3' := ((hb2.drewN _).alloc _).kept hK3 (by simp; omega)
  have hA3 := ((hA2.drewN _).alloc _).kept hK3 (by simp; omega)
  have hn3 := ((hn2.drewN _).alloc _).kept hK3 (by simp; omega)
  have hK3' := ((hK2'.drewN _).alloc _).trans' hK3 (by have := hK2'.size; simp; omega)
  clear hb2 hA2 hn2 hK3 hc0 hc1 hc2
  simp only
  go_wp2_with fail
  refine (sees_any w2.heap.size s a3 b3 40 40 _ rfl hs ha3 hb3).mono ?_
  rintro e w4 ⟨rfl, _, hK4⟩
  have hb4 := hb3'.kept hK4 (by simp; omega)
  have hA4 := hA3.kept hK4 (by simp; omega)
  have hn4 := hn3.kept hK4 (by simp; omega)
  have hK4' := hK3'.trans' hK4 (by have := hK2'.size; simp; omega)
  rw [HW.out.2]
  clear hb3' hA3 hn3 hK3' hK4 hb3 HW hK2'
  have hx0 := hA4.cell 0
  have hxf := hA4.frozen 0
  simp at hx0
  have hA4lt := hA4.lt
  go_wp2_with fail
  refine (atom_any b s j false _ hs (by omega) (hb4.set_other _ (by simp; omega) _)).mono ?_
  rintro e w5 ⟨av, rfl, hown, hb5, hK5⟩
  have hA5 := (hA4.set 0 _).kept hK5 (by simp; omega)
  have hn5 := (hn4.set_other _ (by simp; omega) _).kept hK5 (by simp; omega)
  have hsz5 := hK5.size
  simp only [World.size_setCell] at hsz5 hown
  have hK5' := (hK4'.setCell (p := ⟨N, 0, none⟩) (by simp; omega) _).trans hK5
  clear hb4 hA4 hn4 hK4' hK5 hx0 hxf
  obtain ⟨ad, cap, rfl⟩ := ownsRow_form hown
  have hd0 := hA5.cell
  have hdf := hA5.frozen
  have hy0 := hn5.cell
  have hyf := hn5.frozen
  simp only [atomVal]
  have e0 := hd0 0
  have e1 := hd0 1
  have e2 := hd0 2
  have e3 := hd0 3
  have e4 := hd0 4
  have e5 := hd0 5
  have e6 := hd0 6
  have e7 := hd0 7
  have e8 := hd0 8
  have f0 := hy0 0
  have f1 := hy0 1
  have f2 := hy0 2
  have f3 := hy0 3
  have f4 := hy0 4
  have f5 := hy0 5
  have f6 := hy0 6
  have f7 := hy0 7
  have f8 := hy0 8
  simp at e0 e1 e2 e3 e4 e5 e6 e7 e8 f0 f1 f2 f3 f4 f5 f6 f7 f8
  clear hd0 hy0
  go_wp2
  have hrow := fun k hk => ownsRow_new hown k hk
  refine bodyPost_ret (res_cell rfl rfl ((((((((((((hn5.set_other _ (by simp; omega) _).set_other _ (by simp; omega) _).set_other _ (by simp; omega) _).set 0 _).set 1 _).set 2 _).set 3 _).set 4 _).set 5 _).set 6 _).set 7 _).set 8 _) Tryz.underlying95 rfl (by kernel_rfl)) rfl ⟨_, rfl, ?_, ?_, ?_⟩
  · repeat (refine ownsRow_set ?_ (by have := hrow w.heap.size (by omega); have := hrow N (by omega); assumption) _)
    exact ownsRow_base hown (by omega)
  · repeat (refine Blk.set_other ?_ _ (by simp; omega) _)
    exact hb5
  · repeat (refine Kept.setCell ?_ (by simp; try omega) _)
    exact hK5'

end Go.Proofs.YtoihbhenbmffcaaGreatDoor
