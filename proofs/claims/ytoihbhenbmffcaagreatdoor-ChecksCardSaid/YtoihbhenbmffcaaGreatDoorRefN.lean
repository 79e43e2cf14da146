import Derived.Test.YtoihbhenbmffcaaGreatDoorRefJ
import Derived.Test.YtoihbhenbmffcaaGreatDoorRefK
import Derived.Test.YtoihbhenbmffcaaGreatDoorRefL
import Derived.Test.YtoihbhenbmffcaaGreatDoorRefM
set_option linter.unusedVariables false
set_option linter.unusedSimpArgs false

namespace Go.Proofs.YtoihbhenbmffcaaGreatDoor
open Go.RowKit

theorem termR_end {s : ByteArray} {j : Nat} (h : ¬ j < s.size) : (termR s j false).2.2 = true := by
  have h1 := gapTo_ge s j
  unfold termR
  rw [dif_neg (by omega)]
  rfl

theorem lit_any (b : Nat) (s : ByteArray) (at_ : Nat) (w : World) (hs : s.size ≤ 1000000) (hat : at_ ≤ s.size) (hB : Blk w b (scan s at_ false) 73) :
    Calls Tryz.prog 129 #[.pointer (some ⟨b, 0, none⟩)] w fun e w' => ∃ av, e = .returned (.agg (litVal (litR s at_).1 av).toArray) ∧
      w'.ownsRow w.heap.size 93 2 av (litR s at_).1.A.args.length ((litR s at_).1.A.args.flatMap termVal) ∧ Blk w' b (scan s (litR s at_).2.1 (litR s at_).2.2) 73 ∧ Kept [b] w w' := by
  obtain ⟨j, hj⟩ : ∃ j, gapTo s at_ = j := ⟨_, rfl⟩
  have hjs : j ≤ s.size := by have := gapTo_le s at_ hat; omega
  cases hx : atB s j 33 with
  | true =>
    have e : litR s at_ = (⟨33, (atomR s (j + 1) false).1, noTerm, noTerm, j⟩, (atomR s (j + 1) false).2) := by unfold litR; simp only [hj, hx, if_true]
    rw [e]
    exact lit_not b s at_ j w hs hat hj hx hB
  | false =>
    cases hlo : (lowerAt s j && openB s j) with
    | true =>
      have e : litR s at_ = (⟨97, (atomR s j false).1, noTerm, noTerm, j⟩, (atomR s j false).2) := by unfold litR; simp only [hj, hx, hlo, if_true, Bool.false_eq_true, if_false]
      rw [e]
      simp only [Bool.and_eq_true] at hlo
      have hlt : j < s.size := by
        have h := hlo.1; unfold lowerAt at h; split at h
        · assumption
        · cases h
      have hl : lowerB s[j] = true := by have h := hlo.1; unfold lowerAt at h; simpa [hlt] using h
      exact lit_atom b s at_ j w hs hat hj hx hlt hl hlo.2 hB
    | false =>
      obtain ⟨t, a2, b2, ht⟩ : ∃ t a2 b2, termR s j false = (t, a2, b2) := ⟨_, _, _, rfl⟩
      obtain ⟨a3, ha3⟩ : ∃ a3, gapB s a2 b2 = a3 := ⟨_, rfl⟩
      have e : litR s at_ = cmpR s j a3 t b2 := by unfold litR; simp only [hj, hx, hlo, ht, ha3, Bool.false_eq_true, if_false]
      rw [e]
      by_cases hlt : j < s.size
      · cases hl : lowerB s[j] with
        | true =>
          have ho : openB s j = false := by have h : lowerAt s j = true := by unfold lowerAt; simp [hlt, hl]
                                            rw [h] at hlo; simpa using hlo
          cases b2 with
          | true => rw [cmpR_bad1]; exact lit_cmpA1 b s at_ j w t a2 a3 hs hat hj hx hlt hl ho ⟨ht, ha3⟩ hB
          | false =>
            by_cases h3 : a3 < s.size
            · cases k1 : ((s[a3].toNat : Int) == 61) with
              | true => rw [cmpR_ok h3 (Or.inl k1)]; exact lit_cmpA4 b s at_ j w t a2 a3 hs hat hj hx hlt hl ho h3 k1 ⟨ht, ha3⟩ hB
              | false =>
                cases k2 : ((s[a3].toNat : Int) == 35) with
                | true => rw [cmpR_ok h3 (Or.inr (Or.inl k2))]; exact lit_cmpA5 b s at_ j w t a2 a3 hs hat hj hx hlt hl ho h3 k2 k1 ⟨ht, ha3⟩ hB
                | false =>
                  cases k3 : ((s[a3].toNat : Int) == 60) with
                  | true => rw [cmpR_ok h3 (Or.inr (Or.inr k3))]; exact lit_cmpA6 b s at_ j w t a2 a3 hs hat hj hx hlt hl ho h3 k3 k1 k2 ⟨ht, ha3⟩ hB
                  | false => rw [cmpR_bad3 h3 k1 k2 k3]; exact lit_cmpA3 b s at_ j w t a2 a3 hs hat hj hx hlt hl ho h3 k1 k2 k3 ⟨ht, ha3⟩ hB
            · rw [cmpR_bad2 h3]; exact lit_cmpA2 b s at_ j w t a2 a3 hs hat hj hx hlt hl ho h3 ⟨ht, ha3⟩ hB
        | false =>
          cases b2 with
          | true => rw [cmpR_bad1]; exact lit_cmpB1 b s at_ j w t a2 a3 hs hat hj hx hlt hl ⟨ht, ha3⟩ hB
          | false =>
            by_cases h3 : a3 < s.size
            · cases k1 : ((s[a3].toNat : Int) == 61) with
              | true => rw [cmpR_ok h3 (Or.inl k1)]; exact lit_cmpB4 b s at_ j w t a2 a3 hs hat hj hx hlt hl h3 k1 ⟨ht, ha3⟩ hB
              | false =>
                cases k2 : ((s[a3].toNat : Int) == 35) with
                | true => rw [cmpR_ok h3 (Or.inr (Or.inl k2))]; exact lit_cmpB5 b s at_ j w t a2 a3 hs hat hj hx hlt hl h3 k2 k1 ⟨ht, ha3⟩ hB
                | false =>
                  cases k3 : ((s[a3].toNat : Int) == 60) with
                  | true => rw [cmpR_ok h3 (Or.inr (Or.inr k3))]; exact lit_cmpB6 b s at_ j w t a2 a3 hs hat hj hx hlt hl h3 k3 k1 k2 ⟨ht, ha3⟩ hB
                  | false => rw [cmpR_bad3 h3 k1 k2 k3]; exact lit_cmpB3 b s at_ j w t a2 a3 hs hat hj hx hlt hl h3 k1 k2 k3 ⟨ht, ha3⟩ hB
            · rw [cmpR_bad2 h3]; exact lit_cmpfalse b s at_ j w t a2 a3 hs hat hj hx hlt hl h3 ⟨ht, ha3⟩ hB
      · have hb2 : b2 = true := by have := termR_end hlt; rw [ht] at this; exact this
        subst hb2
        rw [cmpR_bad1]; exact lit_cmpC1 b s at_ j w t a2 a3 hs hat hj hx hlt ⟨ht, ha3⟩ hB

theorem gapB_ge (s : ByteArray) (at_ : Nat) (bad : Bool) : at_ ≤ gapB s at_ bad := by
  unfold gapB; split
  · exact Nat.le_refl _
  · exact gapTo_ge s at_

theorem wordR_ge (s : ByteArray) (at_ : Nat) (bad : Bool) : at_ ≤ (wordR s at_ bad).2.1 := by
  have h1 := gapTo_ge s at_
  have h2 := runTo_ge lowerB s (gapTo s at_)
  unfold wordR
  split
  · exact Nat.le_refl _
  · split <;> simp only <;> omega

theorem termR_ge (s : ByteArray) (at_ : Nat) (bad : Bool) : at_ ≤ (termR s at_ bad).2.1 := by
  have h1 := gapTo_ge s at_
  have h2 := runTo_ge digitB s (gapTo s at_)
  have h3 := wordR_ge s (gapTo s at_) false
  unfold termR
  split
  · exact Nat.le_refl _
  · split
    · split
      · simp only; omega
      · split
        · simp only; omega
        · split <;> simp only <;> omega
    · exact h1

theorem argsR_ge (s : ByteArray) (at_ : Nat) : at_ ≤ (argsR s at_).2.1 := by
  fun_induction argsR s at_ with
  | case1 at_ hc _ _ ih => have := hc.2.1; simp only; omega
  | case2 at_ hc =>
    have h1 := termR_ge s at_ false
    have h2 := isTo_ge s (termR s at_ false).2.1 (termR s at_ false).2.2 44
    simp only; omega

theorem argsB_ge (s : ByteArray) (p : Nat × Bool) : p.1 ≤ (argsB s p).2.1 := by
  unfold argsB; split
  · exact Nat.le_refl _
  · exact argsR_ge s p.1

theorem argsB_le (s : ByteArray) (p : Nat × Bool) (h : p.1 ≤ s.size) : (argsB s p).2.1 ≤ s.size := by
  unfold argsB; split
  · exact h
  · exact argsR_le s p.1 h

theorem mustTo_gt {s : ByteArray} {at_ : Nat} {bad : Bool} {c : UInt8} (h : (mustTo s at_ bad c).2 = false) : at_ < (mustTo s at_ bad c).1 := by
  unfold mustTo isTo at *
  have := gapB_ge s at_ bad
  simp only at h ⊢
  have h' : (!bad && atB s (gapB s at_ bad) c) = true := by simpa using h
  rw [if_pos h']; omega

theorem atomR_ge (s : ByteArray) (at_ : Nat) (bad : Bool) : at_ ≤ (atomR s at_ bad).2.1 := by
  unfold atomR
  simp only
  have h1 := gapB_ge s at_ bad
  have h2 := wordR_ge s (gapB s at_ bad) bad
  have h3 := isTo_ge s (wordR s (gapB s at_ bad) bad).2.1 (wordR s (gapB s at_ bad) bad).2.2 40
  have h4 := argsB_ge s (mustTo s (wordR s (gapB s at_ bad) bad).2.1 (wordR s (gapB s at_ bad) bad).2.2 40)
  have h5 := isTo_ge s (argsB s (mustTo s (wordR s (gapB s at_ bad) bad).2.1 (wordR s (gapB s at_ bad) bad).2.2 40)).2.1 (argsB s (mustTo s (wordR s (gapB s at_ bad) bad).2.1 (wordR s (gapB s at_ bad) bad).2.2 40)).2.2 41
  have h6 : (mustTo s (wordR s (gapB s at_ bad) bad).2.1 (wordR s (gapB s at_ bad) bad).2.2 40).1 = isTo s (wordR s (gapB s at_ bad) bad).2.1 (wordR s (gapB s at_ bad) bad).2.2 40 := rfl
  show at_ ≤ isTo s _ _ 41
  omega

theorem atomR_gt {s : ByteArray} {at_ : Nat} {bad : Bool} (h : (atomR s at_ bad).2.2 = false) : at_ < (atomR s at_ bad).2.1 := by
  unfold atomR at h ⊢
  simp only at h ⊢
  have h1 := gapB_ge s at_ bad
  have h2 := wordR_ge s (gapB s at_ bad) bad
  have h3 := isTo_ge s (wordR s (gapB s at_ bad) bad).2.1 (wordR s (gapB s at_ bad) bad).2.2 40
  have h4 := argsB_ge s (mustTo s (wordR s (gapB s at_ bad) bad).2.1 (wordR s (gapB s at_ bad) bad).2.2 40)
  have h5 := mustTo_gt h
  have h6 : (mustTo s (wordR s (gapB s at_ bad) bad).2.1 (wordR s (gapB s at_ bad) bad).2.2 40).1 = isTo s (wordR s (gapB s at_ bad) bad).2.1 (wordR s (gapB s at_ bad) bad).2.2 40 := rfl
  omega

theorem atomR_le (s : ByteArray) (at_ : Nat) (bad : Bool) (h : at_ ≤ s.size) : (atomR s at_ bad).2.1 ≤ s.size := by
  unfold atomR
  simp only
  exact isTo_le _ _ _ _ (argsB_le _ _ (isTo_le _ _ _ _ (wordR_le _ _ _ (gapB_le _ _ _ h))))

theorem litR_le (s : ByteArray) (at_ : Nat) (h : at_ ≤ s.size) : (litR s at_).2.1 ≤ s.size := by
  have h1 := gapTo_le s at_ h
  unfold litR
  simp only
  split
  · rename_i hx
    have := atB_lt hx
    exact atomR_le _ _ _ (by omega)
  · split
    · exact atomR_le _ _ _ h1
    · have h2 := gapB_le s _ (termR s (gapTo s at_) false).2.2 (termR_le s (gapTo s at_) false h1)
      unfold cmpR
      split
      · rename_i hc
        simp only [Bool.and_eq_true, Bool.or_eq_true] at hc
        have : gapB s (termR s (gapTo s at_) false).2.1 (termR s (gapTo s at_) false).2.2 < s.size := by
          rcases hc.2 with (h3 | h3) | h3 <;> exact atB_lt h3
        exact termR_le _ _ _ (by omega)
      · exact h2

theorem litR_ge (s : ByteArray) (at_ : Nat) : at_ ≤ (litR s at_).2.1 := by
  have h1 := gapTo_ge s at_
  unfold litR
  simp only
  split
  · have := atomR_ge s (gapTo s at_ + 1) false; simp only; omega
  · split
    · have := atomR_ge s (gapTo s at_) false; simp only; omega
    · have h2 := termR_ge s (gapTo s at_) false
      have h3 := gapB_ge s (termR s (gapTo s at_) false).2.1 (termR s (gapTo s at_) false).2.2
      unfold cmpR
      split
      · have := termR_ge s (gapB s (termR s (gapTo s at_) false).2.1 (termR s (gapTo s at_) false).2.2 + 1) false
        simp only; omega
      · simp only; omega

theorem litR_gt {s : ByteArray} {at_ : Nat} (h : (litR s at_).2.2 = false) : at_ < (litR s at_).2.1 := by
  have h1 := gapTo_ge s at_
  unfold litR at h ⊢
  simp only at h ⊢
  split
  · have := atomR_ge s (gapTo s at_ + 1) false; simp only; omega
  · rename_i hx
    simp only [hx, Bool.false_eq_true, if_false] at h
    split
    · rename_i hl
      simp only [hl, if_true] at h
      have := atomR_gt h; simp only; omega
    · rename_i hl
      simp only [hl, Bool.false_eq_true, if_false] at h
      have h2 := termR_ge s (gapTo s at_) false
      have h3 := gapB_ge s (termR s (gapTo s at_) false).2.1 (termR s (gapTo s at_) false).2.2
      unfold cmpR at h ⊢
      split
      · have := termR_ge s (gapB s (termR s (gapTo s at_) false).2.1 (termR s (gapTo s at_) false).2.2 + 1) false
        simp only; omega
      · rename_i hc
        simp only [hc, Bool.false_eq_true, if_false] at h
        cases h

/-- The literals of a body, from the first on. -/
def bodyR (s : ByteArray) (at_ : Nat) : List RLit × Nat × Bool :=
  if h : (!(litR s at_).2.2 && atB s (gapB s (litR s at_).2.1 (litR s at_).2.2) 44) = true ∧ at_ < isTo s (litR s at_).2.1 (litR s at_).2.2 44 ∧ at_ < s.size then
    have _h1 : at_ < s.size := h.2.2
    have _h2 := h.2.1
    ((litR s at_).1 :: (bodyR s (isTo s (litR s at_).2.1 (litR s at_).2.2 44)).1, (bodyR s (isTo s (litR s at_).2.1 (litR s at_).2.2 44)).2)
  else ([(litR s at_).1], isTo s (litR s at_).2.1 (litR s at_).2.2 44, (litR s at_).2.2)

theorem bodyR_more {s : ByteArray} {at_ a : Nat} {x : RLit} {bd : Bool} (ht : litR s at_ = (x, a, bd)) (hat : at_ ≤ s.size) (hm : (!bd && atB s (gapB s a bd) 44) = true) :
    at_ < isTo s a bd 44 ∧ bodyR s at_ = (x :: (bodyR s (isTo s a bd 44)).1, (bodyR s (isTo s a bd 44)).2) := by
  have hbd : bd = false := by cases bd <;> simp_all
  subst hbd
  have h1 := litR_gt (s := s) (at_ := at_) (by rw [ht])
  have h2 := litR_le s at_ hat
  rw [ht] at h1 h2
  simp only at h1 h2
  have h3 := isTo_ge s a false 44
  refine ⟨by omega, ?_⟩
  conv => lhs; rw [bodyR]
  rw [dif_pos (by rw [ht]; exact ⟨hm, by simp only; omega, by omega⟩)]
  simp only [ht]

theorem bodyR_last {s : ByteArray} {at_ a : Nat} {x : RLit} {bd : Bool} (ht : litR s at_ = (x, a, bd)) (hm : (!bd && atB s (gapB s a bd) 44) = false) :
    bodyR s at_ = ([x], isTo s a bd 44, bd) := by
  conv => lhs; rw [bodyR]
  rw [dif_neg (by rw [ht]; intro h; rw [h.1] at hm; cases hm), ht]

theorem bodyR_le (s : ByteArray) (at_ : Nat) (h : at_ ≤ s.size) : (bodyR s at_).2.1 ≤ s.size := by
  fun_induction bodyR s at_ with
  | case1 at_ hc _ _ ih => exact ih (isTo_le _ _ _ _ (litR_le _ _ h))
  | case2 at_ hc => exact isTo_le _ _ _ _ (litR_le _ _ h)

theorem bodyR_ge (s : ByteArray) (at_ : Nat) : at_ ≤ (bodyR s at_).2.1 := by
  fun_induction bodyR s at_ with
  | case1 at_ hc _ _ ih => have := hc.2.1; simp only; omega
  | case2 at_ hc =>
    have h1 := litR_ge s at_
    have h2 := isTo_ge s (litR s at_).2.1 (litR s at_).2.2 44
    simp only; omega

/-- Where the loop over the literals stands. -/
def BodyRel (s : ByteArray) (mb bd : Bool) (a : Nat) (acc : List RLit) (R : List RLit × Nat × Bool) : Prop :=
  if (mb && !bd) = true then (acc ++ (bodyR s a).1, (bodyR s a).2) = R else (acc, a, bd) = R

theorem BodyRel.step {s : ByteArray} {a a' : Nat} {acc : List RLit} {R : List RLit × Nat × Bool} {t : RLit} {bd : Bool} (h : BodyRel s true false a acc R) (ht : litR s a = (t, a', bd)) (ha : a ≤ s.size) (hl : acc.length ≤ a) :
    isTo s a' bd 44 ≤ s.size ∧ (acc ++ [t]).length ≤ isTo s a' bd 44 + 1 ∧ (((!bd && atB s (gapB s a' bd) 44) && !bd) = true → (acc ++ [t]).length ≤ isTo s a' bd 44) ∧
    2 * (s.size - isTo s a' bd 44) + (if ((!bd && atB s (gapB s a' bd) 44) && !bd) = true then 1 else 0) < 2 * (s.size - a) + 1 ∧
    BodyRel s (!bd && atB s (gapB s a' bd) 44) bd (isTo s a' bd 44) (acc ++ [t]) R := by
  have h2 := litR_le s a ha
  have hge := isTo_ge s a' bd 44
  have hgt : bd = false → a < a' := fun hb => by
    have := litR_gt (s := s) (at_ := a) (by rw [ht]; exact hb)
    rw [ht] at this; exact this
  have hge0 : a ≤ a' := by have := litR_ge s a; rw [ht] at this; exact this
  rw [ht] at h2
  simp only at h2
  have hle := isTo_le s a' bd 44 h2
  unfold BodyRel at h
  simp only [Bool.not_false, Bool.and_self, if_true] at h
  cases hm : (!bd && atB s (gapB s a' bd) 44) with
  | true =>
    have hbd : bd = false := by cases bd <;> simp_all
    subst hbd
    obtain ⟨h5, h6⟩ := bodyR_more ht ha hm
    have := hgt rfl
    refine ⟨hle, by simp; omega, by simp; omega, by simp; omega, ?_⟩
    unfold BodyRel
    simp only [Bool.not_false, Bool.and_self, if_true]
    rw [h6] at h
    rw [← h]
    simp
  | false =>
    refine ⟨hle, by simp; omega, by simp, by simp; omega, ?_⟩
    unfold BodyRel
    rw [bodyR_last ht hm] at h
    rw [← h]
    simp

theorem BodyRel.done {s : ByteArray} {a : Nat} {mb bd : Bool} {acc L : List RLit} {a3 : Nat} {b3 : Bool} (h : BodyRel s mb bd a acc (L, a3, b3)) (hc : (mb && !bd) = false) : acc = L ∧ a = a3 ∧ bd = b3 := by
  unfold BodyRel at h
  rw [if_neg (by rw [hc]; exact Bool.false_ne_true)] at h
  simpa using h

end Go.Proofs.YtoihbhenbmffcaaGreatDoor
