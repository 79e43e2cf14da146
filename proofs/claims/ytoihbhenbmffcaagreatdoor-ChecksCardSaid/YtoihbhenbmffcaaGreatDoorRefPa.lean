import Derived.Test.YtoihbhenbmffcaaGreatDoorRefX
set_option linter.unusedVariables false
set_option linter.unusedSimpArgs false

namespace Go.Proofs.YtoihbhenbmffcaaGreatDoor
open Go.RowKit

/-- The clauses of a text, from a place on. -/
def clausesR (s : ByteArray) (at_ : Nat) : List RClause × Nat × Bool :=
  if h : at_ < s.size then
    if h2 : (clauseR s at_).2.2 = false ∧ at_ < gapB s (clauseR s at_).2.1 (clauseR s at_).2.2 then
      ((clauseR s at_).1 :: (clausesR s (gapB s (clauseR s at_).2.1 (clauseR s at_).2.2)).1, (clausesR s (gapB s (clauseR s at_).2.1 (clauseR s at_).2.2)).2)
    else ([(clauseR s at_).1], gapB s (clauseR s at_).2.1 (clauseR s at_).2.2, (clauseR s at_).2.2)
  else ([], at_, false)

def clausesB (s : ByteArray) (a : Nat) (bd : Bool) : List RClause × Nat × Bool := if bd then ([], a, true) else clausesR s a

theorem clausesR_step {s : ByteArray} {a a' : Nat} {c : RClause} {bd : Bool} (ha : a < s.size) (hc : clauseR s a = (c, a', bd)) :
    clausesR s a = (c :: (clausesB s (gapB s a' bd) bd).1, (clausesB s (gapB s a' bd) bd).2) := by
  conv => lhs; rw [clausesR]
  rw [dif_pos ha]
  cases bd with
  | true => rw [dif_neg (by rw [hc]; simp)]; rw [hc]; rfl
  | false =>
    have h1 := clauseR_gt (s := s) (at_ := a) (by rw [hc])
    rw [hc] at h1
    have h2 := gapB_ge s a' false
    rw [dif_pos (by rw [hc]; exact ⟨rfl, by simp only at h1 ⊢; omega⟩), hc]
    rfl

theorem clausesR_end {s : ByteArray} {a : Nat} (ha : ¬ a < s.size) : clausesR s a = ([], a, false) := by
  rw [clausesR, dif_neg ha]

/-- A term that was read is a variable, or has a text. -/
def GoodT (s : ByteArray) (t : RTerm) : Prop := t.v = 0 → 0 < t.s.size ∧ t.s.size ≤ s.size

theorem extract_size (s : ByteArray) (i j : Nat) (h : j ≤ s.size) : (s.extract i j).size = j - i := by
  rw [ByteArray.size_extract, Nat.min_eq_left h]

theorem wordR_good {s : ByteArray} {at_ : Nat} (h : (wordR s at_ false).2.2 = false) (hat : at_ ≤ s.size) : 0 < (wordR s at_ false).1.size ∧ (wordR s at_ false).1.size ≤ s.size := by
  have h1 := gapTo_le s at_ hat
  have h2 := runTo_le lowerB s _ h1
  have h3 := runTo_ge lowerB s (gapTo s at_)
  unfold wordR at h ⊢
  simp only [Bool.false_eq_true, if_false] at h ⊢
  split at h
  · cases h
  · rename_i h4
    simp only [h4, if_false]
    rw [extract_size _ _ _ h2]
    omega

theorem termR_good {s : ByteArray} {at_ : Nat} (h : (termR s at_ false).2.2 = false) (hat : at_ ≤ s.size) : GoodT s (termR s at_ false).1 := by
  have h1 := gapTo_le s at_ hat
  intro hv
  unfold termR at h hv ⊢
  simp only [Bool.false_eq_true, if_false] at h hv ⊢
  split at h
  · rename_i hlt
    simp only [hlt, dite_true] at hv ⊢
    split at h
    · rename_i hu
      simp only [hu, if_true] at hv
      rw [hv] at hu
      exact absurd hu (by decide)
    · rename_i hu
      simp only [hu, if_false, Bool.false_eq_true] at hv ⊢
      split at h
      · rename_i hd
        simp only [hd, if_true]
        exact wordR_good h h1
      · rename_i hd
        simp only [hd, if_false, Bool.false_eq_true]
        split at h
        · cases h
        · rename_i h3
          simp only [h3, if_false]
          have h2 := runTo_le digitB s _ h1
          have hd' : digitB s[gapTo s at_] = true := by simpa using hd
          have h5 := runTo_yes digitB s _ hlt hd'
          have h6 := runTo_ge digitB s (gapTo s at_ + 1)
          show 0 < (s.extract (gapTo s at_) (runTo digitB s (gapTo s at_))).size ∧ _
          rw [extract_size _ _ _ h2]
          omega
  · cases h

theorem argsR_good (s : ByteArray) (at_ : Nat) (hat : at_ ≤ s.size) : (argsR s at_).1.length ≤ s.size - at_ + 1 ∧ ((argsR s at_).2.2 = false → ∀ t ∈ (argsR s at_).1, GoodT s t) := by
  fun_induction argsR s at_ with
  | case1 at_ hc _ _ ih =>
    have hle := isTo_le s _ (termR s at_ false).2.2 44 (termR_le s at_ false hat)
    obtain ⟨i1, i2⟩ := ih hle
    have hlt := hc.2.1
    refine ⟨by simp only [List.length_cons]; omega, fun hb t ht => ?_⟩
    rcases List.mem_cons.1 ht with rfl | ht
    · have hb0 : (termR s at_ false).2.2 = false := by
        have := hc.1; simp only [Bool.and_eq_true, Bool.not_eq_true'] at this; exact this.1
      exact termR_good hb0 hat
    · exact i2 hb t ht
  | case2 at_ hc =>
    refine ⟨by simp, fun hb t ht => ?_⟩
    simp only [List.mem_singleton] at ht
    subst ht
    exact termR_good hb hat

theorem argsB_good (s : ByteArray) (p : Nat × Bool) (hp : p.1 ≤ s.size) : (argsB s p).1.length ≤ s.size + 1 ∧ ((argsB s p).2.2 = false → ∀ t ∈ (argsB s p).1, GoodT s t) := by
  unfold argsB
  split
  · exact ⟨by simp, fun h => by cases h⟩
  · have h := argsR_good s p.1 hp
    exact ⟨by omega, h.2⟩

def GoodA (s : ByteArray) (a : RAtom) : Prop := ∀ t ∈ a.args, GoodT s t

theorem atomR_len (s : ByteArray) (at_ : Nat) (bad : Bool) (hat : at_ ≤ s.size) : (atomR s at_ bad).1.args.length ≤ s.size + 1 := by
  unfold atomR
  exact (argsB_good s _ (isTo_le _ _ _ _ (wordR_le _ _ _ (gapB_le _ _ _ hat)))).1

theorem mustTo_ok {s : ByteArray} {a : Nat} {b : Bool} {c : UInt8} (h : (mustTo s a b c).2 = false) : b = false := by
  unfold mustTo at h; cases b <;> simp_all

theorem atomR_good {s : ByteArray} {at_ : Nat} {bad : Bool} (h : (atomR s at_ bad).2.2 = false) (hat : at_ ≤ s.size) : GoodA s (atomR s at_ bad).1 := by
  unfold atomR at h ⊢
  exact (argsB_good s _ (isTo_le _ _ _ _ (wordR_le _ _ _ (gapB_le _ _ _ hat)))).2 (mustTo_ok h)

structure GoodL (s : ByteArray) (x : RLit) : Prop where
  atom : GoodA s x.A
  left : (x.kind == 97 || x.kind == 33) = false → GoodT s x.L
  right : (x.kind == 97 || x.kind == 33) = false → GoodT s x.R

theorem litR_len (s : ByteArray) (at_ : Nat) (hat : at_ ≤ s.size) : (litR s at_).1.A.args.length ≤ s.size + 1 := by
  have h1 := gapTo_le s at_ hat
  unfold litR
  simp only
  split
  · rename_i hx
    have := atB_lt hx
    exact atomR_len s _ _ (by omega)
  · split
    · exact atomR_len s _ _ h1
    · unfold cmpR; split <;> simp [noAtom]

theorem litR_good {s : ByteArray} {at_ : Nat} (h : (litR s at_).2.2 = false) (hat : at_ ≤ s.size) : GoodL s (litR s at_).1 := by
  have h1 := gapTo_le s at_ hat
  unfold litR at h ⊢
  simp only at h ⊢
  split at h
  · rename_i hx
    simp only [hx, if_true]
    have := atB_lt hx
    exact ⟨atomR_good h (by omega), fun hk => by simp at hk, fun hk => by simp at hk⟩
  · rename_i hx
    simp only [hx, Bool.false_eq_true, if_false]
    split at h
    · rename_i hl
      simp only [hl, if_true]
      exact ⟨atomR_good h h1, fun hk => by simp at hk, fun hk => by simp at hk⟩
    · rename_i hl
      simp only [hl, Bool.false_eq_true, if_false]
      unfold cmpR at h ⊢
      split at h
      · rename_i hc
        simp only [hc, if_true]
        simp only [Bool.and_eq_true, Bool.not_eq_true', Bool.or_eq_true] at hc
        have hlt : gapB s (termR s (gapTo s at_) false).2.1 (termR s (gapTo s at_) false).2.2 < s.size := by
          rcases hc.2 with (h3 | h3) | h3 <;> exact atB_lt h3
        exact ⟨fun t ht => by simp [noAtom] at ht, fun _ => termR_good hc.1 h1, fun _ => termR_good h (by omega)⟩
      · cases h

theorem bodyR_good (s : ByteArray) (at_ : Nat) (hat : at_ ≤ s.size) : (bodyR s at_).1.length ≤ s.size - at_ + 1 ∧ (∀ x ∈ (bodyR s at_).1, x.A.args.length ≤ s.size + 1) ∧ ((bodyR s at_).2.2 = false → ∀ x ∈ (bodyR s at_).1, GoodL s x) := by
  fun_induction bodyR s at_ with
  | case1 at_ hc _ _ ih =>
    have hle := isTo_le s _ (litR s at_).2.2 44 (litR_le s at_ hat)
    obtain ⟨i1, i2, i3⟩ := ih hle
    have hlt := hc.2.1
    refine ⟨by simp only [List.length_cons]; omega, fun x hx => ?_, fun hb x hx => ?_⟩
    · rcases List.mem_cons.1 hx with rfl | hx
      · exact litR_len s at_ hat
      · exact i2 x hx
    · rcases List.mem_cons.1 hx with rfl | hx
      · have hb0 : (litR s at_).2.2 = false := by
          have := hc.1; simp only [Bool.and_eq_true, Bool.not_eq_true'] at this; exact this.1
        exact litR_good hb0 hat
      · exact i3 hb x hx
  | case2 at_ hc =>
    refine ⟨by simp, fun x hx => ?_, fun hb x hx => ?_⟩
    · simp only [List.mem_singleton] at hx; subst hx; exact litR_len s at_ hat
    · simp only [List.mem_singleton] at hx; subst hx; exact litR_good hb hat

structure GoodC (s : ByteArray) (c : RClause) : Prop where
  head : GoodA s c.head
  body : ∀ x ∈ c.body, GoodL s x

structure LenC (s : ByteArray) (c : RClause) : Prop where
  head : c.head.args.length ≤ s.size + 1
  body : c.body.length ≤ s.size + 1
  lits : ∀ x ∈ c.body, x.A.args.length ≤ s.size + 1

theorem restR_good (s : ByteArray) (a1 : Nat) (b1 : Bool) (ha : a1 ≤ s.size) : (restR s a1 b1).1.length ≤ s.size + 1 ∧ (∀ x ∈ (restR s a1 b1).1, x.A.args.length ≤ s.size + 1) ∧ ((restR s a1 b1).2.2 = false → b1 = false ∧ ∀ x ∈ (restR s a1 b1).1, GoodL s x) := by
  unfold restR
  split
  · rename_i hc
    have hb1 : b1 = false := by cases b1 <;> simp_all
    split
    · rename_i hx
      have hlt := atB_lt hx
      obtain ⟨i1, i2, i3⟩ := bodyR_good s (isTo s a1 b1 58 + 1) (by omega)
      exact ⟨by omega, i2, fun h => ⟨hb1, i3 h⟩⟩
    · exact ⟨by simp, fun x hx => by simp at hx, fun h => by cases h⟩
  · exact ⟨by simp, fun x hx => by simp at hx, fun h => ⟨h, fun x hx => by simp at hx⟩⟩

theorem clauseR_len (s : ByteArray) (at_ : Nat) (hat : at_ ≤ s.size) : LenC s (clauseR s at_).1 := by
  have h1 := gapTo_le s at_ hat
  have h2 := restR_good s (atomR s (gapTo s at_) false).2.1 (atomR s (gapTo s at_) false).2.2 (atomR_le _ _ _ h1)
  unfold clauseR
  exact ⟨atomR_len s _ _ h1, h2.1, h2.2.1⟩

theorem clauseR_good {s : ByteArray} {at_ : Nat} (h : (clauseR s at_).2.2 = false) (hat : at_ ≤ s.size) : GoodC s (clauseR s at_).1 := by
  have h1 := gapTo_le s at_ hat
  have h2 := restR_good s (atomR s (gapTo s at_) false).2.1 (atomR s (gapTo s at_) false).2.2 (atomR_le _ _ _ h1)
  unfold clauseR at h ⊢
  have h3 := h2.2.2 (mustTo_ok h)
  exact ⟨atomR_good h3.1 h1, h3.2⟩

end Go.Proofs.YtoihbhenbmffcaaGreatDoor
