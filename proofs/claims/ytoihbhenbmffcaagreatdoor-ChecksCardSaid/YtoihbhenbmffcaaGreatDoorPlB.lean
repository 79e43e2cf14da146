import Derived.Test.YtoihbhenbmffcaaGreatDoorPlA
import Derived.Test.YtoihbhenbmffcaaGreatDoorCodL
set_option linter.unusedVariables false
set_option linter.unusedSimpArgs false

namespace Go.Proofs.YtoihbhenbmffcaaGreatDoor
open Go.RowKit

/-- The mark at which a reader at byte a stands. -/
def headMark (s : ByteArray) (a : Nat) : Mark := if gapTo s a < s.size then fixM (tokAt s (gapTo s a)).1 else endMark s

/-- The reader stands at mark nx, the scanner at byte a. -/
def At (s : ByteArray) (ms : List Mark) (nx a : Nat) : Prop := ms.drop nx = marksFrom s a

theorem marksFrom_gap (s : ByteArray) (a : Nat) : marksFrom s (gapTo s a) = marksFrom s a := by
  unfold marksFrom
  congr 2
  by_cases h2 : gapTo s a < s.size
  · rw [toks_step (gapTo_idem s a) h2, toks_step rfl h2]
  · rw [toks_end h2, toks_end (by rw [gapTo_idem]; exact h2)]

theorem At.gap {s : ByteArray} {ms : List Mark} {nx a : Nat} (h : At s ms nx a) : At s ms nx (gapTo s a) := by
  unfold At at *; rw [marksFrom_gap]; exact h

theorem At.head {s : ByteArray} {ms : List Mark} {nx a : Nat} (h : At s ms nx a) : markAt ms nx = headMark s a := by
  unfold At at h
  have e : ms[nx]? = (marksFrom s a)[0]? := by rw [← h]; simp
  unfold markAt headMark
  rw [List.getD_eq_getElem?_getD, e]
  unfold marksFrom toks
  split
  · simp
  · simp

theorem At.next {s : ByteArray} {ms : List Mark} {nx a j : Nat} (h : At s ms nx a) (hj : gapTo s a = j) (hl : j < s.size) : At s ms (nx + 1) (tokAt s j).2 := by
  unfold At at *
  rw [← List.drop_drop, h]
  unfold marksFrom
  rw [toks_step hj hl]
  simp

theorem At.lt {s : ByteArray} {ms : List Mark} {nx a : Nat} (h : At s ms nx a) : nx < ms.length := by
  unfold At at h
  have : (ms.drop nx).length = (marksFrom s a).length := by rw [h]
  unfold marksFrom at this
  simp at this
  omega

theorem head_end {s : ByteArray} {a : Nat} (h : ¬ gapTo s a < s.size) : headMark s a = endMark s := by simp [headMark, h]

theorem head_word {s : ByteArray} {a j : Nat} (hj : gapTo s a = j) (h : j < s.size) (hl : lowerB s[j] = true) :
    headMark s a = ⟨if runTo lowerB s j - j ≤ 4 then 2 else 0, j, s.extract j (runTo lowerB s j)⟩ ∧ (tokAt s j).2 = runTo lowerB s j := by
  have hle := runTo_le lowerB s j (by omega)
  have ht : tokAt s j = (⟨2, j, s.extract j (runTo lowerB s j)⟩, runTo lowerB s j) := by unfold tokAt; rw [byteAt_lt h, hl]; rfl
  unfold headMark
  rw [hj, if_pos h, ht]
  refine ⟨?_, rfl⟩
  simp only [fixM, wholeB, size_extract hle, if_true]
  by_cases hq : runTo lowerB s j - j ≤ 4 <;> simp [hq]

theorem atB_extract {s : ByteArray} {j k : Nat} (h : j < s.size) (hk : k ≤ s.size) (hjk : j < k) (c : UInt8) : atB (s.extract j k) 0 c = (s[j] == c) := by
  unfold atB
  rw [dif_pos (by rw [size_extract hk]; omega)]
  simp [ByteArray.getElem_extract]

theorem head_digits {s : ByteArray} {a j : Nat} (hj : gapTo s a = j) (h : j < s.size) (hl : lowerB s[j] = false) (hd : digitB s[j] = true) :
    headMark s a = ⟨if 3 < runTo digitB s j - j ∨ (s[j] = 48 ∧ 1 < runTo digitB s j - j) then 0 else 3, j, s.extract j (runTo digitB s j)⟩ ∧ (tokAt s j).2 = runTo digitB s j := by
  have hle := runTo_le digitB s j (by omega)
  have hgt : j < runTo digitB s j := by rw [runTo_yes _ _ _ h hd]; have := runTo_ge digitB s (j + 1); omega
  have ht : tokAt s j = (⟨3, j, s.extract j (runTo digitB s j)⟩, runTo digitB s j) := by unfold tokAt; rw [byteAt_lt h, hl, hd]; rfl
  unfold headMark
  rw [hj, if_pos h, ht]
  refine ⟨?_, rfl⟩
  have hw : wholeB ⟨3, j, s.extract j (runTo digitB s j)⟩ = !decide (3 < runTo digitB s j - j ∨ (s[j] = 48 ∧ 1 < runTo digitB s j - j)) := by
    unfold wholeB
    simp only [size_extract hle, atB_extract h hle hgt]
    rw [if_neg (by decide), if_pos trivial, Bool.eq_iff_iff]
    simp only [Bool.or_eq_true, Bool.and_eq_true, decide_eq_true_eq, Bool.not_eq_true', decide_eq_false_iff_not, beq_eq_false_iff_ne, ne_eq]
    by_cases hz : s[j] = 48
    · simp only [hz, not_true_eq_false, true_and, and_false, or_false]; omega
    · simp only [hz, not_false_eq_true, false_and, and_true, or_false]; omega
  unfold fixM
  rw [hw]
  by_cases hq : 3 < runTo digitB s j - j ∨ (s[j] = 48 ∧ 1 < runTo digitB s j - j) <;> simp [hq]

theorem head_cd {s : ByteArray} {a j : Nat} (hj : gapTo s a = j) (h : j < s.size) (hc : s[j] = 58) (hd : atB s (j + 1) 45 = true) :
    headMark s a = ⟨5, j, cdB⟩ ∧ (tokAt s j).2 = j + 2 := by
  have ht : tokAt s j = (⟨5, j, cdB⟩, j + 2) := by unfold tokAt; rw [byteAt_lt h, hc, hd]; rfl
  unfold headMark
  rw [hj, if_pos h, ht]
  exact ⟨rfl, rfl⟩

/-- One byte by itself. -/
theorem head_one {s : ByteArray} {a j : Nat} (hj : gapTo s a = j) (h : j < s.size) (hl : lowerB s[j] = false) (hd : digitB s[j] = false) (hc : ¬ (s[j] = 58 ∧ atB s (j + 1) 45 = true)) (ha : s[j].toNat < 128) :
    headMark s a = ⟨kindR (s[j].toNat : Int), j, ⟨#[s[j]]⟩⟩ ∧ (tokAt s j).2 = j + 1 := by
  have hl' : ¬ (97 ≤ s[j].toNat ∧ s[j].toNat ≤ 122) := fun h => by rw [(lowerB_iff _).2 h] at hl; cases hl
  have hd' : ¬ (48 ≤ s[j].toNat ∧ s[j].toNat ≤ 57) := fun h => by rw [(digitB_iff _).2 h] at hd; cases hd
  have ht : tokAt s j = (⟨kindR (s[j].toNat : Int), j, ⟨#[s[j]]⟩⟩, j + 1) := by
    unfold tokAt
    rw [byteAt_lt h, hl, hd, decode_ascii s j h ha]
    simp only [Bool.false_eq_true, if_false]
    rw [if_neg hc]
    simp only [newMark, enc_ascii _ ha]
  unfold headMark
  rw [hj, if_pos h, ht]
  refine ⟨?_, rfl⟩
  unfold fixM wholeB
  simp only
  rcases mem_sign hl' hd' with e | e | e <;> simp [e]

theorem head_high {s : ByteArray} {a j : Nat} (hj : gapTo s a = j) (h : j < s.size) (ha : 128 ≤ s[j].toNat) : (headMark s a).kind = 0 ∧ (headMark s a).place = j := by
  have hl : lowerB s[j] = false := by cases hh : lowerB s[j] with | false => rfl | true => have := (lowerB_iff _).1 hh; omega
  have hd : digitB s[j] = false := by cases hh : digitB s[j] with | false => rfl | true => have := (digitB_iff _).1 hh; omega
  have hc : ¬ (s[j] = 58 ∧ atB s (j + 1) 45 = true) := fun hh => by rw [hh.1] at ha; simp at ha
  have hr := (decode_high s j h ha).1
  have hk : kindR ((Utf8.decode s j).1 : Int) = 0 := by unfold kindR; rw [if_neg (by omega), if_neg (by omega), if_neg (by omega), if_neg (by omega)]
  unfold headMark tokAt
  rw [hj, if_pos h, byteAt_lt h, hl, hd]
  simp only [Bool.false_eq_true, if_false]
  rw [if_neg hc]
  simp [newMark, fixM, wholeB, hk]

theorem head_place {s : ByteArray} {a : Nat} (ha : a ≤ s.size) : (headMark s a).place = gapTo s a := by
  obtain ⟨j, hj⟩ : ∃ j, gapTo s a = j := ⟨_, rfl⟩
  have hle := gapTo_le s a ha
  by_cases h : j < s.size
  · by_cases hhi : s[j].toNat < 128
    · cases hl : lowerB s[j] with
      | true => rw [(head_word hj h hl).1, hj]
      | false =>
        cases hd : digitB s[j] with
        | true => rw [(head_digits hj h hl hd).1, hj]
        | false =>
          by_cases hc : s[j] = 58 ∧ atB s (j + 1) 45 = true
          · rw [(head_cd hj h hc.1 hc.2).1, hj]
          · rw [(head_one hj h hl hd hc hhi).1, hj]
    · rw [(head_high hj h (by omega)).2, hj]
  · rw [head_end (by omega)]
    simp only [endMark]
    omega

def signs : List UInt8 := [46, 44, 33, 61, 35, 60, 40, 41]

theorem sign_spec {c : UInt8} (h : c ∈ signs) : c.toNat < 128 ∧ lowerB c = false ∧ digitB c = false ∧ c ≠ 58 ∧ kindR (c.toNat : Int) = 5 ∧ blankB c = false := by
  simp only [signs, List.mem_cons, List.not_mem_nil, or_false] at h
  rcases h with rfl | rfl | rfl | rfl | rfl | rfl | rfl | rfl <;> decide

theorem ba_single (x c : UInt8) : (((⟨#[x]⟩ : ByteArray).toList == (⟨#[c]⟩ : ByteArray).toList)) = (x == c) := by
  have e : ∀ y : UInt8, (⟨#[y]⟩ : ByteArray).toList = [y] := fun y => by rw [ByteArray.toList_eq]
  rw [e, e]
  simp

theorem sees_head {s : ByteArray} {a : Nat} {c : UInt8} (hc : c ∈ signs) : seesM (headMark s a) ⟨#[c]⟩ = atB s (gapTo s a) c := by
  obtain ⟨j, hj⟩ : ∃ j, gapTo s a = j := ⟨_, rfl⟩
  obtain ⟨s1, s2, s3, s4, s5, _⟩ := sign_spec hc
  rw [hj]
  unfold seesM
  by_cases h : j < s.size
  · have hat : atB s j c = (s[j] == c) := by simp [atB, h]
    rw [hat]
    have hne : ∀ x : UInt8, (lowerB x = true ∨ digitB x = true ∨ 128 ≤ x.toNat) → (x == c) = false := by
      intro x hx
      simp only [beq_eq_false_iff_ne, ne_eq]
      rintro rfl
      rcases hx with hx | hx | hx
      · rw [s2] at hx; cases hx
      · rw [s3] at hx; cases hx
      · omega
    by_cases hhi : s[j].toNat < 128
    · cases hl : lowerB s[j] with
      | true =>
        rw [(head_word hj h hl).1, hne _ (Or.inl hl)]
        by_cases hq : runTo lowerB s j - j ≤ 4 <;> simp [hq]
      | false =>
        cases hd : digitB s[j] with
        | true =>
          rw [(head_digits hj h hl hd).1, hne _ (Or.inr (Or.inl hd))]
          by_cases hq : 3 < runTo digitB s j - j ∨ (s[j] = 48 ∧ 1 < runTo digitB s j - j) <;> simp [hq]
        | false =>
          by_cases hcd : s[j] = 58 ∧ atB s (j + 1) 45 = true
          · rw [(head_cd hj h hcd.1 hcd.2).1]
            have e1 : (s[j] == c) = false := by simp [hcd.1, Ne.symm s4]
            have e2 : (cdB.toList == (⟨#[c]⟩ : ByteArray).toList) = false := by
              rw [show cdB.toList = [58, 45] from by rw [ByteArray.toList_eq]; rfl, show (⟨#[c]⟩ : ByteArray).toList = [c] from by rw [ByteArray.toList_eq]]
              simp
            rw [e1, e2, Bool.and_false]
          · rw [(head_one hj h hl hd hcd hhi).1]
            simp only [ba_single]
            cases he : (s[j] == c) with
            | false => simp
            | true =>
              have : s[j] = c := by simpa using he
              rw [this, s5]; rfl
    · have := head_high hj h (by omega)
      rw [this.1, hne _ (Or.inr (Or.inr (by omega)))]
      rfl
  · rw [head_end (by omega)]
    simp [endMark, atB, h]

theorem At.take {s : ByteArray} {ms : List Mark} {nx a : Nat} {c : UInt8} (h : At s ms nx a) (hc : c ∈ signs) (ht : atB s (gapTo s a) c = true) : At s ms (nx + 1) (gapTo s a + 1) ∧ gapTo s a + 1 ≤ s.size := by
  obtain ⟨s1, s2, s3, s4, s5, _⟩ := sign_spec hc
  have hlt := atB_lt ht
  have he : s[gapTo s a] = c := by simpa [atB, hlt] using ht
  have := h.next rfl hlt
  rw [(head_one (a := a) rfl hlt (by rw [he]; exact s2) (by rw [he]; exact s3) (by rw [he]; exact fun hh => s4 hh.1) (by rw [he]; exact s1)).2] at this
  exact ⟨this, by omega⟩

def Agree {α β : Type} (R : α → β → Prop) (s : ByteArray) (ms : List Mark) : Except Int (α × Nat) → β × Nat × Bool → Prop
  | .ok (x, n), (y, a, bd) => bd = false ∧ R x y ∧ At s ms n a ∧ a ≤ s.size
  | .error p, (_, a, bd) => bd = true ∧ p = (a : Int)

def ct (t : RTerm) : CTerm := ⟨(t.v.toNat : Int), thingC t.s⟩

theorem extract_zero {s : ByteArray} {j k : Nat} (h : j < s.size) (hk : k ≤ s.size) (hjk : j < k) : ∃ h0 : 0 < (s.extract j k).size, (s.extract j k)[0] = s[j] :=
  ⟨by rw [size_extract hk]; omega, by simp [ByteArray.getElem_extract]⟩

theorem lastRune_one (c : UInt8) (h : c.toNat < 128) : lastRune ⟨#[c]⟩ 0 0 = (c.toNat : Int) := by
  have hs : (0 : Nat) < (⟨#[c]⟩ : ByteArray).size := Nat.zero_lt_one
  rw [lastRune_step 0 hs]
  have hd := decode_ascii ⟨#[c]⟩ 0 hs h
  rw [hd]
  unfold lastRune
  rw [dif_neg (fun h2 => absurd h2.1 (show ¬ (0 + 1 < 1) from by decide))]
  rfl

theorem term_eq {s : ByteArray} {ms : List Mark} {nx a : Nat} (h : At s ms nx a) (ha : a ≤ s.size) : Agree (fun t t' => t = ct t') s ms (termM (markAt ms nx) nx) (termR s a false) := by
  obtain ⟨j, hj⟩ : ∃ j, gapTo s a = j := ⟨_, rfl⟩
  have hle := gapTo_le s a ha
  rw [h.head]
  unfold termR termM
  simp only [Bool.false_eq_true, if_false]
  by_cases hlt : j < s.size
  · rw [dif_pos (by rw [hj]; exact hlt)]
    simp only [hj]
    have hnext := h.next hj hlt
    by_cases hhi : s[j].toNat < 128
    · cases hl : lowerB s[j] with
      | true =>
        have hl' := (lowerB_iff _).1 hl
        have hu : upperB s[j] = false := by cases hh : upperB s[j] with | false => rfl | true => have := (upperB_iff _).1 hh; omega
        have hd : digitB s[j] = false := by cases hh : digitB s[j] with | false => rfl | true => have := (digitB_iff _).1 hh; omega
        obtain ⟨e1, e2⟩ := head_word hj hlt hl
        rw [e2] at hnext
        have hjj : gapTo s j = j := by rw [← hj]; exact gapTo_idem s a
        have hgt : j < runTo lowerB s j := by rw [runTo_yes _ _ _ hlt hl]; have := runTo_ge lowerB s (j + 1); omega
        have hle2 := runTo_le lowerB s j (by omega)
        rw [e1, hu, hd]
        simp only [Bool.false_eq_true, if_false, Bool.not_false, if_true]
        by_cases hq : runTo lowerB s j - j ≤ 4
        · rw [wordR_ok hjj rfl (by omega)]
          simp only [hq, if_true]
          obtain ⟨z0, z1⟩ := extract_zero hlt hle2 hgt
          refine ⟨rfl, ?_, hnext, hle2⟩
          unfold ct
          simp only
          rw [← thing_word z0 (by rw [z1]; omega)]
          rfl
        · rw [wordR_bad hjj rfl (by omega)]
          simp only [hq, if_false]
          exact ⟨rfl, rfl⟩
      | false =>
        cases hd : digitB s[j] with
        | true =>
          have hd' := (digitB_iff _).1 hd
          have hu : upperB s[j] = false := by cases hh : upperB s[j] with | false => rfl | true => have := (upperB_iff _).1 hh; omega
          obtain ⟨e1, e2⟩ := head_digits hj hlt hl hd
          rw [e2] at hnext
          have hle2 := runTo_le digitB s j (by omega)
          rw [e1, hu]
          simp only [Bool.false_eq_true, if_false, Bool.not_true]
          by_cases hq : 3 < runTo digitB s j - j ∨ (s[j] = 48 ∧ 1 < runTo digitB s j - j)
          · rw [if_pos hq, if_pos hq]
            exact ⟨rfl, rfl⟩
          · rw [if_neg hq, if_neg hq]
            have hgt : j < runTo digitB s j := by rw [runTo_yes _ _ _ hlt hd]; have := runTo_ge digitB s (j + 1); omega
            obtain ⟨z0, z1⟩ := extract_zero hlt hle2 hgt
            have hsz := size_extract (s := s) (j := j) hle2
            have hz48 : s[j].toNat = 48 → s[j] = 48 := fun h => UInt8.toNat_inj.1 h
            refine ⟨rfl, ?_, hnext, hle2⟩
            unfold ct
            simp only
            rw [← thing_num z0 (by rw [z1]; omega) (by rw [z1]; omega) (by rw [hsz]; omega) (fun h => by rw [z1] at h; have h0 := hz48 h; have h1 : ¬ 1 < runTo digitB s j - j := fun h1 => hq (Or.inr ⟨h0, h1⟩); rw [hsz]; omega)]
            rfl
        | false =>
          cases hu : upperB s[j] with
          | true =>
            have hu' := (upperB_iff _).1 hu
            have hcd : ¬ (s[j] = 58 ∧ atB s (j + 1) 45 = true) := fun hh => by rw [hh.1] at hu'; simp at hu'
            obtain ⟨e1, e2⟩ := head_one hj hlt hl hd hcd hhi
            rw [e2] at hnext
            have hk : kindR (s[j].toNat : Int) = 4 := by unfold kindR; rw [if_neg (by omega), if_neg (by omega), if_pos (by omega)]
            rw [e1, hk]
            simp only [if_true]
            refine ⟨rfl, ?_, hnext, by omega⟩
            rw [lastRune_one _ hhi]
            rfl
          | false =>
            have hw : wordR s j false = (ByteArray.empty, j, true) := wordR_bad (by rw [← hj]; exact gapTo_idem s a) (runTo_no _ _ _ hlt hl) (Or.inl rfl)
            have hu' : ¬ (65 ≤ s[j].toNat ∧ s[j].toNat ≤ 90) := fun h => by rw [(upperB_iff _).2 h] at hu; cases hu
            have hl' : ¬ (97 ≤ s[j].toNat ∧ s[j].toNat ≤ 122) := fun h => by rw [(lowerB_iff _).2 h] at hl; cases hl
            have hd' : ¬ (48 ≤ s[j].toNat ∧ s[j].toNat ≤ 57) := fun h => by rw [(digitB_iff _).2 h] at hd; cases hd
            simp only [Bool.false_eq_true, if_false, Bool.not_false, if_true, hw]
            have hpl : (headMark s a).place = j := by rw [head_place ha, hj]
            have hkd : (headMark s a).kind ≠ 2 ∧ (headMark s a).kind ≠ 3 ∧ (headMark s a).kind ≠ 4 := by
              by_cases hcd : s[j] = 58 ∧ atB s (j + 1) 45 = true
              · rw [(head_cd hj hlt hcd.1 hcd.2).1]; simp
              · rw [(head_one hj hlt hl hd hcd hhi).1]
                unfold kindR
                rw [if_neg (by omega), if_neg (by omega), if_neg (by omega)]
                split <;> simp
            simp only [beq_iff_eq, hkd.1, hkd.2.1, hkd.2.2, Bool.or_self, Bool.or_eq_true, or_self, if_false, hpl]
            exact ⟨rfl, rfl⟩
    · have hl : lowerB s[j] = false := by cases hh : lowerB s[j] with | false => rfl | true => have := (lowerB_iff _).1 hh; omega
      have hd : digitB s[j] = false := by cases hh : digitB s[j] with | false => rfl | true => have := (digitB_iff _).1 hh; omega
      have hu : upperB s[j] = false := by cases hh : upperB s[j] with | false => rfl | true => have := (upperB_iff _).1 hh; omega
      have hw : wordR s j false = (ByteArray.empty, j, true) := wordR_bad (by rw [← hj]; exact gapTo_idem s a) (runTo_no _ _ _ hlt hl) (Or.inl rfl)
      obtain ⟨e1, e2⟩ := head_high hj hlt (by omega)
      rw [hu, hd]
      simp only [Bool.false_eq_true, if_false, Bool.not_false, if_true, hw, e1, e2]
      exact ⟨rfl, rfl⟩
  · rw [dif_neg (by rw [hj]; exact hlt), head_end (by omega)]
    simp only [endMark]
    refine ⟨rfl, ?_⟩
    rw [hj]
    show (s.size : Int) = (j : Int)
    omega

end Go.Proofs.YtoihbhenbmffcaaGreatDoor
