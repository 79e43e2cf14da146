import Derived.Test.YtoihbhenbmffcaaGreatDoorCodC
import Derived.Test.YtoihbhenbmffcaaGreatDoorRefF
import Derived.Laws.RangeAny
set_option linter.unusedVariables false
set_option linter.unusedSimpArgs false

namespace Go.Proofs.YtoihbhenbmffcaaGreatDoor
open Go.RowKit

/-- The mark that opens at a byte that is no blank, and where it ends. -/
def tokAt (s : ByteArray) (j : Nat) : Mark × Nat :=
  if lowerB (byteAt s j) then (⟨2, j, s.extract j (runTo lowerB s j)⟩, runTo lowerB s j)
  else if digitB (byteAt s j) then (⟨3, j, s.extract j (runTo digitB s j)⟩, runTo digitB s j)
  else if byteAt s j = 58 ∧ atB s (j + 1) 45 = true then (⟨5, j, ⟨#[58, 45]⟩⟩, j + 2)
  else (newMark j (Utf8.decode s j).1, j + (Utf8.decode s j).2)

theorem byteAt_lt {s : ByteArray} {j : Nat} (h : j < s.size) : byteAt s j = s[j] := by simp [byteAt, h]

theorem tokAt_gt (s : ByteArray) (j : Nat) (h : j < s.size) : j < (tokAt s j).2 := by
  unfold tokAt
  split
  · rename_i hl
    rw [byteAt_lt h] at hl
    simp only
    rw [runTo_yes _ _ _ h hl]
    have := runTo_ge lowerB s (j + 1)
    omega
  · split
    · rename_i hl
      rw [byteAt_lt h] at hl
      simp only
      rw [runTo_yes _ _ _ h hl]
      have := runTo_ge digitB s (j + 1)
      omega
    · split
      · simp only; omega
      · have := decode_ge s j h
        simp only; omega

def toks (s : ByteArray) (a : Nat) : List Mark :=
  if h : gapTo s a < s.size then
    have _h1 : a < s.size := Nat.lt_of_le_of_lt (gapTo_ge s a) h
    have _h2 : a < (tokAt s (gapTo s a)).2 := Nat.lt_of_le_of_lt (gapTo_ge s a) (tokAt_gt s (gapTo s a) h)
    (tokAt s (gapTo s a)).1 :: toks s (tokAt s (gapTo s a)).2
  else []

theorem toks_end {s : ByteArray} {a : Nat} (h : ¬ gapTo s a < s.size) : toks s a = [] := by unfold toks; simp [h]
theorem toks_step {s : ByteArray} {a j : Nat} (hj : gapTo s a = j) (h : j < s.size) : toks s a = (tokAt s j).1 :: toks s (tokAt s j).2 := by
  subst hj
  conv => lhs; unfold toks
  simp [h]
theorem toks_blank {s : ByteArray} {a : Nat} (h : gapTo s a = gapTo s (a + 1)) : toks s a = toks s (a + 1) := by
  by_cases h2 : gapTo s (a + 1) < s.size
  · rw [toks_step h h2, toks_step rfl h2]
  · rw [toks_end h2, toks_end (by rw [h]; exact h2)]

theorem gapTo_blank {s : ByteArray} {a : Nat} (h : a < s.size) (hb : blankB s[a] = true) : gapTo s a = gapTo s (a + 1) := by
  conv => lhs; unfold gapTo
  simp [h, hb]
theorem gapTo_solid {s : ByteArray} {a : Nat} (h : a < s.size) (hb : blankB s[a] = false) : gapTo s a = a := by
  unfold gapTo; simp [h, hb]
theorem gapTo_end {s : ByteArray} {a : Nat} (h : ¬ a < s.size) : gapTo s a = a := by
  unfold gapTo; simp [h]

/-- The last mark does not go on at pos. -/
def Closed (s : ByteArray) (ms : List Mark) (pos : Nat) : Prop := ∀ m, ms.getLast? = some m →
  (∀ p r, goesOnB m p r = false) ∨ m.place + m.text.size < pos ∨ (m.place + m.text.size = pos ∧ (pos < s.size → goesOnB m pos (Utf8.decode s pos).1 = false))

theorem goesOn_far {m : Mark} {p : Nat} {r : Int} (h : m.place + m.text.size < p) : goesOnB m p r = false := by
  unfold goesOnB
  rw [if_pos (by omega)]

theorem Closed.now {s : ByteArray} {ms : List Mark} {pos : Nat} (h : Closed s ms pos) (hp : pos < s.size) (hb : ¬ (((Utf8.decode s pos).1 : Int) = 32 ∨ ((Utf8.decode s pos).1 : Int) = 10)) :
    layR ms pos (Utf8.decode s pos).1 = ms ++ [newMark pos (Utf8.decode s pos).1] := by
  unfold layR
  rw [if_neg hb]
  split
  · rename_i m hm
    have : goesOnB m pos (Utf8.decode s pos).1 = false := by
      rcases h m hm with h1 | h1 | h1
      · exact h1 _ _
      · exact goesOn_far h1
      · exact h1.2 hp
    simp [this]
  · rfl

theorem Closed.far {s : ByteArray} {ms : List Mark} {pos : Nat} (h : Closed s ms pos) : Closed s ms (pos + 1) := by
  intro m hm
  rcases h m hm with h1 | h1 | h1
  · exact Or.inl h1
  · exact Or.inr (Or.inl (by omega))
  · exact Or.inr (Or.inl (by omega))

theorem closed_snoc {s : ByteArray} {ms : List Mark} {m : Mark} {pos : Nat} (h : (∀ p r, goesOnB m p r = false) ∨ m.place + m.text.size < pos ∨ (m.place + m.text.size = pos ∧ (pos < s.size → goesOnB m pos (Utf8.decode s pos).1 = false))) : Closed s (ms ++ [m]) pos := by
  intro m' hm'
  simp at hm'
  subst hm'
  exact h

theorem lowerB_iff (c : UInt8) : lowerB c = true ↔ 97 ≤ c.toNat ∧ c.toNat ≤ 122 := by
  simp [lowerB, UInt8.le_iff_toNat_le]
theorem upperB_iff (c : UInt8) : upperB c = true ↔ 65 ≤ c.toNat ∧ c.toNat ≤ 90 := by
  simp [upperB, UInt8.le_iff_toNat_le]
theorem digitB_iff (c : UInt8) : digitB c = true ↔ 48 ≤ c.toNat ∧ c.toNat ≤ 57 := by
  simp [digitB, UInt8.le_iff_toNat_le]
theorem blankB_iff (c : UInt8) : blankB c = true ↔ c.toNat = 32 ∨ c.toNat = 10 := by
  simp [blankB, ← UInt8.toNat_inj]

theorem enc_ascii (c : UInt8) (h : c.toNat < 128) : Utf8.encode (c.toNat : Int) = ⟨#[c]⟩ := by
  unfold Utf8.encode
  have hv : Utf8.valid (c.toNat : Int) = true := by simp [Utf8.valid]; omega
  simp [hv, h]

theorem extract_snoc {s : ByteArray} {j k : Nat} (hjk : j ≤ k) (hk : k < s.size) : s.extract j k ++ ⟨#[s[k]]⟩ = s.extract j (k + 1) := by
  apply ByteArray.ext
  simp only [ByteArray.data_append, ByteArray.data_extract]
  apply Array.ext
  · simp only [Array.size_append, Array.size_extract]
    have : s.data.size = s.size := rfl
    simp; omega
  · intro i h1 h2
    have hs : s.data.size = s.size := rfl
    simp only [Array.size_append, Array.size_extract, List.size_toArray, List.length_cons, List.length_nil] at h1 h2
    by_cases hi : i < k - j
    · rw [Array.getElem_append_left (by simp; omega)]
      simp
    · have hik : i = k - j := by omega
      subst hik
      rw [Array.getElem_append_right (by simp; omega)]
      simp [show j + (k - j) = k by omega]
      rfl

theorem size_extract {s : ByteArray} {j k : Nat} (hk : k ≤ s.size) : (s.extract j k).size = k - j := by
  simp [ByteArray.size_extract]; omega

/-- A run of letters, or of digits. -/
theorem cut_run (s : ByteArray) (kd : Int) (p : UInt8 → Bool) (hkd : kd = 2 ∨ kd = 3) (hp : ∀ c : UInt8, p c = true → c.toNat < 128 ∧ kindR (c.toNat : Int) = kd ∧ ¬ ((c.toNat : Int) = 32 ∨ (c.toNat : Int) = 10)) (ms : List Mark) (j : Nat) :
    ∀ (n k : Nat), s.size - k ≤ n → j < k → k ≤ s.size → cutFrom s k (ms ++ [⟨kd, j, s.extract j k⟩]) = cutFrom s (runTo p s k) (ms ++ [⟨kd, j, s.extract j (runTo p s k)⟩])
  | n, k, hn, hjk, hk => by
    by_cases hlt : k < s.size
    · cases hpk : p s[k] with
      | false => rw [runTo_no p s k hlt hpk]
      | true =>
        obtain ⟨h1, h2, h3⟩ := hp _ hpk
        rw [runTo_yes p s k hlt hpk, cutFrom_step _ hlt, decode_ascii s k hlt h1]
        simp only
        rw [layR_snoc h3]
        have hg : goesOnB ⟨kd, j, s.extract j k⟩ k (s[k].toNat : Int) = true := by
          unfold goesOnB
          simp only [size_extract hk]
          rw [if_neg (by omega), if_pos hkd]
          simp [h2]
        rw [if_pos hg]
        simp only
        rw [enc_ascii _ h1, extract_snoc (by omega) hlt]
        match n with
        | 0 => omega
        | n + 1 => exact cut_run s kd p hkd hp ms j n (k + 1) (by omega) (by omega) (by omega)
    · rw [runTo_end p s k hlt]

theorem runTo_stop (p : UInt8 → Bool) (s : ByteArray) : ∀ (n i : Nat), s.size - i ≤ n → ∀ h : runTo p s i < s.size, p s[runTo p s i] = false
  | n, i, hn, h => by
    by_cases hlt : i < s.size
    · cases hp : p s[i] with
      | false =>
        have e := runTo_no p s i hlt hp
        simp only [e]
        exact hp
      | true =>
        have e := runTo_yes p s i hlt hp
        match n with
        | 0 => omega
        | n + 1 =>
          have := runTo_stop p s n (i + 1) (by omega) (by rw [← e]; exact h)
          simp only [e]
          exact this
    · have e := runTo_end p s i hlt
      omega

theorem kindR_lower (r : Int) : kindR r = 2 ↔ 97 ≤ r ∧ r ≤ 122 := by
  unfold kindR
  split
  · simp; omega
  · split
    · simp; omega
    · split
      · simp; omega
      · split
        · simp; omega
        · simp; omega
theorem kindR_digit (r : Int) : kindR r = 3 ↔ 48 ≤ r ∧ r ≤ 57 := by
  unfold kindR
  split
  · simp; omega
  · split
    · simp; omega
    · split
      · simp; omega
      · split
        · simp; omega
        · simp; omega

/-- What stands behind a run is not of its kind. -/
theorem behind_run {s : ByteArray} {kd : Int} {p : UInt8 → Bool} (hkd : kd = 2 ∨ kd = 3) (hp2 : ∀ c : UInt8, p c = false → kindR (c.toNat : Int) ≠ kd) {j k : Nat} (hk : k ≤ s.size) (hjk : j ≤ k) (hstop : ∀ h : k < s.size, p s[k] = false) :
    Closed s ([⟨kd, j, s.extract j k⟩] : List Mark) k := by
  intro m hm
  simp at hm
  subst hm
  refine Or.inr (Or.inr ⟨by simp only [size_extract hk]; omega, fun h => ?_⟩)
  unfold goesOnB
  simp only [size_extract hk]
  rw [if_neg (by omega), if_pos hkd]
  have hs := hstop h
  simp only [beq_eq_false_iff_ne, ne_eq]
  by_cases ha : s[k].toNat < 128
  · rw [decode_ascii s k h ha]
    exact hp2 _ hs
  · have := (decode_high s k h (by omega)).1
    intro he
    rcases hkd with rfl | rfl
    · rw [kindR_lower] at he; omega
    · rw [kindR_digit] at he; omega

theorem closed_app {s : ByteArray} {ms : List Mark} {m : Mark} {pos : Nat} (h : Closed s [m] pos) : Closed s (ms ++ [m]) pos := by
  refine closed_snoc (h m (by simp))

theorem mem_sign {n : Nat} (h : ¬ (97 ≤ n ∧ n ≤ 122)) (h2 : ¬ (48 ≤ n ∧ n ≤ 57)) : kindR (n : Int) = 4 ∨ kindR (n : Int) = 5 ∨ kindR (n : Int) = 0 := by
  unfold kindR
  rw [if_neg (by omega), if_neg (by omega)]
  split
  · simp
  · split <;> simp

theorem goesOn_not {m : Mark} (h : m.kind = 4 ∨ m.kind = 0 ∨ (m.kind = 5 ∧ m.text.toList ≠ [58])) (p : Nat) (r : Int) : goesOnB m p r = false := by
  unfold goesOnB
  split
  · rfl
  · rcases h with h | h | h
    · simp [h]
    · simp [h]
    · simp [h.1, h.2]

theorem cutFrom_toks (s : ByteArray) : ∀ (n pos : Nat) (ms : List Mark), s.size - pos ≤ n → Closed s ms pos → cutFrom s pos ms = ms ++ toks s pos
  | n, pos, ms, hn, hc => by
    by_cases hlt : pos < s.size
    · match n with
      | 0 => omega
      | n + 1 =>
        cases hb : blankB s[pos] with
        | true =>
          have hb' := (blankB_iff _).1 hb
          rw [cutFrom_step _ hlt, decode_ascii s pos hlt (by omega)]
          simp only
          have : layR ms pos (s[pos].toNat : Int) = ms := by unfold layR; rw [if_pos (by omega)]
          rw [this, cutFrom_toks s n (pos + 1) ms (by omega) hc.far, toks_blank (gapTo_blank hlt hb)]
        | false =>
          have hb' : ¬ (s[pos].toNat = 32 ∨ s[pos].toNat = 10) := fun h => by rw [(blankB_iff _).2 h] at hb; cases hb
          have hgap := gapTo_solid hlt hb
          have hnb : ¬ (((Utf8.decode s pos).1 : Int) = 32 ∨ ((Utf8.decode s pos).1 : Int) = 10) := by
            by_cases ha : s[pos].toNat < 128
            · rw [decode_ascii s pos hlt ha]; simp only; omega
            · have := (decode_high s pos hlt (by omega)).1; omega
          rw [toks_step hgap hlt, cutFrom_step _ hlt, hc.now hlt hnb]
          have hgt := tokAt_gt s pos hlt
          unfold tokAt at hgt ⊢
          rw [byteAt_lt hlt] at hgt ⊢
          cases hl : lowerB s[pos] with
          | true =>
            have hl' := (lowerB_iff _).1 hl
            simp only [hl, if_true] at hgt ⊢
            rw [decode_ascii s pos hlt (by omega)]
            simp only
            have e1 : newMark pos (s[pos].toNat : Int) = ⟨2, pos, s.extract pos (pos + 1)⟩ := by
              unfold newMark
              rw [(kindR_lower _).2 (by omega), enc_ascii _ (by omega), ← extract_snoc (Nat.le_refl _) hlt]
              simp
            rw [e1, cut_run s 2 lowerB (Or.inl rfl) (fun c hc => by have := (lowerB_iff _).1 hc; exact ⟨by omega, (kindR_lower _).2 (by omega), by omega⟩) ms pos _ (pos + 1) (Nat.le_refl _) (by omega) (by omega), ← runTo_yes lowerB s pos hlt hl]
            have hle := runTo_le lowerB s pos (by omega)
            rw [cutFrom_toks s n _ _ (by omega) (closed_app (behind_run (Or.inl rfl) (fun c hc he => by rw [kindR_lower] at he; rw [(lowerB_iff c).2 (by omega)] at hc; cases hc) hle (by omega) (runTo_stop lowerB s _ pos (Nat.le_refl _))))]
            simp
          | false =>
            have hl' : ¬ (97 ≤ s[pos].toNat ∧ s[pos].toNat ≤ 122) := fun h => by rw [(lowerB_iff _).2 h] at hl; cases hl
            cases hd : digitB s[pos] with
            | true =>
              have hd' := (digitB_iff _).1 hd
              simp only [hl, hd, if_true, Bool.false_eq_true, if_false] at hgt ⊢
              rw [decode_ascii s pos hlt (by omega)]
              simp only
              have e1 : newMark pos (s[pos].toNat : Int) = ⟨3, pos, s.extract pos (pos + 1)⟩ := by
                unfold newMark
                rw [(kindR_digit _).2 (by omega), enc_ascii _ (by omega), ← extract_snoc (Nat.le_refl _) hlt]
                simp
              rw [e1, cut_run s 3 digitB (Or.inr rfl) (fun c hc => by have := (digitB_iff _).1 hc; exact ⟨by omega, (kindR_digit _).2 (by omega), by omega⟩) ms pos _ (pos + 1) (Nat.le_refl _) (by omega) (by omega), ← runTo_yes digitB s pos hlt hd]
              have hle := runTo_le digitB s pos (by omega)
              rw [cutFrom_toks s n _ _ (by omega) (closed_app (behind_run (Or.inr rfl) (fun c hc he => by rw [kindR_digit] at he; rw [(digitB_iff c).2 (by omega)] at hc; cases hc) hle (by omega) (runTo_stop digitB s _ pos (Nat.le_refl _))))]
              simp
            | false =>
              have hd' : ¬ (48 ≤ s[pos].toNat ∧ s[pos].toNat ≤ 57) := fun h => by rw [(digitB_iff _).2 h] at hd; cases hd
              simp only [hl, hd, Bool.false_eq_true, if_false] at hgt ⊢
              by_cases hcol : s[pos] = 58
              · have hcn : s[pos].toNat = 58 := by rw [hcol]; rfl
                rw [decode_ascii s pos hlt (by omega)] at hgt ⊢
                simp only at hgt ⊢
                have e1 : newMark pos (s[pos].toNat : Int) = ⟨5, pos, ⟨#[58]⟩⟩ := by
                  unfold newMark
                  rw [enc_ascii _ (by omega), hcol]
                  rfl
                rw [e1]
                cases hat : atB s (pos + 1) 45 with
                | true =>
                  have hlt2 := atB_lt hat
                  have h45 : s[pos + 1] = 45 := by
                    unfold atB at hat
                    simpa [hlt2] using hat
                  have h45n : s[pos + 1].toNat = 45 := by rw [h45]; rfl
                  rw [if_pos ⟨hcol, rfl⟩]
                  simp only
                  rw [cutFrom_step _ hlt2, decode_ascii s (pos + 1) hlt2 (by omega)]
                  simp only
                  rw [layR_snoc (by omega)]
                  have hg : goesOnB ⟨5, pos, ⟨#[58]⟩⟩ (pos + 1) (s[pos + 1].toNat : Int) = true := by
                    rw [h45n]
                    unfold goesOnB
                    rw [if_neg (by simp; rfl)]
                    simp
                  rw [if_pos hg]
                  simp only
                  rw [enc_ascii _ (by omega), h45]
                  have e2 : (⟨#[58]⟩ : ByteArray) ++ ⟨#[45]⟩ = ⟨#[58, 45]⟩ := rfl
                  rw [e2, cutFrom_toks s n (pos + 1 + 1) _ (by omega) (closed_snoc (Or.inl (goesOn_not (Or.inr (Or.inr ⟨rfl, by simp⟩)))))]
                  simp
                | false =>
                  rw [if_neg (by simp)]
                  simp only
                  rw [cutFrom_toks s n (pos + 1) _ (by omega) (closed_snoc (Or.inr (Or.inr ⟨by simp; rfl, fun h2 => ?_⟩)))]
                  · simp
                  · unfold goesOnB
                    rw [if_neg (by simp; rfl)]
                    simp
                    intro he
                    by_cases ha : s[pos + 1].toNat < 128
                    · rw [decode_ascii s (pos + 1) h2 ha] at he
                      simp only at he
                      unfold atB at hat
                      simp [h2] at hat
                      apply hat
                      apply UInt8.toNat_inj.1
                      rw [show (45 : UInt8).toNat = 45 from rfl]
                      omega
                    · have := (decode_high s (pos + 1) h2 (by omega)).1
                      omega
              · rw [if_neg (by simp [hcol])] at hgt ⊢
                simp only at hgt ⊢
                refine (cutFrom_toks s n _ _ (by omega) (closed_snoc (Or.inl (goesOn_not ?_)))).trans (by simp)
                by_cases ha : s[pos].toNat < 128
                · rw [decode_ascii s pos hlt ha]
                  unfold newMark
                  simp only
                  rcases mem_sign hl' hd' with h | h | h
                  · exact Or.inl h
                  · refine Or.inr (Or.inr ⟨h, ?_⟩)
                    rw [enc_ascii _ ha]
                    intro he
                    apply hcol
                    simpa using he
                  · exact Or.inr (Or.inl h)
                · have := (decode_high s pos hlt (by omega)).1
                  refine Or.inr (Or.inl ?_)
                  unfold newMark
                  simp only
                  unfold kindR
                  rw [if_neg (by omega), if_neg (by omega), if_neg (by omega), if_neg (by omega)]
    · rw [cutFrom_end _ hlt, toks_end (by rw [gapTo_end hlt]; exact hlt)]
      simp

/-- The marks from a place on. -/
def marksFrom (s : ByteArray) (a : Nat) : List Mark := (toks s a).map fixM ++ [endMark s]

theorem cutR_marks (s : ByteArray) : cutR s = marksFrom s 0 := by
  unfold cutR marksFrom
  rw [cutFrom_toks s _ 0 [] (Nat.le_refl _) (fun m hm => by simp at hm)]
  simp

end Go.Proofs.YtoihbhenbmffcaaGreatDoor
