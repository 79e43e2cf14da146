import Derived.Test.YtoihbhenbmffcaaGreatDoorBase
set_option linter.unusedVariables false
set_option linter.unusedSimpArgs false

namespace Go.Proofs.YtoihbhenbmffcaaGreatDoor
open Go.RowKit

def lowerB (c : UInt8) : Bool := 97 ≤ c && c ≤ 122
def upperB (c : UInt8) : Bool := 65 ≤ c && c ≤ 90
def digitB (c : UInt8) : Bool := 48 ≤ c && c ≤ 57
def blankB (c : UInt8) : Bool := c == 32 || c == 10

theorem ret_bool {a b : Bool} (h : a = b) : Ending.returned (.bool a) = .returned (.bool b) := by rw [h]
theorem ret_int {k : IntKind} {a b : Int} (h : a = b) : Ending.returned (.int k a) = .returned (.int k b) := by rw [h]

theorem lower_any (n : Int) (c : UInt8) (w : World) (h : n = c.toNat) : Calls Tryz.prog 169 #[.int .u8 n] w fun e w' => e = .returned (.bool (lowerB c)) ∧ w' = w := by
  subst h
  go_enter Tryz.func169, Tryz.ntmps169
  go_wp2
  all_goals go_ret
  all_goals refine ⟨ret_bool ?_, rfl⟩
  all_goals (rw [Bool.eq_iff_iff]; simp [lowerB, UInt8.le_iff_toNat_le]; try omega)

theorem upper_any (n : Int) (c : UInt8) (w : World) (h : n = c.toNat) : Calls Tryz.prog 170 #[.int .u8 n] w fun e w' => e = .returned (.bool (upperB c)) ∧ w' = w := by
  subst h
  go_enter Tryz.func170, Tryz.ntmps170
  go_wp2
  all_goals go_ret
  all_goals refine ⟨ret_bool ?_, rfl⟩
  all_goals (rw [Bool.eq_iff_iff]; simp [upperB, UInt8.le_iff_toNat_le]; try omega)

theorem digit_any (n : Int) (c : UInt8) (w : World) (h : n = c.toNat) : Calls Tryz.prog 55 #[.int .u8 n] w fun e w' => e = .returned (.bool (digitB c)) ∧ w' = w := by
  subst h
  go_enter Tryz.func55, Tryz.ntmps55
  go_wp2
  all_goals go_ret
  all_goals refine ⟨ret_bool ?_, rfl⟩
  all_goals (rw [Bool.eq_iff_iff]; simp [digitB, UInt8.le_iff_toNat_le]; try omega)

/-- The place behind the blanks. -/
def gapTo (s : ByteArray) (at_ : Nat) : Nat :=
  if h : at_ < s.size then (if blankB s[at_] then gapTo s (at_ + 1) else at_) else at_

def gapB (s : ByteArray) (at_ : Nat) (bad : Bool) : Nat := if bad then at_ else gapTo s at_

theorem gapTo_le (s : ByteArray) (at_ : Nat) (h : at_ ≤ s.size) : gapTo s at_ ≤ s.size := by
  fun_induction gapTo s at_ <;> omega

theorem gapTo_ge (s : ByteArray) (at_ : Nat) : at_ ≤ gapTo s at_ := by
  fun_induction gapTo s at_ <;> omega

theorem gapB_true (s : ByteArray) (at_ : Nat) : gapB s at_ true = at_ := rfl
theorem gapB_end (s : ByteArray) (at_ : Nat) (h : ¬ at_ < s.size) (bad : Bool) : gapB s at_ bad = at_ := by
  unfold gapB; rw [gapTo]; simp [h]
theorem gapB_blank (s : ByteArray) (at_ : Nat) (h : at_ < s.size) (hb : blankB s[at_] = true) : gapB s at_ false = gapB s (at_ + 1) false := by
  unfold gapB; rw [gapTo]; simp [h, hb]
theorem gapB_solid (s : ByteArray) (at_ : Nat) (h : at_ < s.size) (hb : blankB s[at_] = false) : gapB s at_ false = at_ := by
  unfold gapB; rw [gapTo]; simp [h, hb]
theorem byte_eq (c k : UInt8) : ((c.toNat : Int) == (k.toNat : Int)) = (c == k) := by
  rw [Bool.eq_iff_iff]
  simp only [beq_iff_eq]
  constructor
  · intro h
    exact UInt8.toNat_inj.1 (by omega)
  · intro h
    rw [h]

/-- Each blank is met by one of two tests. -/
theorem blank_cases (c : UInt8) : (((c.toNat : Int) == 32) = true ∧ blankB c = true) ∨ (((c.toNat : Int) == 32) = false ∧ ((c.toNat : Int) == 10) = true ∧ blankB c = true) ∨
    (((c.toNat : Int) == 32) = false ∧ ((c.toNat : Int) == 10) = false ∧ blankB c = false) := by
  have e1 : ((c.toNat : Int) == 32) = (c == 32) := byte_eq c 32
  have e2 : ((c.toNat : Int) == 10) = (c == 10) := byte_eq c 10
  rw [e1, e2]
  unfold blankB
  cases (c == 32) <;> cases (c == 10) <;> simp

set_option maxHeartbeats 400000 in
theorem gap_any (b : Nat) (s : ByteArray) (at_ : Nat) (bad : Bool) (w : World) (hs : s.size ≤ 1000000) (hat : at_ ≤ s.size) (hB : Blk w b (scan s at_ bad) 73) :
    Calls Tryz.prog 43 #[.pointer (some ⟨b, 0, none⟩)] w fun e w' => e = .returned (.tuple #[]) ∧ Blk w' b (scan s (gapB s at_ bad) bad) 73 ∧ Kept [b] w w' := by
  go_enter Tryz.func43, Tryz.ntmps43
  go_wp2
  go_loopg [] (s.size - at_) (fun k wr => ∃ j : Nat, j ≤ s.size ∧ k = s.size - j ∧ gapB s j bad = gapB s at_ bad ∧ Blk wr b (scan s j bad) 73 ∧ Kept [b] w wr)
  case atStart => exact ⟨at_, hat, rfl, rfl, hB, Kept.refl _ _⟩
  case round =>
    obtain ⟨j, hj, hk, hg, hb, hK⟩ := hrel
    have hc0 := hb.cell 0
    have hc1 := hb.cell 1
    have hc2 := hb.cell 2
    have hf1 := hb.frozen 1
    simp [scan] at hc0 hc1 hc2
    have HG : Hid (gk = s.size - j ∧ gapB s j bad = gapB s at_ bad) := ⟨hk, hg⟩
    clear hk hg
    have hfin : gapB s j bad = j → Blk wr b (scan s (gapB s at_ bad) bad) 73 := fun h => by rw [← HG.out.2, h]; exact hb
    have HF : Hid (gapB s j bad = j → Blk wr b (scan s (gapB s at_ bad) bad) 73) := hfin
    clear hfin
    cases bad with
    | true =>
      go_wp2
      go_quiet (fail)
      go_wp2
      go_end0
      exact ⟨rfl, HF.out rfl, hK.drewN _⟩
    | false =>
      by_cases hlt : j < s.size
      · have hlt' : (j : Int) < (s.size : Int) := by omega
        have hfr : Hid (blankB s[j] = true → ∃ j' : Nat, j' ≤ s.size ∧ s.size - (j + 1) = s.size - j' ∧ gapB s j' false = gapB s at_ false ∧ ∀ n, Blk ((wr.drewN n).setCell ⟨b, 1, none⟩ (.int .i64 (j + 1))) b (scan s j' false) 73 ∧ Kept [b] w ((wr.drewN n).setCell ⟨b, 1, none⟩ (.int .i64 (j + 1)))) := by
          intro h
          refine ⟨j + 1, by omega, rfl, ?_, fun n => ⟨?_, ?_⟩⟩
          · rw [← HG.out.2, gapB_blank s j hlt h]
          · exact (hb.drewN n).set 1 _
          · exact (hK.drewN n).setCell (by simp) _
        rcases blank_cases s[j] with ⟨h1, h3⟩ | ⟨h1, h2, h3⟩ | ⟨h1, h2, h3⟩
        · clear hb hK
          go_wp2
          go_quiet (fail)
          go_wp2
          go_roundg (s.size - (j + 1))
          case measure => have := HG.out.1; omega
          case rel =>
            obtain ⟨j', a1, a2, a3, a4⟩ := hfr.out h3
            exact ⟨j', a1, a2, a3, (a4 _).1, (a4 _).2⟩
        · clear hb hK
          go_wp2
          go_quiet (fail)
          go_wp2
          go_roundg (s.size - (j + 1))
          case measure => have := HG.out.1; omega
          case rel =>
            obtain ⟨j', a1, a2, a3, a4⟩ := hfr.out h3
            exact ⟨j', a1, a2, a3, (a4 _).1, (a4 _).2⟩
        · have h4 : Hid (blankB s[j] = false) := h3
          clear h3
          go_wp2
          go_quiet (fail)
          go_wp2
          go_end0
          exact ⟨rfl, HF.out (gapB_solid s j hlt h4.out), hK.drewN _⟩
      · have hd : decide ((j : Int) < (s.size : Int)) = false := by simp; omega
        go_wp2
        go_quiet (fail)
        go_wp2
        go_end0
        exact ⟨rfl, HF.out (gapB_end s j hlt _), hK.drewN _⟩

end Go.Proofs.YtoihbhenbmffcaaGreatDoor

namespace Go.Proofs.YtoihbhenbmffcaaGreatDoor
open Go.RowKit

/-- Does the byte c stand at the place? -/
def atB (s : ByteArray) (j : Nat) (c : UInt8) : Bool := if h : j < s.size then s[j] == c else false

theorem gapB_le (s : ByteArray) (at_ : Nat) (bad : Bool) (h : at_ ≤ s.size) : gapB s at_ bad ≤ s.size := by
  unfold gapB; split
  · exact h
  · exact gapTo_le s at_ h

set_option maxHeartbeats 400000 in
theorem sees_any (b : Nat) (s : ByteArray) (at_ : Nat) (bad : Bool) (n : Int) (c : UInt8) (w : World) (hn : n = c.toNat) (hs : s.size ≤ 1000000) (hat : at_ ≤ s.size) (hB : Blk w b (scan s at_ bad) 73) :
    Calls Tryz.prog 128 #[.pointer (some ⟨b, 0, none⟩), .int .u8 n] w fun e w' => e = .returned (.bool (!bad && atB s (gapB s at_ bad) c)) ∧ Blk w' b (scan s (gapB s at_ bad) bad) 73 ∧ Kept [b] w w' := by
  have hle := gapB_le s at_ bad hat
  subst hn
  obtain ⟨j, hj⟩ : ∃ j, gapB s at_ bad = j := ⟨_, rfl⟩
  rw [hj] at hle ⊢
  have HJ : Hid (gapB s at_ bad = j) := hj
  clear hj
  go_enter Tryz.func128, Tryz.ntmps128
  go_wp2_with fail
  refine (gap_any b s at_ bad _ hs hat hB).mono ?_
  rintro e w1 ⟨rfl, hb, hK⟩
  rw [HJ.out] at hb
  clear hB HJ
  have hc0 := hb.cell 0
  have hc1 := hb.cell 1
  have hc2 := hb.cell 2
  simp [scan] at hc0 hc1 hc2
  cases bad with
  | true =>
    go_wp2
    go_quiet (fail)
    go_wp2
    go_ret
    exact ⟨ret_bool (by simp), hb.drewN _, hK.drewN _⟩
  | false =>
    by_cases hlt : j < s.size
    · have hlt' : (j : Int) < (s.size : Int) := by omega
      have hfin : Hid (((s[j].toNat : Int) == (c.toNat : Int)) = (!false && atB s j c)) := by
        show _ = _
        rw [byte_eq]; unfold atB; simp [hlt]
      go_wp2
      go_quiet (fail)
      go_wp2
      go_ret
      exact ⟨ret_bool hfin.out, hb.drewN _, hK.drewN _⟩
    · have hd : decide ((j : Int) < (s.size : Int)) = false := by simp; omega
      go_wp2
      go_quiet (fail)
      go_wp2
      go_ret
      exact ⟨ret_bool (by unfold atB; simp [hlt]), hb.drewN _, hK.drewN _⟩

/-- The place behind 'is'. -/
def isTo (s : ByteArray) (j : Nat) (bad : Bool) (c : UInt8) : Nat := if !bad && atB s (gapB s j bad) c then gapB s j bad + 1 else gapB s j bad

theorem atB_lt {s : ByteArray} {j : Nat} {c : UInt8} (h : atB s j c = true) : j < s.size := by
  unfold atB at h; split at h
  · assumption
  · cases h

theorem isTo_le (s : ByteArray) (at_ : Nat) (bad : Bool) (c : UInt8) (h : at_ ≤ s.size) : isTo s at_ bad c ≤ s.size := by
  unfold isTo
  have := gapB_le s at_ bad h
  split
  · rename_i h2
    simp only [Bool.and_eq_true] at h2
    have := atB_lt h2.2
    omega
  · exact this

set_option maxHeartbeats 400000 in
theorem is_any (b : Nat) (s : ByteArray) (at_ : Nat) (bad : Bool) (n : Int) (c : UInt8) (w : World) (hn : n = c.toNat) (hs : s.size ≤ 1000000) (hat : at_ ≤ s.size) (hB : Blk w b (scan s at_ bad) 73) :
    Calls Tryz.prog 80 #[.pointer (some ⟨b, 0, none⟩), .int .u8 n] w fun e w' => e = .returned (.bool (!bad && atB s (gapB s at_ bad) c)) ∧ Blk w' b (scan s (isTo s at_ bad c) bad) 73 ∧ Kept [b] w w' := by
  have hle := gapB_le s at_ bad hat
  unfold isTo
  obtain ⟨j, hj⟩ : ∃ j, gapB s at_ bad = j := ⟨_, rfl⟩
  rw [hj] at hle ⊢
  obtain ⟨ok, hok⟩ : ∃ ok, (!bad && atB s j c) = ok := ⟨_, rfl⟩
  rw [hok]
  have HJ : Hid (gapB s at_ bad = j ∧ (!bad && atB s j c) = ok ∧ n = c.toNat) := ⟨hj, hok, hn⟩
  clear hj hok hn
  go_enter Tryz.func80, Tryz.ntmps80
  go_wp2_with fail
  refine (sees_any b s at_ bad n c _ HJ.out.2.2 hs hat hB).mono ?_
  rintro e w1 ⟨rfl, hb, hK⟩
  rw [HJ.out.1, HJ.out.2.1]
  rw [HJ.out.1] at hb
  clear hB HJ
  have hc0 := hb.cell 0
  have hc1 := hb.cell 1
  have hf1 := hb.frozen 1
  simp [scan] at hc0 hc1
  cases ok with
  | true =>
    go_wp2
    go_ret
    exact ⟨ret_bool rfl, hb.set 1 _, hK.setCell (by simp) _⟩
  | false =>
    go_wp2
    go_ret
    exact ⟨ret_bool rfl, hb, hK⟩

set_option maxHeartbeats 400000 in
theorem must_any (b : Nat) (s : ByteArray) (at_ : Nat) (bad : Bool) (n : Int) (c : UInt8) (w : World) (hn : n = c.toNat) (hs : s.size ≤ 1000000) (hat : at_ ≤ s.size) (hB : Blk w b (scan s at_ bad) 73) :
    Calls Tryz.prog 82 #[.pointer (some ⟨b, 0, none⟩), .int .u8 n] w fun e w' => e = .returned (.tuple #[]) ∧ Blk w' b (scan s (isTo s at_ bad c) (!(!bad && atB s (gapB s at_ bad) c))) 73 ∧ Kept [b] w w' := by
  have hbad : Hid ((!bad && atB s (gapB s at_ bad) c) = true → bad = false) := by intro h; cases bad <;> simp_all
  obtain ⟨j, hj⟩ : ∃ j, isTo s at_ bad c = j := ⟨_, rfl⟩
  obtain ⟨ok, hok⟩ : ∃ ok, (!bad && atB s (gapB s at_ bad) c) = ok := ⟨_, rfl⟩
  rw [hj, hok]
  rw [hok] at hbad
  have HJ : Hid (isTo s at_ bad c = j ∧ (!bad && atB s (gapB s at_ bad) c) = ok ∧ n = c.toNat) := ⟨hj, hok, hn⟩
  clear hj hok hn
  go_enter Tryz.func82, Tryz.ntmps82
  go_wp2_with fail
  refine (is_any b s at_ bad n c _ HJ.out.2.2 hs hat hB).mono ?_
  rintro e w1 ⟨rfl, hb, hK⟩
  rw [HJ.out.2.1]
  rw [HJ.out.1] at hb
  clear hB HJ
  have hc2 := hb.cell 2
  have hf2 := hb.frozen 2
  simp [scan] at hc2
  cases ok with
  | true =>
    have hb' : Hid (Blk w1 b (scan s j (!true)) 73) := by have e := hbad.out rfl; rw [e] at hb; exact hb
    go_wp2
    go_end0
    exact ⟨rfl, hb'.out, hK⟩
  | false =>
    go_wp2
    go_end0
    exact ⟨rfl, hb.set 2 _, hK.setCell (by simp) _⟩

end Go.Proofs.YtoihbhenbmffcaaGreatDoor

namespace Go.Proofs.YtoihbhenbmffcaaGreatDoor
open Go.RowKit

/-- Behind the row of bytes of a kind. -/
def runTo (p : UInt8 → Bool) (s : ByteArray) (i : Nat) : Nat :=
  if h : i < s.size then (if p s[i] then runTo p s (i + 1) else i) else i

theorem runTo_le (p : UInt8 → Bool) (s : ByteArray) (i : Nat) (h : i ≤ s.size) : runTo p s i ≤ s.size := by
  fun_induction runTo p s i <;> omega
theorem runTo_ge (p : UInt8 → Bool) (s : ByteArray) (i : Nat) : i ≤ runTo p s i := by
  fun_induction runTo p s i <;> omega
theorem runTo_yes (p : UInt8 → Bool) (s : ByteArray) (i : Nat) (h : i < s.size) (hp : p s[i] = true) : runTo p s i = runTo p s (i + 1) := by
  rw [runTo]; simp [h, hp]
theorem runTo_no (p : UInt8 → Bool) (s : ByteArray) (i : Nat) (h : i < s.size) (hp : p s[i] = false) : runTo p s i = i := by
  rw [runTo]; simp [h, hp]
theorem runTo_end (p : UInt8 → Bool) (s : ByteArray) (i : Nat) (h : ¬ i < s.size) : runTo p s i = i := by
  rw [runTo]; simp [h]

/-- What 'word' makes of a scanner: the word, the place, whether it breaks off. -/
def wordR (s : ByteArray) (at_ : Nat) (bad : Bool) : ByteArray × Nat × Bool :=
  if bad then (ByteArray.empty, at_, true) else
    if runTo lowerB s (gapTo s at_) = gapTo s at_ ∨ 4 < runTo lowerB s (gapTo s at_) - gapTo s at_ then (ByteArray.empty, gapTo s at_, true)
    else (s.extract (gapTo s at_) (runTo lowerB s (gapTo s at_)), runTo lowerB s (gapTo s at_), false)

theorem wordR_bad {s : ByteArray} {at_ j k : Nat} (hj : gapTo s at_ = j) (hk : runTo lowerB s j = k) (h : k = j ∨ 4 < k - j) : wordR s at_ false = (ByteArray.empty, j, true) := by
  unfold wordR; rw [hj, hk, if_neg (by simp), if_pos h]
theorem wordR_ok {s : ByteArray} {at_ j k : Nat} (hj : gapTo s at_ = j) (hk : runTo lowerB s j = k) (h : ¬ (k = j ∨ 4 < k - j)) : wordR s at_ false = (s.extract j k, k, false) := by
  unfold wordR; rw [hj, hk, if_neg (by simp), if_neg h]

set_option maxHeartbeats 400000 in
theorem word_any (b : Nat) (s : ByteArray) (at_ : Nat) (bad : Bool) (w : World) (hs : s.size ≤ 1000000) (hat : at_ ≤ s.size) (hB : Blk w b (scan s at_ bad) 73) :
    Calls Tryz.prog 126 #[.pointer (some ⟨b, 0, none⟩)] w fun e w' => e = .returned (.string (wordR s at_ bad).1) ∧ Blk w' b (scan s (wordR s at_ bad).2.1 (wordR s at_ bad).2.2) 73 ∧ Kept [b] w w' := by
  cases bad with
  | true =>
    go_enter Tryz.func126, Tryz.ntmps126
    go_wp2_with fail
    refine (gap_any b s at_ true _ hs hat hB).mono ?_
    rintro e w1 ⟨rfl, hb, hK⟩
    rw [gapB_true] at hb
    clear hB
    have hc0 := hb.cell 0
    have hc1 := hb.cell 1
    have hc2 := hb.cell 2
    have hf2 := hb.frozen 2
    simp [scan] at hc0 hc1 hc2
    go_wp2
    go_loop [4] (fun i => i = .int .i64 at_) (fun _ => 0)
    case atStart => rfl
    case round =>
      subst hrel
      go_wp2
      go_ret
      exact ⟨rfl, hb.set 2 _, hK.setCell (by simp) _⟩
  | false =>
    obtain ⟨j, hj⟩ : ∃ j, gapTo s at_ = j := ⟨_, rfl⟩
    have hjs := gapTo_le s at_ hat
    rw [hj] at hjs
    obtain ⟨R, hR⟩ : ∃ R, wordR s at_ false = R := ⟨_, rfl⟩
    rw [hR]
    have HJ : Hid (gapTo s at_ = j) := hj
    have HR0 : Hid (wordR s at_ false = R) := hR
    clear hj hR
    go_enter Tryz.func126, Tryz.ntmps126
    go_wp2_with fail
    refine (gap_any b s at_ false _ hs hat hB).mono ?_
    rintro e w1 ⟨rfl, hb, hK⟩
    rw [show gapB s at_ false = j from HJ.out] at hb
    clear hB
    have hc0 := hb.cell 0
    have hc1 := hb.cell 1
    have hc2 := hb.cell 2
    have hf1 := hb.frozen 1
    have hf2 := hb.frozen 2
    simp [scan] at hc0 hc1 hc2
    go_wp2
    go_loop [4] (fun i => ∃ k : Nat, i = .int .i64 k ∧ j ≤ k ∧ k ≤ s.size ∧ runTo lowerB s k = runTo lowerB s j) (fun i => s.size - (intOf i).toNat)
    case atStart => exact ⟨j, rfl, Nat.le_refl _, hjs, rfl⟩
    case round =>
      obtain ⟨k, rfl, hjk, hks, hrun⟩ := hrel
      have HR : Hid (runTo lowerB s k = runTo lowerB s j) := hrun
      clear hrun
      have hend : Hid (runTo lowerB s k = k → (((k : Int) = j ∨ 4 < (k : Int) - j) → R = (ByteArray.empty, j, true)) ∧ (¬ ((k : Int) = j ∨ 4 < (k : Int) - j) → R = (s.extract j k, k, false))) := by
        intro he
        have hk : runTo lowerB s j = k := by rw [← HR.out]; exact he
        exact ⟨fun h => by rw [← HR0.out]; exact wordR_bad HJ.out hk (by omega), fun h => by rw [← HR0.out]; exact wordR_ok HJ.out hk (by omega)⟩
      by_cases hlt : k < s.size
      · have hlt' : (k : Int) < (s.size : Int) := by omega
        by_cases hl : lowerB s[k] = true
        · have HL : Hid (runTo lowerB s (k + 1) = runTo lowerB s j) := by show _ = _; rw [← runTo_yes lowerB s k hlt hl]; exact HR.out
          go_wp2_with (go_at_call 169; refine (lower_any _ s[k] _ rfl).mono ?_; rintro e w2 ⟨rfl, rfl⟩; rw [hl])
          go_round
          case rel => exact ⟨k + 1, by go_num, by omega, by omega, HL.out⟩
          case measure => simp [intOf]; omega
        · have hl' : lowerB s[k] = false := by simpa using hl
          have HE := hend.out (runTo_no lowerB s k hlt hl')
          have HE' : Hid ((((k : Int) = j ∨ 4 < (k : Int) - j) → R = (ByteArray.empty, j, true)) ∧ (¬ ((k : Int) = j ∨ 4 < (k : Int) - j) → R = (s.extract j k, k, false))) := HE
          clear HE hl
          go_wp2_with (go_at_call 169; refine (lower_any _ s[k] _ rfl).mono ?_; rintro e w2 ⟨rfl, rfl⟩; rw [hl'])
          all_goals go_ret
          · rw [HE'.out.1 (by omega)]; exact ⟨rfl, hb.set 2 _, hK.setCell (by simp) _⟩
          · rw [HE'.out.1 (by simp_all)]; exact ⟨rfl, hb.set 2 _, hK.setCell (by simp) _⟩
          · rw [HE'.out.2 (by simp_all)]; exact ⟨rfl, hb.set 1 _, hK.setCell (by simp) _⟩
      · have HE := hend.out (runTo_end lowerB s k hlt)
        have HE' : Hid ((((k : Int) = j ∨ 4 < (k : Int) - j) → R = (ByteArray.empty, j, true)) ∧ (¬ ((k : Int) = j ∨ 4 < (k : Int) - j) → R = (s.extract j k, k, false))) := HE
        clear HE
        go_wp2
        all_goals go_ret
        · rw [HE'.out.1 (by omega)]; exact ⟨rfl, hb.set 2 _, hK.setCell (by simp) _⟩
        · rw [HE'.out.1 (by simp_all)]; exact ⟨rfl, hb.set 2 _, hK.setCell (by simp) _⟩
        · rw [HE'.out.2 (by simp_all)]; exact ⟨rfl, hb.set 1 _, hK.setCell (by simp) _⟩

end Go.Proofs.YtoihbhenbmffcaaGreatDoor
