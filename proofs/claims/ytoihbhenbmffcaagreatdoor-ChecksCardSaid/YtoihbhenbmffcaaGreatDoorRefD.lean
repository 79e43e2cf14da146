import Derived.Test.YtoihbhenbmffcaaGreatDoorRefA
import Derived.Handy
set_option linter.unusedVariables false
set_option linter.unusedSimpArgs false

namespace Go.Proofs.YtoihbhenbmffcaaGreatDoor
open Go.RowKit

/-- A term of the reference: its variable (0: none), its text. -/
structure RTerm where
  v : UInt8
  s : ByteArray

def termVal (t : RTerm) : List Value := [.int .u8 t.v.toNat, .string t.s]

def termR (s : ByteArray) (at_ : Nat) (bad : Bool) : RTerm × Nat × Bool :=
  if bad then (⟨0, ByteArray.empty⟩, at_, true) else
  if h : gapTo s at_ < s.size then
    if upperB s[gapTo s at_] then (⟨s[gapTo s at_], ByteArray.empty⟩, gapTo s at_ + 1, false)
    else if !digitB s[gapTo s at_] then (⟨0, (wordR s (gapTo s at_) false).1⟩, (wordR s (gapTo s at_) false).2)
    else if 3 < runTo digitB s (gapTo s at_) - gapTo s at_ ∨ (s[gapTo s at_] = 48 ∧ 1 < runTo digitB s (gapTo s at_) - gapTo s at_) then (⟨0, ByteArray.empty⟩, gapTo s at_, true)
    else (⟨0, s.extract (gapTo s at_) (runTo digitB s (gapTo s at_))⟩, runTo digitB s (gapTo s at_), false)
  else (⟨0, ByteArray.empty⟩, gapTo s at_, true)

set_option maxHeartbeats 400000 in
theorem term_bad (b : Nat) (s : ByteArray) (at_ : Nat) (w : World) (hs : s.size ≤ 1000000) (hat : at_ ≤ s.size) (hB : Blk w b (scan s at_ true) 73) :
    Calls Tryz.prog 127 #[.pointer (some ⟨b, 0, none⟩)] w fun e w' => e = .returned (.agg #[.int .u8 0, .string ByteArray.empty]) ∧ Blk w' b (scan s at_ true) 73 ∧ Kept [b] w w' := by
  have hbw := hB.lt
  go_enter Tryz.func127, Tryz.ntmps127
  go_wp2_with fail
  refine (gap_any b s at_ true _ hs hat (hB.alloc _)).mono ?_
  rintro e w1 ⟨rfl, hb, hK⟩
  rw [gapB_true] at hb
  clear hB
  have hn := (Blk.new w _ _).kept hK (by simp; omega)
  have hnc0 := hn.cell 0
  have hnc1 := hn.cell 1
  have hnf := hn.frozen
  have hc0 := hb.cell 0
  have hc1 := hb.cell 1
  have hc2 := hb.cell 2
  have hf2 := hb.frozen 2
  simp [scan] at hc0 hc1 hc2 hnc0 hnc1
  go_wp2
  go_quiet (fail)
  go_wp2
  refine bodyPost_ret (res_cell rfl rfl ((((hn.drewN _).set_other _ (by simp; omega) _).set 0 _).set 1 _) Tryz.underlying93 rfl (by kernel_rfl)) rfl ⟨rfl, ?_, ?_⟩
  · exact (((hb.drewN _).set 2 _).set_other _ (by simp; omega) _).set_other _ (by simp; omega) _
  · exact (((((Kept.refl _ _).alloc _).trans hK).drewN _).setCell (by simp) _ |>.setCell (by simp) _).setCell (by simp) _

set_option maxHeartbeats 400000 in
theorem term_end (b : Nat) (s : ByteArray) (at_ j : Nat) (w : World) (hs : s.size ≤ 1000000) (hat : at_ ≤ s.size) (hj : gapTo s at_ = j) (hlt : ¬ j < s.size) (hB : Blk w b (scan s at_ false) 73) :
    Calls Tryz.prog 127 #[.pointer (some ⟨b, 0, none⟩)] w fun e w' => e = .returned (.agg #[.int .u8 0, .string ByteArray.empty]) ∧ Blk w' b (scan s j true) 73 ∧ Kept [b] w w' := by
  have hbw := hB.lt
  have hjs := gapTo_le s at_ hat
  rw [hj] at hjs
  have HJ : Hid (gapTo s at_ = j) := hj
  clear hj
  go_enter Tryz.func127, Tryz.ntmps127
  go_wp2_with fail
  refine (gap_any b s at_ false _ hs hat (hB.alloc _)).mono ?_
  rintro e w1 ⟨rfl, hb, hK⟩
  rw [show gapB s at_ false = j from HJ.out] at hb
  clear hB HJ
  have hn := (Blk.new w _ _).kept hK (by simp; omega)
  have hnc0 := hn.cell 0
  have hnc1 := hn.cell 1
  have hnf := hn.frozen
  have hc0 := hb.cell 0
  have hc1 := hb.cell 1
  have hc2 := hb.cell 2
  have hf1 := hb.frozen 1
  have hf2 := hb.frozen 2
  simp [scan] at hc0 hc1 hc2 hnc0 hnc1
  have hd : decide ((s.size : Int) ≤ (j : Int)) = true := by simp; omega
  go_wp2
  go_quiet (fail)
  go_wp2
  refine bodyPost_ret (res_cell rfl rfl ((((hn.drewN _).set_other _ (by simp; omega) _).set 0 _).set 1 _) Tryz.underlying93 rfl (by kernel_rfl)) rfl ⟨rfl, ?_, ?_⟩
  · exact (((hb.drewN _).set 2 _).set_other _ (by simp; omega) _).set_other _ (by simp; omega) _
  · exact (((((Kept.refl _ _).alloc _).trans hK).drewN _).setCell (by simp) _ |>.setCell (by simp) _).setCell (by simp) _

set_option maxHeartbeats 400000 in
theorem term_upper (b : Nat) (s : ByteArray) (at_ j : Nat) (w : World) (hs : s.size ≤ 1000000) (hat : at_ ≤ s.size) (hj : gapTo s at_ = j) (hlt : j < s.size) (hu : upperB s[j] = true) (hB : Blk w b (scan s at_ false) 73) :
    Calls Tryz.prog 127 #[.pointer (some ⟨b, 0, none⟩)] w fun e w' => e = .returned (.agg #[.int .u8 s[j].toNat, .string ByteArray.empty]) ∧ Blk w' b (scan s (j + 1) false) 73 ∧ Kept [b] w w' := by
  have hbw := hB.lt
  have hjs := gapTo_le s at_ hat
  rw [hj] at hjs
  have HJ : Hid (gapTo s at_ = j) := hj
  clear hj
  go_enter Tryz.func127, Tryz.ntmps127
  go_wp2_with fail
  refine (gap_any b s at_ false _ hs hat (hB.alloc _)).mono ?_
  rintro e w1 ⟨rfl, hb, hK⟩
  rw [show gapB s at_ false = j from HJ.out] at hb
  clear hB HJ
  have hn := (Blk.new w _ _).kept hK (by simp; omega)
  have hnc0 := hn.cell 0
  have hnc1 := hn.cell 1
  have hnf := hn.frozen
  have hc0 := hb.cell 0
  have hc1 := hb.cell 1
  have hc2 := hb.cell 2
  have hf1 := hb.frozen 1
  have hf2 := hb.frozen 2
  simp [scan] at hc0 hc1 hc2 hnc0 hnc1
  have hd : decide ((s.size : Int) ≤ (j : Int)) = false := by simp; omega
  have hlt' : (j : Int) < (s.size : Int) := by omega
  go_wp2
  go_quiet (fail)
  go_wp2
  go_quiet (fail)
  go_wp2_with (go_at_call 170; refine (upper_any _ s[j] _ rfl).mono ?_; rintro e w2 ⟨rfl, rfl⟩; rw [hu])
  refine bodyPost_ret (res_cell rfl rfl ((((hn.drewN _).set_other _ (by simp; omega) _).set 0 _).set 1 _) Tryz.underlying93 rfl (by kernel_rfl)) rfl ⟨rfl, ?_, ?_⟩
  · exact (((hb.drewN _).set 1 _).set_other _ (by simp; omega) _).set_other _ (by simp; omega) _
  · exact (((((Kept.refl _ _).alloc _).trans hK).drewN _).setCell (by simp) _ |>.setCell (by simp) _).setCell (by simp) _

set_option maxHeartbeats 400000 in
theorem term_word (b : Nat) (s : ByteArray) (at_ j : Nat) (w : World) (hs : s.size ≤ 1000000) (hat : at_ ≤ s.size) (hj : gapTo s at_ = j) (hlt : j < s.size) (hu : upperB s[j] = false) (hdg : digitB s[j] = false) (hB : Blk w b (scan s at_ false) 73) :
    Calls Tryz.prog 127 #[.pointer (some ⟨b, 0, none⟩)] w fun e w' => e = .returned (.agg #[.int .u8 0, .string (wordR s j false).1]) ∧ Blk w' b (scan s (wordR s j false).2.1 (wordR s j false).2.2) 73 ∧ Kept [b] w w' := by
  have hbw := hB.lt
  have hjs := gapTo_le s at_ hat
  rw [hj] at hjs
  have HJ : Hid (gapTo s at_ = j) := hj
  clear hj
  go_enter Tryz.func127, Tryz.ntmps127
  go_wp2_with fail
  refine (gap_any b s at_ false _ hs hat (hB.alloc _)).mono ?_
  rintro e w1 ⟨rfl, hb, hK⟩
  rw [show gapB s at_ false = j from HJ.out] at hb
  clear hB HJ
  have hn := (Blk.new w _ _).kept hK (by simp; omega)
  have hnc0 := hn.cell 0
  have hnc1 := hn.cell 1
  have hnf := hn.frozen
  have hc0 := hb.cell 0
  have hc1 := hb.cell 1
  have hc2 := hb.cell 2
  have hf1 := hb.frozen 1
  have hf2 := hb.frozen 2
  simp [scan] at hc0 hc1 hc2 hnc0 hnc1
  have hd : decide ((s.size : Int) ≤ (j : Int)) = false := by simp; omega
  have hlt' : (j : Int) < (s.size : Int) := by omega
  have hnot : ∀ (x : Bool) (w : World), (Op.unary .not (.bool x)).run Tryz.prog w = .ok (.bool (!x)) w := fun _ _ => rfl
  go_wp2
  go_quiet (fail)
  go_wp2
  go_quiet (fail)
  go_wp2_with (first | (go_at_call 170; refine (upper_any _ s[j] _ rfl).mono ?_; rintro e w2 ⟨rfl, rfl⟩; rw [hu]) | (go_at_call 55; refine (digit_any _ s[j] _ rfl).mono ?_; rintro e w2 ⟨rfl, rfl⟩; rw [hdg]))
  refine (word_any b s j false _ hs (by omega) (hb.drewN _)).mono ?_
  rintro e w2 ⟨rfl, hb2, hK2⟩
  have hn2 := (hn.drewN _).kept hK2 (by simp; omega)
  have hm0 := hn2.cell 0
  have hm1 := hn2.cell 1
  have hmf := hn2.frozen
  simp at hm0 hm1
  clear hnf hnc0 hnc1 hf1 hf2 hc0 hc1 hc2
  go_wp2
  refine bodyPost_ret (res_cell rfl rfl ((hn2.set 0 _).set 1 _) Tryz.underlying93 rfl (by kernel_rfl)) rfl ⟨rfl, ?_, ?_⟩
  · exact (hb2.set_other _ (by simp; omega) _).set_other _ (by simp; omega) _
  · exact (((((Kept.refl _ _).alloc _).trans hK).drewN _).trans hK2 |>.setCell (by simp) _).setCell (by simp) _

end Go.Proofs.YtoihbhenbmffcaaGreatDoor

namespace Go.Proofs.YtoihbhenbmffcaaGreatDoor
open Go.RowKit

def digOut (s : ByteArray) (j k : Nat) : RTerm × Nat × Bool :=
  if 3 < k - j ∨ (atB s j 48 = true ∧ 1 < k - j) then (⟨0, ByteArray.empty⟩, j, true) else (⟨0, s.extract j k⟩, k, false)

theorem digOut_bad1 {s : ByteArray} {j k : Nat} (h : (3 : Int) < ((k - j : Nat) : Int)) : digOut s j k = (⟨0, ByteArray.empty⟩, j, true) := by
  unfold digOut; rw [if_pos (by omega)]
theorem atB_iff {s : ByteArray} {j : Nat} (hj : j < s.size) (c : UInt8) : atB s j c = true ↔ (s[j].toNat : Int) = c.toNat := by
  unfold atB; simp only [hj, dite_true, beq_iff_eq]
  constructor
  · intro h; rw [h]
  · intro h; exact UInt8.toNat_inj.1 (by omega)
theorem digOut_bad2 {s : ByteArray} {j k : Nat} (hj : j < s.size) (h : (s[j].toNat : Int) = 48) (h2 : (3 : Int) < ((k - j : Nat) : Int) ∨ (1 : Int) < ((k - j : Nat) : Int)) : digOut s j k = (⟨0, ByteArray.empty⟩, j, true) := by
  unfold digOut; rw [if_pos (by rcases h2 with h2 | h2; exact Or.inl (by omega); exact Or.inr ⟨(atB_iff hj 48).2 h, by omega⟩)]
theorem digOut_ok1 {s : ByteArray} {j k : Nat} (h : ((k - j : Nat) : Int) ≤ 3) (h2 : ((k - j : Nat) : Int) ≤ 1) : digOut s j k = (⟨0, s.extract j k⟩, k, false) := by
  unfold digOut; rw [if_neg (by omega)]
theorem digOut_ok2 {s : ByteArray} {j k : Nat} (hj : j < s.size) (h : ¬ (s[j].toNat : Int) = 48) (h2 : ((k - j : Nat) : Int) ≤ 3) : digOut s j k = (⟨0, s.extract j k⟩, k, false) := by
  unfold digOut; rw [if_neg (by rintro (h3 | ⟨h3, _⟩); omega; exact h ((atB_iff hj 48).1 h3))]

set_option maxHeartbeats 800000 in
theorem term_digits (b : Nat) (s : ByteArray) (at_ j : Nat) (w : World) (R : RTerm × Nat × Bool) (hs : s.size ≤ 1000000) (hat : at_ ≤ s.size) (hj : gapTo s at_ = j) (hlt : j < s.size) (hu : upperB s[j] = false) (hdg : digitB s[j] = true)
    (HRR : Hid (R = digOut s j (runTo digitB s j)))
    (hB : Blk w b (scan s at_ false) 73) :
    Calls Tryz.prog 127 #[.pointer (some ⟨b, 0, none⟩)] w fun e w' => e = .returned (.agg (termVal R.1).toArray) ∧ Blk w' b (scan s R.2.1 R.2.2) 73 ∧ Kept [b] w w' := by
  have hbw := hB.lt
  have hjs := gapTo_le s at_ hat
  rw [hj] at hjs
  have HJ : Hid (gapTo s at_ = j) := hj
  clear hj
  go_enter Tryz.func127, Tryz.ntmps127
  go_wp2_with fail
  refine (gap_any b s at_ false _ hs hat (hB.alloc _)).mono ?_
  rintro e w1 ⟨rfl, hb, hK⟩
  rw [show gapB s at_ false = j from HJ.out] at hb
  clear hB HJ
  have hn := (Blk.new w _ _).kept hK (by simp; omega)
  have hnc0 := hn.cell 0
  have hnc1 := hn.cell 1
  have hnf := hn.frozen
  have hc0 := hb.cell 0
  have hc1 := hb.cell 1
  have hc2 := hb.cell 2
  have hf1 := hb.frozen 1
  have hf2 := hb.frozen 2
  simp [scan] at hc0 hc1 hc2 hnc0 hnc1
  have hd : decide ((s.size : Int) ≤ (j : Int)) = false := by simp; omega
  have hlt' : (j : Int) < (s.size : Int) := by omega
  have hnot : ∀ (x : Bool) (w : World), (Op.unary .not (.bool x)).run Tryz.prog w = .ok (.bool (!x)) w := fun _ _ => rfl
  go_wp2
  go_quiet (fail)
  go_wp2
  go_quiet (fail)
  go_wp2_with (first | (go_at_call 170; refine (upper_any _ s[j] _ rfl).mono ?_; rintro e w2 ⟨rfl, rfl⟩; rw [hu]) | (go_at_call 55; refine (digit_any _ s[j] _ rfl).mono ?_; rintro e w2 ⟨rfl, rfl⟩; rw [hdg]))
  go_loop [4] (fun i => ∃ k : Nat, i = .int .i64 k ∧ j ≤ k ∧ k ≤ s.size ∧ runTo digitB s k = runTo digitB s j) (fun i => s.size - (intOf i).toNat)
  case atStart => exact ⟨j, rfl, Nat.le_refl _, hjs, rfl⟩
  case round =>
    obtain ⟨k, rfl, hjk, hks, hrun⟩ := hrel
    have HR : Hid (runTo digitB s k = runTo digitB s j) := hrun
    clear hrun
    have hjk' : (j : Int) ≤ (k : Int) := by omega
    have hks' : (k : Int) ≤ (s.size : Int) := by omega
    have hend : Hid (runTo digitB s k = k → R = digOut s j k) := by
      intro he
      have hk : runTo digitB s j = k := by rw [← HR.out]; exact he
      rw [HRR.out, hk]
    by_cases hlk : k < s.size
    · have hlk' : (k : Int) < (s.size : Int) := by omega
      by_cases hl : digitB s[k] = true
      · have HL : Hid (runTo digitB s (k + 1) = runTo digitB s j) := by show _ = _; rw [← runTo_yes digitB s k hlk hl]; exact HR.out
        clear hdg
        go_wp2_with (go_at_call 55; refine (digit_any _ s[k] _ rfl).mono ?_; rintro e w2 ⟨rfl, rfl⟩; rw [hl])
        go_round
        case rel => exact ⟨k + 1, by go_num, by omega, by omega, HL.out⟩
        case measure => simp [intOf]; omega
      · have hl' : digitB s[k] = false := by simpa using hl
        have HE : Hid (R = digOut s j k) := hend.out (runTo_no digitB s k hlk hl')
        clear hl hend HRR HR
        go_wp2_with (go_at_call 55; refine (digit_any _ s[k] _ rfl).mono ?_; rintro e w2 ⟨rfl, rfl⟩; rw [hl'])
        go_quiet (fail)
        go_wp2
        · rw [HE.out, digOut_bad2 hlt (by assumption) (by assumption)]
          refine bodyPost_ret (res_cell rfl rfl ((((hn.drewN _).set_other _ (by simp; omega) _).set 0 _).set 1 _) Tryz.underlying93 rfl (by kernel_rfl)) rfl ⟨rfl, ?_, ?_⟩
          · exact (((hb.drewN _).set 2 _).set_other _ (by simp; omega) _).set_other _ (by simp; omega) _
          · exact (((((Kept.refl _ _).alloc _).trans hK).drewN _).setCell (by simp) _ |>.setCell (by simp) _).setCell (by simp) _
        · rw [HE.out, digOut_ok1 (by omega) (by omega)]
          refine bodyPost_ret (res_cell rfl rfl ((((hn.drewN _).set_other _ (by simp; omega) _).set 0 _).set 1 _) Tryz.underlying93 rfl (by kernel_rfl)) rfl ⟨rfl, ?_, ?_⟩
          · exact (((hb.drewN _).set 1 _).set_other _ (by simp; omega) _).set_other _ (by simp; omega) _
          · exact (((((Kept.refl _ _).alloc _).trans hK).drewN _).setCell (by simp) _ |>.setCell (by simp) _).setCell (by simp) _
        · rw [HE.out, digOut_ok2 hlt (by assumption) (by omega)]
          refine bodyPost_ret (res_cell rfl rfl ((((hn.drewN _).set_other _ (by simp; omega) _).set 0 _).set 1 _) Tryz.underlying93 rfl (by kernel_rfl)) rfl ⟨rfl, ?_, ?_⟩
          · exact (((hb.drewN _).set 1 _).set_other _ (by simp; omega) _).set_other _ (by simp; omega) _
          · exact (((((Kept.refl _ _).alloc _).trans hK).drewN _).setCell (by simp) _ |>.setCell (by simp) _).setCell (by simp) _
        · rw [HE.out, digOut_bad1 (by omega)]
          refine bodyPost_ret (res_cell rfl rfl ((((hn.drewN _).set_other _ (by simp; omega) _).set 0 _).set 1 _) Tryz.underlying93 rfl (by kernel_rfl)) rfl ⟨rfl, ?_, ?_⟩
          · exact (((hb.drewN _).set 2 _).set_other _ (by simp; omega) _).set_other _ (by simp; omega) _
          · exact (((((Kept.refl _ _).alloc _).trans hK).drewN _).setCell (by simp) _ |>.setCell (by simp) _).setCell (by simp) _
    · have HE : Hid (R = digOut s j k) := hend.out (runTo_end digitB s k hlk)
      clear hend HRR HR
      go_wp2
      go_quiet (fail)
      go_wp2
      · rw [HE.out, digOut_bad2 hlt (by assumption) (by assumption)]
        refine bodyPost_ret (res_cell rfl rfl ((((hn.drewN _).set_other _ (by simp; omega) _).set 0 _).set 1 _) Tryz.underlying93 rfl (by kernel_rfl)) rfl ⟨rfl, ?_, ?_⟩
        · exact (((hb.drewN _).set 2 _).set_other _ (by simp; omega) _).set_other _ (by simp; omega) _
        · exact (((((Kept.refl _ _).alloc _).trans hK).drewN _).setCell (by simp) _ |>.setCell (by simp) _).setCell (by simp) _
      · rw [HE.out, digOut_ok1 (by omega) (by omega)]
        refine bodyPost_ret (res_cell rfl rfl ((((hn.drewN _).set_other _ (by simp; omega) _).set 0 _).set 1 _) Tryz.underlying93 rfl (by kernel_rfl)) rfl ⟨rfl, ?_, ?_⟩
        · exact (((hb.drewN _).set 1 _).set_other _ (by simp; omega) _).set_other _ (by simp; omega) _
        · exact (((((Kept.refl _ _).alloc _).trans hK).drewN _).setCell (by simp) _ |>.setCell (by simp) _).setCell (by simp) _
      · rw [HE.out, digOut_ok2 hlt (by assumption) (by omega)]
        refine bodyPost_ret (res_cell rfl rfl ((((hn.drewN _).set_other _ (by simp; omega) _).set 0 _).set 1 _) Tryz.underlying93 rfl (by kernel_rfl)) rfl ⟨rfl, ?_, ?_⟩
        · exact (((hb.drewN _).set 1 _).set_other _ (by simp; omega) _).set_other _ (by simp; omega) _
        · exact (((((Kept.refl _ _).alloc _).trans hK).drewN _).setCell (by simp) _ |>.setCell (by simp) _).setCell (by simp) _
      · rw [HE.out, digOut_bad1 (by omega)]
        refine bodyPost_ret (res_cell rfl rfl ((((hn.drewN _).set_other _ (by simp; omega) _).set 0 _).set 1 _) Tryz.underlying93 rfl (by kernel_rfl)) rfl ⟨rfl, ?_, ?_⟩
        · exact (((hb.drewN _).set 2 _).set_other _ (by simp; omega) _).set_other _ (by simp; omega) _
        · exact (((((Kept.refl _ _).alloc _).trans hK).drewN _).setCell (by simp) _ |>.setCell (by simp) _).setCell (by simp) _

theorem term_any (b : Nat) (s : ByteArray) (at_ : Nat) (bad : Bool) (w : World) (hs : s.size ≤ 1000000) (hat : at_ ≤ s.size) (hB : Blk w b (scan s at_ bad) 73) :
    Calls Tryz.prog 127 #[.pointer (some ⟨b, 0, none⟩)] w fun e w' => e = .returned (.agg (termVal (termR s at_ bad).1).toArray) ∧ Blk w' b (scan s (termR s at_ bad).2.1 (termR s at_ bad).2.2) 73 ∧ Kept [b] w w' := by
  cases bad with
  | true => exact term_bad b s at_ w hs hat hB
  | false =>
    obtain ⟨j, hj⟩ : ∃ j, gapTo s at_ = j := ⟨_, rfl⟩
    by_cases hlt : j < s.size
    · cases hu : upperB s[j] with
      | true =>
        have e : termR s at_ false = (⟨s[j], ByteArray.empty⟩, j + 1, false) := by unfold termR; subst hj; simp [hlt, hu]
        rw [e]; exact term_upper b s at_ j w hs hat hj hlt hu hB
      | false =>
        cases hd : digitB s[j] with
        | false =>
          have e : termR s at_ false = (⟨0, (wordR s j false).1⟩, (wordR s j false).2) := by unfold termR; subst hj; simp [hlt, hu, hd]
          rw [e]; exact term_word b s at_ j w hs hat hj hlt hu hd hB
        | true =>
          refine term_digits b s at_ j w _ hs hat hj hlt hu hd ?_ hB
          show _ = _
          unfold termR digOut atB; subst hj; simp [hlt, hu, hd]
    · have e : termR s at_ false = (⟨0, ByteArray.empty⟩, j, true) := by unfold termR; subst hj; simp [hlt]
      rw [e]; exact term_end b s at_ j w hs hat hj hlt hB

end Go.Proofs.YtoihbhenbmffcaaGreatDoor
