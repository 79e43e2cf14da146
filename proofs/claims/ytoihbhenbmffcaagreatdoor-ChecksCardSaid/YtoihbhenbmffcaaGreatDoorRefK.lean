import Derived.Test.YtoihbhenbmffcaaGreatDoorRefF
set_option linter.unusedVariables false
set_option linter.unusedSimpArgs false

namespace Go.Proofs.YtoihbhenbmffcaaGreatDoor
open Go.RowKit

set_option maxRecDepth 100000 in
set_option maxHeartbeats 1600000 in
theorem lit_cmpA4 (b : Nat) (s : ByteArray) (at_ j : Nat) (w : World) (t : RTerm) (a2 a3 : Nat) (hs : s.size ≤ 1000000) (hat : at_ ≤ s.size) (hj : gapTo s at_ = j) (hx : atB s j 33 = false) (hlt : j < s.size) (hl : lowerB s[j] = true) (ho : Hid (openB s j = false))(hlt3 : a3 < s.size) (q1 : ((s[a3].toNat : Int) == 61) = true)
    (HT : Hid (termR s j false = (t, a2, false) ∧ gapB s a2 false = a3)) (hB : Blk w b (scan s at_ false) 73) :
    Calls Tryz.prog 129 #[.pointer (some ⟨b, 0, none⟩)] w fun e w' => ∃ av, e = .returned (.agg (litVal ⟨s[a3], noAtom, t, (termR s (a3 + 1) false).1, j⟩ av).toArray) ∧
      w'.ownsRow w.heap.size 93 2 av 0 [] ∧ Blk w' b (scan s (termR s (a3 + 1) false).2.1 (termR s (a3 + 1) false).2.2) 73 ∧ Kept [b] w w' := by
  have hbw := hB.lt
  have hjs : j ≤ s.size := by have := gapTo_le s at_ hat; omega
  have hgj : gapB s j false = j := by rw [← hj]; exact gapTo_idem s at_
  have hisj : isTo s j false 33 = j := by unfold isTo; rw [hgj, hx]; rfl
  have hisb : (!false && atB s (gapB s j false) 33) = false := by rw [hgj, hx]; rfl
  have HJ : Hid (gapTo s at_ = j ∧ isTo s j false 33 = j ∧ (!false && atB s (gapB s j false) 33) = false) := ⟨hj, hisj, hisb⟩
  clear hj hx hgj hisj hisb
  go_enter Tryz.func129, Tryz.ntmps129
  go_wp2_with fail
  refine (gap_any b s at_ false _ hs hat (hB.alloc _)).mono ?_
  rintro e w1 ⟨rfl, hb, hK⟩
  rw [show gapB s at_ false = j from HJ.out.1] at hb
  have hn := (Blk.new w _ _).kept hK (by simp; omega)
  have hK1 := ((Kept.refl [b] w).alloc _).trans hK
  clear hB hK
  have hb1 := hb.lt
  have hn1 := hn.lt
  have hc1 := hb.cell 1
  simp [scan] at hc1
  go_wp2_with fail
  refine (is_any b s j false 33 33 _ rfl hs (by omega) (hb.alloc _)).mono ?_
  rintro e w2 ⟨rfl, hb2, hK2⟩
  rw [HJ.out.2.1] at hb2
  rw [HJ.out.2.2]
  have hA2 := (Blk.new w1 _ _).kept hK2 (by simp; omega)
  have hn2 := (hn.alloc _).kept hK2 (by simp; omega)
  have hK2' := (hK1.alloc _).trans hK2
  obtain ⟨N, hN⟩ : ∃ N, w1.heap.size = N := ⟨_, rfl⟩
  rw [hN] at hA2 ⊢
  have hNb : b < N := by omega
  have hNw : w.heap.size < N := by omega
  clear hK1 hb hn hb1 hn1 hc1 hK2 hN HJ
  have hNlt := hA2.lt
  have hblt := hb2.lt
  have hwlt := hn2.lt
  have hc0 := hb2.cell 0
  have hc1 := hb2.cell 1
  have hc2 := hb2.cell 2
  simp [scan] at hc0 hc1 hc2
  have hlt' : (j : Int) < (s.size : Int) := by omega
  obtain ⟨wd, ap, bp, hwd⟩ : ∃ wd ap bp, wordR s j false = (wd, ap, bp) := ⟨_, _, _, rfl⟩
  have hap : ap ≤ s.size := by have := wordR_le s j false (by omega); rw [hwd] at this; exact this
  have ho' : (!bp && atB s (gapB s ap bp) 40) = false := by have h := ho.out; unfold openB at h; rw [hwd] at h; exact h
  have HW : Hid (wordR s j false = (wd, ap, bp) ∧ (!bp && atB s (gapB s ap bp) 40) = false) := ⟨hwd, ho'⟩
  clear hwd ho'
  go_wp2_with fail
  go_quiet ((go_at_call 169; exact Calls.quiet_of_same (lower_any _ s[j] _ rfl)))
  go_wp2_with fail
  go_region
  go_wp2_with fail
  refine (word_any w2.heap.size s j false _ hs (by omega) (Blk.new (w2.drewN _) (scan s j false) 73)).mono ?_
  rintro e w3 ⟨rfl, hb3, hK3⟩
  rw [HW.out.1] at hb3 ⊢
  have hb3' := ((hb2.drewN _).alloc _).kept hK3 (by simp; omega)
  have hA3 := ((hA2.drewN _).alloc _).kept hK3 (by simp; omega)
  have hn3 := ((hn2.drewN _).alloc _).kept hK3 (by simp; omega)
  have hK3' := ((hK2'.drewN _).alloc _).trans' hK3 (by have := hK2'.size; simp; omega)
  clear hb2 hA2 hn2 hK3 hc0 hc1 hc2
  simp only
  go_wp2_with fail
  refine (sees_any w2.heap.size s ap bp 40 40 _ rfl hs hap hb3).mono ?_
  rintro e w4 ⟨rfl, _, hK4⟩
  have hb4 := hb3'.kept hK4 (by simp; omega)
  have hA4 := hA3.kept hK4 (by simp; omega)
  have hn4 := hn3.kept hK4 (by simp; omega)
  have hK4' := hK3'.trans' hK4 (by have := hK2'.size; simp; omega)
  rw [HW.out.2]
  clear hb3' hA3 hn3 hK3' hK4 hb3 HW hK2'
  have hA4lt := hA4.lt
  have hb4lt := hb4.lt
  have hn4lt := hn4.lt
  have ha2 : a2 ≤ s.size := by have := termR_le s j false (by omega); rw [HT.out.1] at this; exact this
  have ha3 : a3 ≤ s.size := by have := gapB_le s a2 false ha2; rw [HT.out.2] at this; exact this
  go_wp2_with fail
  refine (term_any b s j false _ hs (by omega) (by first | exact hb4 | exact hb4.drewN _)).mono ?_
  rintro e w5 ⟨rfl, hb5, hK5⟩
  rw [HT.out.1] at hb5 ⊢
  have hA5 := Blk.kept (by first | exact hA4 | exact hA4.drewN _) hK5 (by simp; omega)
  have hn5 := Blk.kept (by first | exact hn4 | exact hn4.drewN _) hK5 (by simp; omega)
  have hK5' := Kept.trans (by first | exact hK4' | exact hK4'.drewN _) hK5
  clear hb4 hA4 hn4 hK4' hK5
  have e4 := hA5.cell 4
  have e5 := hA5.cell 5
  have hxf := hA5.frozen
  simp at e4 e5
  simp only [termVal]
  go_wp2_with fail
  refine (gap_any b s a2 false _ hs ha2 ((hb5.set_other _ (by simp; omega) _).set_other _ (by simp; omega) _)).mono ?_
  rintro e w6 ⟨rfl, hb6, hK6⟩
  rw [HT.out.2] at hb6
  have hA6 := ((hA5.set 4 _).set 5 _).kept hK6 (by simp; omega)
  have hn6 := ((hn5.set_other _ (by simp; omega) _).set_other _ (by simp; omega) _).kept hK6 (by simp; omega)
  have hK6' := ((hK5'.setCell (p := ⟨N, 4, none⟩) (by simp; omega) _).setCell (p := ⟨N, 5, none⟩) (by simp; omega) _).trans hK6
  clear hb5 hA5 hn5 hK5' hK6 e4 e5 hxf
  simp only [List.set_cons_zero, List.set_cons_succ] at hA6
  have hb6lt := hb6.lt
  have hn6lt := hn6.lt
  have hA6lt := hA6.lt
  have hc0 := hb6.cell 0
  have hc1 := hb6.cell 1
  have hc2 := hb6.cell 2
  have hbf := hb6.frozen
  simp [scan] at hc0 hc1 hc2
  have hlt3' : (a3 : Int) < (s.size : Int) := by omega
  have hdd : decide ((s.size : Int) ≤ (a3 : Int)) = false := by simp; omega
  have hdN : decide (s.size ≤ a3) = false := by simp; omega
  have hne : ¬ N = b := by omega
  have hne' : ¬ b = N := by omega
  have p1 : ((s[a3].toNat : Int) != 61) = false := by simp only [bne, q1]; rfl
  clear q1
  go_wp2_with fail
  go_quiet (fail)
  have e0 := hA6.cell 0
  have hdf := hA6.frozen 0
  simp at e0
  clear p1
  go_wp2_with fail
  go_region_held3 (fun w' => w'.cell? ⟨b, 0, none⟩ = some (.string s) ∧ w'.cell? ⟨b, 1, none⟩ = some (.int .i64 a3)) (go_keep) (fail)
  clear e0 hdf
  go_wp2_with fail
  refine (term_any b s (a3 + 1) false _ hs (by omega) (((hb6.drewN _).set_other ⟨N, 0, none⟩ (by simp; omega) _).set 1 _)).mono ?_
  rintro e w7 ⟨rfl, hb7, hK7⟩
  have hA7 := (((hA6.drewN _).set 0 _).set_other ⟨b, 1, none⟩ (by simp; omega) _).kept hK7 (by simp; omega)
  have hn7 := (((hn6.drewN _).set_other ⟨N, 0, none⟩ (by simp; omega) _).set_other ⟨b, 1, none⟩ (by simp; omega) _).kept hK7 (by simp; omega)
  have hK7' := (((hK6'.drewN _).setCell (p := ⟨N, 0, none⟩) (by simp; omega) _).setCell (p := ⟨b, 1, none⟩) (by simp) _).trans hK7
  clear hb6 hA6 hn6 hK6' hK7 hc0 hc1 hc2 hbf
  have hd0 := hA7.cell
  have hdf := hA7.frozen
  have hy0 := hn7.cell
  have hyf := hn7.frozen
  simp only [termVal]
  have e0 := hd0 0
  have e1 := hd0 1
  have e2 := hd0 2
  have e3 := hd0 3
  have e4 := hd0 4
  have e5 := hd0 5
  have e6 := hd0 6
  have e7 := hd0 7
  have e8 := hd0 8
  have f0 := hy0 0
  have f1 := hy0 1
  have f2 := hy0 2
  have f3 := hy0 3
  have f4 := hy0 4
  have f5 := hy0 5
  have f6 := hy0 6
  have f7 := hy0 7
  have f8 := hy0 8
  simp at e0 e1 e2 e3 e4 e5 e6 e7 e8 f0 f1 f2 f3 f4 f5 f6 f7 f8
  clear hd0 hy0
  go_wp2
  refine bodyPost_ret (res_cell rfl rfl (((((((((((hn7.set_other _ (by simp; omega) _).set_other _ (by simp; omega) _).set 0 _).set 1 _).set 2 _).set 3 _).set 4 _).set 5 _).set 6 _).set 7 _).set 8 _) Tryz.underlying95 rfl (by kernel_rfl)) rfl ⟨_, rfl, World.ownsRow_nil _ _ _ _, ?_, ?_⟩
  · repeat (refine Blk.set_other ?_ _ (by simp; omega) _)
    exact hb7
  · repeat (refine Kept.setCell ?_ (by simp; try omega) _)
    exact hK7'

set_option maxRecDepth 100000 in
set_option maxHeartbeats 1600000 in
theorem lit_cmpA5 (b : Nat) (s : ByteArray) (at_ j : Nat) (w : World) (t : RTerm) (a2 a3 : Nat) (hs : s.size ≤ 1000000) (hat : at_ ≤ s.size) (hj : gapTo s at_ = j) (hx : atB s j 33 = false) (hlt : j < s.size) (hl : lowerB s[j] = true) (ho : Hid (openB s j = false))(hlt3 : a3 < s.size) (q1 : ((s[a3].toNat : Int) == 35) = true) (q2 : ((s[a3].toNat : Int) == 61) = false)
    (HT : Hid (termR s j false = (t, a2, false) ∧ gapB s a2 false = a3)) (hB : Blk w b (scan s at_ false) 73) :
    Calls Tryz.prog 129 #[.pointer (some ⟨b, 0, none⟩)] w fun e w' => ∃ av, e = .returned (.agg (litVal ⟨s[a3], noAtom, t, (termR s (a3 + 1) false).1, j⟩ av).toArray) ∧
      w'.ownsRow w.heap.size 93 2 av 0 [] ∧ Blk w' b (scan s (termR s (a3 + 1) false).2.1 (termR s (a3 + 1) false).2.2) 73 ∧ Kept [b] w w' := by
  have hbw := hB.lt
  have hjs : j ≤ s.size := by have := gapTo_le s at_ hat; omega
  have hgj : gapB s j false = j := by rw [← hj]; exact gapTo_idem s at_
  have hisj : isTo s j false 33 = j := by unfold isTo; rw [hgj, hx]; rfl
  have hisb : (!false && atB s (gapB s j false) 33) = false := by rw [hgj, hx]; rfl
  have HJ : Hid (gapTo s at_ = j ∧ isTo s j false 33 = j ∧ (!false && atB s (gapB s j false) 33) = false) := ⟨hj, hisj, hisb⟩
  clear hj hx hgj hisj hisb
  go_enter Tryz.func129, Tryz.ntmps129
  go_wp2_with fail
  refine (gap_any b s at_ false _ hs hat (hB.alloc _)).mono ?_
  rintro e w1 ⟨rfl, hb, hK⟩
  rw [show gapB s at_ false = j from HJ.out.1] at hb
  have hn := (Blk.new w _ _).kept hK (by simp; omega)
  have hK1 := ((Kept.refl [b] w).alloc _).trans hK
  clear hB hK
  have hb1 := hb.lt
  have hn1 := hn.lt
  have hc1 := hb.cell 1
  simp [scan] at hc1
  go_wp2_with fail
  refine (is_any b s j false 33 33 _ rfl hs (by omega) (hb.alloc _)).mono ?_
  rintro e w2 ⟨rfl, hb2, hK2⟩
  rw [HJ.out.2.1] at hb2
  rw [HJ.out.2.2]
  have hA2 := (Blk.new w1 _ _).kept hK2 (by simp; omega)
  have hn2 := (hn.alloc _).kept hK2 (by simp; omega)
  have hK2' := (hK1.alloc _).trans hK2
  obtain ⟨N, hN⟩ : ∃ N, w1.heap.size = N := ⟨_, rfl⟩
  rw [hN] at hA2 ⊢
  have hNb : b < N := by omega
  have hNw : w.heap.size < N := by omega
  clear hK1 hb hn hb1 hn1 hc1 hK2 hN HJ
  have hNlt := hA2.lt
  have hblt := hb2.lt
  have hwlt := hn2.lt
  have hc0 := hb2.cell 0
  have hc1 := hb2.cell 1
  have hc2 := hb2.cell 2
  simp [scan] at hc0 hc1 hc2
  have hlt' : (j : Int) < (s.size : Int) := by omega
  obtain ⟨wd, ap, bp, hwd⟩ : ∃ wd ap bp, wordR s j false = (wd, ap, bp) := ⟨_, _, _, rfl⟩
  have hap : ap ≤ s.size := by have := wordR_le s j false (by omega); rw [hwd] at this; exact this
  have ho' : (!bp && atB s (gapB s ap bp) 40) = false := by have h := ho.out; unfold openB at h; rw [hwd] at h; exact h
  have HW : Hid (wordR s j false = (wd, ap, bp) ∧ (!bp && atB s (gapB s ap bp) 40) = false) := ⟨hwd, ho'⟩
  clear hwd ho'
  go_wp2_with fail
  go_quiet ((go_at_call 169; exact Calls.quiet_of_same (lower_any _ s[j] _ rfl)))
  go_wp2_with fail
  go_region
  go_wp2_with fail
  refine (word_any w2.heap.size s j false _ hs (by omega) (Blk.new (w2.drewN _) (scan s j false) 73)).mono ?_
  rintro e w3 ⟨rfl, hb3, hK3⟩
  rw [HW.out.1] at hb3 ⊢
  have hb3' := ((hb2.drewN _).alloc _).kept hK3 (by simp; omega)
  have hA3 := ((hA2.drewN _).alloc _).kept hK3 (by simp; omega)
  have hn3 := ((hn2.drewN _).alloc _).kept hK3 (by simp; omega)
  have hK3' := ((hK2'.drewN _).alloc _).trans' hK3 (by have := hK2'.size; simp; omega)
  clear hb2 hA2 hn2 hK3 hc0 hc1 hc2
  simp only
  go_wp2_with fail
  refine (sees_any w2.heap.size s ap bp 40 40 _ rfl hs hap hb3).mono ?_
  rintro e w4 ⟨rfl, _, hK4⟩
  have hb4 := hb3'.kept hK4 (by simp; omega)
  have hA4 := hA3.kept hK4 (by simp; omega)
  have hn4 := hn3.kept hK4 (by simp; omega)
  have hK4' := hK3'.trans' hK4 (by have := hK2'.size; simp; omega)
  rw [HW.out.2]
  clear hb3' hA3 hn3 hK3' hK4 hb3 HW hK2'
  have hA4lt := hA4.lt
  have hb4lt := hb4.lt
  have hn4lt := hn4.lt
  have ha2 : a2 ≤ s.size := by have := termR_le s j false (by omega); rw [HT.out.1] at this; exact this
  have ha3 : a3 ≤ s.size := by have := gapB_le s a2 false ha2; rw [HT.out.2] at this; exact this
  go_wp2_with fail
  refine (term_any b s j false _ hs (by omega) (by first | exact hb4 | exact hb4.drewN _)).mono ?_
  rintro e w5 ⟨rfl, hb5, hK5⟩
  rw [HT.out.1] at hb5 ⊢
  have hA5 := Blk.kept (by first | exact hA4 | exact hA4.drewN _) hK5 (by simp; omega)
  have hn5 := Blk.kept (by first | exact hn4 | exact hn4.drewN _) hK5 (by simp; omega)
  have hK5' := Kept.trans (by first | exact hK4' | exact hK4'.drewN _) hK5
  clear hb4 hA4 hn4 hK4' hK5
  have e4 := hA5.cell 4
  have e5 := hA5.cell 5
  have hxf := hA5.frozen
  simp at e4 e5
  simp only [termVal]
  go_wp2_with fail
  refine (gap_any b s a2 false _ hs ha2 ((hb5.set_other _ (by simp; omega) _).set_other _ (by simp; omega) _)).mono ?_
  rintro e w6 ⟨rfl, hb6, hK6⟩
  rw [HT.out.2] at hb6
  have hA6 := ((hA5.set 4 _).set 5 _).kept hK6 (by simp; omega)
  have hn6 := ((hn5.set_other _ (by simp; omega) _).set_other _ (by simp; omega) _).kept hK6 (by simp; omega)
  have hK6' := ((hK5'.setCell (p := ⟨N, 4, none⟩) (by simp; omega) _).setCell (p := ⟨N, 5, none⟩) (by simp; omega) _).trans hK6
  clear hb5 hA5 hn5 hK5' hK6 e4 e5 hxf
  simp only [List.set_cons_zero, List.set_cons_succ] at hA6
  have hb6lt := hb6.lt
  have hn6lt := hn6.lt
  have hA6lt := hA6.lt
  have hc0 := hb6.cell 0
  have hc1 := hb6.cell 1
  have hc2 := hb6.cell 2
  have hbf := hb6.frozen
  simp [scan] at hc0 hc1 hc2
  have hlt3' : (a3 : Int) < (s.size : Int) := by omega
  have hdd : decide ((s.size : Int) ≤ (a3 : Int)) = false := by simp; omega
  have hdN : decide (s.size ≤ a3) = false := by simp; omega
  have hne : ¬ N = b := by omega
  have hne' : ¬ b = N := by omega
  have p1 : ((s[a3].toNat : Int) != 35) = false := by simp only [bne, q1]; rfl
  have p2 : ((s[a3].toNat : Int) != 61) = true := by simp only [bne, q2]; rfl
  clear q1 q2
  go_wp2_with fail
  go_quiet (fail)
  have e0 := hA6.cell 0
  have hdf := hA6.frozen 0
  simp at e0
  clear p1 p2
  go_wp2_with fail
  go_region_held3 (fun w' => w'.cell? ⟨b, 0, none⟩ = some (.string s) ∧ w'.cell? ⟨b, 1, none⟩ = some (.int .i64 a3)) (go_keep) (fail)
  clear e0 hdf
  go_wp2_with fail
  refine (term_any b s (a3 + 1) false _ hs (by omega) (((hb6.drewN _).set_other ⟨N, 0, none⟩ (by simp; omega) _).set 1 _)).mono ?_
  rintro e w7 ⟨rfl, hb7, hK7⟩
  have hA7 := (((hA6.drewN _).set 0 _).set_other ⟨b, 1, none⟩ (by simp; omega) _).kept hK7 (by simp; omega)
  have hn7 := (((hn6.drewN _).set_other ⟨N, 0, none⟩ (by simp; omega) _).set_other ⟨b, 1, none⟩ (by simp; omega) _).kept hK7 (by simp; omega)
  have hK7' := (((hK6'.drewN _).setCell (p := ⟨N, 0, none⟩) (by simp; omega) _).setCell (p := ⟨b, 1, none⟩) (by simp) _).trans hK7
  clear hb6 hA6 hn6 hK6' hK7 hc0 hc1 hc2 hbf
  have hd0 := hA7.cell
  have hdf := hA7.frozen
  have hy0 := hn7.cell
  have hyf := hn7.frozen
  simp only [termVal]
  have e0 := hd0 0
  have e1 := hd0 1
  have e2 := hd0 2
  have e3 := hd0 3
  have e4 := hd0 4
  have e5 := hd0 5
  have e6 := hd0 6
  have e7 := hd0 7
  have e8 := hd0 8
  have f0 := hy0 0
  have f1 := hy0 1
  have f2 := hy0 2
  have f3 := hy0 3
  have f4 := hy0 4
  have f5 := hy0 5
  have f6 := hy0 6
  have f7 := hy0 7
  have f8 := hy0 8
  simp at e0 e1 e2 e3 e4 e5 e6 e7 e8 f0 f1 f2 f3 f4 f5 f6 f7 f8
  clear hd0 hy0
  go_wp2
  refine bodyPost_ret (res_cell rfl rfl (((((((((((hn7.set_other _ (by simp; omega) _).set_other _ (by simp; omega) _).set 0 _).set 1 _).set 2 _).set 3 _).set 4 _).set 5 _).set 6 _).set 7 _).set 8 _) Tryz.underlying95 rfl (by kernel_rfl)) rfl ⟨_, rfl, World.ownsRow_nil _ _ _ _, ?_, ?_⟩
  · repeat (refine Blk.set_other ?_ _ (by simp; omega) _)
    exact hb7
  · repeat (refine Kept.setCell ?_ (by simp; try omega) _)
    exact hK7'

set_option maxRecDepth 100000 in
set_option maxHeartbeats 1600000 in
theorem lit_cmpA6 (b : Nat) (s : ByteArray) (at_ j : Nat) (w : World) (t : RTerm) (a2 a3 : Nat) (hs : s.size ≤ 1000000) (hat : at_ ≤ s.size) (hj : gapTo s at_ = j) (hx : atB s j 33 = false) (hlt : j < s.size) (hl : lowerB s[j] = true) (ho : Hid (openB s j = false))(hlt3 : a3 < s.size) (q1 : ((s[a3].toNat : Int) == 60) = true) (q2 : ((s[a3].toNat : Int) == 61) = false) (q3 : ((s[a3].toNat : Int) == 35) = false)
    (HT : Hid (termR s j false = (t, a2, false) ∧ gapB s a2 false = a3)) (hB : Blk w b (scan s at_ false) 73) :
    Calls Tryz.prog 129 #[.pointer (some ⟨b, 0, none⟩)] w fun e w' => ∃ av, e = .returned (.agg (litVal ⟨s[a3], noAtom, t, (termR s (a3 + 1) false).1, j⟩ av).toArray) ∧
      w'.ownsRow w.heap.size 93 2 av 0 [] ∧ Blk w' b (scan s (termR s (a3 + 1) false).2.1 (termR s (a3 + 1) false).2.2) 73 ∧ Kept [b] w w' := by
  have hbw := hB.lt
  have hjs : j ≤ s.size := by have := gapTo_le s at_ hat; omega
  have hgj : gapB s j false = j := by rw [← hj]; exact gapTo_idem s at_
  have hisj : isTo s j false 33 = j := by unfold isTo; rw [hgj, hx]; rfl
  have hisb : (!false && atB s (gapB s j false) 33) = false := by rw [hgj, hx]; rfl
  have HJ : Hid (gapTo s at_ = j ∧ isTo s j false 33 = j ∧ (!false && atB s (gapB s j false) 33) = false) := ⟨hj, hisj, hisb⟩
  clear hj hx hgj hisj hisb
  go_enter Tryz.func129, Tryz.ntmps129
  go_wp2_with fail
  refine (gap_any b s at_ false _ hs hat (hB.alloc _)).mono ?_
  rintro e w1 ⟨rfl, hb, hK⟩
  rw [show gapB s at_ false = j from HJ.out.1] at hb
  have hn := (Blk.new w _ _).kept hK (by simp; omega)
  have hK1 := ((Kept.refl [b] w).alloc _).trans hK
  clear hB hK
  have hb1 := hb.lt
  have hn1 := hn.lt
  have hc1 := hb.cell 1
  simp [scan] at hc1
  go_wp2_with fail
  refine (is_any b s j false 33 33 _ rfl hs (by omega) (hb.alloc _)).mono ?_
  rintro e w2 ⟨rfl, hb2, hK2⟩
  rw [HJ.out.2.1] at hb2
  rw [HJ.out.2.2]
  have hA2 := (Blk.new w1 _ _).kept hK2 (by simp; omega)
  have hn2 := (hn.alloc _).kept hK2 (by simp; omega)
  have hK2' := (hK1.alloc _).trans hK2
  obtain ⟨N, hN⟩ : ∃ N, w1.heap.size = N := ⟨_, rfl⟩
  rw [hN] at hA2 ⊢
  have hNb : b < N := by omega
  have hNw : w.heap.size < N := by omega
  clear hK1 hb hn hb1 hn1 hc1 hK2 hN HJ
  have hNlt := hA2.lt
  have hblt := hb2.lt
  have hwlt := hn2.lt
  have hc0 := hb2.cell 0
  have hc1 := hb2.cell 1
  have hc2 := hb2.cell 2
  simp [scan] at hc0 hc1 hc2
  have hlt' : (j : Int) < (s.size : Int) := by omega
  obtain ⟨wd, ap, bp, hwd⟩ : ∃ wd ap bp, wordR s j false = (wd, ap, bp) := ⟨_, _, _, rfl⟩
  have hap : ap ≤ s.size := by have := wordR_le s j false (by omega); rw [hwd] at this; exact this
  have ho' : (!bp && atB s (gapB s ap bp) 40) = false := by have h := ho.out; unfold openB at h; rw [hwd] at h; exact h
  have HW : Hid (wordR s j false = (wd, ap, bp) ∧ (!bp && atB s (gapB s ap bp) 40) = false) := ⟨hwd, ho'⟩
  clear hwd ho'
  go_wp2_with fail
  go_quiet ((go_at_call 169; exact Calls.quiet_of_same (lower_any _ s[j] _ rfl)))
  go_wp2_with fail
  go_region
  go_wp2_with fail
  refine (word_any w2.heap.size s j false _ hs (by omega) (Blk.new (w2.drewN _) (scan s j false) 73)).mono ?_
  rintro e w3 ⟨rfl, hb3, hK3⟩
  rw [HW.out.1] at hb3 ⊢
  have hb3' := ((hb2.drewN _).alloc _).kept hK3 (by simp; omega)
  have hA3 := ((hA2.drewN _).alloc _).kept hK3 (by simp; omega)
  have hn3 := ((hn2.drewN _).alloc _).kept hK3 (by simp; omega)
  have hK3' := ((hK2'.drewN _).alloc _).trans' hK3 (by have := hK2'.size; simp; omega)
  clear hb2 hA2 hn2 hK3 hc0 hc1 hc2
  simp only
  go_wp2_with fail
  refine (sees_any w2.heap.size s ap bp 40 40 _ rfl hs hap hb3).mono ?_
  rintro e w4 ⟨rfl, _, hK4⟩
  have hb4 := hb3'.kept hK4 (by simp; omega)
  have hA4 := hA3.kept hK4 (by simp; omega)
  have hn4 := hn3.kept hK4 (by simp; omega)
  have hK4' := hK3'.trans' hK4 (by have := hK2'.size; simp; omega)
  rw [HW.out.2]
  clear hb3' hA3 hn3 hK3' hK4 hb3 HW hK2'
  have hA4lt := hA4.lt
  have hb4lt := hb4.lt
  have hn4lt := hn4.lt
  have ha2 : a2 ≤ s.size := by have := termR_le s j false (by omega); rw [HT.out.1] at this; exact this
  have ha3 : a3 ≤ s.size := by have := gapB_le s a2 false ha2; rw [HT.out.2] at this; exact this
  go_wp2_with fail
  refine (term_any b s j false _ hs (by omega) (by first | exact hb4 | exact hb4.drewN _)).mono ?_
  rintro e w5 ⟨rfl, hb5, hK5⟩
  rw [HT.out.1] at hb5 ⊢
  have hA5 := Blk.kept (by first | exact hA4 | exact hA4.drewN _) hK5 (by simp; omega)
  have hn5 := Blk.kept (by first | exact hn4 | exact hn4.drewN _) hK5 (by simp; omega)
  have hK5' := Kept.trans (by first | exact hK4' | exact hK4'.drewN _) hK5
  clear hb4 hA4 hn4 hK4' hK5
  have e4 := hA5.cell 4
  have e5 := hA5.cell 5
  have hxf := hA5.frozen
  simp at e4 e5
  simp only [termVal]
  go_wp2_with fail
  refine (gap_any b s a2 false _ hs ha2 ((hb5.set_other _ (by simp; omega) _).set_other _ (by simp; omega) _)).mono ?_
  rintro e w6 ⟨rfl, hb6, hK6⟩
  rw [HT.out.2] at hb6
  have hA6 := ((hA5.set 4 _).set 5 _).kept hK6 (by simp; omega)
  have hn6 := ((hn5.set_other _ (by simp; omega) _).set_other _ (by simp; omega) _).kept hK6 (by simp; omega)
  have hK6' := ((hK5'.setCell (p := ⟨N, 4, none⟩) (by simp; omega) _).setCell (p := ⟨N, 5, none⟩) (by simp; omega) _).trans hK6
  clear hb5 hA5 hn5 hK5' hK6 e4 e5 hxf
  simp only [List.set_cons_zero, List.set_cons_succ] at hA6
  have hb6lt := hb6.lt
  have hn6lt := hn6.lt
  have hA6lt := hA6.lt
  have hc0 := hb6.cell 0
  have hc1 := hb6.cell 1
  have hc2 := hb6.cell 2
  have hbf := hb6.frozen
  simp [scan] at hc0 hc1 hc2
  have hlt3' : (a3 : Int) < (s.size : Int) := by omega
  have hdd : decide ((s.size : Int) ≤ (a3 : Int)) = false := by simp; omega
  have hdN : decide (s.size ≤ a3) = false := by simp; omega
  have hne : ¬ N = b := by omega
  have hne' : ¬ b = N := by omega
  have p1 : ((s[a3].toNat : Int) != 60) = false := by simp only [bne, q1]; rfl
  have p2 : ((s[a3].toNat : Int) != 61) = true := by simp only [bne, q2]; rfl
  have p3 : ((s[a3].toNat : Int) != 35) = true := by simp only [bne, q3]; rfl
  clear q1 q2 q3
  go_wp2_with fail
  go_quiet (fail)
  have e0 := hA6.cell 0
  have hdf := hA6.frozen 0
  simp at e0
  clear p1 p2 p3
  go_wp2_with fail
  go_region_held3 (fun w' => w'.cell? ⟨b, 0, none⟩ = some (.string s) ∧ w'.cell? ⟨b, 1, none⟩ = some (.int .i64 a3)) (go_keep) (fail)
  clear e0 hdf
  go_wp2_with fail
  refine (term_any b s (a3 + 1) false _ hs (by omega) (((hb6.drewN _).set_other ⟨N, 0, none⟩ (by simp; omega) _).set 1 _)).mono ?_
  rintro e w7 ⟨rfl, hb7, hK7⟩
  have hA7 := (((hA6.drewN _).set 0 _).set_other ⟨b, 1, none⟩ (by simp; omega) _).kept hK7 (by simp; omega)
  have hn7 := (((hn6.drewN _).set_other ⟨N, 0, none⟩ (by simp; omega) _).set_other ⟨b, 1, none⟩ (by simp; omega) _).kept hK7 (by simp; omega)
  have hK7' := (((hK6'.drewN _).setCell (p := ⟨N, 0, none⟩) (by simp; omega) _).setCell (p := ⟨b, 1, none⟩) (by simp) _).trans hK7
  clear hb6 hA6 hn6 hK6' hK7 hc0 hc1 hc2 hbf
  have hd0 := hA7.cell
  have hdf := hA7.frozen
  have hy0 := hn7.cell
  have hyf := hn7.frozen
  simp only [termVal]
  have e0 := hd0 0
  have e1 := hd0 1
  have e2 := hd0 2
  have e3 := hd0 3
  have e4 := hd0 4
  have e5 := hd0 5
  have e6 := hd0 6
  have e7 := hd0 7
  have e8 := hd0 8
  have f0 := hy0 0
  have f1 := hy0 1
  have f2 := hy0 2
  have f3 := hy0 3
  have f4 := hy0 4
  have f5 := hy0 5
  have f6 := hy0 6
  have f7 := hy0 7
  have f8 := hy0 8
  simp at e0 e1 e2 e3 e4 e5 e6 e7 e8 f0 f1 f2 f3 f4 f5 f6 f7 f8
  clear hd0 hy0
  go_wp2
  refine bodyPost_ret (res_cell rfl rfl (((((((((((hn7.set_other _ (by simp; omega) _).set_other _ (by simp; omega) _).set 0 _).set 1 _).set 2 _).set 3 _).set 4 _).set 5 _).set 6 _).set 7 _).set 8 _) Tryz.underlying95 rfl (by kernel_rfl)) rfl ⟨_, rfl, World.ownsRow_nil _ _ _ _, ?_, ?_⟩
  · repeat (refine Blk.set_other ?_ _ (by simp; omega) _)
    exact hb7
  · repeat (refine Kept.setCell ?_ (by simp; try omega) _)
    exact hK7'

end Go.Proofs.YtoihbhenbmffcaaGreatDoor
