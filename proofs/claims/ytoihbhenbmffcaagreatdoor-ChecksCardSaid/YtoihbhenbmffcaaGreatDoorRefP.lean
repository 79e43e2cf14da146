import Derived.Test.YtoihbhenbmffcaaGreatDoorRefO
set_option linter.unusedVariables false
set_option linter.unusedSimpArgs false

namespace Go.Proofs.YtoihbhenbmffcaaGreatDoor
open Go.RowKit

structure RClause where
  head : RAtom
  body : List RLit
  at_ : Nat

def clauseVal (c : RClause) (hv bv : Value) : List Value := [.string c.head.name, hv, .int .i64 c.head.at_, bv, .int .i64 c.at_]

/-- What stands behind a head. -/
def restR (s : ByteArray) (a1 : Nat) (b1 : Bool) : List RLit × Nat × Bool :=
  if !b1 && atB s (gapB s a1 b1) 58 then (if atB s (isTo s a1 b1 58) 45 then bodyR s (isTo s a1 b1 58 + 1) else ([], isTo s a1 b1 58, true)) else ([], isTo s a1 b1 58, b1)

def clauseR (s : ByteArray) (at_ : Nat) : RClause × Nat × Bool :=
  let A := atomR s (gapTo s at_) false
  let B := restR s A.2.1 A.2.2
  (⟨A.1, B.1, gapTo s at_⟩, mustTo s B.2.1 B.2.2 46)

set_option maxRecDepth 100000 in
set_option maxHeartbeats 1600000 in
theorem clause_fact (b : Nat) (s : ByteArray) (at_ j : Nat) (w : World) (A : RAtom) (a1 a2 a3 : Nat) (b1 b3 : Bool) (L : List RLit) (a4 : Nat) (b4 : Bool) (hs : s.size ≤ 1000000) (hat : at_ ≤ s.size)
    (HJ : Hid (gapTo s at_ = j ∧ atomR s j false = (A, a1, b1) ∧ isTo s a1 b1 58 = a2 ∧ restR s a1 b1 = (L, a3, b3) ∧ mustTo s a3 b3 46 = (a4, b4))) (hc : (!b1 && atB s (gapB s a1 b1) 58) = false) (hB : Blk w b (scan s at_ false) 73) :
    Calls Tryz.prog 44 #[.pointer (some ⟨b, 0, none⟩)] w fun e w' => ∃ (hv bv : Value) (bl : List RLitV), e = .returned (.agg (clauseVal ⟨A, L, j⟩ hv bv).toArray) ∧ w'.ownsRow w.heap.size 93 2 hv A.args.length (A.args.flatMap termVal) ∧
      bl.map Prod.fst = L ∧ w'.ownsRow w.heap.size 95 9 bv bl.length (litsCells bl) ∧ (∀ p ∈ bl, LitIn w' w.heap.size p) ∧ Blk w' b (scan s a4 b4) 73 ∧ Kept [b] w w' := by
  have hbw := hB.lt
  have hjs : j ≤ s.size := by have := gapTo_le s at_ hat; have := HJ.out.1; omega
  have ha1 : a1 ≤ s.size := by have := atomR_le s j false hjs; rw [HJ.out.2.1] at this; exact this
  have ha2 : a2 ≤ s.size := by have := isTo_le s a1 b1 58 ha1; rw [HJ.out.2.2.1] at this; exact this
  go_enter Tryz.func44, Tryz.ntmps44
  go_wp2_with fail
  refine (gap_any b s at_ false _ hs hat (hB.alloc _)).mono ?_
  rintro e w1 ⟨rfl, hb, hK⟩
  rw [show gapB s at_ false = j from HJ.out.1] at hb
  have hn := (Blk.new w _ _).kept hK (by simp; omega)
  have hK1 := ((Kept.refl [b] w).alloc _).trans hK
  clear hB hK
  have hb1 := hb.lt
  have hn1 := hn.lt
  have hc1 := hb.cell 1
  simp [scan] at hc1
  go_wp2_with fail
  refine (atom_any b s j false _ hs hjs (hb.alloc _)).mono ?_
  rintro e w2 ⟨hv, rfl, hownH, hb2, hK2⟩
  rw [HJ.out.2.1] at hb2 hownH ⊢
  have hA2 := (Blk.new w1 _ _).kept hK2 (by simp; omega)
  have hn2 := (hn.alloc _).kept hK2 (by simp; omega)
  have hK2' := (hK1.alloc _).trans hK2
  have hsz2 := hK2.size
  simp only [World.size_alloc] at hownH hsz2
  obtain ⟨N, hN⟩ : ∃ N, w1.heap.size = N := ⟨_, rfl⟩
  rw [hN] at hA2 hownH hsz2 ⊢
  have hNb : b < N := by omega
  have hNw : w.heap.size < N := by omega
  clear hK1 hb hn hb1 hn1 hc1 hK2 hN
  obtain ⟨adh, caph, rfl⟩ := ownsRow_form hownH
  try simp only at hownH
  have e0 := hA2.cell 0
  have e1 := hA2.cell 1
  have e2 := hA2.cell 2
  have hxf := hA2.frozen
  simp at e0 e1 e2
  simp only [atomVal]
  go_wp2_with fail
  have hb2' := ((hb2.set_other ⟨N, 0, none⟩ (by simp; omega) (.string A.name)).set_other ⟨N, 1, none⟩ (by simp; omega) (.slice adh A.args.length caph)).set_other ⟨N, 2, none⟩ (by simp; omega) (.int .i64 A.at_)
  have hA2' := ((hA2.set 0 (.string A.name)).set 1 (.slice adh A.args.length caph)).set 2 (.int .i64 A.at_)
  have hn2' := ((hn2.set_other ⟨N, 0, none⟩ (by simp; omega) (.string A.name)).set_other ⟨N, 1, none⟩ (by simp; omega) (.slice adh A.args.length caph)).set_other ⟨N, 2, none⟩ (by simp; omega) (.int .i64 A.at_)
  have hK2'' := ((hK2'.setCell (p := ⟨N, 0, none⟩) (by simp; omega) (.string A.name)).setCell (p := ⟨N, 1, none⟩) (by simp; omega) (.slice adh A.args.length caph)).setCell (p := ⟨N, 2, none⟩) (by simp; omega) (.int .i64 A.at_)
  have hownH' := ownsRow_set (ownsRow_set (ownsRow_set hownH (p := ⟨N, 0, none⟩) (by simpa using ownsRow_new hownH N (by omega)) (.string A.name)) (p := ⟨N, 1, none⟩) (by simpa using ownsRow_new hownH N (by omega)) (.slice adh A.args.length caph)) (p := ⟨N, 2, none⟩) (by simpa using ownsRow_new hownH N (by omega)) (.int .i64 A.at_)
  simp only [List.set_cons_zero, List.set_cons_succ] at hA2'
  clear hb2 hA2 hn2 hK2' hownH e0 e1 e2 hxf
  refine (is_any b s a1 b1 58 58 _ rfl hs ha1 hb2').mono ?_
  rintro e w3 ⟨rfl, hb3, hK3⟩
  rw [HJ.out.2.2.1] at hb3
  have hA3 := hA2'.kept hK3 (by simp; omega)
  have hn3 := hn2'.kept hK3 (by simp; omega)
  have hK3' := hK2''.trans hK3
  have hownH3 := ownsRow_kept hownH' hK3 (by simp; omega)
  clear hb2' hA2' hn2' hK2'' hownH' hK3
  have hNlt := hA3.lt
  have hblt := hb3.lt
  have hwlt := hn3.lt
  rw [hc]
  have hr := HJ.out.2.2.2.1
  unfold restR at hr
  rw [hc, HJ.out.2.2.1] at hr
  simp only [Bool.false_eq_true, if_false, Prod.mk.injEq] at hr
  obtain ⟨r1, r2, r3⟩ := hr
  subst r2 r3
  have ha3 := ha2
  obtain ⟨bl, hbl⟩ : ∃ bl : List RLitV, Hid (bl.map Prod.fst = L) ∧ bl = [] := ⟨[], by show _ = _; rw [← r1]; rfl, rfl⟩
  have hb5 := hb3
  have hA5 := hA3
  have hn5 := hn3
  have hK5 := hK3'
  have hownH5 := hownH3
  have hownB5 : w3.ownsRow (N + 1) 95 9 (.slice none 0 0) bl.length (litsCells bl) := by rw [hbl.2]; exact World.ownsRow_nil _ _ _ _
  have HIN : Hid (∀ p ∈ bl, LitIn w3 (N + 1) p) := by rw [hbl.2]; intro p hp; simp at hp
  replace hbl := hbl.1
  clear hb3 hA3 hn3 hK3' hownH3 r1 hc
  have hblt5 := hb5.lt
  have hNlt5 := hA5.lt
  go_wp2_with fail
  refine (must_any b s _ b1 46 46 _ rfl hs ha3 hb5).mono ?_
  rintro e w6 ⟨rfl, hb6, hK6⟩
  have hm2 := HJ.out.2.2.2.2
  simp only [mustTo, Prod.mk.injEq] at hm2
  rw [hm2.1, hm2.2] at hb6
  have hA6 := hA5.kept hK6 (by simp; omega)
  have hn6 := hn5.kept hK6 (by simp; omega)
  have hK6' := hK5.trans hK6
  have hownH6 := ownsRow_kept hownH5 hK6 (by simp; omega)
  have hownB6 := ownsRow_kept hownB5 hK6 (by simp; omega)
  have HIN6 : Hid (∀ p ∈ bl, LitIn w6 (N + 1) p) := fun p hp => (HIN.out p hp).kept hK6 (by simp; omega)
  clear hb5 hA5 hn5 hK5 hownH5 hownB5 hK6 hm2 HIN
  have hd0 := hA6.cell
  have hy0 := hn6.cell
  have hyf := hn6.frozen
  have e0 := hd0 0
  have e1 := hd0 1
  have e2 := hd0 2
  have e3 := hd0 3
  have e4 := hd0 4
  have f0 := hy0 0
  have f1 := hy0 1
  have f2 := hy0 2
  have f3 := hy0 3
  have f4 := hy0 4
  simp at e0 e1 e2 e3 e4 f0 f1 f2 f3 f4
  clear hd0 hy0
  go_wp2
  have KS : ∀ {v0 v1 v2 v3 v4 : Value}, Kept [w.heap.size] w6 (((((w6.setCell ⟨w.heap.size, 0, none⟩ v0).setCell ⟨w.heap.size, 1, none⟩ v1).setCell ⟨w.heap.size, 2, none⟩ v2).setCell ⟨w.heap.size, 3, none⟩ v3).setCell ⟨w.heap.size, 4, none⟩ v4) := by
    intro v0 v1 v2 v3 v4
    repeat (refine Kept.setCell ?_ (by simp) _)
    exact Kept.refl _ _
  refine bodyPost_ret (res_cell rfl rfl (((((hn6.set 0 _).set 1 _).set 2 _).set 3 _).set 4 _) Tryz.underlying82 rfl (by kernel_rfl)) rfl ⟨.slice adh A.args.length caph, .slice none 0 0, bl, ?_, ?_, ?_, ?_, ?_, ?_, ?_⟩
  · simp [clauseVal]
  · exact ownsRow_base (ownsRow_kept hownH6 KS (by simp; omega)) (by omega)
  · exact hbl.out
  · exact ownsRow_base (ownsRow_kept hownB6 KS (by simp; omega)) (by omega)
  · exact fun p hp => ownsRow_base ((HIN6.out p hp).kept KS (by simp; omega)) (by omega)
  · exact hb6.kept KS (by simp; omega)
  · exact hK6'.trans' KS (by simp)

set_option maxRecDepth 100000 in
set_option maxHeartbeats 1600000 in
theorem clause_badA (b : Nat) (s : ByteArray) (at_ j : Nat) (w : World) (A : RAtom) (a1 a2 a3 : Nat) (b1 b3 : Bool) (L : List RLit) (a4 : Nat) (b4 : Bool) (hs : s.size ≤ 1000000) (hat : at_ ≤ s.size)
    (HJ : Hid (gapTo s at_ = j ∧ atomR s j false = (A, a1, b1) ∧ isTo s a1 b1 58 = a2 ∧ restR s a1 b1 = (L, a3, b3) ∧ mustTo s a3 b3 46 = (a4, b4))) (hc : (!b1 && atB s (gapB s a1 b1) 58) = true) (hlt2 : ¬ a2 < s.size) (hB : Blk w b (scan s at_ false) 73) :
    Calls Tryz.prog 44 #[.pointer (some ⟨b, 0, none⟩)] w fun e w' => ∃ (hv bv : Value) (bl : List RLitV), e = .returned (.agg (clauseVal ⟨A, L, j⟩ hv bv).toArray) ∧ w'.ownsRow w.heap.size 93 2 hv A.args.length (A.args.flatMap termVal) ∧
      bl.map Prod.fst = L ∧ w'.ownsRow w.heap.size 95 9 bv bl.length (litsCells bl) ∧ (∀ p ∈ bl, LitIn w' w.heap.size p) ∧ Blk w' b (scan s a4 b4) 73 ∧ Kept [b] w w' := by
  have hbw := hB.lt
  have hjs : j ≤ s.size := by have := gapTo_le s at_ hat; have := HJ.out.1; omega
  have ha1 : a1 ≤ s.size := by have := atomR_le s j false hjs; rw [HJ.out.2.1] at this; exact this
  have ha2 : a2 ≤ s.size := by have := isTo_le s a1 b1 58 ha1; rw [HJ.out.2.2.1] at this; exact this
  go_enter Tryz.func44, Tryz.ntmps44
  go_wp2_with fail
  refine (gap_any b s at_ false _ hs hat (hB.alloc _)).mono ?_
  rintro e w1 ⟨rfl, hb, hK⟩
  rw [show gapB s at_ false = j from HJ.out.1] at hb
  have hn := (Blk.new w _ _).kept hK (by simp; omega)
  have hK1 := ((Kept.refl [b] w).alloc _).trans hK
  clear hB hK
  have hb1 := hb.lt
  have hn1 := hn.lt
  have hc1 := hb.cell 1
  simp [scan] at hc1
  go_wp2_with fail
  refine (atom_any b s j false _ hs hjs (hb.alloc _)).mono ?_
  rintro e w2 ⟨hv, rfl, hownH, hb2, hK2⟩
  rw [HJ.out.2.1] at hb2 hownH ⊢
  have hA2 := (Blk.new w1 _ _).kept hK2 (by simp; omega)
  have hn2 := (hn.alloc _).kept hK2 (by simp; omega)
  have hK2' := (hK1.alloc _).trans hK2
  have hsz2 := hK2.size
  simp only [World.size_alloc] at hownH hsz2
  obtain ⟨N, hN⟩ : ∃ N, w1.heap.size = N := ⟨_, rfl⟩
  rw [hN] at hA2 hownH hsz2 ⊢
  have hNb : b < N := by omega
  have hNw : w.heap.size < N := by omega
  clear hK1 hb hn hb1 hn1 hc1 hK2 hN
  obtain ⟨adh, caph, rfl⟩ := ownsRow_form hownH
  try simp only at hownH
  have e0 := hA2.cell 0
  have e1 := hA2.cell 1
  have e2 := hA2.cell 2
  have hxf := hA2.frozen
  simp at e0 e1 e2
  simp only [atomVal]
  go_wp2_with fail
  have hb2' := ((hb2.set_other ⟨N, 0, none⟩ (by simp; omega) (.string A.name)).set_other ⟨N, 1, none⟩ (by simp; omega) (.slice adh A.args.length caph)).set_other ⟨N, 2, none⟩ (by simp; omega) (.int .i64 A.at_)
  have hA2' := ((hA2.set 0 (.string A.name)).set 1 (.slice adh A.args.length caph)).set 2 (.int .i64 A.at_)
  have hn2' := ((hn2.set_other ⟨N, 0, none⟩ (by simp; omega) (.string A.name)).set_other ⟨N, 1, none⟩ (by simp; omega) (.slice adh A.args.length caph)).set_other ⟨N, 2, none⟩ (by simp; omega) (.int .i64 A.at_)
  have hK2'' := ((hK2'.setCell (p := ⟨N, 0, none⟩) (by simp; omega) (.string A.name)).setCell (p := ⟨N, 1, none⟩) (by simp; omega) (.slice adh A.args.length caph)).setCell (p := ⟨N, 2, none⟩) (by simp; omega) (.int .i64 A.at_)
  have hownH' := ownsRow_set (ownsRow_set (ownsRow_set hownH (p := ⟨N, 0, none⟩) (by simpa using ownsRow_new hownH N (by omega)) (.string A.name)) (p := ⟨N, 1, none⟩) (by simpa using ownsRow_new hownH N (by omega)) (.slice adh A.args.length caph)) (p := ⟨N, 2, none⟩) (by simpa using ownsRow_new hownH N (by omega)) (.int .i64 A.at_)
  simp only [List.set_cons_zero, List.set_cons_succ] at hA2'
  clear hb2 hA2 hn2 hK2' hownH e0 e1 e2 hxf
  refine (is_any b s a1 b1 58 58 _ rfl hs ha1 hb2').mono ?_
  rintro e w3 ⟨rfl, hb3, hK3⟩
  rw [HJ.out.2.2.1] at hb3
  have hA3 := hA2'.kept hK3 (by simp; omega)
  have hn3 := hn2'.kept hK3 (by simp; omega)
  have hK3' := hK2''.trans hK3
  have hownH3 := ownsRow_kept hownH' hK3 (by simp; omega)
  clear hb2' hA2' hn2' hK2'' hownH' hK3
  have hNlt := hA3.lt
  have hblt := hb3.lt
  have hwlt := hn3.lt
  have hcb : b1 = false := by cases b1 <;> simp_all
  subst hcb
  rw [hc]
  have hr := HJ.out.2.2.2.1
  unfold restR at hr
  rw [hc, HJ.out.2.2.1] at hr
  simp only [if_true] at hr
  have hc0 := hb3.cell 0
  have hc1 := hb3.cell 1
  have hc2 := hb3.cell 2
  have hbf := hb3.frozen
  simp [scan] at hc0 hc1 hc2
  have hno : atB s a2 45 = false := atB_no hlt2 45
  rw [hno] at hr
  simp only [Bool.false_eq_true, if_false, Prod.mk.injEq] at hr
  obtain ⟨r1, r2, r3⟩ := hr
  subst r2 r3
  have ha3 := ha2
  obtain ⟨bl, hbl⟩ : ∃ bl : List RLitV, Hid (bl.map Prod.fst = L) ∧ bl = [] := ⟨[], by show _ = _; rw [← r1]; rfl, rfl⟩
  clear r1 hc
  have hdd : decide ((a2 : Int) < (s.size : Int)) = false := by simp; omega
  have hdN : decide (a2 < s.size) = false := by simp; omega
  go_wp2_with fail
  go_quiet (fail)
  have hb5 := (hb3.drewN nq).set 2 (.bool true)
  have hA5 := (hA3.drewN nq).set_other ⟨b, 2, none⟩ (by simp; omega) (.bool true)
  have hn5 := (hn3.drewN nq).set_other ⟨b, 2, none⟩ (by simp; omega) (.bool true)
  have hK5 := (hK3'.drewN nq).setCell (p := ⟨b, 2, none⟩) (by simp) (.bool true)
  have hownH5 := ownsRow_set (ownsRow_drewN hownH3 nq) (p := ⟨b, 2, none⟩) (by simpa using ownsRow_new hownH3 b (by omega)) (.bool true)
  have hownB5 : ((w3.drewN nq).setCell ⟨b, 2, none⟩ (.bool true)).ownsRow (N + 1) 95 9 (.slice none 0 0) bl.length (litsCells bl) := by rw [hbl.2]; exact World.ownsRow_nil _ _ _ _
  have HIN : Hid (∀ p ∈ bl, LitIn ((w3.drewN nq).setCell ⟨b, 2, none⟩ (.bool true)) (N + 1) p) := by rw [hbl.2]; intro p hp; simp at hp
  replace hbl := hbl.1
  clear hb3 hA3 hn3 hK3' hownH3
  have hblt5 := hb5.lt
  have hNlt5 := hA5.lt
  go_wp2_with fail
  refine (must_any b s _ true 46 46 _ rfl hs ha3 hb5).mono ?_
  rintro e w6 ⟨rfl, hb6, hK6⟩
  have hm2 := HJ.out.2.2.2.2
  simp only [mustTo, Prod.mk.injEq] at hm2
  rw [hm2.1, hm2.2] at hb6
  have hA6 := hA5.kept hK6 (by simp; omega)
  have hn6 := hn5.kept hK6 (by simp; omega)
  have hK6' := hK5.trans hK6
  have hownH6 := ownsRow_kept hownH5 hK6 (by simp; omega)
  have hownB6 := ownsRow_kept hownB5 hK6 (by simp; omega)
  have HIN6 : Hid (∀ p ∈ bl, LitIn w6 (N + 1) p) := fun p hp => (HIN.out p hp).kept hK6 (by simp; omega)
  clear hb5 hA5 hn5 hK5 hownH5 hownB5 hK6 hm2 HIN
  have hd0 := hA6.cell
  have hy0 := hn6.cell
  have hyf := hn6.frozen
  have e0 := hd0 0
  have e1 := hd0 1
  have e2 := hd0 2
  have e3 := hd0 3
  have e4 := hd0 4
  have f0 := hy0 0
  have f1 := hy0 1
  have f2 := hy0 2
  have f3 := hy0 3
  have f4 := hy0 4
  simp at e0 e1 e2 e3 e4 f0 f1 f2 f3 f4
  clear hd0 hy0
  go_wp2
  have KS : ∀ {v0 v1 v2 v3 v4 : Value}, Kept [w.heap.size] w6 (((((w6.setCell ⟨w.heap.size, 0, none⟩ v0).setCell ⟨w.heap.size, 1, none⟩ v1).setCell ⟨w.heap.size, 2, none⟩ v2).setCell ⟨w.heap.size, 3, none⟩ v3).setCell ⟨w.heap.size, 4, none⟩ v4) := by
    intro v0 v1 v2 v3 v4
    repeat (refine Kept.setCell ?_ (by simp) _)
    exact Kept.refl _ _
  refine bodyPost_ret (res_cell rfl rfl (((((hn6.set 0 _).set 1 _).set 2 _).set 3 _).set 4 _) Tryz.underlying82 rfl (by kernel_rfl)) rfl ⟨.slice adh A.args.length caph, .slice none 0 0, bl, ?_, ?_, ?_, ?_, ?_, ?_, ?_⟩
  · simp [clauseVal]
  · exact ownsRow_base (ownsRow_kept hownH6 KS (by simp; omega)) (by omega)
  · exact hbl.out
  · exact ownsRow_base (ownsRow_kept hownB6 KS (by simp; omega)) (by omega)
  · exact fun p hp => ownsRow_base ((HIN6.out p hp).kept KS (by simp; omega)) (by omega)
  · exact hb6.kept KS (by simp; omega)
  · exact hK6'.trans' KS (by simp)

set_option maxRecDepth 100000 in
set_option maxHeartbeats 1600000 in
theorem clause_badB (b : Nat) (s : ByteArray) (at_ j : Nat) (w : World) (A : RAtom) (a1 a2 a3 : Nat) (b1 b3 : Bool) (L : List RLit) (a4 : Nat) (b4 : Bool) (hs : s.size ≤ 1000000) (hat : at_ ≤ s.size)
    (HJ : Hid (gapTo s at_ = j ∧ atomR s j false = (A, a1, b1) ∧ isTo s a1 b1 58 = a2 ∧ restR s a1 b1 = (L, a3, b3) ∧ mustTo s a3 b3 46 = (a4, b4))) (hc : (!b1 && atB s (gapB s a1 b1) 58) = true) (hlt2 : a2 < s.size) (hno : atB s a2 45 = false) (hB : Blk w b (scan s at_ false) 73) :
    Calls Tryz.prog 44 #[.pointer (some ⟨b, 0, none⟩)] w fun e w' => ∃ (hv bv : Value) (bl : List RLitV), e = .returned (.agg (clauseVal ⟨A, L, j⟩ hv bv).toArray) ∧ w'.ownsRow w.heap.size 93 2 hv A.args.length (A.args.flatMap termVal) ∧
      bl.map Prod.fst = L ∧ w'.ownsRow w.heap.size 95 9 bv bl.length (litsCells bl) ∧ (∀ p ∈ bl, LitIn w' w.heap.size p) ∧ Blk w' b (scan s a4 b4) 73 ∧ Kept [b] w w' := by
  have hbw := hB.lt
  have hjs : j ≤ s.size := by have := gapTo_le s at_ hat; have := HJ.out.1; omega
  have ha1 : a1 ≤ s.size := by have := atomR_le s j false hjs; rw [HJ.out.2.1] at this; exact this
  have ha2 : a2 ≤ s.size := by have := isTo_le s a1 b1 58 ha1; rw [HJ.out.2.2.1] at this; exact this
  go_enter Tryz.func44, Tryz.ntmps44
  go_wp2_with fail
  refine (gap_any b s at_ false _ hs hat (hB.alloc _)).mono ?_
  rintro e w1 ⟨rfl, hb, hK⟩
  rw [show gapB s at_ false = j from HJ.out.1] at hb
  have hn := (Blk.new w _ _).kept hK (by simp; omega)
  have hK1 := ((Kept.refl [b] w).alloc _).trans hK
  clear hB hK
  have hb1 := hb.lt
  have hn1 := hn.lt
  have hc1 := hb.cell 1
  simp [scan] at hc1
  go_wp2_with fail
  refine (atom_any b s j false _ hs hjs (hb.alloc _)).mono ?_
  rintro e w2 ⟨hv, rfl, hownH, hb2, hK2⟩
  rw [HJ.out.2.1] at hb2 hownH ⊢
  have hA2 := (Blk.new w1 _ _).kept hK2 (by simp; omega)
  have hn2 := (hn.alloc _).kept hK2 (by simp; omega)
  have hK2' := (hK1.alloc _).trans hK2
  have hsz2 := hK2.size
  simp only [World.size_alloc] at hownH hsz2
  obtain ⟨N, hN⟩ : ∃ N, w1.heap.size = N := ⟨_, rfl⟩
  rw [hN] at hA2 hownH hsz2 ⊢
  have hNb : b < N := by omega
  have hNw : w.heap.size < N := by omega
  clear hK1 hb hn hb1 hn1 hc1 hK2 hN
  obtain ⟨adh, caph, rfl⟩ := ownsRow_form hownH
  try simp only at hownH
  have e0 := hA2.cell 0
  have e1 := hA2.cell 1
  have e2 := hA2.cell 2
  have hxf := hA2.frozen
  simp at e0 e1 e2
  simp only [atomVal]
  go_wp2_with fail
  have hb2' := ((hb2.set_other ⟨N, 0, none⟩ (by simp; omega) (.string A.name)).set_other ⟨N, 1, none⟩ (by simp; omega) (.slice adh A.args.length caph)).set_other ⟨N, 2, none⟩ (by simp; omega) (.int .i64 A.at_)
  have hA2' := ((hA2.set 0 (.string A.name)).set 1 (.slice adh A.args.length caph)).set 2 (.int .i64 A.at_)
  have hn2' := ((hn2.set_other ⟨N, 0, none⟩ (by simp; omega) (.string A.name)).set_other ⟨N, 1, none⟩ (by simp; omega) (.slice adh A.args.length caph)).set_other ⟨N, 2, none⟩ (by simp; omega) (.int .i64 A.at_)
  have hK2'' := ((hK2'.setCell (p := ⟨N, 0, none⟩) (by simp; omega) (.string A.name)).setCell (p := ⟨N, 1, none⟩) (by simp; omega) (.slice adh A.args.length caph)).setCell (p := ⟨N, 2, none⟩) (by simp; omega) (.int .i64 A.at_)
  have hownH' := ownsRow_set (ownsRow_set (ownsRow_set hownH (p := ⟨N, 0, none⟩) (by simpa using ownsRow_new hownH N (by omega)) (.string A.name)) (p := ⟨N, 1, none⟩) (by simpa using ownsRow_new hownH N (by omega)) (.slice adh A.args.length caph)) (p := ⟨N, 2, none⟩) (by simpa using ownsRow_new hownH N (by omega)) (.int .i64 A.at_)
  simp only [List.set_cons_zero, List.set_cons_succ] at hA2'
  clear hb2 hA2 hn2 hK2' hownH e0 e1 e2 hxf
  refine (is_any b s a1 b1 58 58 _ rfl hs ha1 hb2').mono ?_
  rintro e w3 ⟨rfl, hb3, hK3⟩
  rw [HJ.out.2.2.1] at hb3
  have hA3 := hA2'.kept hK3 (by simp; omega)
  have hn3 := hn2'.kept hK3 (by simp; omega)
  have hK3' := hK2''.trans hK3
  have hownH3 := ownsRow_kept hownH' hK3 (by simp; omega)
  clear hb2' hA2' hn2' hK2'' hownH' hK3
  have hNlt := hA3.lt
  have hblt := hb3.lt
  have hwlt := hn3.lt
  have hcb : b1 = false := by cases b1 <;> simp_all
  subst hcb
  rw [hc]
  have hr := HJ.out.2.2.2.1
  unfold restR at hr
  rw [hc, HJ.out.2.2.1] at hr
  simp only [if_true] at hr
  have hc0 := hb3.cell 0
  have hc1 := hb3.cell 1
  have hc2 := hb3.cell 2
  have hbf := hb3.frozen
  simp [scan] at hc0 hc1 hc2
  rw [hno] at hr
  simp only [Bool.false_eq_true, if_false, Prod.mk.injEq] at hr
  obtain ⟨r1, r2, r3⟩ := hr
  subst r2 r3
  have ha3 := ha2
  obtain ⟨bl, hbl⟩ : ∃ bl : List RLitV, Hid (bl.map Prod.fst = L) ∧ bl = [] := ⟨[], by show _ = _; rw [← r1]; rfl, rfl⟩
  clear r1 hc
  have hlt2' : (a2 : Int) < (s.size : Int) := by omega
  have hq : ((s[a2].toNat : Int) == 45) = false := by rw [← hno]; exact (atB_yes hlt2 45).symm
  go_wp2_with fail
  go_quiet (fail)
  have hb5 := (hb3.drewN nq).set 2 (.bool true)
  have hA5 := (hA3.drewN nq).set_other ⟨b, 2, none⟩ (by simp; omega) (.bool true)
  have hn5 := (hn3.drewN nq).set_other ⟨b, 2, none⟩ (by simp; omega) (.bool true)
  have hK5 := (hK3'.drewN nq).setCell (p := ⟨b, 2, none⟩) (by simp) (.bool true)
  have hownH5 := ownsRow_set (ownsRow_drewN hownH3 nq) (p := ⟨b, 2, none⟩) (by simpa using ownsRow_new hownH3 b (by omega)) (.bool true)
  have hownB5 : ((w3.drewN nq).setCell ⟨b, 2, none⟩ (.bool true)).ownsRow (N + 1) 95 9 (.slice none 0 0) bl.length (litsCells bl) := by rw [hbl.2]; exact World.ownsRow_nil _ _ _ _
  have HIN : Hid (∀ p ∈ bl, LitIn ((w3.drewN nq).setCell ⟨b, 2, none⟩ (.bool true)) (N + 1) p) := by rw [hbl.2]; intro p hp; simp at hp
  replace hbl := hbl.1
  clear hb3 hA3 hn3 hK3' hownH3
  have hblt5 := hb5.lt
  have hNlt5 := hA5.lt
  go_wp2_with fail
  refine (must_any b s _ true 46 46 _ rfl hs ha3 hb5).mono ?_
  rintro e w6 ⟨rfl, hb6, hK6⟩
  have hm2 := HJ.out.2.2.2.2
  simp only [mustTo, Prod.mk.injEq] at hm2
  rw [hm2.1, hm2.2] at hb6
  have hA6 := hA5.kept hK6 (by simp; omega)
  have hn6 := hn5.kept hK6 (by simp; omega)
  have hK6' := hK5.trans hK6
  have hownH6 := ownsRow_kept hownH5 hK6 (by simp; omega)
  have hownB6 := ownsRow_kept hownB5 hK6 (by simp; omega)
  have HIN6 : Hid (∀ p ∈ bl, LitIn w6 (N + 1) p) := fun p hp => (HIN.out p hp).kept hK6 (by simp; omega)
  clear hb5 hA5 hn5 hK5 hownH5 hownB5 hK6 hm2 HIN
  have hd0 := hA6.cell
  have hy0 := hn6.cell
  have hyf := hn6.frozen
  have e0 := hd0 0
  have e1 := hd0 1
  have e2 := hd0 2
  have e3 := hd0 3
  have e4 := hd0 4
  have f0 := hy0 0
  have f1 := hy0 1
  have f2 := hy0 2
  have f3 := hy0 3
  have f4 := hy0 4
  simp at e0 e1 e2 e3 e4 f0 f1 f2 f3 f4
  clear hd0 hy0
  go_wp2
  have KS : ∀ {v0 v1 v2 v3 v4 : Value}, Kept [w.heap.size] w6 (((((w6.setCell ⟨w.heap.size, 0, none⟩ v0).setCell ⟨w.heap.size, 1, none⟩ v1).setCell ⟨w.heap.size, 2, none⟩ v2).setCell ⟨w.heap.size, 3, none⟩ v3).setCell ⟨w.heap.size, 4, none⟩ v4) := by
    intro v0 v1 v2 v3 v4
    repeat (refine Kept.setCell ?_ (by simp) _)
    exact Kept.refl _ _
  refine bodyPost_ret (res_cell rfl rfl (((((hn6.set 0 _).set 1 _).set 2 _).set 3 _).set 4 _) Tryz.underlying82 rfl (by kernel_rfl)) rfl ⟨.slice adh A.args.length caph, .slice none 0 0, bl, ?_, ?_, ?_, ?_, ?_, ?_, ?_⟩
  · simp [clauseVal]
  · exact ownsRow_base (ownsRow_kept hownH6 KS (by simp; omega)) (by omega)
  · exact hbl.out
  · exact ownsRow_base (ownsRow_kept hownB6 KS (by simp; omega)) (by omega)
  · exact fun p hp => ownsRow_base ((HIN6.out p hp).kept KS (by simp; omega)) (by omega)
  · exact hb6.kept KS (by simp; omega)
  · exact hK6'.trans' KS (by simp)

set_option maxRecDepth 100000 in
set_option maxHeartbeats 1600000 in
theorem clause_rule (b : Nat) (s : ByteArray) (at_ j : Nat) (w : World) (A : RAtom) (a1 a2 a3 : Nat) (b1 b3 : Bool) (L : List RLit) (a4 : Nat) (b4 : Bool) (hs : s.size ≤ 1000000) (hat : at_ ≤ s.size)
    (HJ : Hid (gapTo s at_ = j ∧ atomR s j false = (A, a1, b1) ∧ isTo s a1 b1 58 = a2 ∧ restR s a1 b1 = (L, a3, b3) ∧ mustTo s a3 b3 46 = (a4, b4))) (hc : (!b1 && atB s (gapB s a1 b1) 58) = true) (hno : atB s a2 45 = true) (hB : Blk w b (scan s at_ false) 73) :
    Calls Tryz.prog 44 #[.pointer (some ⟨b, 0, none⟩)] w fun e w' => ∃ (hv bv : Value) (bl : List RLitV), e = .returned (.agg (clauseVal ⟨A, L, j⟩ hv bv).toArray) ∧ w'.ownsRow w.heap.size 93 2 hv A.args.length (A.args.flatMap termVal) ∧
      bl.map Prod.fst = L ∧ w'.ownsRow w.heap.size 95 9 bv bl.length (litsCells bl) ∧ (∀ p ∈ bl, LitIn w' w.heap.size p) ∧ Blk w' b (scan s a4 b4) 73 ∧ Kept [b] w w' := by
  have hbw := hB.lt
  have hjs : j ≤ s.size := by have := gapTo_le s at_ hat; have := HJ.out.1; omega
  have ha1 : a1 ≤ s.size := by have := atomR_le s j false hjs; rw [HJ.out.2.1] at this; exact this
  have ha2 : a2 ≤ s.size := by have := isTo_le s a1 b1 58 ha1; rw [HJ.out.2.2.1] at this; exact this
  go_enter Tryz.func44, Tryz.ntmps44
  go_wp2_with fail
  refine (gap_any b s at_ false _ hs hat (hB.alloc _)).mono ?_
  rintro e w1 ⟨rfl, hb, hK⟩
  rw [show gapB s at_ false = j from HJ.out.1] at hb
  have hn := (Blk.new w _ _).kept hK (by simp; omega)
  have hK1 := ((Kept.refl [b] w).alloc _).trans hK
  clear hB hK
  have hb1 := hb.lt
  have hn1 := hn.lt
  have hc1 := hb.cell 1
  simp [scan] at hc1
  go_wp2_with fail
  refine (atom_any b s j false _ hs hjs (hb.alloc _)).mono ?_
  rintro e w2 ⟨hv, rfl, hownH, hb2, hK2⟩
  rw [HJ.out.2.1] at hb2 hownH ⊢
  have hA2 := (Blk.new w1 _ _).kept hK2 (by simp; omega)
  have hn2 := (hn.alloc _).kept hK2 (by simp; omega)
  have hK2' := (hK1.alloc _).trans hK2
  have hsz2 := hK2.size
  simp only [World.size_alloc] at hownH hsz2
  obtain ⟨N, hN⟩ : ∃ N, w1.heap.size = N := ⟨_, rfl⟩
  rw [hN] at hA2 hownH hsz2 ⊢
  have hNb : b < N := by omega
  have hNw : w.heap.size < N := by omega
  clear hK1 hb hn hb1 hn1 hc1 hK2 hN
  obtain ⟨adh, caph, rfl⟩ := ownsRow_form hownH
  try simp only at hownH
  have e0 := hA2.cell 0
  have e1 := hA2.cell 1
  have e2 := hA2.cell 2
  have hxf := hA2.frozen
  simp at e0 e1 e2
  simp only [atomVal]
  go_wp2_with fail
  have hb2' := ((hb2.set_other ⟨N, 0, none⟩ (by simp; omega) (.string A.name)).set_other ⟨N, 1, none⟩ (by simp; omega) (.slice adh A.args.length caph)).set_other ⟨N, 2, none⟩ (by simp; omega) (.int .i64 A.at_)
  have hA2' := ((hA2.set 0 (.string A.name)).set 1 (.slice adh A.args.length caph)).set 2 (.int .i64 A.at_)
  have hn2' := ((hn2.set_other ⟨N, 0, none⟩ (by simp; omega) (.string A.name)).set_other ⟨N, 1, none⟩ (by simp; omega) (.slice adh A.args.length caph)).set_other ⟨N, 2, none⟩ (by simp; omega) (.int .i64 A.at_)
  have hK2'' := ((hK2'.setCell (p := ⟨N, 0, none⟩) (by simp; omega) (.string A.name)).setCell (p := ⟨N, 1, none⟩) (by simp; omega) (.slice adh A.args.length caph)).setCell (p := ⟨N, 2, none⟩) (by simp; omega) (.int .i64 A.at_)
  have hownH' := ownsRow_set (ownsRow_set (ownsRow_set hownH (p := ⟨N, 0, none⟩) (by simpa using ownsRow_new hownH N (by omega)) (.string A.name)) (p := ⟨N, 1, none⟩) (by simpa using ownsRow_new hownH N (by omega)) (.slice adh A.args.length caph)) (p := ⟨N, 2, none⟩) (by simpa using ownsRow_new hownH N (by omega)) (.int .i64 A.at_)
  simp only [List.set_cons_zero, List.set_cons_succ] at hA2'
  clear hb2 hA2 hn2 hK2' hownH e0 e1 e2 hxf
  refine (is_any b s a1 b1 58 58 _ rfl hs ha1 hb2').mono ?_
  rintro e w3 ⟨rfl, hb3, hK3⟩
  rw [HJ.out.2.2.1] at hb3
  have hA3 := hA2'.kept hK3 (by simp; omega)
  have hn3 := hn2'.kept hK3 (by simp; omega)
  have hK3' := hK2''.trans hK3
  have hownH3 := ownsRow_kept hownH' hK3 (by simp; omega)
  clear hb2' hA2' hn2' hK2'' hownH' hK3
  have hNlt := hA3.lt
  have hblt := hb3.lt
  have hwlt := hn3.lt
  have hcb : b1 = false := by cases b1 <;> simp_all
  subst hcb
  rw [hc]
  have hr := HJ.out.2.2.2.1
  unfold restR at hr
  rw [hc, HJ.out.2.2.1] at hr
  simp only [if_true] at hr
  have hc0 := hb3.cell 0
  have hc1 := hb3.cell 1
  have hc2 := hb3.cell 2
  have hbf := hb3.frozen
  simp [scan] at hc0 hc1 hc2
  rw [hno] at hr
  simp only [if_true] at hr
  have hlt2 := atB_lt hno
  have hlt2' : (a2 : Int) < (s.size : Int) := by omega
  have hq : ((s[a2].toNat : Int) == 45) = true := by rw [← hno]; exact (atB_yes hlt2 45).symm
  have ha3 : a3 ≤ s.size := by have := bodyR_le s (a2 + 1) (by omega); rw [hr] at this; exact this
  have HR : Hid (bodyR s (a2 + 1) = (L, a3, b3)) := hr
  clear hr hc hno
  go_wp2_with fail
  go_quiet (fail)
  clear hq
  go_wp2_with fail
  refine (body_any b s (a2 + 1) _ hs (by omega) ((hb3.drewN nq).set 1 _)).mono ?_
  rintro e w4 ⟨bv, bl, rfl, hbl0, hownB, hin, hb4, hK4⟩
  rw [HR.out] at hb4 hbl0
  have hbl : Hid (bl.map Prod.fst = L) := hbl0
  have hA4 := ((hA3.drewN nq).set_other ⟨b, 1, none⟩ (by simp; omega) _).kept hK4 (by simp; omega)
  have hn4 := ((hn3.drewN nq).set_other ⟨b, 1, none⟩ (by simp; omega) _).kept hK4 (by simp; omega)
  have hK4' := ((hK3'.drewN nq).setCell (p := ⟨b, 1, none⟩) (by simp) _).trans hK4
  have hownH4 := ownsRow_kept (ownsRow_set (ownsRow_drewN hownH3 nq) (p := ⟨b, 1, none⟩) (by simpa using ownsRow_new hownH3 b (by omega)) _) hK4 (by simp; omega)
  have hownB4 : w4.ownsRow (N + 1) 95 9 bv bl.length (litsCells bl) := ownsRow_base hownB (by simp; omega)
  have HIN4 : Hid (∀ p ∈ bl, LitIn w4 (N + 1) p) := fun p hp => ownsRow_base (hin p hp) (by simp; omega)
  have hsz4 := hK4.size
  simp only [World.size_setCell] at hsz4
  have hsz4' : w3.heap.size ≤ w4.heap.size := hsz4
  clear hb3 hA3 hn3 hK3' hownH3 hK4 hownB hin hbl0 hc0 hc1 hc2 hbf hsz4
  obtain ⟨adb0, capb0, rfl⟩ := ownsRow_form hownB4
  have e3 := hA4.cell 3
  have hxf := hA4.frozen 3
  simp at e3
  have hb5 := hb4.set_other ⟨N, 3, none⟩ (by simp; omega) (.slice adb0 bl.length capb0)
  have hA5 := hA4.set 3 (.slice adb0 bl.length capb0)
  have hn5 := hn4.set_other ⟨N, 3, none⟩ (by simp; omega) (.slice adb0 bl.length capb0)
  have hK5 := hK4'.setCell (p := ⟨N, 3, none⟩) (by simp; omega) (.slice adb0 bl.length capb0)
  have hownH5 := ownsRow_set hownH4 (p := ⟨N, 3, none⟩) (by simpa using ownsRow_new hownH4 N (by omega)) (.slice adb0 bl.length capb0)
  have hownB5 := ownsRow_set hownB4 (p := ⟨N, 3, none⟩) (by simpa using ownsRow_new hownB4 N (by omega)) (.slice adb0 bl.length capb0)
  have HIN : Hid (∀ p ∈ bl, LitIn (w4.setCell ⟨N, 3, none⟩ (.slice adb0 bl.length capb0)) (N + 1) p) := fun p hp => ownsRow_set (HIN4.out p hp) (by simpa using ownsRow_new (HIN4.out p hp) N (by omega)) _
  clear hb4 hn4 hK4' hownH4 hownB4 HIN4
  have hblt5 := hb5.lt
  have hNlt5 := hA5.lt
  go_wp2_with fail
  refine (must_any b s _ b3 46 46 _ rfl hs ha3 hb5).mono ?_
  rintro e w6 ⟨rfl, hb6, hK6⟩
  have hm2 := HJ.out.2.2.2.2
  simp only [mustTo, Prod.mk.injEq] at hm2
  rw [hm2.1, hm2.2] at hb6
  have hA6 := hA5.kept hK6 (by simp; omega)
  have hn6 := hn5.kept hK6 (by simp; omega)
  have hK6' := hK5.trans hK6
  have hownH6 := ownsRow_kept hownH5 hK6 (by simp; omega)
  have hownB6 := ownsRow_kept hownB5 hK6 (by simp; omega)
  have HIN6 : Hid (∀ p ∈ bl, LitIn w6 (N + 1) p) := fun p hp => (HIN.out p hp).kept hK6 (by simp; omega)
  clear hb5 hA5 hn5 hK5 hownH5 hownB5 hK6 hm2 HIN
  have hd0 := hA6.cell
  have hy0 := hn6.cell
  have hyf := hn6.frozen
  have e0 := hd0 0
  have e1 := hd0 1
  have e2 := hd0 2
  have e3 := hd0 3
  have e4 := hd0 4
  have f0 := hy0 0
  have f1 := hy0 1
  have f2 := hy0 2
  have f3 := hy0 3
  have f4 := hy0 4
  simp at e0 e1 e2 e3 e4 f0 f1 f2 f3 f4
  clear hd0 hy0
  go_wp2
  have KS : ∀ {v0 v1 v2 v3 v4 : Value}, Kept [w.heap.size] w6 (((((w6.setCell ⟨w.heap.size, 0, none⟩ v0).setCell ⟨w.heap.size, 1, none⟩ v1).setCell ⟨w.heap.size, 2, none⟩ v2).setCell ⟨w.heap.size, 3, none⟩ v3).setCell ⟨w.heap.size, 4, none⟩ v4) := by
    intro v0 v1 v2 v3 v4
    repeat (refine Kept.setCell ?_ (by simp) _)
    exact Kept.refl _ _
  refine bodyPost_ret (res_cell rfl rfl (((((hn6.set 0 _).set 1 _).set 2 _).set 3 _).set 4 _) Tryz.underlying82 rfl (by kernel_rfl)) rfl ⟨.slice adh A.args.length caph, .slice adb0 bl.length capb0, bl, ?_, ?_, ?_, ?_, ?_, ?_, ?_⟩
  · simp [clauseVal]
  · exact ownsRow_base (ownsRow_kept hownH6 KS (by simp; omega)) (by omega)
  · exact hbl.out
  · exact ownsRow_base (ownsRow_kept hownB6 KS (by simp; omega)) (by omega)
  · exact fun p hp => ownsRow_base ((HIN6.out p hp).kept KS (by simp; omega)) (by omega)
  · exact hb6.kept KS (by simp; omega)
  · exact hK6'.trans' KS (by simp)

theorem restR_le (s : ByteArray) (a1 : Nat) (b1 : Bool) (h : a1 ≤ s.size) : (restR s a1 b1).2.1 ≤ s.size := by
  have h1 := isTo_le s a1 b1 58 h
  unfold restR
  split
  · split
    · rename_i hx
      exact bodyR_le _ _ (by have := atB_lt hx; omega)
    · exact h1
  · exact h1

theorem restR_ge (s : ByteArray) (a1 : Nat) (b1 : Bool) : a1 ≤ (restR s a1 b1).2.1 := by
  have h1 := isTo_ge s a1 b1 58
  unfold restR
  split
  · split
    · have := bodyR_ge s (isTo s a1 b1 58 + 1); omega
    · exact h1
  · exact h1

theorem clauseR_le (s : ByteArray) (at_ : Nat) (h : at_ ≤ s.size) : (clauseR s at_).2.1 ≤ s.size := by
  unfold clauseR
  simp only
  exact isTo_le _ _ _ _ (restR_le _ _ _ (atomR_le _ _ _ (gapTo_le _ _ h)))

theorem clauseR_gt {s : ByteArray} {at_ : Nat} (h : (clauseR s at_).2.2 = false) : at_ < (clauseR s at_).2.1 := by
  unfold clauseR at h ⊢
  simp only at h ⊢
  have h1 := gapTo_ge s at_
  have h2 := atomR_ge s (gapTo s at_) false
  have h3 := restR_ge s (atomR s (gapTo s at_) false).2.1 (atomR s (gapTo s at_) false).2.2
  have h4 := mustTo_gt h
  omega

theorem clause_any (b : Nat) (s : ByteArray) (at_ : Nat) (w : World) (hs : s.size ≤ 1000000) (hat : at_ ≤ s.size) (hB : Blk w b (scan s at_ false) 73) :
    Calls Tryz.prog 44 #[.pointer (some ⟨b, 0, none⟩)] w fun e w' => ∃ (hv bv : Value) (bl : List RLitV), e = .returned (.agg (clauseVal (clauseR s at_).1 hv bv).toArray) ∧ w'.ownsRow w.heap.size 93 2 hv (clauseR s at_).1.head.args.length ((clauseR s at_).1.head.args.flatMap termVal) ∧
      bl.map Prod.fst = (clauseR s at_).1.body ∧ w'.ownsRow w.heap.size 95 9 bv bl.length (litsCells bl) ∧ (∀ p ∈ bl, LitIn w' w.heap.size p) ∧ Blk w' b (scan s (clauseR s at_).2.1 (clauseR s at_).2.2) 73 ∧ Kept [b] w w' := by
  obtain ⟨j, hj⟩ : ∃ j, gapTo s at_ = j := ⟨_, rfl⟩
  obtain ⟨A, a1, b1, hA⟩ : ∃ A a1 b1, atomR s j false = (A, a1, b1) := ⟨_, _, _, rfl⟩
  obtain ⟨a2, ha2⟩ : ∃ a2, isTo s a1 b1 58 = a2 := ⟨_, rfl⟩
  obtain ⟨L, a3, b3, hL⟩ : ∃ L a3 b3, restR s a1 b1 = (L, a3, b3) := ⟨_, _, _, rfl⟩
  obtain ⟨a4, b4, hm⟩ : ∃ a4 b4, mustTo s a3 b3 46 = (a4, b4) := ⟨_, _, rfl⟩
  have e : clauseR s at_ = (⟨A, L, j⟩, a4, b4) := by unfold clauseR; simp only [hj, hA, hL, hm]
  rw [e]
  have HJ : Hid (gapTo s at_ = j ∧ atomR s j false = (A, a1, b1) ∧ isTo s a1 b1 58 = a2 ∧ restR s a1 b1 = (L, a3, b3) ∧ mustTo s a3 b3 46 = (a4, b4)) := ⟨hj, hA, ha2, hL, hm⟩
  cases hc : (!b1 && atB s (gapB s a1 b1) 58) with
  | false => exact clause_fact b s at_ j w A a1 a2 a3 b1 b3 L a4 b4 hs hat HJ hc hB
  | true =>
    cases hd : atB s a2 45 with
    | true => exact clause_rule b s at_ j w A a1 a2 a3 b1 b3 L a4 b4 hs hat HJ hc hd hB
    | false =>
      by_cases hlt : a2 < s.size
      · exact clause_badB b s at_ j w A a1 a2 a3 b1 b3 L a4 b4 hs hat HJ hc hlt hd hB
      · exact clause_badA b s at_ j w A a1 a2 a3 b1 b3 L a4 b4 hs hat HJ hc hlt hB

end Go.Proofs.YtoihbhenbmffcaaGreatDoor
