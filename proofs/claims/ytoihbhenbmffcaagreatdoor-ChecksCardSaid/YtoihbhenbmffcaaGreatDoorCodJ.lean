import Derived.Test.YtoihbhenbmffcaaGreatDoorCodI
set_option linter.unusedVariables false
set_option linter.unusedSimpArgs false

namespace Go.Proofs.YtoihbhenbmffcaaGreatDoor
open Go.RowKit

def bangB : ByteArray := ⟨#[33]⟩

/-- A literal as it was read: over an atom (its place, its sort, the atom), or a comparison. -/
abbrev PLit : Type := (Int × Int × Nat × ByteArray × List CTerm) ⊕ CLit

def litM (ms : List Mark) (nx : Nat) : Except Int (PLit × Nat) :=
  if seesM (markAt ms nx) bangB then
    match atomM ms (nx + 1) with
    | .error p => .error p
    | .ok (a, n) => .ok (.inl ((markAt ms nx).place, 1, a), n)
  else if seesAtomM ms nx then
    match atomM ms nx with
    | .error p => .error p
    | .ok (a, n) => .ok (.inl ((markAt ms nx).place, 0, a), n)
  else
    match cmpM ms nx with
    | .error p => .error p
    | .ok (l, n) => .ok (.inr l, n)

theorem ownsRow_fill9 {w : World} {base : Nat} {et : TypeId} {size : Nat} {v : Value} {n : Nat} {xs : List Value} (h : w.ownsRow base et size v n xs) {N : Nat} (hne : v.ownBlock ≠ some N) (v0 v1 v2 v3 v4 v5 v6 v7 v8 : Value) : (((((((((w.setCell ⟨N, 0, none⟩ v0).setCell ⟨N, 1, none⟩ v1).setCell ⟨N, 2, none⟩ v2).setCell ⟨N, 3, none⟩ v3).setCell ⟨N, 4, none⟩ v4).setCell ⟨N, 5, none⟩ v5).setCell ⟨N, 6, none⟩ v6).setCell ⟨N, 7, none⟩ v7).setCell ⟨N, 8, none⟩ v8).ownsRow base et size v n xs :=
  (ownsRow_set (ownsRow_set (ownsRow_set (ownsRow_set (ownsRow_set (ownsRow_set (ownsRow_set (ownsRow_set (ownsRow_set h (p := ⟨N, 0, none⟩) hne v0) (p := ⟨N, 1, none⟩) hne v1) (p := ⟨N, 2, none⟩) hne v2) (p := ⟨N, 3, none⟩) hne v3) (p := ⟨N, 4, none⟩) hne v4) (p := ⟨N, 5, none⟩) hne v5) (p := ⟨N, 6, none⟩) hne v6) (p := ⟨N, 7, none⟩) hne v7) (p := ⟨N, 8, none⟩) hne v8)

/-- What a call that reads a literal answers. -/
def LitOut (b : Nat) (mv : Value) (ms : List Mark) (br : Int) (w : World) (e : Ending) (w' : World) : Except Int (PLit × Nat) → Prop
  | .ok (.inl (pl, so, p, s, ts), nx) => ∃ tv base, e = .returned (.tuple #[.agg (clitCells ⟨pl, so, ⟨p, s, tv⟩, noCTerm, noCTerm⟩).toArray, .bool true]) ∧ w.heap.size ≤ base ∧ w'.ownsRow base 215 2 tv ts.length (ts.flatMap ctermVal) ∧ RdIn w' b mv ms nx br ∧ Kept [b] w w'
  | .ok (.inr l, nx) => e = .returned (.tuple #[.agg (clitCells l).toArray, .bool true]) ∧ RdIn w' b mv ms nx br ∧ Kept [b] w w'
  | .error p => ∃ nx l, (∃ ad n cp, l.atom.tv = .slice ad n cp) ∧ e = .returned (.tuple #[.agg (clitCells l).toArray, .bool false]) ∧ RdIn w' b mv ms nx p ∧ Kept [b] w w'

set_option maxRecDepth 100000 in
set_option maxHeartbeats 1600000 in
theorem rlit_any (b : Nat) (mv : Value) (ms : List Mark) (nx : Nat) (br : Int) (w : World) (h : RdIn w b mv ms nx br) (ok : MsOk ms) :
    Calls Tryz.prog 172 #[.pointer (some ⟨b, 0, none⟩)] w fun e w' => LitOut b mv ms br w e w' (litM ms nx) := by
  have HO := hide ok
  have hbw := h.blk.lt
  have hmb : ∀ k, mv.ownBlock = some k → k < w.heap.size := fun k hk => (h.row.lt k hk).2
  have h1 := hide (h.kept0 ((Kept.refl [] w).alloc (.cells (clitCells noCLit).toArray 217)))
  have hN := hide (Blk.new w (clitCells noCLit) 217)
  have hK1 := hide ((Kept.refl [b] w).alloc (.cells (clitCells noCLit).toArray 217))
  have hs1 : (w.alloc (.cells (clitCells noCLit).toArray 217)).heap.size = w.heap.size + 1 := by simp
  clear h ok
  go_enter Tryz.func172, Tryz.ntmps172
  go_wp2_with fail
  change Calls _ _ _ (w.alloc (.cells (clitCells noCLit).toArray 217)) _
  generalize w.alloc (.cells (clitCells noCLit).toArray 217) = w1 at h1 hN hK1 hs1 ⊢
  obtain ⟨N, hNe⟩ : ∃ N, w.heap.size = N := ⟨_, rfl⟩
  rw [hNe] at hN hbw hs1 hmb ⊢
  have HMB : Hid (∀ k, N ≤ k → mv.ownBlock ≠ some k) := fun k hk e => by have := hmb k e; omega
  clear hmb
  have HN := hide hNe
  clear hNe
  refine (here_any b mv ms nx br _ (unhide h1) (markAt ms nx) (markAt_eq (unhide h1).lt)).mono ?_
  rintro e w2 ⟨rfl, k2⟩
  have h2 := hide ((unhide h1).kept0 k2)
  have hN2 := hide ((unhide hN).kept k2 (by simp))
  have hK2 := hide ((unhide hK1).trans (k2.mono (by simp)))
  have hs2 : N + 1 ≤ w2.heap.size := by have := k2.size; omega
  clear h1 hN hK1 hs1 k2
  obtain ⟨p, hp⟩ : ∃ p, (markAt ms nx).place = p := ⟨_, rfl⟩
  have HP := hide hp
  rw [hp]
  clear hp
  go_wp2_with fail
  change Calls _ _ _ (w2.alloc (.cells (clitCells ⟨p, 0, noCAtom, noCTerm, noCTerm⟩).toArray 217)) _
  have h3 := hide ((unhide h2).kept0 ((Kept.refl [] w2).alloc (.cells (clitCells ⟨p, 0, noCAtom, noCTerm, noCTerm⟩).toArray 217)))
  have hN3 := hide ((unhide hN2).alloc (.cells (clitCells ⟨p, 0, noCAtom, noCTerm, noCTerm⟩).toArray 217))
  have hL3 := hide (Blk.new w2 (clitCells ⟨p, 0, noCAtom, noCTerm, noCTerm⟩) 217)
  have hK3 := hide ((unhide hK2).alloc (.cells (clitCells ⟨p, 0, noCAtom, noCTerm, noCTerm⟩).toArray 217))
  clear h2 hN2 hK2
  generalize w2.alloc (.cells (clitCells ⟨p, 0, noCAtom, noCTerm, noCTerm⟩).toArray 217) = w3 at h3 hN3 hL3 hK3 ⊢
  obtain ⟨L, hLe⟩ : ∃ L, w2.heap.size = L := ⟨_, rfl⟩
  rw [hLe] at hL3 hs2 ⊢
  clear hLe
  refine (take_any b mv ms nx br bangB _ (unhide h3) (markAt ms nx) (markAt_eq (unhide h3).lt) ((unhide HO).seen (unhide h3).lt bangB)).mono ?_
  rintro e w4 ⟨rfl, h4, k4⟩
  have hN4 := hide ((unhide hN3).kept k4 (by simp; omega))
  have hL4 := hide ((unhide hL3).kept k4 (by simp; omega))
  have hK4 := hide ((unhide hK3).trans k4)
  clear h3 hN3 hL3 hK3 k4
  cases hs : seesM (markAt ms nx) bangB with
  | true =>
    rw [hs] at h4
    simp only [if_true] at h4
    have HS := hide hs
    have l1 := (unhide hL4).cell 1
    have lf := (unhide hL4).frozen
    simp [clitCells] at l1
    have H4 := hide h4
    clear h4 hs
    go_wp2_with fail
    have hb0 := unhide HMB
    have hN0 := unhide HN
    have Ha := hide ((unhide H4).other (p := ⟨L, 1, none⟩) (by simp; omega) (hb0 L (by omega)) (.int .i64 1))
    have hNa := hide ((unhide hN4).set_other ⟨L, 1, none⟩ (by simp; omega) (.int .i64 1))
    have hLa : Hid (Blk (w4.setCell ⟨L, 1, none⟩ (.int .i64 1)) L (clitCells ⟨p, 1, noCAtom, noCTerm, noCTerm⟩) 217) := (unhide hL4).set 1 _
    have hKa := hide ((unhide hK4).setCell (p := ⟨L, 1, none⟩) (by right; simp; omega) (.int .i64 1))
    clear l1 lf hN4 hL4 hK4 hb0 hN0 H4
    generalize w4.setCell ⟨L, 1, none⟩ (.int .i64 1) = wa at Ha hNa hLa hKa ⊢
    have hNlt := (unhide hNa).lt
    have hLlt := (unhide hLa).lt
    refine (ratom_any b mv ms (nx + 1) br _ (unhide Ha) (unhide HO)).mono ?_
    intro e w6 hout
    clear Ha
    cases ht : atomM ms (nx + 1) with
    | error q =>
      rw [ht] at hout
      obtain ⟨n9, ap, an, ad, an2, cp, rfl, h6, k6⟩ := hout
      have HF : Hid (litM ms nx = .error q) := by show _ = _; unfold litM; simp [HS.out, ht]
      clear ht
      have hN6 := (unhide hNa).kept k6 (by simp; omega)
      have hL6 := (unhide hLa).kept k6 (by simp; omega)
      have hK6 := hide ((unhide hKa).trans k6)
      have l0 := hL6.cell 0
      have l1 := hL6.cell 1
      have l2 := hL6.cell 2
      have l3 := hL6.cell 3
      have l4 := hL6.cell 4
      have l5 := hL6.cell 5
      have l6 := hL6.cell 6
      have l7 := hL6.cell 7
      have l8 := hL6.cell 8
      have lf := hL6.frozen
      have nf := hN6.frozen
      have c0 := hN6.cell 0
      have c1 := hN6.cell 1
      have c2 := hN6.cell 2
      have c3 := hN6.cell 3
      have c4 := hN6.cell 4
      have c5 := hN6.cell 5
      have c6 := hN6.cell 6
      have c7 := hN6.cell 7
      have c8 := hN6.cell 8
      simp [clitCells, noCLit, noCAtom, noCTerm] at l0 c0 l1 c1 l2 c2 l3 c3 l4 c4 l5 c5 l6 c6 l7 c7 l8 c8
      have q1 : ¬ L = N := by omega
      have q2 : ¬ N = L := by omega
      have HB := hide hN6
      have HR := hide h6
      clear hN6 hL6 h6 k6 hNa hLa hKa
      simp only [catomVal]
      go_wp2
      rw [HF.out]
      have hfin := ((((unhide HB).set_other ⟨L, 2, none⟩ (by simp; omega) (.int .i64 ap)).set_other ⟨L, 3, none⟩ (by simp; omega) (.string an)).set_other ⟨L, 4, none⟩ (by simp; omega) (.slice ad an2 cp)).fill9 rfl (.int .i64 p) (.int .i64 1) (.int .i64 ap) (.string an) (.slice ad an2 cp) (.int .i32 0) (.string ByteArray.empty) (.int .i32 0) (.string ByteArray.empty)
      refine bodyPost_ret (res_cell_tmp (P := Tryz.prog) (fn := Tryz.f172) (p := 2) (u := 3) rfl rfl hfin Tryz.underlying217 rfl (by kernel_rfl)) rfl ?_
      refine ⟨n9, ⟨p, 1, ⟨ap, an, .slice ad an2 cp⟩, noCTerm, noCTerm⟩, ⟨_, _, _, rfl⟩, rfl, ?_, ?_⟩
      · exact ((((unhide HR).other (p := ⟨L, 2, none⟩) (by simp; omega) (unhide HMB L (by omega)) _).other (p := ⟨L, 3, none⟩) (by simp; omega) (unhide HMB L (by omega)) _).other (p := ⟨L, 4, none⟩) (by simp; omega) (unhide HMB L (by omega)) _).fill9 (by omega) (unhide HMB N (by omega)) _ _ _ _ _ _ _ _ _
      · have hN0 := unhide HN
        exact ((((unhide hK6).setCell (p := ⟨L, 2, none⟩) (by right; simp; omega) _).setCell (p := ⟨L, 3, none⟩) (by right; simp; omega) _).setCell (p := ⟨L, 4, none⟩) (by right; simp; omega) _).fill9 (by right; omega) _ _ _ _ _ _ _ _ _
    | ok r =>
      obtain ⟨⟨pp, ss, ts⟩, n2⟩ := r
      rw [ht] at hout
      obtain ⟨tv, base, rfl, hbase, hown, h6, k6⟩ := hout
      obtain ⟨ad, cp, rfl⟩ := row_nil hown
      have HF : Hid (litM ms nx = .ok (.inl (p, 1, pp, ss, ts), n2)) := by show _ = _; unfold litM; simp [HS.out, ht, HP.out]
      have HOW : Hid (_ ∧ (∀ k, k < base → (Value.slice ad ts.length cp).ownBlock ≠ some k)) := ⟨hown, fun k hk e => by have := (hown.lt k e).1; omega⟩
      clear ht hown
      have hN6 := (unhide hNa).kept k6 (by simp; omega)
      have hL6 := (unhide hLa).kept k6 (by simp; omega)
      have hK6 := hide ((unhide hKa).trans k6)
      have l0 := hL6.cell 0
      have l1 := hL6.cell 1
      have l2 := hL6.cell 2
      have l3 := hL6.cell 3
      have l4 := hL6.cell 4
      have l5 := hL6.cell 5
      have l6 := hL6.cell 6
      have l7 := hL6.cell 7
      have l8 := hL6.cell 8
      have lf := hL6.frozen
      have nf := hN6.frozen
      have c0 := hN6.cell 0
      have c1 := hN6.cell 1
      have c2 := hN6.cell 2
      have c3 := hN6.cell 3
      have c4 := hN6.cell 4
      have c5 := hN6.cell 5
      have c6 := hN6.cell 6
      have c7 := hN6.cell 7
      have c8 := hN6.cell 8
      simp [clitCells, noCLit, noCAtom, noCTerm] at l0 c0 l1 c1 l2 c2 l3 c3 l4 c4 l5 c5 l6 c6 l7 c7 l8 c8
      have q1 : ¬ L = N := by omega
      have q2 : ¬ N = L := by omega
      have HB := hide hN6
      have HR := hide h6
      clear hN6 hL6 h6 k6 hNa hLa hKa
      simp only [catomVal]
      go_wp2
      rw [HF.out]
      have hfin := ((((unhide HB).set_other ⟨L, 2, none⟩ (by simp; omega) (.int .i64 pp)).set_other ⟨L, 3, none⟩ (by simp; omega) (.string ss)).set_other ⟨L, 4, none⟩ (by simp; omega) (.slice ad ts.length cp)).fill9 rfl (.int .i64 p) (.int .i64 1) (.int .i64 pp) (.string ss) (.slice ad ts.length cp) (.int .i32 0) (.string ByteArray.empty) (.int .i32 0) (.string ByteArray.empty)
      refine bodyPost_ret (res_cell_tmp (P := Tryz.prog) (fn := Tryz.f172) (p := 2) (u := 3) rfl rfl hfin Tryz.underlying217 rfl (by kernel_rfl)) rfl ?_
      have hoL := HOW.out.2 L (by omega)
      have hoN := HOW.out.2 N (by omega)
      refine ⟨.slice ad ts.length cp, base, rfl, by have := unhide HN; omega, ?_, ?_, ?_⟩
      · exact ownsRow_fill9 (ownsRow_set (ownsRow_set (ownsRow_set HOW.out.1 (p := ⟨L, 2, none⟩) hoL _) (p := ⟨L, 3, none⟩) hoL _) (p := ⟨L, 4, none⟩) hoL _) hoN _ _ _ _ _ _ _ _ _
      · exact ((((unhide HR).other (p := ⟨L, 2, none⟩) (by simp; omega) (unhide HMB L (by omega)) _).other (p := ⟨L, 3, none⟩) (by simp; omega) (unhide HMB L (by omega)) _).other (p := ⟨L, 4, none⟩) (by simp; omega) (unhide HMB L (by omega)) _).fill9 (by omega) (unhide HMB N (by omega)) _ _ _ _ _ _ _ _ _
      · have hN0 := unhide HN
        exact ((((unhide hK6).setCell (p := ⟨L, 2, none⟩) (by right; simp; omega) _).setCell (p := ⟨L, 3, none⟩) (by right; simp; omega) _).setCell (p := ⟨L, 4, none⟩) (by right; simp; omega) _).fill9 (by right; omega) _ _ _ _ _ _ _ _ _
  | false =>
    rw [hs] at h4
    simp only [Bool.false_eq_true, if_false] at h4
    have HS := hide hs
    have H4 := hide h4
    clear h4 hs
    go_wp2_with fail
    refine (seesAtom_any b mv ms nx br _ (unhide H4) (unhide HO)).mono ?_
    rintro e w5 ⟨rfl, k5⟩
    have H5 := hide ((unhide H4).kept0 k5)
    have hN5 := hide ((unhide hN4).kept k5 (by simp))
    have hL5 := hide ((unhide hL4).kept k5 (by simp))
    have hK5 := hide ((unhide hK4).trans (k5.mono (by simp)))
    clear H4 hN4 hL4 hK4 k5
    cases ha : seesAtomM ms nx with
    | true =>
      have HA := hide ha
      clear ha
      go_wp2_with fail
      have Ha := H5
      have hNa := hN5
      have hLa := hL5
      have hKa := hK5
      clear H5 hN5 hL5 hK5
      have hNlt := (unhide hNa).lt
      have hLlt := (unhide hLa).lt
      refine (ratom_any b mv ms nx br _ (unhide Ha) (unhide HO)).mono ?_
      intro e w6 hout
      clear Ha
      cases ht : atomM ms nx with
      | error q =>
        rw [ht] at hout
        obtain ⟨n9, ap, an, ad, an2, cp, rfl, h6, k6⟩ := hout
        have HF : Hid (litM ms nx = .error q) := by show _ = _; unfold litM; simp [HS.out, HA.out, ht]
        clear ht
        have hN6 := (unhide hNa).kept k6 (by simp; omega)
        have hL6 := (unhide hLa).kept k6 (by simp; omega)
        have hK6 := hide ((unhide hKa).trans k6)
        have l0 := hL6.cell 0
        have l1 := hL6.cell 1
        have l2 := hL6.cell 2
        have l3 := hL6.cell 3
        have l4 := hL6.cell 4
        have l5 := hL6.cell 5
        have l6 := hL6.cell 6
        have l7 := hL6.cell 7
        have l8 := hL6.cell 8
        have lf := hL6.frozen
        have nf := hN6.frozen
        have c0 := hN6.cell 0
        have c1 := hN6.cell 1
        have c2 := hN6.cell 2
        have c3 := hN6.cell 3
        have c4 := hN6.cell 4
        have c5 := hN6.cell 5
        have c6 := hN6.cell 6
        have c7 := hN6.cell 7
        have c8 := hN6.cell 8
        simp [clitCells, noCLit, noCAtom, noCTerm] at l0 c0 l1 c1 l2 c2 l3 c3 l4 c4 l5 c5 l6 c6 l7 c7 l8 c8
        have q1 : ¬ L = N := by omega
        have q2 : ¬ N = L := by omega
        have HB := hide hN6
        have HR := hide h6
        clear hN6 hL6 h6 k6 hNa hLa hKa
        simp only [catomVal]
        go_wp2
        rw [HF.out]
        have hfin := ((((unhide HB).set_other ⟨L, 2, none⟩ (by simp; omega) (.int .i64 ap)).set_other ⟨L, 3, none⟩ (by simp; omega) (.string an)).set_other ⟨L, 4, none⟩ (by simp; omega) (.slice ad an2 cp)).fill9 rfl (.int .i64 p) (.int .i64 0) (.int .i64 ap) (.string an) (.slice ad an2 cp) (.int .i32 0) (.string ByteArray.empty) (.int .i32 0) (.string ByteArray.empty)
        refine bodyPost_ret (res_cell_tmp (P := Tryz.prog) (fn := Tryz.f172) (p := 2) (u := 3) rfl rfl hfin Tryz.underlying217 rfl (by kernel_rfl)) rfl ?_
        refine ⟨n9, ⟨p, 0, ⟨ap, an, .slice ad an2 cp⟩, noCTerm, noCTerm⟩, ⟨_, _, _, rfl⟩, rfl, ?_, ?_⟩
        · exact ((((unhide HR).other (p := ⟨L, 2, none⟩) (by simp; omega) (unhide HMB L (by omega)) _).other (p := ⟨L, 3, none⟩) (by simp; omega) (unhide HMB L (by omega)) _).other (p := ⟨L, 4, none⟩) (by simp; omega) (unhide HMB L (by omega)) _).fill9 (by omega) (unhide HMB N (by omega)) _ _ _ _ _ _ _ _ _
        · have hN0 := unhide HN
          exact ((((unhide hK6).setCell (p := ⟨L, 2, none⟩) (by right; simp; omega) _).setCell (p := ⟨L, 3, none⟩) (by right; simp; omega) _).setCell (p := ⟨L, 4, none⟩) (by right; simp; omega) _).fill9 (by right; omega) _ _ _ _ _ _ _ _ _
      | ok r =>
        obtain ⟨⟨pp, ss, ts⟩, n2⟩ := r
        rw [ht] at hout
        obtain ⟨tv, base, rfl, hbase, hown, h6, k6⟩ := hout
        obtain ⟨ad, cp, rfl⟩ := row_nil hown
        have HF : Hid (litM ms nx = .ok (.inl (p, 0, pp, ss, ts), n2)) := by show _ = _; unfold litM; simp [HS.out, HA.out, ht, HP.out]
        have HOW : Hid (_ ∧ (∀ k, k < base → (Value.slice ad ts.length cp).ownBlock ≠ some k)) := ⟨hown, fun k hk e => by have := (hown.lt k e).1; omega⟩
        clear ht hown
        have hN6 := (unhide hNa).kept k6 (by simp; omega)
        have hL6 := (unhide hLa).kept k6 (by simp; omega)
        have hK6 := hide ((unhide hKa).trans k6)
        have l0 := hL6.cell 0
        have l1 := hL6.cell 1
        have l2 := hL6.cell 2
        have l3 := hL6.cell 3
        have l4 := hL6.cell 4
        have l5 := hL6.cell 5
        have l6 := hL6.cell 6
        have l7 := hL6.cell 7
        have l8 := hL6.cell 8
        have lf := hL6.frozen
        have nf := hN6.frozen
        have c0 := hN6.cell 0
        have c1 := hN6.cell 1
        have c2 := hN6.cell 2
        have c3 := hN6.cell 3
        have c4 := hN6.cell 4
        have c5 := hN6.cell 5
        have c6 := hN6.cell 6
        have c7 := hN6.cell 7
        have c8 := hN6.cell 8
        simp [clitCells, noCLit, noCAtom, noCTerm] at l0 c0 l1 c1 l2 c2 l3 c3 l4 c4 l5 c5 l6 c6 l7 c7 l8 c8
        have q1 : ¬ L = N := by omega
        have q2 : ¬ N = L := by omega
        have HB := hide hN6
        have HR := hide h6
        clear hN6 hL6 h6 k6 hNa hLa hKa
        simp only [catomVal]
        go_wp2
        rw [HF.out]
        have hfin := ((((unhide HB).set_other ⟨L, 2, none⟩ (by simp; omega) (.int .i64 pp)).set_other ⟨L, 3, none⟩ (by simp; omega) (.string ss)).set_other ⟨L, 4, none⟩ (by simp; omega) (.slice ad ts.length cp)).fill9 rfl (.int .i64 p) (.int .i64 0) (.int .i64 pp) (.string ss) (.slice ad ts.length cp) (.int .i32 0) (.string ByteArray.empty) (.int .i32 0) (.string ByteArray.empty)
        refine bodyPost_ret (res_cell_tmp (P := Tryz.prog) (fn := Tryz.f172) (p := 2) (u := 3) rfl rfl hfin Tryz.underlying217 rfl (by kernel_rfl)) rfl ?_
        have hoL := HOW.out.2 L (by omega)
        have hoN := HOW.out.2 N (by omega)
        refine ⟨.slice ad ts.length cp, base, rfl, by have := unhide HN; omega, ?_, ?_, ?_⟩
        · exact ownsRow_fill9 (ownsRow_set (ownsRow_set (ownsRow_set HOW.out.1 (p := ⟨L, 2, none⟩) hoL _) (p := ⟨L, 3, none⟩) hoL _) (p := ⟨L, 4, none⟩) hoL _) hoN _ _ _ _ _ _ _ _ _
        · exact ((((unhide HR).other (p := ⟨L, 2, none⟩) (by simp; omega) (unhide HMB L (by omega)) _).other (p := ⟨L, 3, none⟩) (by simp; omega) (unhide HMB L (by omega)) _).other (p := ⟨L, 4, none⟩) (by simp; omega) (unhide HMB L (by omega)) _).fill9 (by omega) (unhide HMB N (by omega)) _ _ _ _ _ _ _ _ _
        · have hN0 := unhide HN
          exact ((((unhide hK6).setCell (p := ⟨L, 2, none⟩) (by right; simp; omega) _).setCell (p := ⟨L, 3, none⟩) (by right; simp; omega) _).setCell (p := ⟨L, 4, none⟩) (by right; simp; omega) _).fill9 (by right; omega) _ _ _ _ _ _ _ _ _
    | false =>
      have HA := hide ha
      clear ha
      go_wp2_with fail
      refine (cmp_any b mv ms nx br _ (unhide H5) (unhide HO)).mono ?_
      intro e w6 hout
      clear H5
      cases ht : cmpM ms nx with
      | error q =>
        rw [ht] at hout
        obtain ⟨n9, l, hla, rfl, h6, k6⟩ := hout
        obtain ⟨lp, ls, la, ll, lr⟩ := l
        simp only at hla
        subst hla
        have HF : Hid (litM ms nx = .error q) := by show _ = _; unfold litM; simp [HS.out, HA.out, ht]
        clear ht
        have hN6 := (unhide hN5).kept k6 (by simp; omega)
        have hK6 := hide ((unhide hK5).trans k6)
        have nf := hN6.frozen
        have c0 := hN6.cell 0
        have c1 := hN6.cell 1
        have c2 := hN6.cell 2
        have c3 := hN6.cell 3
        have c4 := hN6.cell 4
        have c5 := hN6.cell 5
        have c6 := hN6.cell 6
        have c7 := hN6.cell 7
        have c8 := hN6.cell 8
        simp [clitCells, noCLit, noCAtom, noCTerm] at c0 c1 c2 c3 c4 c5 c6 c7 c8
        have HB := hide hN6
        have HR := hide h6
        clear hN6 h6 k6 hN5 hL5 hK5
        simp only [clitCells, noCAtom]
        go_wp2
        rw [HF.out]
        have hfin := (unhide HB).fill9 rfl (.int .i64 lp) (.int .i64 ls) (.int .i64 0) (.string ByteArray.empty) (.slice none 0 0) (.int .i32 ll.v) (.string ll.s) (.int .i32 lr.v) (.string lr.s)
        refine bodyPost_ret (res_cell_tmp (P := Tryz.prog) (fn := Tryz.f172) (p := 2) (u := 3) rfl rfl hfin Tryz.underlying217 rfl (by kernel_rfl)) rfl ?_
        refine ⟨n9, ⟨lp, ls, noCAtom, ll, lr⟩, ⟨_, _, _, rfl⟩, rfl, ?_, ?_⟩
        · exact (unhide HR).fill9 (by omega) (unhide HMB N (by omega)) _ _ _ _ _ _ _ _ _
        · have hN0 := unhide HN
          exact (unhide hK6).fill9 (by right; omega) _ _ _ _ _ _ _ _ _
      | ok r =>
        obtain ⟨l, n2⟩ := r
        rw [ht] at hout
        have hla := cmpM_atom ht
        obtain ⟨lp, ls, la, ll, lr⟩ := l
        simp only at hla
        subst hla
        obtain ⟨rfl, h6, k6⟩ := hout
        have HF : Hid (litM ms nx = .ok (.inr ⟨lp, ls, noCAtom, ll, lr⟩, n2)) := by show _ = _; unfold litM; simp [HS.out, HA.out, ht]
        clear ht
        have hN6 := (unhide hN5).kept k6 (by simp; omega)
        have hK6 := hide ((unhide hK5).trans k6)
        have nf := hN6.frozen
        have c0 := hN6.cell 0
        have c1 := hN6.cell 1
        have c2 := hN6.cell 2
        have c3 := hN6.cell 3
        have c4 := hN6.cell 4
        have c5 := hN6.cell 5
        have c6 := hN6.cell 6
        have c7 := hN6.cell 7
        have c8 := hN6.cell 8
        simp [clitCells, noCLit, noCAtom, noCTerm] at c0 c1 c2 c3 c4 c5 c6 c7 c8
        have HB := hide hN6
        have HR := hide h6
        clear hN6 h6 k6 hN5 hL5 hK5
        simp only [clitCells, noCAtom]
        go_wp2
        rw [HF.out]
        have hfin := (unhide HB).fill9 rfl (.int .i64 lp) (.int .i64 ls) (.int .i64 0) (.string ByteArray.empty) (.slice none 0 0) (.int .i32 ll.v) (.string ll.s) (.int .i32 lr.v) (.string lr.s)
        refine bodyPost_ret (res_cell_tmp (P := Tryz.prog) (fn := Tryz.f172) (p := 2) (u := 3) rfl rfl hfin Tryz.underlying217 rfl (by kernel_rfl)) rfl ?_
        refine ⟨rfl, ?_, ?_⟩
        · exact (unhide HR).fill9 (by omega) (unhide HMB N (by omega)) _ _ _ _ _ _ _ _ _
        · have hN0 := unhide HN
          exact (unhide hK6).fill9 (by right; omega) _ _ _ _ _ _ _ _ _

end Go.Proofs.YtoihbhenbmffcaaGreatDoor
