import Derived.Test.YtoihbhenbmffcaaGreatDoorCodK
set_option linter.unusedVariables false
set_option linter.unusedSimpArgs false

namespace Go.Proofs.YtoihbhenbmffcaaGreatDoor
open Go.RowKit

def colB : ByteArray := ⟨#[58]⟩
def cdB : ByteArray := ⟨#[58, 45]⟩
def dotB : ByteArray := ⟨#[46]⟩

/-- A clause as it was read. -/
structure PC where
  hp : Int
  hn : ByteArray
  hts : List CTerm
  body : List PL

/-- Behind the head and the body: the dot. -/
def dotM (ms : List Mark) (n : Nat) (c : PC) : Except Int (PC × Nat) := if seesM (markAt ms n) dotB then .ok (c, n + 1) else .error (markAt ms n).place

def clauseM (ms : List Mark) (nx : Nat) : Except Int (PC × Nat) :=
  match atomM ms nx with
  | .error p => .error p
  | .ok ((p, s, ts), n) =>
    if seesM (markAt ms n) colB then .error (((markAt ms n).place : Int) + 1)
    else if seesM (markAt ms n) cdB then
      match bodyM ms (n + 1) [] with
      | .error q => .error q
      | .ok (ls, n2) => dotM ms n2 ⟨p, s, ts, ls⟩
    else dotM ms n ⟨p, s, ts, []⟩

theorem bodyM_next {ms : List Mark} : ∀ (k nx : Nat) (acc : List PL) {ls : List PL} {n : Nat}, ms.length - nx ≤ k → bodyM ms nx acc = .ok (ls, n) → nx < n
  | k, nx, acc, ls, n, hk, h => by
    by_cases hlt : nx < ms.length
    · cases hl : litM ms nx with
      | error p => rw [bodyM_error hlt hl] at h; cases h
      | ok r =>
        obtain ⟨l, n1⟩ := r
        have h1 := litM_next hl
        rw [bodyM_ok hlt hl] at h
        split at h
        · match k with
          | 0 => omega
          | k + 1 => have := bodyM_next k (n1 + 1) _ (by omega) h; omega
        · simp only [Except.ok.injEq, Prod.mk.injEq] at h; omega
    · unfold bodyM at h
      rw [dif_neg hlt] at h
      cases h

theorem dotM_next {ms : List Mark} {n m : Nat} {c c' : PC} (h : dotM ms n c = .ok (c', m)) : m = n + 1 := by
  unfold dotM at h
  split at h
  · simp only [Except.ok.injEq, Prod.mk.injEq] at h; exact h.2.symm
  · cases h

theorem clauseM_next {ms : List Mark} {nx n : Nat} {c : PC} (h : clauseM ms nx = .ok (c, n)) : nx < n := by
  unfold clauseM at h
  split at h
  · cases h
  · rename_i h1
    have q1 := atomM_next h1
    split at h
    · cases h
    · split at h
      · split at h
        · cases h
        · rename_i h2
          have q2 := bodyM_next _ _ _ (Nat.le_refl _) h2
          have q3 := dotM_next h
          omega
      · have q3 := dotM_next h
        omega

/-- The clauses of a program, from a mark on. -/
def progM (ms : List Mark) (nx : Nat) (acc : List PC) : Except Int (List PC) :=
  if _h : nx < ms.length then
    if (markAt ms nx).kind == 1 then .ok acc
    else match clauseM ms nx with
      | .error p => .error p
      | .ok (c, n) => if _h2 : nx < n then progM ms n (acc ++ [c]) else .error 0
  else .error 0

theorem progM_end {ms : List Mark} {nx : Nat} {acc : List PC} (h : nx < ms.length) (he : ((markAt ms nx).kind == 1) = true) : progM ms nx acc = .ok acc := by
  unfold progM; simp [h, he]
theorem progM_error {ms : List Mark} {nx : Nat} {acc : List PC} {p : Int} (h : nx < ms.length) (he : ((markAt ms nx).kind == 1) = false) (hc : clauseM ms nx = .error p) : progM ms nx acc = .error p := by
  unfold progM; simp [h, he, hc]
theorem progM_ok {ms : List Mark} {nx : Nat} {acc : List PC} {c : PC} {n : Nat} (h : nx < ms.length) (he : ((markAt ms nx).kind == 1) = false) (hc : clauseM ms nx = .ok (c, n)) : progM ms nx acc = progM ms n (acc ++ [c]) := by
  have h2 := clauseM_next hc
  conv => lhs; unfold progM
  simp [h, he, hc, h2]

/-- A clause's cells: the head's three, the body. -/
def pcCells (hp : Int) (hn : ByteArray) (hv bv : Value) : List Value := [.int .i64 hp, .string hn, hv, bv]

theorem Blk.fill4 {w : World} {N : Nat} {cs : List Value} {t : TypeId} (h : Blk w N cs t) (hl : cs.length = 4) (v0 v1 v2 v3 : Value) : Blk ((((w.setCell ⟨N, 0, none⟩ v0).setCell ⟨N, 1, none⟩ v1).setCell ⟨N, 2, none⟩ v2).setCell ⟨N, 3, none⟩ v3) N [v0, v1, v2, v3] t := by
  have hh := (((h.set 0 v0).set 1 v1).set 2 v2).set 3 v3
  have e : (((cs.set 0 v0).set 1 v1).set 2 v2).set 3 v3 = [v0, v1, v2, v3] := by
    match cs, hl with
    | [_, _, _, _], _ => rfl
  rw [e] at hh
  exact hh
theorem RdIn.fill4 {w : World} {b : Nat} {mv : Value} {ms : List Mark} {nx : Nat} {br : Int} (h : RdIn w b mv ms nx br) {N : Nat} (hp : N ≠ b) (hm : mv.ownBlock ≠ some N) (v0 v1 v2 v3 : Value) : RdIn ((((w.setCell ⟨N, 0, none⟩ v0).setCell ⟨N, 1, none⟩ v1).setCell ⟨N, 2, none⟩ v2).setCell ⟨N, 3, none⟩ v3) b mv ms nx br :=
  (((h.other (p := ⟨N, 0, none⟩) hp hm v0).other (p := ⟨N, 1, none⟩) hp hm v1).other (p := ⟨N, 2, none⟩) hp hm v2).other (p := ⟨N, 3, none⟩) hp hm v3
theorem Kept.fill4 {M : List Nat} {a w : World} (h : Kept M a w) {N : Nat} (hp : N ∈ M ∨ a.heap.size ≤ N) (v0 v1 v2 v3 : Value) : Kept M a ((((w.setCell ⟨N, 0, none⟩ v0).setCell ⟨N, 1, none⟩ v1).setCell ⟨N, 2, none⟩ v2).setCell ⟨N, 3, none⟩ v3) :=
  (((h.setCell (p := ⟨N, 0, none⟩) hp v0).setCell (p := ⟨N, 1, none⟩) hp v1).setCell (p := ⟨N, 2, none⟩) hp v2).setCell (p := ⟨N, 3, none⟩) hp v3

/-- A clause's rows as they lie. -/
structure PcAt (w : World) (base : Nat) (hv bv : Value) (hts : List CTerm) (ls : List PLV) : Prop where
  head : w.ownsRow base 215 2 hv hts.length (hts.flatMap ctermVal)
  body : BodyAt w base bv ls

theorem PcAt.kept {M : List Nat} {w w' : World} {base : Nat} {hv bv : Value} {hts : List CTerm} {ls : List PLV} (h : PcAt w base hv bv hts ls) (k : Kept M w w') (hm : ∀ i, i ∈ M → i < base) : PcAt w' base hv bv hts ls := ⟨ownsRow_kept h.head k hm, h.body.kept k hm⟩
theorem PcAt.base {w : World} {base base' : Nat} {hv bv : Value} {hts : List CTerm} {ls : List PLV} (h : PcAt w base hv bv hts ls) (hb : base' ≤ base) : PcAt w base' hv bv hts ls := ⟨ownsRow_base h.head hb, h.body.base hb⟩

def ClauseOut (b : Nat) (mv : Value) (ms : List Mark) (br : Int) (w : World) (e : Ending) (w' : World) : Except Int (PC × Nat) → Prop
  | .ok (c, nx) => ∃ ad cp ad2 cp2 lvs, e = .returned (.tuple #[.agg (pcCells c.hp c.hn (.slice ad c.hts.length cp) (.slice ad2 c.body.length cp2)).toArray, .bool true]) ∧ lvs.map Prod.fst = c.body ∧ PcAt w' (w.heap.size + 1) (.slice ad c.hts.length cp) (.slice ad2 c.body.length cp2) c.hts lvs ∧ RdIn w' b mv ms nx br ∧ Kept [b] w w'
  | .error p => ∃ nx hp hn ad n cp ad2 n2 cp2, e = .returned (.tuple #[.agg (pcCells hp hn (.slice ad n cp) (.slice ad2 n2 cp2)).toArray, .bool false]) ∧ RdIn w' b mv ms nx p ∧ Kept [b] w w'

set_option maxRecDepth 100000 in
set_option maxHeartbeats 1600000 in
theorem rclause_any (b : Nat) (mv : Value) (ms : List Mark) (nx : Nat) (br : Int) (w : World) (h : RdIn w b mv ms nx br) (ok : MsOk ms) (hpl : ∀ i, (markAt ms i).place ≤ 1000000) :
    Calls Tryz.prog 115 #[.pointer (some ⟨b, 0, none⟩)] w fun e w' => ClauseOut b mv ms br w e w' (clauseM ms nx) := by
  have HO := hide ok
  have HPl := hide hpl
  clear hpl
  have hbw := h.blk.lt
  have hmb : ∀ k, mv.ownBlock = some k → k < w.heap.size := fun k hk => (h.row.lt k hk).2
  have h1 := hide (h.kept0 ((Kept.refl [] w).alloc (.cells (pcCells 0 ⟨#[]⟩ (.slice none 0 0) (.slice none 0 0)).toArray 189)))
  have hN := hide (Blk.new w (pcCells 0 ⟨#[]⟩ (.slice none 0 0) (.slice none 0 0)) 189)
  have hK1 := hide ((Kept.refl [b] w).alloc (.cells (pcCells 0 ⟨#[]⟩ (.slice none 0 0) (.slice none 0 0)).toArray 189))
  have hs1 : (w.alloc (.cells (pcCells 0 ⟨#[]⟩ (.slice none 0 0) (.slice none 0 0)).toArray 189)).heap.size = w.heap.size + 1 := by simp
  clear h ok
  go_enter Tryz.func115, Tryz.ntmps115
  go_wp2_with fail
  change Calls _ _ _ (w.alloc (.cells (pcCells 0 ⟨#[]⟩ (.slice none 0 0) (.slice none 0 0)).toArray 189)) _
  generalize w.alloc (.cells (pcCells 0 ⟨#[]⟩ (.slice none 0 0) (.slice none 0 0)).toArray 189) = w1 at h1 hN hK1 hs1 ⊢
  obtain ⟨N, hNe⟩ : ∃ N, w.heap.size = N := ⟨_, rfl⟩
  rw [hNe] at hN hbw hs1 hmb ⊢
  have HMB : Hid (∀ k, N ≤ k → mv.ownBlock ≠ some k) := fun k hk e => by have := hmb k e; omega
  clear hmb
  have HN := hide hNe
  clear hNe
  refine (ratom_any b mv ms nx br _ (unhide h1) (unhide HO)).mono ?_
  intro e w2 hout
  clear h1
  cases ht : atomM ms nx with
  | error q =>
    rw [ht] at hout
    obtain ⟨n9, ap, an, ad, an2, cp, rfl, h2, k2⟩ := hout
    have HF : Hid (clauseM ms nx = .error q) := by show _ = _; unfold clauseM; rw [ht]
    clear ht
    have hN2 := (unhide hN).kept k2 (by simp; omega)
    have hK2 := hide ((unhide hK1).trans k2)
    have c0 := hN2.cell 0
    have c1 := hN2.cell 1
    have c2 := hN2.cell 2
    have c3 := hN2.cell 3
    have nf := hN2.frozen
    have d0 := fun o => (hN2.alloc o).cell 0
    have d1 := fun o => (hN2.alloc o).cell 1
    have d2 := fun o => (hN2.alloc o).cell 2
    have d3 := fun o => (hN2.alloc o).cell 3
    have df := fun o => (hN2.alloc o).frozen
    simp [pcCells] at c0 c1 c2 c3 d0 d1 d2 d3
    have hlt2 := hN2.lt
    have q1 : ¬ N = w2.heap.size := by omega
    have q2 : ¬ w2.heap.size = N := by omega
    have HR := hide h2
    have HB := hide hN2
    clear h2 hN2 k2 hN hK1
    simp only [catomVal]
    go_wp2
    rw [HF.out]
    have hfin := ((unhide HB).fill4 rfl (.int .i64 0) (.string ⟨#[]⟩) (.slice none 0 0) (.slice none 0 0)).alloc (.cells #[.int .i64 ap, .string an, .slice ad an2 cp] 187)
    refine bodyPost_ret (res_cell_tmp (P := Tryz.prog) (fn := Tryz.f115) (p := 2) (u := 3) rfl rfl hfin Tryz.underlying189 rfl (by kernel_rfl)) rfl ?_
    refine ⟨n9, 0, ByteArray.empty, none, 0, 0, none, 0, 0, rfl, ?_, ?_⟩
    · exact ((unhide HR).fill4 (by omega) (unhide HMB N (by omega)) _ _ _ _).kept0 ((Kept.refl [] _).alloc _)
    · have := unhide HN
      exact ((unhide hK2).fill4 (by right; omega) _ _ _ _).alloc _
  | ok r =>
    obtain ⟨⟨p, s, ts⟩, n⟩ := r
    rw [ht] at hout
    obtain ⟨tv, base, rfl, hbase, hown, h2, k2⟩ := hout
    obtain ⟨ad, cp, rfl⟩ := row_nil hown
    have HFa : Hid (clauseM ms nx = if seesM (markAt ms n) colB then .error (((markAt ms n).place : Int) + 1) else if seesM (markAt ms n) cdB then (match bodyM ms (n + 1) [] with | .error q => .error q | .ok (ls, n2) => dotM ms n2 ⟨p, s, ts, ls⟩) else dotM ms n ⟨p, s, ts, []⟩) := by
      show _ = _; unfold clauseM; rw [ht]
    clear ht
    have hown2 : w2.ownsRow (N + 1) 215 2 (.slice ad ts.length cp) ts.length (ts.flatMap ctermVal) := ownsRow_base hown (by omega)
    have HTC0 : Hid (∀ k, (Value.slice ad ts.length cp).ownBlock = some k → k < w2.heap.size) := fun k e => (hown2.lt k e).2
    have hN2 := (unhide hN).kept k2 (by simp; omega)
    have hK2 := (unhide hK1).trans k2
    have hNlt := hN2.lt
    have hs2 : N + 1 ≤ w2.heap.size := by have := k2.size; omega
    clear hown hbase k2 hN hK1 hs1
    have hR3 := hide (h2.kept0 (((Kept.refl [] w2).alloc (.cells (catomVal ⟨p, s, .slice ad ts.length cp⟩).toArray 187)).alloc (.cells (pcCells p s (.slice ad ts.length cp) (.slice none 0 0)).toArray 189)))
    have hB3 := hide ((hN2.alloc (.cells (catomVal ⟨p, s, .slice ad ts.length cp⟩).toArray 187)).alloc (.cells (pcCells p s (.slice ad ts.length cp) (.slice none 0 0)).toArray 189))
    have hK3 := hide ((hK2.alloc (.cells (catomVal ⟨p, s, .slice ad ts.length cp⟩).toArray 187)).alloc (.cells (pcCells p s (.slice ad ts.length cp) (.slice none 0 0)).toArray 189))
    have hC3 : Hid (Blk ((w2.alloc (.cells (catomVal ⟨p, s, .slice ad ts.length cp⟩).toArray 187)).alloc (.cells (pcCells p s (.slice ad ts.length cp) (.slice none 0 0)).toArray 189)) (w2.heap.size + 1) (pcCells p s (.slice ad ts.length cp) (.slice none 0 0)) 189) := by
      have hh := Blk.new (w2.alloc (.cells (catomVal ⟨p, s, .slice ad ts.length cp⟩).toArray 187)) (pcCells p s (.slice ad ts.length cp) (.slice none 0 0)) 189
      rw [show (w2.alloc (.cells (catomVal ⟨p, s, .slice ad ts.length cp⟩).toArray 187)).heap.size = w2.heap.size + 1 from by simp] at hh
      exact hh
    have hO3 := hide (World.ownsRow.alloc (World.ownsRow.alloc hown2 (.cells (catomVal ⟨p, s, .slice ad ts.length cp⟩).toArray 187)) (.cells (pcCells p s (.slice ad ts.length cp) (.slice none 0 0)).toArray 189))
    clear h2 hN2 hK2 hown2
    simp only [catomVal]
    go_wp2_with fail
    change Calls _ _ _ ((w2.alloc (.cells (catomVal ⟨p, s, .slice ad ts.length cp⟩).toArray 187)).alloc (.cells (pcCells p s (.slice ad ts.length cp) (.slice none 0 0)).toArray 189)) _
    generalize (w2.alloc (.cells (catomVal ⟨p, s, .slice ad ts.length cp⟩).toArray 187)).alloc (.cells (pcCells p s (.slice ad ts.length cp) (.slice none 0 0)).toArray 189) = w3 at hR3 hB3 hK3 hC3 hO3 ⊢
    obtain ⟨C, hCe⟩ : ∃ C, w2.heap.size + 1 = C := ⟨_, rfl⟩
    have hNC : N + 1 < C := by omega
    have HTC : Hid ((Value.slice ad ts.length cp).ownBlock ≠ some C) := fun e => by have := unhide HTC0 C e; omega
    clear HTC0
    rw [hCe] at hC3 ⊢
    clear hCe hs2 hNlt
    refine (rsees_any b mv ms n br colB _ (unhide hR3) (markAt ms n) (markAt_eq (unhide hR3).lt)).mono ?_
    rintro e w4 ⟨rfl, k4⟩
    have hR4 := hide ((unhide hR3).kept0 k4)
    have hB4 := hide ((unhide hB3).kept k4 (by simp))
    have hC4 := hide ((unhide hC3).kept k4 (by simp))
    have hK4 := hide ((unhide hK3).trans (k4.mono (by simp)))
    have hO4 := hide (ownsRow_kept (unhide hO3) k4 (by simp))
    clear hR3 hB3 hC3 hK3 hO3 k4
    cases hc : seesM (markAt ms n) colB with
    | true =>
      have HF : Hid (clauseM ms nx = .error (((markAt ms n).place : Int) + 1)) := by show _ = _; rw [unhide HFa, hc]; rfl
      clear HFa hc hC4 hO4
      go_wp2_with fail
      refine (here_any b mv ms n br _ (unhide hR4) (markAt ms n) (markAt_eq (unhide hR4).lt)).mono ?_
      rintro e w5 ⟨rfl, k5⟩
      have hR5 := hide ((unhide hR4).kept0 k5)
      have hB5 := hide ((unhide hB4).kept k5 (by simp))
      have hK5 := hide ((unhide hK4).trans (k5.mono (by simp)))
      have hpl : (markAt ms n).place ≤ 1000000 := unhide HPl n
      clear hR4 hB4 hK4 k5
      go_wp2_with fail
      refine (breakAt_any b mv ms n br (((markAt ms n).place : Int) + 1) _ (unhide hR5)).mono ?_
      rintro e w6 ⟨rfl, h6, k6⟩
      have hB6 := (unhide hB5).kept k6 (by simp; omega)
      have hK6 := hide ((unhide hK5).trans k6)
      have c0 := hB6.cell 0
      have c1 := hB6.cell 1
      have c2 := hB6.cell 2
      have c3 := hB6.cell 3
      have nf := hB6.frozen
      simp [pcCells] at c0 c1 c2 c3
      have HB := hide hB6
      have HR := hide h6
      clear hB6 h6 k6 hR5 hB5 hK5
      go_wp2
      rw [HF.out]
      have hfin := (unhide HB).fill4 rfl (.int .i64 0) (.string ⟨#[]⟩) (.slice none 0 0) (.slice none 0 0)
      refine bodyPost_ret (res_cell_tmp (P := Tryz.prog) (fn := Tryz.f115) (p := 2) (u := 3) rfl rfl hfin Tryz.underlying189 rfl (by kernel_rfl)) rfl ?_
      refine ⟨n, 0, ByteArray.empty, none, 0, 0, none, 0, 0, rfl, ?_, ?_⟩
      · exact (unhide HR).fill4 (by omega) (unhide HMB N (by omega)) _ _ _ _
      · have := unhide HN
        exact (unhide hK6).fill4 (by right; omega) _ _ _ _
    | false =>
      have HC0 := hide hc
      clear hc
      go_wp2_with fail
      refine (take_any b mv ms n br cdB _ (unhide hR4) (markAt ms n) (markAt_eq (unhide hR4).lt) ((unhide HO).seen (unhide hR4).lt cdB)).mono ?_
      rintro e w5 ⟨rfl, h5, k5⟩
      have hB5 := hide ((unhide hB4).kept k5 (by simp; omega))
      have hC5 := hide ((unhide hC4).kept k5 (by simp; omega))
      have hK5 := hide ((unhide hK4).trans k5)
      have hO5 := hide (ownsRow_kept (unhide hO4) k5 (by simp; omega))
      clear hR4 hB4 hC4 hK4 hO4 k5
      cases hd : seesM (markAt ms n) cdB with
      | false =>
        rw [hd] at h5
        simp only [Bool.false_eq_true, if_false] at h5
        have HD : Hid (clauseM ms nx = dotM ms n ⟨p, s, ts, []⟩) := by show _ = _; rw [unhide HFa, unhide HC0, hd]; rfl
        have HR := hide h5
        have HB := hB5
        have HC := hC5
        have HK := hK5
        have HP : Hid (PcAt w5 (N + 1) (.slice ad ts.length cp) (.slice none 0 0) ts []) := ⟨unhide hO5, BodyAt.nil _ _⟩
        clear hd h5 HFa HC0 hB5 hC5 hK5 hO5
        have hj1 := (unhide HR).lt
        have HWd := hide (want_any b mv ms n br dotB _ ((unhide HR).kept0 (Kept.refl [] w5).drew) (markAt ms n) (markAt_eq hj1) ((unhide HO).seen hj1 dotB))
        have e0 := (unhide HC).cell 0
        have e1 := (unhide HC).cell 1
        have e2 := (unhide HC).cell 2
        have e3 := (unhide HC).cell 3
        simp [pcCells] at e0 e1 e2 e3
        have HCc : Hid (∀ w12, Kept [b] w5.drew w12 → Blk w12 N (pcCells 0 ⟨#[]⟩ (.slice none 0 0) (.slice none 0 0)) 189 ∧ Blk w12 C (pcCells p s (.slice ad ts.length cp) (.slice none 0 0)) 189) := fun w12 k => ⟨(unhide HB).drew.kept k (by simp; omega), (unhide HC).drew.kept k (by simp; omega)⟩
        have q1 : ¬ C = N := by omega
        have q2 : ¬ N = C := by omega
        clear HR HB HC
        go_wp2_with fail
        go_region_held3 (fun w' => w'.cell? ⟨C, 0, none⟩ = some (.int .i64 p) ∧ w'.cell? ⟨C, 1, none⟩ = some (.string s) ∧ w'.cell? ⟨C, 2, none⟩ = some (.slice ad ts.length cp) ∧ w'.cell? ⟨C, 3, none⟩ = some (.slice none 0 0)) (go_keep) ((go_at_call 163; refine (unhide HWd).mono ?_; rintro e w12 ⟨rfl, h12, k12⟩; have hc12 := unhide HCc w12 k12; have f0 := hc12.2.cell 0; have f1 := hc12.2.cell 1; have f2 := hc12.2.cell 2; have f3 := hc12.2.cell 3; have p0 := hc12.1.cell 0; have p1 := hc12.1.cell 1; have p2 := hc12.1.cell 2; have p3 := hc12.1.cell 3; have pf := hc12.1.frozen; simp [pcCells] at f0 f1 f2 f3 p0 p1 p2 p3; have H12 := hide (And.intro h12 (And.intro k12 hc12)); clear h12 k12 hc12))
        rename_i hHeldY
        clear hHeldY
        go_wp2
        obtain ⟨h12, k12, hc12, _⟩ := unhide H12
        have hfin := hc12.fill4 rfl (.int .i64 p) (.string s) (.slice ad ts.length cp) (.slice none 0 0)
        have hK12 : Kept [b] w w12 := (unhide HK).drew.trans k12
        have hP12 : PcAt w12 (N + 1) (.slice ad ts.length cp) (.slice none 0 0) ts [] := ((unhide HP).kept (Kept.refl [] w5).drew (by simp)).kept k12 (by simp; omega)
        refine bodyPost_ret (res_cell_tmp (P := Tryz.prog) (fn := Tryz.f115) (p := 2) (u := 3) rfl rfl hfin Tryz.underlying189 rfl (by kernel_rfl)) rfl ?_
        rw [unhide HD]
        cases hcl : seesM (markAt ms n) dotB with
        | true =>
          rw [hcl] at h12
          simp only [if_true] at h12
          unfold dotM
          rw [hcl]
          simp only [if_true]
          refine ⟨ad, cp, none, 0, [], rfl, rfl, ?_, ?_, ?_⟩
          · rw [unhide HN]
            exact hP12.kept ((Kept.refl [N] w12).fill4 (by simp) _ _ _ _) (by simp)
          · exact h12.fill4 (by omega) (unhide HMB N (by omega)) _ _ _ _
          · have := unhide HN
            exact hK12.fill4 (by right; omega) _ _ _ _
        | false =>
          rw [hcl] at h12
          simp only [Bool.false_eq_true, if_false] at h12
          unfold dotM
          rw [hcl]
          simp only [Bool.false_eq_true, if_false]
          refine ⟨n, p, s, ad, ts.length, cp, none, _, 0, rfl, ?_, ?_⟩
          · exact h12.fill4 (by omega) (unhide HMB N (by omega)) _ _ _ _
          · have := unhide HN
            exact hK12.fill4 (by right; omega) _ _ _ _
      | true =>
        rw [hd] at h5
        simp only [if_true] at h5
        have HFb : Hid (clauseM ms nx = (match bodyM ms (n + 1) [] with | .error q => .error q | .ok (ls, n2) => dotM ms n2 ⟨p, s, ts, ls⟩)) := by show _ = _; rw [unhide HFa, unhide HC0, hd]; rfl
        have HR5 := hide h5
        clear hd h5 HFa HC0
        have hClt := (unhide hC5).lt
        go_wp2_with fail
        refine (rbody_any b mv ms (n + 1) br _ (unhide HR5) (unhide HO)).mono ?_
        intro e w6 hout
        clear HR5
        cases hb : bodyM ms (n + 1) [] with
        | error q =>
          rw [hb] at hout
          obtain ⟨n9, rfl, h6, k6⟩ := hout
          have HF : Hid (clauseM ms nx = .error q) := by show _ = _; rw [unhide HFb, hb]
          have hB6 := (unhide hB5).kept k6 (by simp; omega)
          have hC6 := (unhide hC5).kept k6 (by simp; omega)
          have hK6 := hide ((unhide hK5).trans k6)
          have c0 := hB6.cell 0
          have c1 := hB6.cell 1
          have c2 := hB6.cell 2
          have c3 := hB6.cell 3
          have nf := hB6.frozen
          have d3 := hC6.cell 3
          have df := hC6.frozen
          simp [pcCells] at c0 c1 c2 c3 d3
          have q1 : ¬ C = N := by omega
          have q2 : ¬ N = C := by omega
          have HB := hide hB6
          have HR := hide h6
          clear hB6 hC6 h6 k6 hb HFb hB5 hC5 hK5 hO5
          go_wp2
          rw [HF.out]
          have hfin := ((unhide HB).set_other ⟨C, 3, none⟩ (by simp; omega) (.slice none 0 0)).fill4 rfl (.int .i64 0) (.string ⟨#[]⟩) (.slice none 0 0) (.slice none 0 0)
          refine bodyPost_ret (res_cell_tmp (P := Tryz.prog) (fn := Tryz.f115) (p := 2) (u := 3) rfl rfl hfin Tryz.underlying189 rfl (by kernel_rfl)) rfl ?_
          refine ⟨n9, 0, ByteArray.empty, none, 0, 0, none, 0, 0, rfl, ?_, ?_⟩
          · exact ((unhide HR).other (p := ⟨C, 3, none⟩) (by simp; omega) (unhide HMB C (by omega)) _).fill4 (by omega) (unhide HMB N (by omega)) _ _ _ _
          · have := unhide HN
            exact ((unhide hK6).setCell (p := ⟨C, 3, none⟩) (by right; simp; omega) _).fill4 (by right; omega) _ _ _ _
        | ok r =>
          obtain ⟨ls, n2⟩ := r
          rw [hb] at hout
          obtain ⟨ad2, cp2, lvs, rfl, hmap, hbody, h6, k6⟩ := hout
          have HD : Hid (clauseM ms nx = dotM ms n2 ⟨p, s, ts, ls⟩) := by show _ = _; rw [unhide HFb, hb]
          have hB6 := (unhide hB5).kept k6 (by simp; omega)
          have hC6 := (unhide hC5).kept k6 (by simp; omega)
          have hK6 := (unhide hK5).trans k6
          have hO6 := ownsRow_kept (unhide hO5) k6 (by simp; omega)
          have d3 := hC6.cell 3
          have df := hC6.frozen
          simp [pcCells] at d3
          have HB7 := hide hB6
          have HC7 := hide hC6
          have HK7 := hide hK6
          have HO7 := hide hO6
          have HBd := hide (And.intro hmap hbody)
          have HR7 := hide h6
          clear hB6 hC6 hK6 hO6 hmap hbody h6 k6 hb HFb hB5 hC5 hK5 hO5
          go_wp2_with fail
          have hC5w : C < w5.heap.size := hClt
          have HR := hide ((unhide HR7).other (p := ⟨C, 3, none⟩) (by simp; omega) (unhide HMB C (by omega)) (.slice ad2 ls.length cp2))
          have HB := hide ((unhide HB7).set_other ⟨C, 3, none⟩ (by simp; omega) (.slice ad2 ls.length cp2))
          have HC : Hid (Blk (w6.setCell ⟨C, 3, none⟩ (.slice ad2 ls.length cp2)) C (pcCells p s (.slice ad ts.length cp) (.slice ad2 ls.length cp2)) 189) := (unhide HC7).set 3 _
          have HK : Hid (Kept [b] w (w6.setCell ⟨C, 3, none⟩ (.slice ad2 ls.length cp2))) := by
            have := unhide HN
            exact (unhide HK7).setCell (p := ⟨C, 3, none⟩) (by right; simp; omega) _
          have HP : Hid (PcAt (w6.setCell ⟨C, 3, none⟩ (.slice ad2 ls.length cp2)) (N + 1) (.slice ad ts.length cp) (.slice ad2 ls.length cp2) ts lvs) := by
            have kC : Kept [C] w6 (w6.setCell ⟨C, 3, none⟩ (.slice ad2 ls.length cp2)) := (Kept.refl [C] w6).setCell (by simp) _
            refine ⟨?_, ((unhide HBd).2.kept kC (by simp; omega)).base (by omega)⟩
            exact ownsRow_set (unhide HO7) (p := ⟨C, 3, none⟩) (unhide HTC) _
          have HM : Hid (lvs.map Prod.fst = ls) := (unhide HBd).1
          clear HR7 HB7 HC7 HK7 HO7 HBd d3 df
          generalize w6.setCell ⟨C, 3, none⟩ (.slice ad2 ls.length cp2) = w7 at HR HB HC HK HP ⊢
          have hj1 := (unhide HR).lt
          have HWd := hide (want_any b mv ms n2 br dotB _ ((unhide HR).kept0 (Kept.refl [] w7).drew) (markAt ms n2) (markAt_eq hj1) ((unhide HO).seen hj1 dotB))
          have e0 := (unhide HC).cell 0
          have e1 := (unhide HC).cell 1
          have e2 := (unhide HC).cell 2
          have e3 := (unhide HC).cell 3
          simp [pcCells] at e0 e1 e2 e3
          have HCc : Hid (∀ w12, Kept [b] w7.drew w12 → Blk w12 N (pcCells 0 ⟨#[]⟩ (.slice none 0 0) (.slice none 0 0)) 189 ∧ Blk w12 C (pcCells p s (.slice ad ts.length cp) (.slice ad2 ls.length cp2)) 189) := fun w12 k => ⟨(unhide HB).drew.kept k (by simp; omega), (unhide HC).drew.kept k (by simp; omega)⟩
          have q1 : ¬ C = N := by omega
          have q2 : ¬ N = C := by omega
          clear HR HB HC
          go_wp2_with fail
          go_region_held3 (fun w' => w'.cell? ⟨C, 0, none⟩ = some (.int .i64 p) ∧ w'.cell? ⟨C, 1, none⟩ = some (.string s) ∧ w'.cell? ⟨C, 2, none⟩ = some (.slice ad ts.length cp) ∧ w'.cell? ⟨C, 3, none⟩ = some (.slice ad2 ls.length cp2)) (go_keep) ((go_at_call 163; refine (unhide HWd).mono ?_; rintro e w12 ⟨rfl, h12, k12⟩; have hc12 := unhide HCc w12 k12; have f0 := hc12.2.cell 0; have f1 := hc12.2.cell 1; have f2 := hc12.2.cell 2; have f3 := hc12.2.cell 3; have p0 := hc12.1.cell 0; have p1 := hc12.1.cell 1; have p2 := hc12.1.cell 2; have p3 := hc12.1.cell 3; have pf := hc12.1.frozen; simp [pcCells] at f0 f1 f2 f3 p0 p1 p2 p3; have H12 := hide (And.intro h12 (And.intro k12 hc12)); clear h12 k12 hc12))
          rename_i hHeldY
          clear hHeldY
          go_wp2
          obtain ⟨h12, k12, hc12, _⟩ := unhide H12
          have hfin := hc12.fill4 rfl (.int .i64 p) (.string s) (.slice ad ts.length cp) (.slice ad2 ls.length cp2)
          have hK12 : Kept [b] w w12 := (unhide HK).drew.trans k12
          have hP12 : PcAt w12 (N + 1) (.slice ad ts.length cp) (.slice ad2 ls.length cp2) ts lvs := ((unhide HP).kept (Kept.refl [] w7).drew (by simp)).kept k12 (by simp; omega)
          refine bodyPost_ret (res_cell_tmp (P := Tryz.prog) (fn := Tryz.f115) (p := 2) (u := 3) rfl rfl hfin Tryz.underlying189 rfl (by kernel_rfl)) rfl ?_
          rw [unhide HD]
          cases hcl : seesM (markAt ms n2) dotB with
          | true =>
            rw [hcl] at h12
            simp only [if_true] at h12
            unfold dotM
            rw [hcl]
            simp only [if_true]
            refine ⟨ad, cp, ad2, cp2, lvs, rfl, unhide HM, ?_, ?_, ?_⟩
            · rw [unhide HN]
              exact hP12.kept ((Kept.refl [N] w12).fill4 (by simp) _ _ _ _) (by simp)
            · exact h12.fill4 (by omega) (unhide HMB N (by omega)) _ _ _ _
            · have := unhide HN
              exact hK12.fill4 (by right; omega) _ _ _ _
          | false =>
            rw [hcl] at h12
            simp only [Bool.false_eq_true, if_false] at h12
            unfold dotM
            rw [hcl]
            simp only [Bool.false_eq_true, if_false]
            refine ⟨n2, p, s, ad, ts.length, cp, ad2, _, cp2, rfl, ?_, ?_⟩
            · exact h12.fill4 (by omega) (unhide HMB N (by omega)) _ _ _ _
            · have := unhide HN
              exact hK12.fill4 (by right; omega) _ _ _ _

end Go.Proofs.YtoihbhenbmffcaaGreatDoor
