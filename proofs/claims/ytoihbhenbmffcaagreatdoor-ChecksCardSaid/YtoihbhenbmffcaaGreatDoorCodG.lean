import Derived.Test.YtoihbhenbmffcaaGreatDoorCodE
set_option linter.unusedVariables false
set_option linter.unusedSimpArgs false

namespace Go.Proofs.YtoihbhenbmffcaaGreatDoor
open Go.RowKit

/-- The marks of a text: only the last is an end; no text is long. -/
structure MsOk (ms : List Mark) : Prop where
  ends : ∀ i (h : i < ms.length), (ms[i].kind == 1) = false → i + 1 < ms.length
  text : ∀ i (h : i < ms.length), ms[i].text.size ≤ 2000

/-- What reading a term comes to: the term and where the reader then stands, or the place at which the text breaks off. -/
def termM (m : Mark) (nx : Nat) : Except Int (CTerm × Nat) :=
  if m.kind == 2 || m.kind == 3 then .ok (⟨0, thingB m.text⟩, nx + 1)
  else if m.kind == 4 then .ok (⟨lastRune m.text 0 0, ByteArray.empty⟩, nx + 1)
  else .error m.place

/-- What a call that reads a term answers. -/
def TermOut (b : Nat) (mv : Value) (ms : List Mark) (br : Int) (w : World) (e : Ending) (w' : World) : Except Int (CTerm × Nat) → Prop
  | .ok (t, nx) => e = .returned (.tuple #[.agg (ctermVal t).toArray, .bool true]) ∧ RdIn w' b mv ms nx br ∧ Kept [b] w w'
  | .error p => ∃ nx, e = .returned (.tuple #[.agg (ctermVal noCTerm).toArray, .bool false]) ∧ RdIn w' b mv ms nx p ∧ Kept [b] w w'

theorem rterm_any (b : Nat) (mv : Value) (ms : List Mark) (nx : Nat) (br : Int) (w : World) (h : RdIn w b mv ms nx br) (ok : MsOk ms) (m : Mark) (hm : ms[nx]'h.lt = m) :
    Calls Tryz.prog 193 #[.pointer (some ⟨b, 0, none⟩)] w fun e w' => TermOut b mv ms br w e w' (termM m nx) := by
  have hend : (m.kind == 1) = false → nx + 1 < ms.length := by rw [← hm]; exact ok.ends nx h.lt
  have htx : m.text.size ≤ 2000 := by rw [← hm]; exact ok.text nx h.lt
  have kk : ∀ k : Int, (m.kind == k) = true → k ≠ 1 → (m.kind == 1) = false := fun k hk hn => by
    have : m.kind = k := by simpa using hk
    rw [this]; simpa using hn
  cases e2 : (m.kind == 2) with
  | true =>
    refine (rterm_thing b mv ms nx br w h m hm (Or.inl e2) (hend (kk 2 e2 (by decide)))).mono ?_
    intro e w' hh
    simp only [termM, e2, Bool.true_or, if_true]
    exact hh
  | false =>
    cases e3 : (m.kind == 3) with
    | true =>
      refine (rterm_thing b mv ms nx br w h m hm (Or.inr ⟨e2, e3⟩) (hend (kk 3 e3 (by decide)))).mono ?_
      intro e w' hh
      simp only [termM, e3, Bool.or_true, if_true]
      exact hh
    | false =>
      cases e4 : (m.kind == 4) with
      | true =>
        refine (rterm_var b mv ms nx br w h m hm e2 e3 e4 (hend (kk 4 e4 (by decide))) htx).mono ?_
        intro e w' hh
        simp only [termM, e2, e3, e4, Bool.or_self, Bool.false_eq_true, if_false, if_true]
        exact hh
      | false =>
        refine (rterm_none b mv ms nx br w h m hm e2 e3 e4).mono ?_
        intro e w' hh
        simp only [termM, e2, e3, e4, Bool.or_self, Bool.false_eq_true, if_false]
        exact ⟨nx, hh⟩

/-- The sign that opens an atom's arguments. -/
def parB : ByteArray := ⟨#[40]⟩

theorem parB_list : parB.toList = [40] := by kernel_rfl

def seesAtomM (ms : List Mark) (nx : Nat) : Bool :=
  match ms[nx]?, ms[nx + 1]? with
  | some m, some m' => m.kind == 2 && seesM m' parB
  | _, _ => false

set_option maxRecDepth 100000 in
set_option maxHeartbeats 1600000 in
theorem seesAtom_any (b : Nat) (mv : Value) (ms : List Mark) (nx : Nat) (br : Int) (w : World) (h : RdIn w b mv ms nx br) (ok : MsOk ms) :
    Calls Tryz.prog 199 #[.pointer (some ⟨b, 0, none⟩)] w fun e w' => e = .returned (.bool (seesAtomM ms nx)) ∧ Kept [] w w' := by
  obtain ⟨g, cap, rfl, b0, b1, _, hc⟩ := h.cells
  have hlt0 := h.lt
  have hl := h.len
  obtain ⟨c0, _, _⟩ := hc nx hlt0
  obtain ⟨m, hm⟩ : ∃ m, ms[nx] = m := ⟨_, rfl⟩
  have hend := ok.ends nx hlt0
  rw [hm] at c0 hend
  have hlt : (nx : Int) < (ms.length : Int) := by omega
  have hnx0 : (0 : Int) ≤ (nx : Int) := by omega
  clear h ok
  cases hk : (m.kind == 2) with
  | false =>
    have HF : Hid (seesAtomM ms nx = false) := by
      show _ = _
      unfold seesAtomM
      rw [List.getElem?_eq_getElem hlt0, hm]
      split
      · rename_i heq _; simp only [Option.some.injEq] at heq; subst heq; simp [hk]
      · rfl
    have hk2 : (m.kind != 2) = true := by simp [bne, hk]
    clear hc hend hm
    go_enter Tryz.func199, Tryz.ntmps199
    go_wp2
    go_quiet (fail)
    go_wp2
    go_ret
    exact ⟨by rw [HF.out]; rfl, (Kept.refl _ _).drewN _⟩
  | true =>
    have hn := hend (by have : m.kind = 2 := by simpa using hk
                        rw [this]; decide)
    obtain ⟨m', hm'⟩ : ∃ m', ms[nx + 1] = m' := ⟨_, rfl⟩
    obtain ⟨d0, d1, d2⟩ := hc (nx + 1) hn
    rw [hm'] at d0 d1 d2
    have HF : Hid (seesAtomM ms nx = seesM m' parB) := by
      show _ = _
      unfold seesAtomM
      rw [List.getElem?_eq_getElem hlt0, hm, List.getElem?_eq_getElem hn, hm']
      simp [hk]
    have hk2 : (m.kind != 2) = false := by simp [bne, hk]
    obtain ⟨k, hkk⟩ : ∃ k, nx + 1 = k := ⟨_, rfl⟩
    have hw : IntKind.i64.wrap ((nx : Int) + 1) = (k : Int) := by
      rw [IntKind.wrap_i64]; omega
    have hk0 : (0 : Int) ≤ (k : Int) := by omega
    have hkl : (k : Int) < (ms.length : Int) := by omega
    rw [hkk] at d0 d1 d2
    clear hc hend hm hm' hn hkk
    go_enter Tryz.func199, Tryz.ntmps199
    go_wp2
    go_quiet (fail)
    have hK0 : Kept [] w (w.drewN nq) := (Kept.refl _ _).drewN _
    have b0' : (w.drewN nq).cell? ⟨b, 0, none⟩ = some (.slice (some ⟨g, 0, none⟩) ms.length cap) := b0
    have b1' : (w.drewN nq).cell? ⟨b, 1, none⟩ = some (.int .i64 nx) := b1
    have d0' : (w.drewN nq).cell? ⟨g, k * 3, none⟩ = some (.int .i64 m'.kind) := d0
    have d1' : (w.drewN nq).cell? ⟨g, k * 3 + 1, none⟩ = some (.int .i64 m'.place) := d1
    have d2' : (w.drewN nq).cell? ⟨g, k * 3 + 2, none⟩ = some (.string m'.text) := d2
    clear b0 b1 c0 d0 d1 d2
    generalize w.drewN nq = w1 at *
    have n0 := World.new_ne w1 _ b0'
    have n1 := World.new_ne w1 _ b1'
    have n2 := World.new_ne w1 _ d0'
    have n3 := World.new_ne w1 _ d1'
    have n4 := World.new_ne w1 _ d2'
    go_wp2_with fail
    go_region_held3 (fun w' => w'.cell? ⟨b, 0, none⟩ = some (.slice (some ⟨g, 0, none⟩) ms.length cap) ∧ w'.cell? ⟨b, 1, none⟩ = some (.int .i64 nx) ∧ w'.cell? ⟨g, k * 3, none⟩ = some (.int .i64 m'.kind) ∧ w'.cell? ⟨g, k * 3 + 1, none⟩ = some (.int .i64 m'.place) ∧ w'.cell? ⟨g, k * 3 + 2, none⟩ = some (.string m'.text)) (go_keep) (fail)
    cases hs : (m'.kind == 5) with
    | true =>
      have HS : Hid (seesM m' parB = (m'.text.toList == parB.toList)) := by show _ = _; simp [seesM, hs]
      go_wp2
      all_goals
        go_ret
        refine ⟨ret_bool ?_, ?_⟩
        · rw [HF.out, HS.out, parB_list]
        · repeat (first | refine Kept.drew ?_ | refine Kept.setCell ?_ (by simp) _ | refine Kept.alloc ?_ _ | refine Kept.drewN ?_ _)
          exact hK0
    | false =>
      have HS : Hid (seesM m' parB = false) := by show _ = _; simp [seesM, hs]
      go_wp2
      all_goals
        go_ret
        refine ⟨ret_bool ?_, ?_⟩
        · rw [HF.out, HS.out]
        · repeat (first | refine Kept.drew ?_ | refine Kept.setCell ?_ (by simp) _ | refine Kept.alloc ?_ _ | refine Kept.drewN ?_ _)
          exact hK0

end Go.Proofs.YtoihbhenbmffcaaGreatDoor

namespace Go.Proofs.YtoihbhenbmffcaaGreatDoor
open Go.RowKit

/-- An atom of the program's, as it lies: its place, its name, its slice of terms. -/
structure CAtom where
  place : Int
  name : ByteArray
  tv : Value

def catomVal (a : CAtom) : List Value := [.int .i64 a.place, .string a.name, a.tv]
def noCAtom : CAtom := ⟨0, ByteArray.empty, .slice none 0 0⟩

/-- A literal of the program's, as it lies. -/
structure CLit where
  place : Int
  sort : Int
  atom : CAtom
  left : CTerm
  right : CTerm

/-- A literal's cells. -/
def clitCells (l : CLit) : List Value := [.int .i64 l.place, .int .i64 l.sort, .int .i64 l.atom.place, .string l.atom.name, l.atom.tv, .int .i32 l.left.v, .string l.left.s, .int .i32 l.right.v, .string l.right.s]
def noCLit : CLit := ⟨0, 0, noCAtom, noCTerm, noCTerm⟩

def markAt (ms : List Mark) (i : Nat) : Mark := ms.getD i ⟨1, 0, ByteArray.empty⟩
theorem markAt_eq {ms : List Mark} {i : Nat} (h : i < ms.length) : ms[i] = markAt ms i := by simp [markAt, h]

theorem MsOk.seen {ms : List Mark} (ok : MsOk ms) {i : Nat} (h : i < ms.length) (t : ByteArray) (hs : seesM (markAt ms i) t = true) : i + 1 < ms.length := by
  refine ok.ends i h ?_
  rw [markAt_eq h]
  unfold seesM at hs
  rw [Bool.and_eq_true] at hs
  have : (markAt ms i).kind = 5 := by simpa using hs.1
  rw [this]; decide

theorem fill9_list (cs : List Value) (hl : cs.length = 9) (v0 v1 v2 v3 v4 v5 v6 v7 v8 : Value) : (((((((((cs.set 0 v0).set 1 v1).set 2 v2).set 3 v3).set 4 v4).set 5 v5).set 6 v6).set 7 v7).set 8 v8) = [v0, v1, v2, v3, v4, v5, v6, v7, v8] := by
  match cs, hl with
  | [a0, a1, a2, a3, a4, a5, a6, a7, a8], _ => rfl

theorem Blk.fill9 {w : World} {N : Nat} {cs : List Value} {t : TypeId} (h : Blk w N cs t) (hl : cs.length = 9) (v0 v1 v2 v3 v4 v5 v6 v7 v8 : Value) : Blk (((((((((w.setCell ⟨N, 0, none⟩ v0).setCell ⟨N, 1, none⟩ v1).setCell ⟨N, 2, none⟩ v2).setCell ⟨N, 3, none⟩ v3).setCell ⟨N, 4, none⟩ v4).setCell ⟨N, 5, none⟩ v5).setCell ⟨N, 6, none⟩ v6).setCell ⟨N, 7, none⟩ v7).setCell ⟨N, 8, none⟩ v8) N [v0, v1, v2, v3, v4, v5, v6, v7, v8] t := by
  have hh := (((((((((h.set 0 v0).set 1 v1).set 2 v2).set 3 v3).set 4 v4).set 5 v5).set 6 v6).set 7 v7).set 8 v8)
  rw [fill9_list cs hl] at hh
  exact hh

def eqB : ByteArray := ⟨#[61]⟩
def neB : ByteArray := ⟨#[35]⟩
def ltB : ByteArray := ⟨#[60]⟩

/-- The sort that a comparison's sign says. -/
def sortM (m : Mark) : Option Int := if seesM m eqB then some 2 else if seesM m neB then some 3 else if seesM m ltB then some 4 else none

def cmpM (ms : List Mark) (nx : Nat) : Except Int (CLit × Nat) :=
  match termM (markAt ms nx) nx with
  | .error p => .error p
  | .ok (l, n1) =>
    match sortM (markAt ms n1) with
    | none => .error (markAt ms n1).place
    | some s =>
      match termM (markAt ms (n1 + 1)) (n1 + 1) with
      | .error p => .error p
      | .ok (r, n2) => .ok (⟨(markAt ms nx).place, s, noCAtom, l, r⟩, n2)

theorem cmpM_atom {ms : List Mark} {nx : Nat} {l : CLit} {n : Nat} (h : cmpM ms nx = .ok (l, n)) : l.atom = noCAtom := by
  unfold cmpM at h
  split at h
  · cases h
  · split at h
    · cases h
    · split at h
      · cases h
      · simp only [Except.ok.injEq, Prod.mk.injEq] at h
        rw [← h.1]

theorem RdIn.other {w : World} {b : Nat} {mv : Value} {ms : List Mark} {nx : Nat} {br : Int} (h : RdIn w b mv ms nx br) {p : Addr} (hp : p.block ≠ b) (hm : mv.ownBlock ≠ some p.block) (u : Value) : RdIn (w.setCell p u) b mv ms nx br :=
  ⟨h.blk.set_other _ hp _, ownsRow_set h.row hm _, h.ap, h.lt, h.len⟩

theorem RdIn.fill9 {w : World} {b : Nat} {mv : Value} {ms : List Mark} {nx : Nat} {br : Int} (h : RdIn w b mv ms nx br) {N : Nat} (hp : N ≠ b) (hm : mv.ownBlock ≠ some N) (v0 v1 v2 v3 v4 v5 v6 v7 v8 : Value) : RdIn (((((((((w.setCell ⟨N, 0, none⟩ v0).setCell ⟨N, 1, none⟩ v1).setCell ⟨N, 2, none⟩ v2).setCell ⟨N, 3, none⟩ v3).setCell ⟨N, 4, none⟩ v4).setCell ⟨N, 5, none⟩ v5).setCell ⟨N, 6, none⟩ v6).setCell ⟨N, 7, none⟩ v7).setCell ⟨N, 8, none⟩ v8) b mv ms nx br :=
  (((((((((h.other (p := ⟨N, 0, none⟩) hp hm v0).other (p := ⟨N, 1, none⟩) hp hm v1).other (p := ⟨N, 2, none⟩) hp hm v2).other (p := ⟨N, 3, none⟩) hp hm v3).other (p := ⟨N, 4, none⟩) hp hm v4).other (p := ⟨N, 5, none⟩) hp hm v5).other (p := ⟨N, 6, none⟩) hp hm v6).other (p := ⟨N, 7, none⟩) hp hm v7).other (p := ⟨N, 8, none⟩) hp hm v8)

theorem Kept.fill9 {M : List Nat} {a w : World} (h : Kept M a w) {N : Nat} (hp : N ∈ M ∨ a.heap.size ≤ N) (v0 v1 v2 v3 v4 v5 v6 v7 v8 : Value) : Kept M a (((((((((w.setCell ⟨N, 0, none⟩ v0).setCell ⟨N, 1, none⟩ v1).setCell ⟨N, 2, none⟩ v2).setCell ⟨N, 3, none⟩ v3).setCell ⟨N, 4, none⟩ v4).setCell ⟨N, 5, none⟩ v5).setCell ⟨N, 6, none⟩ v6).setCell ⟨N, 7, none⟩ v7).setCell ⟨N, 8, none⟩ v8) :=
  (((((((((h.setCell (p := ⟨N, 0, none⟩) hp v0).setCell (p := ⟨N, 1, none⟩) hp v1).setCell (p := ⟨N, 2, none⟩) hp v2).setCell (p := ⟨N, 3, none⟩) hp v3).setCell (p := ⟨N, 4, none⟩) hp v4).setCell (p := ⟨N, 5, none⟩) hp v5).setCell (p := ⟨N, 6, none⟩) hp v6).setCell (p := ⟨N, 7, none⟩) hp v7).setCell (p := ⟨N, 8, none⟩) hp v8)

/-- What a call that reads a comparison answers. -/
def CmpOut (b : Nat) (mv : Value) (ms : List Mark) (br : Int) (w : World) (e : Ending) (w' : World) : Except Int (CLit × Nat) → Prop
  | .ok (l, nx) => e = .returned (.tuple #[.agg (clitCells l).toArray, .bool true]) ∧ RdIn w' b mv ms nx br ∧ Kept [b] w w'
  | .error p => ∃ nx l, l.atom = noCAtom ∧ e = .returned (.tuple #[.agg (clitCells l).toArray, .bool false]) ∧ RdIn w' b mv ms nx p ∧ Kept [b] w w'

set_option maxRecDepth 100000 in
set_option maxHeartbeats 1600000 in
theorem cmp_any (b : Nat) (mv : Value) (ms : List Mark) (nx : Nat) (br : Int) (w : World) (h : RdIn w b mv ms nx br) (ok : MsOk ms) :
    Calls Tryz.prog 200 #[.pointer (some ⟨b, 0, none⟩)] w fun e w' => CmpOut b mv ms br w e w' (cmpM ms nx) := by
  have HO := hide ok
  have hbw := h.blk.lt
  have hmb : ∀ k, mv.ownBlock = some k → k < w.heap.size := fun k hk => (h.row.lt k hk).2
  have h1 := hide (h.kept0 ((Kept.refl [] w).alloc (.cells (clitCells noCLit).toArray 217)))
  have hN := hide (Blk.new w (clitCells noCLit) 217)
  have hK1 := hide ((Kept.refl [b] w).alloc (.cells (clitCells noCLit).toArray 217))
  have hs1 : (w.alloc (.cells (clitCells noCLit).toArray 217)).heap.size = w.heap.size + 1 := by simp
  clear h ok
  go_enter Tryz.func200, Tryz.ntmps200
  go_wp2_with fail
  change Calls _ _ _ (w.alloc (.cells (clitCells noCLit).toArray 217)) _
  generalize w.alloc (.cells (clitCells noCLit).toArray 217) = w1 at h1 hN hK1 hs1 ⊢
  obtain ⟨N, hNe⟩ : ∃ N, w.heap.size = N := ⟨_, rfl⟩
  rw [hNe] at hN hbw hs1 hmb ⊢
  have HMB : Hid (∀ k, N ≤ k → mv.ownBlock ≠ some k) := fun k hk e => by have := hmb k e; omega
  clear hmb
  have HN := hide hNe
  clear hNe
  refine (here_any b mv ms nx br _ (unhide h1) (markAt ms nx) (markAt_eq (unhide h1).lt)).mono ?_
  rintro e w2 ⟨rfl, k2⟩
  have h2 := hide ((unhide h1).kept0 k2)
  have hN2 := hide ((unhide hN).kept k2 (by simp))
  have hK2 := hide ((unhide hK1).trans (k2.mono (by simp)))
  have hs2 : N + 1 ≤ w2.heap.size := by have := k2.size; omega
  clear h1 hN hK1 hs1 k2
  obtain ⟨p, hp⟩ : ∃ p, (markAt ms nx).place = p := ⟨_, rfl⟩
  have HP := hide hp
  rw [hp]
  clear hp
  go_wp2_with fail
  change Calls _ _ _ (w2.alloc (.cells (clitCells ⟨p, 0, noCAtom, noCTerm, noCTerm⟩).toArray 217)) _
  have h3 := hide ((unhide h2).kept0 ((Kept.refl [] w2).alloc (.cells (clitCells ⟨p, 0, noCAtom, noCTerm, noCTerm⟩).toArray 217)))
  have hN3 := hide ((unhide hN2).alloc (.cells (clitCells ⟨p, 0, noCAtom, noCTerm, noCTerm⟩).toArray 217))
  have hL3 := hide (Blk.new w2 (clitCells ⟨p, 0, noCAtom, noCTerm, noCTerm⟩) 217)
  have hK3 := hide ((unhide hK2).alloc (.cells (clitCells ⟨p, 0, noCAtom, noCTerm, noCTerm⟩).toArray 217))
  clear h2 hN2 hK2
  generalize w2.alloc (.cells (clitCells ⟨p, 0, noCAtom, noCTerm, noCTerm⟩).toArray 217) = w3 at h3 hN3 hL3 hK3 ⊢
  obtain ⟨L, hLe⟩ : ∃ L, w2.heap.size = L := ⟨_, rfl⟩
  rw [hLe] at hL3 hs2 ⊢
  clear hLe
  refine (rterm_any b mv ms nx br _ (unhide h3) (unhide HO) (markAt ms nx) (markAt_eq (unhide h3).lt)).mono ?_
  intro e w4 hout
  cases ht : termM (markAt ms nx) nx with
  | error q =>
    rw [ht] at hout
    obtain ⟨n9, rfl, h4, k4⟩ := hout
    have HF : Hid (cmpM ms nx = .error q) := by show _ = _; unfold cmpM; rw [ht]
    have hN4 := (unhide hN3).kept k4 (by simp; omega)
    have hL4 := (unhide hL3).kept k4 (by simp; omega)
    have hK4 := hide ((unhide hK3).trans k4)
    clear h3 hN3 hL3 hK3 ht k4
    have l5 := hL4.cell 5
    have l6 := hL4.cell 6
    have lf := hL4.frozen
    have nf := hN4.frozen
    have c0 := hN4.cell 0
    have c1 := hN4.cell 1
    have c2 := hN4.cell 2
    have c3 := hN4.cell 3
    have c4 := hN4.cell 4
    have c5 := hN4.cell 5
    have c6 := hN4.cell 6
    have c7 := hN4.cell 7
    have c8 := hN4.cell 8
    simp [clitCells, noCLit, noCAtom, noCTerm] at l5 l6 c0 c1 c2 c3 c4 c5 c6 c7 c8
    have q1 : ¬ L = N := by omega
    have q2 : ¬ N = L := by omega
    have HB := hide hN4
    have HR := hide h4
    clear hN4 hL4 h4
    simp only [ctermVal, noCTerm]
    go_wp2
    rw [HF.out]
    have hfin := (((unhide HB).set_other ⟨L, 5, none⟩ (by simp; omega) (.int .i32 0)).set_other ⟨L, 6, none⟩ (by simp; omega) (.string ByteArray.empty)).fill9 rfl (.int .i64 0) (.int .i64 0) (.int .i64 0) (.string ⟨#[]⟩) (.slice none 0 0) (.int .i32 0) (.string ⟨#[]⟩) (.int .i32 0) (.string ⟨#[]⟩)
    refine bodyPost_ret (res_cell_tmp (P := Tryz.prog) (fn := Tryz.f200) (p := 2) (u := 3) rfl rfl hfin Tryz.underlying217 rfl (by kernel_rfl)) rfl ?_
    refine ⟨n9, noCLit, rfl, rfl, ?_, ?_⟩
    · exact (((unhide HR).other (p := ⟨L, 5, none⟩) (by simp; omega) (unhide HMB L (by omega)) _).other (p := ⟨L, 6, none⟩) (by simp; omega) (unhide HMB L (by omega)) _).fill9 (by omega) (unhide HMB N (by omega)) _ _ _ _ _ _ _ _ _
    · have hN0 := unhide HN
      exact (((unhide hK4).setCell (p := ⟨L, 5, none⟩) (by right; simp; omega) _).setCell (p := ⟨L, 6, none⟩) (by right; simp; omega) _).fill9 (by right; omega) _ _ _ _ _ _ _ _ _
  | ok r =>
    obtain ⟨l, n1⟩ := r
    rw [ht] at hout
    obtain ⟨rfl, h4, k4⟩ := hout
    have hN4 := (unhide hN3).kept k4 (by simp; omega)
    have hL4 := (unhide hL3).kept k4 (by simp; omega)
    have hK4 := hide ((unhide hK3).trans k4)
    have HT := hide ht
    clear h3 hN3 hL3 hK3 k4 ht
    have l5 := hL4.cell 5
    have l6 := hL4.cell 6
    have lf := hL4.frozen
    simp [clitCells, noCLit, noCAtom, noCTerm] at l5 l6
    have HN4 := hide hN4
    have HL4 := hide hL4
    have HR := hide h4
    clear hN4 hL4 h4
    simp only [ctermVal]
    go_wp2_with fail
    have hb0 := unhide HMB
    have hN0 := unhide HN
    have h5 : RdIn ((w4.setCell ⟨L, 5, none⟩ (.int .i32 l.v)).setCell ⟨L, 6, none⟩ (.string l.s)) b mv ms n1 br := by
      exact ((unhide HR).other (p := ⟨L, 5, none⟩) (by simp; omega) (hb0 L (by omega)) _).other (p := ⟨L, 6, none⟩) (by simp; omega) (hb0 L (by omega)) _
    have hN5 := hide (((unhide HN4).set_other ⟨L, 5, none⟩ (by simp; omega) (.int .i32 l.v)).set_other ⟨L, 6, none⟩ (by simp; omega) (.string l.s))
    have hL5 : Hid (Blk ((w4.setCell ⟨L, 5, none⟩ (.int .i32 l.v)).setCell ⟨L, 6, none⟩ (.string l.s)) L (clitCells ⟨p, 0, noCAtom, l, noCTerm⟩) 217) := ((unhide HL4).set 5 _).set 6 _
    have hK5 := hide (((unhide hK4).setCell (p := ⟨L, 5, none⟩) (by right; simp; omega) (.int .i32 l.v)).setCell (p := ⟨L, 6, none⟩) (by right; simp; omega) (.string l.s))
    clear l5 l6 lf HN4 HL4 HR hK4 hb0 hN0
    generalize (w4.setCell ⟨L, 5, none⟩ (.int .i32 l.v)).setCell ⟨L, 6, none⟩ (.string l.s) = w5 at h5 hN5 hL5 hK5 ⊢
    have H5 := hide h5
    clear h5
    refine (take_any b mv ms n1 br eqB _ (unhide H5) (markAt ms n1) (markAt_eq (unhide H5).lt) ((unhide HO).seen (unhide H5).lt eqB)).mono ?_
    rintro e w6 ⟨rfl, h6, k6⟩
    have hN6 := hide ((unhide hN5).kept k6 (by simp; omega))
    have hL6 := hide ((unhide hL5).kept k6 (by simp; omega))
    have hK6 := hide ((unhide hK5).trans k6)
    clear H5 hN5 hL5 hK5 k6
    cases s1 : seesM (markAt ms n1) eqB with
    | true =>
      rw [s1] at h6
      simp only [if_true] at h6
      have HS : Hid (sortM (markAt ms n1) = some 2) := by show _ = _; simp [sortM, s1]
      clear s1
      have l1 := (unhide hL6).cell 1
      have lf := (unhide hL6).frozen
      simp [clitCells] at l1
      have H6 := hide h6
      clear h6
      go_wp2_with fail
      have hb0 := unhide HMB
      have hN0 := unhide HN
      have hR : RdIn (w6.setCell ⟨L, 1, none⟩ (.int .i64 2)) b mv ms (n1 + 1) br := (unhide H6).other (p := ⟨L, 1, none⟩) (by simp; omega) (hb0 L (by omega)) _
      have hB : Hid (Blk (w6.setCell ⟨L, 1, none⟩ (.int .i64 2)) N (clitCells noCLit) 217) := (unhide hN6).set_other ⟨L, 1, none⟩ (by simp; omega) _
      have hL : Hid (Blk (w6.setCell ⟨L, 1, none⟩ (.int .i64 2)) L (clitCells ⟨p, 2, noCAtom, l, noCTerm⟩) 217) := (unhide hL6).set 1 _
      have hK := hide ((unhide hK6).setCell (p := ⟨L, 1, none⟩) (by right; simp; omega) (.int .i64 2))
      clear l1 lf hN6 hL6 hK6 hb0 hN0 H6
      generalize w6.setCell ⟨L, 1, none⟩ (.int .i64 2) = w9 at hR hB hL hK ⊢
      refine (rterm_any b mv ms (n1 + 1) br _ hR (unhide HO) (markAt ms (n1 + 1)) (markAt_eq hR.lt)).mono ?_
      intro e w10 hout
      clear hR
      cases ht2 : termM (markAt ms (n1 + 1)) (n1 + 1) with
      | error q =>
        rw [ht2] at hout
        obtain ⟨n9, rfl, h10, k10⟩ := hout
        have HF : Hid (cmpM ms nx = .error q) := by show _ = _; unfold cmpM; simp only [HT.out, HS.out, ht2]
        have hB10 := (unhide hB).kept k10 (by simp; omega)
        have hL10 := (unhide hL).kept k10 (by simp; omega)
        have hK10 := hide ((unhide hK).trans k10)
        clear hB hL hK k10 ht2 HT HS
        have l0 := hL10.cell 0
        have l1 := hL10.cell 1
        have l2 := hL10.cell 2
        have l3 := hL10.cell 3
        have l4 := hL10.cell 4
        have l5 := hL10.cell 5
        have l6 := hL10.cell 6
        have l7 := hL10.cell 7
        have l8 := hL10.cell 8
        have lf := hL10.frozen
        have nf := hB10.frozen
        have c0 := hB10.cell 0
        have c1 := hB10.cell 1
        have c2 := hB10.cell 2
        have c3 := hB10.cell 3
        have c4 := hB10.cell 4
        have c5 := hB10.cell 5
        have c6 := hB10.cell 6
        have c7 := hB10.cell 7
        have c8 := hB10.cell 8
        simp [clitCells, noCLit, noCAtom, noCTerm] at l0 c0 l1 c1 l2 c2 l3 c3 l4 c4 l5 c5 l6 c6 l7 c7 l8 c8
        have q1 : ¬ L = N := by omega
        have q2 : ¬ N = L := by omega
        have HB := hide hB10
        have HR := hide h10
        clear hB10 hL10 h10
        simp only [ctermVal, noCTerm]
        go_wp2
        rw [HF.out]
        have hfin := (((unhide HB).set_other ⟨L, 7, none⟩ (by simp; omega) (.int .i32 0)).set_other ⟨L, 8, none⟩ (by simp; omega) (.string ByteArray.empty)).fill9 rfl (.int .i64 p) (.int .i64 2) (.int .i64 0) (.string ByteArray.empty) (.slice none 0 0) (.int .i32 l.v) (.string l.s) (.int .i32 0) (.string ByteArray.empty)
        refine bodyPost_ret (res_cell_tmp (P := Tryz.prog) (fn := Tryz.f200) (p := 2) (u := 3) rfl rfl hfin Tryz.underlying217 rfl (by kernel_rfl)) rfl ?_
        refine ⟨n9, ⟨p, 2, noCAtom, l, noCTerm⟩, rfl, rfl, ?_, ?_⟩
        · exact (((unhide HR).other (p := ⟨L, 7, none⟩) (by simp; omega) (unhide HMB L (by omega)) _).other (p := ⟨L, 8, none⟩) (by simp; omega) (unhide HMB L (by omega)) _).fill9 (by omega) (unhide HMB N (by omega)) _ _ _ _ _ _ _ _ _
        · have hN0 := unhide HN
          exact (((unhide hK10).setCell (p := ⟨L, 7, none⟩) (by right; simp; omega) _).setCell (p := ⟨L, 8, none⟩) (by right; simp; omega) _).fill9 (by right; omega) _ _ _ _ _ _ _ _ _
      | ok r =>
        obtain ⟨r, n2⟩ := r
        rw [ht2] at hout
        obtain ⟨rfl, h10, k10⟩ := hout
        have HF : Hid (cmpM ms nx = .ok (⟨p, 2, noCAtom, l, r⟩, n2)) := by show _ = _; unfold cmpM; simp only [HT.out, HS.out, ht2, HP.out]
        have hB10 := (unhide hB).kept k10 (by simp; omega)
        have hL10 := (unhide hL).kept k10 (by simp; omega)
        have hK10 := hide ((unhide hK).trans k10)
        clear hB hL hK k10 ht2 HT HS
        have l0 := hL10.cell 0
        have l1 := hL10.cell 1
        have l2 := hL10.cell 2
        have l3 := hL10.cell 3
        have l4 := hL10.cell 4
        have l5 := hL10.cell 5
        have l6 := hL10.cell 6
        have l7 := hL10.cell 7
        have l8 := hL10.cell 8
        have lf := hL10.frozen
        have nf := hB10.frozen
        have c0 := hB10.cell 0
        have c1 := hB10.cell 1
        have c2 := hB10.cell 2
        have c3 := hB10.cell 3
        have c4 := hB10.cell 4
        have c5 := hB10.cell 5
        have c6 := hB10.cell 6
        have c7 := hB10.cell 7
        have c8 := hB10.cell 8
        simp [clitCells, noCLit, noCAtom, noCTerm] at l0 c0 l1 c1 l2 c2 l3 c3 l4 c4 l5 c5 l6 c6 l7 c7 l8 c8
        have q1 : ¬ L = N := by omega
        have q2 : ¬ N = L := by omega
        have HB := hide hB10
        have HR := hide h10
        clear hB10 hL10 h10
        simp only [ctermVal]
        go_wp2
        rw [HF.out]
        have hfin := (((unhide HB).set_other ⟨L, 7, none⟩ (by simp; omega) (.int .i32 r.v)).set_other ⟨L, 8, none⟩ (by simp; omega) (.string r.s)).fill9 rfl (.int .i64 p) (.int .i64 2) (.int .i64 0) (.string ByteArray.empty) (.slice none 0 0) (.int .i32 l.v) (.string l.s) (.int .i32 r.v) (.string r.s)
        refine bodyPost_ret (res_cell_tmp (P := Tryz.prog) (fn := Tryz.f200) (p := 2) (u := 3) rfl rfl hfin Tryz.underlying217 rfl (by kernel_rfl)) rfl ?_
        refine ⟨rfl, ?_, ?_⟩
        · exact (((unhide HR).other (p := ⟨L, 7, none⟩) (by simp; omega) (unhide HMB L (by omega)) _).other (p := ⟨L, 8, none⟩) (by simp; omega) (unhide HMB L (by omega)) _).fill9 (by omega) (unhide HMB N (by omega)) _ _ _ _ _ _ _ _ _
        · have hN0 := unhide HN
          exact (((unhide hK10).setCell (p := ⟨L, 7, none⟩) (by right; simp; omega) _).setCell (p := ⟨L, 8, none⟩) (by right; simp; omega) _).fill9 (by right; omega) _ _ _ _ _ _ _ _ _
    | false =>
      rw [s1] at h6
      simp only [Bool.false_eq_true, if_false] at h6
      have H6 := hide h6
      clear h6
      go_wp2_with fail
      refine (take_any b mv ms n1 br neB _ (unhide H6) (markAt ms n1) (markAt_eq (unhide H6).lt) ((unhide HO).seen (unhide H6).lt neB)).mono ?_
      rintro e w7 ⟨rfl, h7, k7⟩
      have hN7 := hide ((unhide hN6).kept k7 (by simp; omega))
      have hL7 := hide ((unhide hL6).kept k7 (by simp; omega))
      have hK7 := hide ((unhide hK6).trans k7)
      clear H6 hN6 hL6 hK6 k7
      cases s2 : seesM (markAt ms n1) neB with
      | true =>
        rw [s2] at h7
        simp only [if_true] at h7
        have HS : Hid (sortM (markAt ms n1) = some 3) := by show _ = _; simp [sortM, s1, s2]
        clear s1 s2
        have l1 := (unhide hL7).cell 1
        have lf := (unhide hL7).frozen
        simp [clitCells] at l1
        have H7 := hide h7
        clear h7
        go_wp2_with fail
        have hb0 := unhide HMB
        have hN0 := unhide HN
        have hR : RdIn (w7.setCell ⟨L, 1, none⟩ (.int .i64 3)) b mv ms (n1 + 1) br := (unhide H7).other (p := ⟨L, 1, none⟩) (by simp; omega) (hb0 L (by omega)) _
        have hB : Hid (Blk (w7.setCell ⟨L, 1, none⟩ (.int .i64 3)) N (clitCells noCLit) 217) := (unhide hN7).set_other ⟨L, 1, none⟩ (by simp; omega) _
        have hL : Hid (Blk (w7.setCell ⟨L, 1, none⟩ (.int .i64 3)) L (clitCells ⟨p, 3, noCAtom, l, noCTerm⟩) 217) := (unhide hL7).set 1 _
        have hK := hide ((unhide hK7).setCell (p := ⟨L, 1, none⟩) (by right; simp; omega) (.int .i64 3))
        clear l1 lf hN7 hL7 hK7 hb0 hN0 H7
        generalize w7.setCell ⟨L, 1, none⟩ (.int .i64 3) = w9 at hR hB hL hK ⊢
        refine (rterm_any b mv ms (n1 + 1) br _ hR (unhide HO) (markAt ms (n1 + 1)) (markAt_eq hR.lt)).mono ?_
        intro e w10 hout
        clear hR
        cases ht2 : termM (markAt ms (n1 + 1)) (n1 + 1) with
        | error q =>
          rw [ht2] at hout
          obtain ⟨n9, rfl, h10, k10⟩ := hout
          have HF : Hid (cmpM ms nx = .error q) := by show _ = _; unfold cmpM; simp only [HT.out, HS.out, ht2]
          have hB10 := (unhide hB).kept k10 (by simp; omega)
          have hL10 := (unhide hL).kept k10 (by simp; omega)
          have hK10 := hide ((unhide hK).trans k10)
          clear hB hL hK k10 ht2 HT HS
          have l0 := hL10.cell 0
          have l1 := hL10.cell 1
          have l2 := hL10.cell 2
          have l3 := hL10.cell 3
          have l4 := hL10.cell 4
          have l5 := hL10.cell 5
          have l6 := hL10.cell 6
          have l7 := hL10.cell 7
          have l8 := hL10.cell 8
          have lf := hL10.frozen
          have nf := hB10.frozen
          have c0 := hB10.cell 0
          have c1 := hB10.cell 1
          have c2 := hB10.cell 2
          have c3 := hB10.cell 3
          have c4 := hB10.cell 4
          have c5 := hB10.cell 5
          have c6 := hB10.cell 6
          have c7 := hB10.cell 7
          have c8 := hB10.cell 8
          simp [clitCells, noCLit, noCAtom, noCTerm] at l0 c0 l1 c1 l2 c2 l3 c3 l4 c4 l5 c5 l6 c6 l7 c7 l8 c8
          have q1 : ¬ L = N := by omega
          have q2 : ¬ N = L := by omega
          have HB := hide hB10
          have HR := hide h10
          clear hB10 hL10 h10
          simp only [ctermVal, noCTerm]
          go_wp2
          rw [HF.out]
          have hfin := (((unhide HB).set_other ⟨L, 7, none⟩ (by simp; omega) (.int .i32 0)).set_other ⟨L, 8, none⟩ (by simp; omega) (.string ByteArray.empty)).fill9 rfl (.int .i64 p) (.int .i64 3) (.int .i64 0) (.string ByteArray.empty) (.slice none 0 0) (.int .i32 l.v) (.string l.s) (.int .i32 0) (.string ByteArray.empty)
          refine bodyPost_ret (res_cell_tmp (P := Tryz.prog) (fn := Tryz.f200) (p := 2) (u := 3) rfl rfl hfin Tryz.underlying217 rfl (by kernel_rfl)) rfl ?_
          refine ⟨n9, ⟨p, 3, noCAtom, l, noCTerm⟩, rfl, rfl, ?_, ?_⟩
          · exact (((unhide HR).other (p := ⟨L, 7, none⟩) (by simp; omega) (unhide HMB L (by omega)) _).other (p := ⟨L, 8, none⟩) (by simp; omega) (unhide HMB L (by omega)) _).fill9 (by omega) (unhide HMB N (by omega)) _ _ _ _ _ _ _ _ _
          · have hN0 := unhide HN
            exact (((unhide hK10).setCell (p := ⟨L, 7, none⟩) (by right; simp; omega) _).setCell (p := ⟨L, 8, none⟩) (by right; simp; omega) _).fill9 (by right; omega) _ _ _ _ _ _ _ _ _
        | ok r =>
          obtain ⟨r, n2⟩ := r
          rw [ht2] at hout
          obtain ⟨rfl, h10, k10⟩ := hout
          have HF : Hid (cmpM ms nx = .ok (⟨p, 3, noCAtom, l, r⟩, n2)) := by show _ = _; unfold cmpM; simp only [HT.out, HS.out, ht2, HP.out]
          have hB10 := (unhide hB).kept k10 (by simp; omega)
          have hL10 := (unhide hL).kept k10 (by simp; omega)
          have hK10 := hide ((unhide hK).trans k10)
          clear hB hL hK k10 ht2 HT HS
          have l0 := hL10.cell 0
          have l1 := hL10.cell 1
          have l2 := hL10.cell 2
          have l3 := hL10.cell 3
          have l4 := hL10.cell 4
          have l5 := hL10.cell 5
          have l6 := hL10.cell 6
          have l7 := hL10.cell 7
          have l8 := hL10.cell 8
          have lf := hL10.frozen
          have nf := hB10.frozen
          have c0 := hB10.cell 0
          have c1 := hB10.cell 1
          have c2 := hB10.cell 2
          have c3 := hB10.cell 3
          have c4 := hB10.cell 4
          have c5 := hB10.cell 5
          have c6 := hB10.cell 6
          have c7 := hB10.cell 7
          have c8 := hB10.cell 8
          simp [clitCells, noCLit, noCAtom, noCTerm] at l0 c0 l1 c1 l2 c2 l3 c3 l4 c4 l5 c5 l6 c6 l7 c7 l8 c8
          have q1 : ¬ L = N := by omega
          have q2 : ¬ N = L := by omega
          have HB := hide hB10
          have HR := hide h10
          clear hB10 hL10 h10
          simp only [ctermVal]
          go_wp2
          rw [HF.out]
          have hfin := (((unhide HB).set_other ⟨L, 7, none⟩ (by simp; omega) (.int .i32 r.v)).set_other ⟨L, 8, none⟩ (by simp; omega) (.string r.s)).fill9 rfl (.int .i64 p) (.int .i64 3) (.int .i64 0) (.string ByteArray.empty) (.slice none 0 0) (.int .i32 l.v) (.string l.s) (.int .i32 r.v) (.string r.s)
          refine bodyPost_ret (res_cell_tmp (P := Tryz.prog) (fn := Tryz.f200) (p := 2) (u := 3) rfl rfl hfin Tryz.underlying217 rfl (by kernel_rfl)) rfl ?_
          refine ⟨rfl, ?_, ?_⟩
          · exact (((unhide HR).other (p := ⟨L, 7, none⟩) (by simp; omega) (unhide HMB L (by omega)) _).other (p := ⟨L, 8, none⟩) (by simp; omega) (unhide HMB L (by omega)) _).fill9 (by omega) (unhide HMB N (by omega)) _ _ _ _ _ _ _ _ _
          · have hN0 := unhide HN
            exact (((unhide hK10).setCell (p := ⟨L, 7, none⟩) (by right; simp; omega) _).setCell (p := ⟨L, 8, none⟩) (by right; simp; omega) _).fill9 (by right; omega) _ _ _ _ _ _ _ _ _
      | false =>
        rw [s2] at h7
        simp only [Bool.false_eq_true, if_false] at h7
        have H7 := hide h7
        clear h7
        go_wp2_with fail
        refine (take_any b mv ms n1 br ltB _ (unhide H7) (markAt ms n1) (markAt_eq (unhide H7).lt) ((unhide HO).seen (unhide H7).lt ltB)).mono ?_
        rintro e w8 ⟨rfl, h8, k8⟩
        have hN8 := hide ((unhide hN7).kept k8 (by simp; omega))
        have hL8 := hide ((unhide hL7).kept k8 (by simp; omega))
        have hK8 := hide ((unhide hK7).trans k8)
        clear H7 hN7 hL7 hK7 k8
        cases s3 : seesM (markAt ms n1) ltB with
        | true =>
          rw [s3] at h8
          simp only [if_true] at h8
          have HS : Hid (sortM (markAt ms n1) = some 4) := by show _ = _; simp [sortM, s1, s2, s3]
          clear s1 s2 s3
          have l1 := (unhide hL8).cell 1
          have lf := (unhide hL8).frozen
          simp [clitCells] at l1
          have H8 := hide h8
          clear h8
          go_wp2_with fail
          have hb0 := unhide HMB
          have hN0 := unhide HN
          have hR : RdIn (w8.setCell ⟨L, 1, none⟩ (.int .i64 4)) b mv ms (n1 + 1) br := (unhide H8).other (p := ⟨L, 1, none⟩) (by simp; omega) (hb0 L (by omega)) _
          have hB : Hid (Blk (w8.setCell ⟨L, 1, none⟩ (.int .i64 4)) N (clitCells noCLit) 217) := (unhide hN8).set_other ⟨L, 1, none⟩ (by simp; omega) _
          have hL : Hid (Blk (w8.setCell ⟨L, 1, none⟩ (.int .i64 4)) L (clitCells ⟨p, 4, noCAtom, l, noCTerm⟩) 217) := (unhide hL8).set 1 _
          have hK := hide ((unhide hK8).setCell (p := ⟨L, 1, none⟩) (by right; simp; omega) (.int .i64 4))
          clear l1 lf hN8 hL8 hK8 hb0 hN0 H8
          generalize w8.setCell ⟨L, 1, none⟩ (.int .i64 4) = w9 at hR hB hL hK ⊢
          refine (rterm_any b mv ms (n1 + 1) br _ hR (unhide HO) (markAt ms (n1 + 1)) (markAt_eq hR.lt)).mono ?_
          intro e w10 hout
          clear hR
          cases ht2 : termM (markAt ms (n1 + 1)) (n1 + 1) with
          | error q =>
            rw [ht2] at hout
            obtain ⟨n9, rfl, h10, k10⟩ := hout
            have HF : Hid (cmpM ms nx = .error q) := by show _ = _; unfold cmpM; simp only [HT.out, HS.out, ht2]
            have hB10 := (unhide hB).kept k10 (by simp; omega)
            have hL10 := (unhide hL).kept k10 (by simp; omega)
            have hK10 := hide ((unhide hK).trans k10)
            clear hB hL hK k10 ht2 HT HS
            have l0 := hL10.cell 0
            have l1 := hL10.cell 1
            have l2 := hL10.cell 2
            have l3 := hL10.cell 3
            have l4 := hL10.cell 4
            have l5 := hL10.cell 5
            have l6 := hL10.cell 6
            have l7 := hL10.cell 7
            have l8 := hL10.cell 8
            have lf := hL10.frozen
            have nf := hB10.frozen
            have c0 := hB10.cell 0
            have c1 := hB10.cell 1
            have c2 := hB10.cell 2
            have c3 := hB10.cell 3
            have c4 := hB10.cell 4
            have c5 := hB10.cell 5
            have c6 := hB10.cell 6
            have c7 := hB10.cell 7
            have c8 := hB10.cell 8
            simp [clitCells, noCLit, noCAtom, noCTerm] at l0 c0 l1 c1 l2 c2 l3 c3 l4 c4 l5 c5 l6 c6 l7 c7 l8 c8
            have q1 : ¬ L = N := by omega
            have q2 : ¬ N = L := by omega
            have HB := hide hB10
            have HR := hide h10
            clear hB10 hL10 h10
            simp only [ctermVal, noCTerm]
            go_wp2
            rw [HF.out]
            have hfin := (((unhide HB).set_other ⟨L, 7, none⟩ (by simp; omega) (.int .i32 0)).set_other ⟨L, 8, none⟩ (by simp; omega) (.string ByteArray.empty)).fill9 rfl (.int .i64 p) (.int .i64 4) (.int .i64 0) (.string ByteArray.empty) (.slice none 0 0) (.int .i32 l.v) (.string l.s) (.int .i32 0) (.string ByteArray.empty)
            refine bodyPost_ret (res_cell_tmp (P := Tryz.prog) (fn := Tryz.f200) (p := 2) (u := 3) rfl rfl hfin Tryz.underlying217 rfl (by kernel_rfl)) rfl ?_
            refine ⟨n9, ⟨p, 4, noCAtom, l, noCTerm⟩, rfl, rfl, ?_, ?_⟩
            · exact (((unhide HR).other (p := ⟨L, 7, none⟩) (by simp; omega) (unhide HMB L (by omega)) _).other (p := ⟨L, 8, none⟩) (by simp; omega) (unhide HMB L (by omega)) _).fill9 (by omega) (unhide HMB N (by omega)) _ _ _ _ _ _ _ _ _
            · have hN0 := unhide HN
              exact (((unhide hK10).setCell (p := ⟨L, 7, none⟩) (by right; simp; omega) _).setCell (p := ⟨L, 8, none⟩) (by right; simp; omega) _).fill9 (by right; omega) _ _ _ _ _ _ _ _ _
          | ok r =>
            obtain ⟨r, n2⟩ := r
            rw [ht2] at hout
            obtain ⟨rfl, h10, k10⟩ := hout
            have HF : Hid (cmpM ms nx = .ok (⟨p, 4, noCAtom, l, r⟩, n2)) := by show _ = _; unfold cmpM; simp only [HT.out, HS.out, ht2, HP.out]
            have hB10 := (unhide hB).kept k10 (by simp; omega)
            have hL10 := (unhide hL).kept k10 (by simp; omega)
            have hK10 := hide ((unhide hK).trans k10)
            clear hB hL hK k10 ht2 HT HS
            have l0 := hL10.cell 0
            have l1 := hL10.cell 1
            have l2 := hL10.cell 2
            have l3 := hL10.cell 3
            have l4 := hL10.cell 4
            have l5 := hL10.cell 5
            have l6 := hL10.cell 6
            have l7 := hL10.cell 7
            have l8 := hL10.cell 8
            have lf := hL10.frozen
            have nf := hB10.frozen
            have c0 := hB10.cell 0
            have c1 := hB10.cell 1
            have c2 := hB10.cell 2
            have c3 := hB10.cell 3
            have c4 := hB10.cell 4
            have c5 := hB10.cell 5
            have c6 := hB10.cell 6
            have c7 := hB10.cell 7
            have c8 := hB10.cell 8
            simp [clitCells, noCLit, noCAtom, noCTerm] at l0 c0 l1 c1 l2 c2 l3 c3 l4 c4 l5 c5 l6 c6 l7 c7 l8 c8
            have q1 : ¬ L = N := by omega
            have q2 : ¬ N = L := by omega
            have HB := hide hB10
            have HR := hide h10
            clear hB10 hL10 h10
            simp only [ctermVal]
            go_wp2
            rw [HF.out]
            have hfin := (((unhide HB).set_other ⟨L, 7, none⟩ (by simp; omega) (.int .i32 r.v)).set_other ⟨L, 8, none⟩ (by simp; omega) (.string r.s)).fill9 rfl (.int .i64 p) (.int .i64 4) (.int .i64 0) (.string ByteArray.empty) (.slice none 0 0) (.int .i32 l.v) (.string l.s) (.int .i32 r.v) (.string r.s)
            refine bodyPost_ret (res_cell_tmp (P := Tryz.prog) (fn := Tryz.f200) (p := 2) (u := 3) rfl rfl hfin Tryz.underlying217 rfl (by kernel_rfl)) rfl ?_
            refine ⟨rfl, ?_, ?_⟩
            · exact (((unhide HR).other (p := ⟨L, 7, none⟩) (by simp; omega) (unhide HMB L (by omega)) _).other (p := ⟨L, 8, none⟩) (by simp; omega) (unhide HMB L (by omega)) _).fill9 (by omega) (unhide HMB N (by omega)) _ _ _ _ _ _ _ _ _
            · have hN0 := unhide HN
              exact (((unhide hK10).setCell (p := ⟨L, 7, none⟩) (by right; simp; omega) _).setCell (p := ⟨L, 8, none⟩) (by right; simp; omega) _).fill9 (by right; omega) _ _ _ _ _ _ _ _ _
        | false =>
          rw [s3] at h8
          simp only [Bool.false_eq_true, if_false] at h8
          have H8 := hide h8
          clear h8
          go_wp2_with fail
          have HF : Hid (cmpM ms nx = .error (markAt ms n1).place) := by show _ = _; unfold cmpM; simp [HT.out, sortM, s1, s2, s3]
          clear s1 s2 s3
          refine (here_any b mv ms n1 br _ (unhide H8) (markAt ms n1) (markAt_eq (unhide H8).lt)).mono ?_
          rintro e w9 ⟨rfl, k9⟩
          have h9 := (unhide H8).kept0 k9
          have hN9 := hide ((unhide hN8).kept k9 (by simp))
          have hK9 := hide ((unhide hK8).trans (k9.mono (by simp)))
          clear H8 hN8 hL8 hK8 k9
          obtain ⟨q, hq⟩ : ∃ q, (markAt ms n1).place = q := ⟨_, rfl⟩
          rw [hq] at HF ⊢
          clear hq
          have H9 := hide h9
          clear h9
          go_wp2_with fail
          refine (breakAt_any b mv ms n1 br q _ (unhide H9)).mono ?_
          rintro e w10 ⟨rfl, h10, k10⟩
          have hN10 := (unhide hN9).kept k10 (by simp; omega)
          have hK10 := hide ((unhide hK9).trans k10)
          clear hN9 hK9 H9 k10
          have nf := hN10.frozen
          have c0 := hN10.cell 0
          have c1 := hN10.cell 1
          have c2 := hN10.cell 2
          have c3 := hN10.cell 3
          have c4 := hN10.cell 4
          have c5 := hN10.cell 5
          have c6 := hN10.cell 6
          have c7 := hN10.cell 7
          have c8 := hN10.cell 8
          simp [clitCells, noCLit, noCAtom, noCTerm] at c0 c1 c2 c3 c4 c5 c6 c7 c8
          have HB := hide hN10
          have HR := hide h10
          clear hN10 h10
          go_wp2
          rw [HF.out]
          have hfin := (unhide HB).fill9 rfl (.int .i64 0) (.int .i64 0) (.int .i64 0) (.string ⟨#[]⟩) (.slice none 0 0) (.int .i32 0) (.string ⟨#[]⟩) (.int .i32 0) (.string ⟨#[]⟩)
          refine bodyPost_ret (res_cell_tmp (P := Tryz.prog) (fn := Tryz.f200) (p := 2) (u := 3) rfl rfl hfin Tryz.underlying217 rfl (by kernel_rfl)) rfl ?_
          refine ⟨n1, noCLit, rfl, rfl, ?_, ?_⟩
          · exact (unhide HR).fill9 (by omega) (unhide HMB N (by omega)) _ _ _ _ _ _ _ _ _
          · have hN0 := unhide HN
            exact (unhide hK10).fill9 (by right; omega) _ _ _ _ _ _ _ _ _

end Go.Proofs.YtoihbhenbmffcaaGreatDoor
