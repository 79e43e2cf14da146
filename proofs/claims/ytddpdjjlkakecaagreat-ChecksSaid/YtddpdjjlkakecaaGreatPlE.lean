import Derived.Test.YtddpdjjlkakecaaGreatPlD
set_option linter.unusedVariables false
set_option linter.unusedSimpArgs false

namespace Go.Proofs.YtddpdjjlkakecaaGreat
open Go.RowKit

/-- An atom's place, name and number of arguments. -/
abbrev AtN := Int × ByteArray × Nat
def trip (a : CAtom) : AtN := (a.place, a.name, lenOf a.tv)
def atomsN (r : RCV) : List AtN := ((r.head.at_ : Int), r.head.name, r.head.args.length) :: (r.bl.filter isA).map fun q => ((q.1.A.at_ : Int), q.1.A.name, q.1.A.args.length)

theorem lits_atoms {lvs : List PLV} {bl : List RLitV} (h : F2 LitC lvs bl) : (bodyAtoms lvs).map trip = (bl.filter isA).map fun q => ((q.1.A.at_ : Int), q.1.A.name, q.1.A.args.length) := by
  unfold bodyAtoms
  induction h using F2.ind with
  | nil => rfl
  | cons h1 _ ih =>
    rw [List.filter_cons, List.filter_cons, h1.atom]
    split
    · rw [List.map_cons, List.map_cons, List.map_cons, ih]
      congr 1
      unfold trip
      simp only
      rw [h1.eq, h1.len]
      rfl
    · exact ih

theorem Cor.atoms {c : PCV} {r : RCV} (h : Cor c r) : (atomsV c).map trip = atomsN r := by
  unfold atomsV atomsN
  rw [List.map_cons, lits_atoms h.lits]
  congr 1
  unfold trip
  simp only
  rw [h.hp, h.hn, h.len]

def arT : List AtN → List (ByteArray × Nat) → List (ByteArray × Nat) × Option Int
  | [], ars => (ars, none)
  | a :: l, ars => match arFind ars a.2.1 with
    | none => arT l (ars ++ [a.2])
    | some p => if p.2 = a.2.2 then arT l ars else (ars, some a.1)

theorem arF_trip : ∀ (l : List CAtom) (ars : List (ByteArray × Nat)), arF l ars = arT (l.map trip) ars
  | [], ars => rfl
  | a :: l, ars => by
    rw [List.map_cons, arF, arT]
    show _ = (match arFind ars a.name with | none => arT (l.map trip) (ars ++ [(a.name, lenOf a.tv)]) | some p => if p.2 = lenOf a.tv then arT (l.map trip) ars else (ars, some a.place))
    cases arFind ars a.name with
    | none => exact arF_trip l _
    | some p =>
      simp only
      by_cases hq : p.2 = lenOf a.tv
      · rw [if_pos hq, if_pos hq]; exact arF_trip l _
      · rw [if_neg hq, if_neg hq]

def isN (x : ByteArray) (p : ByteArray × Nat) : Bool := p.1.toList == x.toList
def arOf (L : List (ByteArray × Nat)) (x : ByteArray) : Int := match L.find? (isN x) with | some p => p.2 | none => -1
def InvA (P ars : List (ByteArray × Nat)) : Prop := ∀ x, arFind ars x = P.find? (isN x)
def badN (L : List (ByteArray × Nat)) (a : AtN) : Bool := arOf L a.2.1 != (a.2.2 : Int)

theorem isN_cong {x y : ByteArray} (h : (x.toList == y.toList) = true) : isN x = isN y := by
  have : x.toList = y.toList := by simpa using h
  funext p
  unfold isN
  rw [this]

theorem arT_spec (L : List (ByteArray × Nat)) : ∀ (l : List AtN) (ars P Q : List (ByteArray × Nat)), InvA P ars → L = P ++ (l.map fun a => a.2) ++ Q →
    (arT l ars).2 = (l.find? (badN L)).map (fun a => a.1) ∧ ((arT l ars).2 = none → InvA (P ++ l.map fun a => a.2) (arT l ars).1)
  | [], ars, P, Q, hi, hL => by
    refine ⟨rfl, fun _ => ?_⟩
    simpa [arT] using hi
  | a :: l, ars, P, Q, hi, hL => by
    have hself : isN a.2.1 a.2 = true := by simp [isN]
    rw [arT]
    cases hf : arFind ars a.2.1 with
    | none =>
      have hP : P.find? (isN a.2.1) = none := by rw [← hi]; exact hf
      have har : arOf L a.2.1 = (a.2.2 : Int) := by
        unfold arOf
        rw [hL, List.append_assoc, List.find?_append, hP]
        simp [hself]
      have hb : badN L a = false := by unfold badN; rw [har]; simp
      rw [List.find?_cons, hb]
      have hi2 : InvA (P ++ [a.2]) (ars ++ [a.2]) := by
        intro x
        unfold arFind
        rw [List.find?_append, List.find?_append]
        have := hi x
        unfold arFind at this
        rw [this]
        rfl
      have ih := arT_spec L l (ars ++ [a.2]) (P ++ [a.2]) Q hi2 (by rw [hL]; simp)
      simp only
      refine ⟨ih.1, fun h => ?_⟩
      have h2 := ih.2 h
      simpa using h2
    | some p =>
      have hP : P.find? (isN a.2.1) = some p := by rw [← hi]; exact hf
      have har : arOf L a.2.1 = (p.2 : Int) := by
        unfold arOf
        rw [hL, List.append_assoc, List.find?_append, hP]
        rfl
      simp only
      by_cases he : p.2 = a.2.2
      · have hb : badN L a = false := by unfold badN; rw [har, he]; simp
        rw [if_pos he, List.find?_cons, hb]
        have hi2 : InvA (P ++ [a.2]) ars := by
          intro x
          rw [hi x, List.find?_append]
          cases hx : P.find? (isN x) with
          | some q => rfl
          | none =>
            simp only [Option.none_or]
            rw [List.find?_cons]
            cases hn : isN x a.2 with
            | false => rfl
            | true =>
              exfalso
              have : isN a.2.1 = isN x := isN_cong hn
              rw [this, hx] at hP
              cases hP
        have ih := arT_spec L l ars (P ++ [a.2]) Q hi2 (by rw [hL]; simp)
        refine ⟨ih.1, fun h => ?_⟩
        have h2 := ih.2 h
        simpa using h2
      · have hb : badN L a = true := by unfold badN; rw [har]; simp; omega
        rw [if_neg he, List.find?_cons, hb]
        exact ⟨rfl, fun h => by cases h⟩

def allAt (cs : List RCV) : List (ByteArray × Nat) := cs.flatMap fun r => (atomsN r).map fun a => a.2

theorem arityL_find (bl : List RLitV) (x : ByteArray) : arityL bl x = (((bl.filter isA).map fun q => (q.1.A.name, q.1.A.args.length)).find? (isN x)).map fun p => p.2 := by
  unfold arityL
  induction bl with
  | nil => rfl
  | cons q bl ih =>
    rw [List.findSome?_cons, List.filter_cons]
    cases hq : isA q with
    | false =>
      simp only [Bool.false_and, Bool.false_eq_true, if_false]
      exact ih
    | true =>
      simp only [Bool.true_and, if_true, List.map_cons]
      rw [List.find?_cons]
      unfold isN
      simp only
      cases hn : (q.1.A.name.toList == x.toList) with
      | true => rfl
      | false => exact ih

theorem arityC_find (r : RCV) (x : ByteArray) : arityC r x = (((atomsN r).map fun a => a.2).find? (isN x)).map fun p => p.2 := by
  unfold arityC atomsN
  rw [List.map_cons, List.find?_cons, arityL_find, List.map_map]
  unfold isN
  simp only
  cases h : (r.head.name.toList == x.toList) with
  | true => rfl
  | false => rfl

theorem arityP_eq (cs : List RCV) (x : ByteArray) : arityP cs x = arOf (allAt cs) x := by
  have : cs.findSome? (arityC · x) = ((allAt cs).find? (isN x)).map fun p => p.2 := by
    unfold allAt
    induction cs with
    | nil => rfl
    | cons r cs ih =>
      rw [List.findSome?_cons, List.flatMap_cons, List.find?_append, arityC_find, ih]
      cases ((atomsN r).map fun a => a.2).find? (isN x) <;> rfl
  unfold arityP arOf
  rw [this]
  cases (allAt cs).find? (isN x) <;> rfl

/-- The atoms of a clause with another arity. -/
theorem find_atomsN (L : List (ByteArray × Nat)) (r : RCV) : ((atomsN r).find? (badN L)).map (fun a => a.1) =
    if arOf L r.head.name ≠ (r.head.args.length : Int) then some (r.head.at_ : Int) else (r.bl.find? fun q => isA q && (arOf L q.1.A.name != (q.1.A.args.length : Int))).map fun q => (q.1.A.at_ : Int) := by
  unfold atomsN
  rw [List.find?_cons]
  have e : badN L ((r.head.at_ : Int), r.head.name, r.head.args.length) = (arOf L r.head.name != (r.head.args.length : Int)) := rfl
  rw [e]
  cases hh : (arOf L r.head.name != (r.head.args.length : Int)) with
  | true =>
    have : arOf L r.head.name ≠ (r.head.args.length : Int) := by simpa using hh
    rw [if_pos this]
    rfl
  | false =>
    have : ¬ arOf L r.head.name ≠ (r.head.args.length : Int) := by simpa using hh
    rw [if_neg this]
    simp only
    induction r.bl with
    | nil => rfl
    | cons q bl ih =>
      rw [List.filter_cons, List.find?_cons]
      cases hq : isA q with
      | false =>
        simp only [Bool.false_and, Bool.false_eq_true, if_false]
        exact ih
      | true =>
        simp only [Bool.true_and, if_true, List.map_cons]
        rw [List.find?_cons]
        have e2 : badN L ((q.1.A.at_ : Int), q.1.A.name, q.1.A.args.length) = (arOf L q.1.A.name != (q.1.A.args.length : Int)) := rfl
        rw [e2]
        cases (arOf L q.1.A.name != (q.1.A.args.length : Int)) with
        | true => rfl
        | false => exact ih

/-- The variables that nothing binds. -/
theorem Cor.bound {c : PCV} {r : RCV} (h : Cor c r) (v : UInt8) : boundV c.lvs (v.toNat : Int) = boundB r.bl v := by
  unfold boundV boundB bindT
  have hl := h.lits
  generalize c.lvs = lvs at hl
  generalize r.bl = bl at hl
  induction hl using F2.ind with
  | nil => rfl
  | cons h1 _ ih =>
    rw [List.flatMap_cons, List.any_append, List.any_cons, ih]
    congr 1
    unfold boundL boundA
    rw [h1.eq]
    simp only [plR, sort0]
    split
    · rename_i hk
      rw [hk, List.any_map]
      simp only [Bool.true_and]
      apply any_cong
      intro t _
      exact ct_eq t v
    · rename_i hk
      simp only [Bool.not_eq_true] at hk
      rw [hk]
      rfl

theorem Cor.loose {c : PCV} {r : RCV} (h : Cor c r) (t : RTerm) : looseV c (ct t) = looseT r.bl t := by
  unfold looseV looseT
  have e : ((ct t).v != 0) = !(t.v == 0) := by rw [bne, ct_eq0]
  rw [e]
  have : (ct t).v = (t.v.toNat : Int) := rfl
  rw [this, h.bound]
  cases (t.v == 0) <;> simp

theorem Cor.unsaf {c : PCV} {r : RCV} (h : Cor c r) : unsafeO c = if 0 ≤ safeP r.head r.bl then some (safeP r.head r.bl) else none := by
  unfold unsafeO safeP
  have e1 : c.hts.any (looseV c) = r.head.args.any (looseT r.bl) := by
    rw [h.hts, List.any_map]
    apply any_cong
    intro t _
    exact h.loose t
  have e2 : (c.lvs.find? fun p => (termsL p.1).any (looseV c)).map (fun p => p.1.place) = (r.bl.find? (safeL r.bl)).map fun q => (q.1.at_ : Int) := by
    refine F2.find (fun p q hpq => ⟨?_, ?_⟩) h.lits
    · unfold safeL
      rw [hpq.terms, List.any_map]
      apply any_cong
      intro t _
      exact h.loose t
    · rw [hpq.eq]; rfl
  rw [e1, e2, h.hp]
  cases r.head.args.any (looseT r.bl) with
  | true =>
    simp only [if_true]
    rw [if_pos (by omega)]
  | false =>
    simp only [Bool.false_eq_true, if_false]
    cases r.bl.find? (safeL r.bl) with
    | none => rfl
    | some q =>
      simp only [Option.map_some]
      rw [if_pos (by omega)]

theorem Cor.great {c : PCV} {r : RCV} (h : Cor c r) : greatB c = (decide (2 < r.head.args.length) || r.bl.any manyArgs || decide (3 < r.bl.length)) := by
  unfold greatB
  rw [h.lits.length]
  congr 1
  have e : (atomsV c).any (fun a => decide (2 < lenOf a.tv)) = (atomsN r).any fun a => decide (2 < a.2.2) := by
    rw [← h.atoms, List.any_map]
    rfl
  rw [e]
  unfold atomsN
  rw [List.any_cons]
  congr 1
  have hp : ∀ q ∈ r.bl, isA q = false → q.1.A.args = [] := fun q hq => by
    obtain ⟨p, _, hpq⟩ := h.lits.mem q hq
    exact hpq.plain
  generalize r.bl = bl at hp
  induction bl with
  | nil => rfl
  | cons q bl ih =>
    rw [List.filter_cons, List.any_cons]
    have ih := ih (fun q hq => hp q (by simp [hq]))
    cases hq : isA q with
    | true =>
      simp only [if_true, List.map_cons, List.any_cons]
      rw [ih]
      rfl
    | false =>
      have := hp q (by simp) hq
      simp only [Bool.false_eq_true, if_false]
      rw [ih]
      unfold manyArgs
      rw [this]
      rfl

/-- The check of a clause. -/
theorem chk_sound {pcs : List PCV} {rcs : List RCV} (h : F2 Cor pcs rcs) {k : Nat} {c : PCV} {r : RCV} (hc : Cor c r) {ars P Q : List (ByteArray × Nat)} (hi : InvA P ars) (hL : allAt rcs = P ++ ((atomsN r).map fun a => a.2) ++ Q) :
    chkC pcs k c ars = soundC rcs k r := by
  obtain ⟨ha, _⟩ := arT_spec (allAt rcs) (atomsN r) ars P Q hi hL
  have e1 : (arF (atomsV c) ars).2 = ((atomsN r).find? (badN (allAt rcs))).map fun a => a.1 := by rw [arF_trip, hc.atoms]; exact ha
  have en : (ddp ((pcs.take (k + 1)).flatMap namesV)).length = (namesP (rcs.take (k + 1))).length := by
    rw [namesP_ddp, F2.flatMap (fun a b hab => hab.names) (h.take (k + 1))]
  have et : (ddp ((pcs.take (k + 1)).flatMap thingsV)).length = (thingsP (rcs.take (k + 1))).length := by
    rw [(thingsP_same _).len, F2.flatMap (fun a b hab => hab.things) (h.take (k + 1))]
  unfold chkC soundC manyB
  rw [en, et, hc.great, e1, find_atomsN, hc.unsaf, arityP_eq, hc.hp, hc.at_]
  generalize (namesP (rcs.take (k + 1))).length = N
  generalize (thingsP (rcs.take (k + 1))).length = T
  cases hcond : ((decide (12 < k + 1) || decide (6 < N) || decide (6 < T)) || (decide (2 < r.head.args.length) || r.bl.any manyArgs || decide (3 < r.bl.length))) with
  | true =>
    rw [if_pos rfl]
    by_cases h1 : 12 ≤ k ∨ 3 < r.bl.length
    · rw [if_pos h1]
    · rw [if_neg h1]
      by_cases h2 : 2 < r.head.args.length
      · rw [if_pos h2]
      · rw [if_neg h2]
        by_cases h3 : r.bl.any manyArgs = true
        · rw [if_pos h3]
        · rw [if_neg h3]
          by_cases h4 : 6 < N ∨ 6 < T
          · rw [if_pos h4]
          · exfalso
            simp only [Bool.or_eq_true, decide_eq_true_eq] at hcond
            simp only [not_or] at h1 h4
            rcases hcond with ((h | h) | h) | ((h | h) | h)
            · omega
            · exact h4.1 h
            · exact h4.2 h
            · exact h2 h
            · exact h3 h
            · exact h1.2 h
  | false =>
    simp only [Bool.or_eq_false_iff, decide_eq_false_iff_not] at hcond
    obtain ⟨⟨⟨c1, c2⟩, c3⟩, ⟨c4, c5⟩, c6⟩ := hcond
    rw [if_neg (show ¬ (false = true) by simp), if_neg (show ¬ (12 ≤ k ∨ 3 < r.bl.length) by omega), if_neg c4, if_neg (show ¬ (r.bl.any manyArgs = true) by rw [c5]; simp), if_neg (show ¬ (6 < N ∨ 6 < T) by omega)]
    by_cases h5 : arOf (allAt rcs) r.head.name ≠ (r.head.args.length : Int)
    · rw [if_pos h5, if_pos h5]
    · rw [if_neg h5, if_neg h5]
      have e5 : (r.bl.find? fun q => isA q && (arOf (allAt rcs) q.1.A.name != (q.1.A.args.length : Int))) = r.bl.find? (otherArity rcs) := by
        apply find_cong
        intro q _
        unfold otherArity
        rw [arityP_eq]
      rw [e5]
      cases r.bl.find? (otherArity rcs) with
      | some q => rfl
      | none =>
        simp only [Option.map_none]
        by_cases h6 : 0 ≤ safeP r.head r.bl <;> simp [h6]

theorem chkL_sound {pcs : List PCV} {rcs : List RCV} (h : F2 Cor pcs rcs) : ∀ {l : List PCV} {m : List RCV}, F2 Cor l m → ∀ (k : Nat) (ars P : List (ByteArray × Nat)), InvA P ars → allAt rcs = P ++ allAt m → chkL pcs k l ars = soundL rcs k m := by
  intro l m hlm
  induction hlm using F2.ind with
  | nil => intro k ars P _ _; rfl
  | cons hc _ ih =>
    rename_i c r l m _
    intro k ars P hi hL
    have hL2 : allAt rcs = P ++ ((atomsN r).map fun a => a.2) ++ allAt m := by rw [hL]; unfold allAt; simp
    rw [chkL, soundL, chk_sound h hc hi hL2]
    cases hs : soundC rcs k r with
    | some x => rfl
    | none =>
      simp only
      have hck := chk_sound (k := k) h hc hi hL2
      rw [hs] at hck
      have hno : (arT (atomsN r) ars).2 = none := by
        have e1 : (arF (atomsV c) ars).2 = (arT (atomsN r) ars).2 := by rw [arF_trip, hc.atoms]
        rw [← e1]
        unfold chkC at hck
        split at hck
        · cases hck
        · split at hck
          · cases hck
          · rename_i hx; exact hx
      have hi2 := (arT_spec (allAt rcs) (atomsN r) ars P (allAt m) hi hL2).2 hno
      have e2 : (arF (atomsV c) ars).1 = (arT (atomsN r) ars).1 := by rw [arF_trip, hc.atoms]
      rw [e2]
      exact ih (k + 1) _ _ hi2 hL2

theorem loop_sound {pcs : List PCV} {rcs : List RCV} (h : F2 Cor pcs rcs) {f : ByteArray → ByteArray → Bool} (hf : ∀ x y, f x y = reachP rcs x y) : (loopO f pcs).map (fun p => ((6 : Int), p)) = rcs.findSome? (strataC rcs) := by
  unfold loopO
  have key : ∀ {l : List PCV} {m : List RCV}, F2 Cor l m → (l.findSome? (loopC f)).map (fun p => ((6 : Int), p)) = m.findSome? (strataC rcs) := by
    intro l m hlm
    induction hlm using F2.ind with
    | nil => rfl
    | cons hc _ ih =>
      rename_i c r l m _
      rw [List.findSome?_cons, List.findSome?_cons]
      have e : (loopC f c).map (fun p => ((6 : Int), p)) = strataC rcs r := by
        unfold loopC strataC
        rw [Option.map_map]
        refine F2.find (fun p q hpq => ⟨?_, ?_⟩) hc.lits
        · unfold loopL strataL
          rw [hpq.eq, hf, hc.hn]
          simp only [plR, sort1]
        · simp only [Function.comp]
          rw [hpq.eq]
          rfl
      rw [← e]
      cases loopC f c with
      | some p => rfl
      | none => exact ih
  exact key h

theorem load_sound {pcs : List PCV} {rcs : List RCV} (h : F2 Cor pcs rcs) {f : ByteArray → ByteArray → Bool} (hf : ∀ x y, f x y = reachP rcs x y) : loadR f pcs = soundP rcs := by
  unfold loadR soundP
  rw [chkL_sound h h 0 [] [] (fun x => rfl) rfl, ← loop_sound h hf]
  cases soundL rcs 0 rcs with
  | some r => rfl
  | none =>
    simp only
    cases loopO f pcs <;> rfl

end Go.Proofs.YtddpdjjlkakecaaGreat
