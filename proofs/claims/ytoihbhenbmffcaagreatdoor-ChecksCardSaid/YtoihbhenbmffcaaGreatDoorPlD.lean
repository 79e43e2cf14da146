import Derived.Test.YtoihbhenbmffcaaGreatDoorPlC
import Derived.Test.YtoihbhenbmffcaaGreatDoorChkK
import Derived.Test.YtoihbhenbmffcaaGreatDoorRefRd
set_option linter.unusedVariables false
set_option linter.unusedSimpArgs false

namespace Go.Proofs.YtoihbhenbmffcaaGreatDoor
open Go.RowKit

/-- Two lists, one value beside the other. -/
def F2 {α β : Type} (R : α → β → Prop) : List α → List β → Prop
  | [], [] => True
  | a :: l, b :: m => R a b ∧ F2 R l m
  | _, _ => False

theorem F2.nil {α β : Type} {R : α → β → Prop} : F2 R ([] : List α) ([] : List β) := trivial
theorem F2.cons {α β : Type} {R : α → β → Prop} {a : α} {b : β} {l : List α} {m : List β} (h : R a b) (t : F2 R l m) : F2 R (a :: l) (b :: m) := ⟨h, t⟩
theorem F2.ind {α β : Type} {R : α → β → Prop} {motive : (l : List α) → (m : List β) → F2 R l m → Prop} (nil : motive [] [] F2.nil) (cons : ∀ {a : α} {b : β} {l : List α} {m : List β} (h : R a b) (t : F2 R l m), motive l m t → motive (a :: l) (b :: m) (F2.cons h t)) : ∀ {l : List α} {m : List β} (h : F2 R l m), motive l m h
  | [], [], _ => nil
  | [], _ :: _, h => h.elim
  | _ :: _, [], h => h.elim
  | _ :: _, _ :: _, h => cons h.1 h.2 (F2.ind nil cons h.2)

theorem F2.of_map {α β γ : Type} {f : α → γ} {g : β → γ} : ∀ {l : List α} {m : List β}, l.map f = m.map g → F2 (fun a b => f a = g b) l m
  | [], [], _ => F2.nil
  | [], _ :: _, h => by simp at h
  | _ :: _, [], h => by simp at h
  | a :: l, b :: m, h => by
    simp only [List.map_cons, List.cons.injEq] at h
    exact F2.cons h.1 (F2.of_map h.2)

theorem F2.length {α β : Type} {R : α → β → Prop} {l : List α} {m : List β} (h : F2 R l m) : l.length = m.length := by
  induction h using F2.ind with
  | nil => rfl
  | cons _ _ ih => simp [ih]

theorem F2.take {α β : Type} {R : α → β → Prop} {l : List α} {m : List β} (h : F2 R l m) (k : Nat) : F2 R (l.take k) (m.take k) := by
  induction h using F2.ind generalizing k with
  | nil => simp; exact F2.nil
  | cons h1 _ ih =>
    cases k with
    | zero => simp; exact F2.nil
    | succ k => simp only [List.take_succ_cons]; exact F2.cons h1 (ih k)

theorem F2.flatMap {α β γ : Type} {R : α → β → Prop} {f : α → List γ} {g : β → List γ} (hR : ∀ a b, R a b → f a = g b) {l : List α} {m : List β} (h : F2 R l m) : l.flatMap f = m.flatMap g := by
  induction h using F2.ind with
  | nil => rfl
  | cons h1 _ ih => rw [List.flatMap_cons, List.flatMap_cons, hR _ _ h1, ih]

theorem F2.any {α β : Type} {R : α → β → Prop} {f : α → Bool} {g : β → Bool} (hR : ∀ a b, R a b → f a = g b) {l : List α} {m : List β} (h : F2 R l m) : l.any f = m.any g := by
  induction h using F2.ind with
  | nil => rfl
  | cons h1 _ ih => rw [List.any_cons, List.any_cons, hR _ _ h1, ih]

theorem F2.find {α β γ : Type} {R : α → β → Prop} {f : α → Bool} {g : β → Bool} {u : α → γ} {v : β → γ} (hR : ∀ a b, R a b → f a = g b ∧ u a = v b) {l : List α} {m : List β} (h : F2 R l m) : (l.find? f).map u = (m.find? g).map v := by
  induction h using F2.ind with
  | nil => rfl
  | cons h1 _ ih =>
    obtain ⟨e1, e2⟩ := hR _ _ h1
    rw [List.find?_cons, List.find?_cons, e1]
    split
    · simp [e2]
    · exact ih

theorem F2.mem {α β : Type} {R : α → β → Prop} {l : List α} {m : List β} (h : F2 R l m) : ∀ b ∈ m, ∃ a ∈ l, R a b := by
  induction h using F2.ind with
  | nil => intro b hb; simp at hb
  | cons h1 _ ih =>
    intro b hb
    rcases List.mem_cons.1 hb with rfl | hb
    · exact ⟨_, by simp, h1⟩
    · obtain ⟨a, ha, hr⟩ := ih b hb
      exact ⟨a, by simp [ha], hr⟩

theorem F2.mem1 {α β : Type} {R : α → β → Prop} {l : List α} {m : List β} (h : F2 R l m) : ∀ a ∈ l, ∃ b ∈ m, R a b := by
  induction h using F2.ind with
  | nil => intro b hb; simp at hb
  | cons h1 _ ih =>
    intro b hb
    rcases List.mem_cons.1 hb with rfl | hb
    · exact ⟨_, by simp, h1⟩
    · obtain ⟨a, ha, hr⟩ := ih b hb
      exact ⟨a, by simp [ha], hr⟩

theorem F2.mono {α β : Type} {R S : α → β → Prop} {l : List α} {m : List β} (h : F2 R l m) (hi : ∀ a ∈ l, ∀ b ∈ m, R a b → S a b) : F2 S l m := by
  induction h using F2.ind with
  | nil => exact F2.nil
  | cons h1 _ ih => exact F2.cons (hi _ (by simp) _ (by simp) h1) (ih (fun a ha b hb => hi a (by simp [ha]) b (by simp [hb])))

/-- A literal of the one beside the other's. -/
structure LitC (p : PLV) (q : RLitV) : Prop where
  eq : p.1 = plR q.1
  len : lenOf p.2 = q.1.A.args.length
  plain : isA q = false → q.1.A.args = []

theorem ct_eq0 (t : RTerm) : ((ct t).v == 0) = (t.v == 0) := by
  unfold ct
  simp only
  rw [Bool.eq_iff_iff]
  simp only [beq_iff_eq]
  constructor
  · intro h
    apply UInt8.toNat_inj.1
    rw [show (0 : UInt8).toNat = 0 from rfl]
    omega
  · intro h; rw [h]; rfl
theorem ct_eq (t : RTerm) (v : UInt8) : ((ct t).v == (v.toNat : Int)) = (t.v == v) := by
  unfold ct
  simp only
  rw [Bool.eq_iff_iff]
  simp only [beq_iff_eq]
  constructor
  · intro h
    apply UInt8.toNat_inj.1
    omega
  · intro h; rw [h]

theorem sort0 (k : UInt8) : (sortR k == 0) = (k == 97) := by
  unfold sortR
  by_cases h : k = 97
  · simp [h]
  · by_cases h1 : k = 33
    · simp [h1]
    · by_cases h2 : k = 61
      · simp [h2]
      · by_cases h3 : k = 35
        · simp [h3]
        · simp [h, h1, h2, h3]
theorem sort1 (k : UInt8) : (sortR k == 1) = (k == 33) := by
  unfold sortR
  by_cases h : k = 97
  · simp [h]
  · by_cases h1 : k = 33
    · simp [h1]
    · by_cases h2 : k = 61
      · simp [h2]
      · by_cases h3 : k = 35
        · simp [h3]
        · simp [h, h1, h2, h3]

theorem LitC.atom {p : PLV} {q : RLitV} (h : LitC p q) : hasAtomB p.1 = isA q := by
  unfold hasAtomB isA
  rw [h.eq]
  simp only [plR, sort0, sort1]

theorem LitC.terms {p : PLV} {q : RLitV} (h : LitC p q) : termsL p.1 = (litTerms q).map ct := by
  unfold termsL litTerms
  rw [h.atom, h.eq]
  split <;> simp [plR]

/-- A clause of the one beside the other's. -/
structure Cor (c : PCV) (r : RCV) : Prop where
  hp : c.hp = r.head.at_
  hn : c.hn = r.head.name
  hts : c.hts = r.head.args.map ct
  lits : F2 LitC c.lvs r.bl
  len : lenOf c.hv = r.head.args.length
  at_ : r.at_ = r.head.at_

def namesR (r : RCV) : List ByteArray := r.head.name :: (r.bl.filter isA).map fun q => q.1.A.name
def termsRr (r : RCV) : List RTerm := r.head.args ++ r.bl.flatMap litTerms

theorem lits_names {lvs : List PLV} {bl : List RLitV} (h : F2 LitC lvs bl) : bodyNames lvs = (bl.filter isA).map fun q => q.1.A.name := by
  unfold bodyNames
  induction h using F2.ind with
  | nil => rfl
  | cons h1 _ ih =>
    rw [List.filter_cons, List.filter_cons, h1.atom]
    split
    · rw [List.map_cons, List.map_cons, ih, h1.eq]; rfl
    · exact ih

theorem Cor.names {c : PCV} {r : RCV} (h : Cor c r) : namesV c = namesR r := by
  unfold namesV namesR
  rw [h.hn, lits_names h.lits]

theorem Cor.terms {c : PCV} {r : RCV} (h : Cor c r) : termsV c = (termsRr r).map ct := by
  unfold termsV termsRr bodyTerms
  rw [h.hts, List.map_append, List.map_flatMap, F2.flatMap (fun a b hab => hab.terms) h.lits]

def thingsR (r : RCV) : List ByteArray := ((termsRr r).filter fun t => t.v == 0).map fun t => t.s

theorem Cor.things {c : PCV} {r : RCV} (h : Cor c r) : thingsV c = (thingsR r).map thingC := by
  unfold thingsV thingsR
  rw [h.terms, List.filter_map, List.map_map, List.map_map]
  have e : (termsRr r).filter ((fun t => t.v == 0) ∘ ct) = (termsRr r).filter fun t => t.v == 0 := by
    apply List.filter_congr
    intro t _
    exact ct_eq0 t
  rw [e]
  rfl

theorem ddp_map_len (f : ByteArray → ByteArray) (hf : ∀ a b, f a = f b → a = b) (l : List ByteArray) : (ddp (l.map f)).length = (ddp l).length := by
  rw [show (ddp l).length = ((ddp l).map f).length from by simp]
  refine len_of_mem (ddp_spec _).1 (List.Pairwise.map f (fun a b hab e => hab (hf a b e)) (ddp_spec l).1) (fun y => ?_)
  rw [(ddp_spec _).2, List.mem_map, List.mem_map]
  constructor
  · rintro ⟨x, h1, h2⟩
    exact ⟨x, ((ddp_spec l).2 x).2 h1, h2⟩
  · rintro ⟨x, h1, h2⟩
    exact ⟨x, ((ddp_spec l).2 x).1 h1, h2⟩

/-- The names. -/
theorem namesC_fold (l : List ByteArray) (r : RCV) : namesC l r = (namesR r).foldl nameT l := by
  unfold namesC namesR
  rw [List.foldl_cons]
  generalize nameT l r.head.name = l0
  induction r.bl generalizing l0 with
  | nil => rfl
  | cons q bl ih =>
    rw [List.foldl_cons, List.filter_cons]
    unfold nameL
    cases hq : isA q with
    | true =>
      simp only [if_true, List.map_cons, List.foldl_cons]
      exact ih _
    | false =>
      simp only [Bool.false_eq_true, if_false]
      exact ih _

theorem foldl_flat {α β γ : Type} (f : γ → β → γ) (g : α → List β) : ∀ (l : List α) (c : γ), (l.flatMap g).foldl f c = l.foldl (fun c a => (g a).foldl f c) c
  | [], c => rfl
  | a :: l, c => by rw [List.flatMap_cons, List.foldl_append, List.foldl_cons, foldl_flat f g l]

theorem namesP_ddp (cs : List RCV) : namesP cs = ddp (cs.flatMap namesR) := by
  unfold namesP ddp
  rw [foldl_flat]
  congr 1
  funext l r
  exact namesC_fold l r

theorem insFold_mem (x y : ByteArray) : ∀ (l : List ByteArray) (a : List ByteArray × Bool), (y ∈ (l.foldl (insStep x) a).1 ↔ y ∈ a.1 ∨ y ∈ l ∨ (y = x ∧ a.2 = false ∧ (l.foldl (insStep x) a).2 = true)) ∧ (a.2 = true → (l.foldl (insStep x) a).2 = true)
  | [], a => by
    refine ⟨?_, fun h => h⟩
    simp only [List.foldl_nil, List.not_mem_nil, false_or]
    constructor
    · exact Or.inl
    · rintro (h | ⟨_, h1, h2⟩)
      · exact h
      · rw [h1] at h2; cases h2
  | z :: l, a => by
    obtain ⟨i1, i2⟩ := insFold_mem x y l (insStep x a z)
    rw [List.foldl_cons]
    unfold insStep at i1 i2 ⊢
    cases hb : (!a.2 && lessB x z) with
    | true =>
      have ha : a.2 = false := by
        cases h : a.2 with
        | false => rfl
        | true => rw [h] at hb; simp at hb
      rw [hb] at i1 i2
      simp only [if_true] at i1 i2 ⊢
      have hfin := i2 trivial
      refine ⟨?_, fun h => by rw [ha] at h; cases h⟩
      rw [i1, hfin, ha]
      simp only [List.mem_append, List.mem_cons, List.not_mem_nil, Bool.true_eq_false, false_and, and_false, or_false, true_and, and_true, and_self]
      constructor
      · rintro ((h | h) | h)
        · rcases h with h | h
          · exact Or.inl h
          · exact Or.inr (Or.inr h)
        · exact Or.inr (Or.inl (Or.inl h))
        · exact Or.inr (Or.inl (Or.inr h))
      · rintro (h | (h | h) | h)
        · exact Or.inl (Or.inl (Or.inl h))
        · exact Or.inl (Or.inr h)
        · exact Or.inr h
        · exact Or.inl (Or.inl (Or.inr h))
    | false =>
      rw [hb] at i1 i2
      simp only [Bool.false_eq_true, if_false] at i1 i2 ⊢
      refine ⟨?_, i2⟩
      rw [i1]
      simp only [List.mem_append, List.mem_cons, List.not_mem_nil, or_false]
      constructor
      · rintro ((h | h) | h | h)
        · exact Or.inl h
        · exact Or.inr (Or.inl (Or.inl h))
        · exact Or.inr (Or.inl (Or.inr h))
        · exact Or.inr (Or.inr h)
      · rintro (h | (h | h) | h)
        · exact Or.inl (Or.inl h)
        · exact Or.inl (Or.inr h)
        · exact Or.inr (Or.inl h)
        · exact Or.inr (Or.inr h)

theorem withP_mem (l : List ByteArray) (x y : ByteArray) : y ∈ withP l x ↔ y = x ∨ y ∈ l := by
  have h := (insFold_mem x y l ([], false)).1
  unfold withP
  unfold insF
  cases hf : (l.foldl (insStep x) ([], false)).2 with
  | true =>
    rw [hf] at h
    simp only [if_true]
    rw [h]
    simp only [List.not_mem_nil, false_or, true_and, and_true, and_self]
    exact ⟨fun h => by rcases h with h | h; exact Or.inr h; exact Or.inl h, fun h => by rcases h with h | h; exact Or.inr h; exact Or.inl h⟩
  | false =>
    rw [hf] at h
    simp only [Bool.false_eq_true, if_false, List.mem_append, List.mem_singleton]
    rw [h]
    simp only [List.not_mem_nil, false_or, Bool.false_eq_true, and_false, or_false]
    exact ⟨fun h => by rcases h with h | h; exact Or.inr h; exact Or.inl h, fun h => by rcases h with h | h; exact Or.inr h; exact Or.inl h⟩

/-- Both lists of things have as many. -/
structure SameS (a b : List ByteArray) : Prop where
  mem : ∀ y, y ∈ a ↔ y ∈ b
  len : a.length = b.length

theorem SameS.addT {a b : List ByteArray} (h : SameS a b) (t : RTerm) : SameS (addT a t) (if t.v == 0 then nameT b t.s else b) := by
  unfold Go.Proofs.YtoihbhenbmffcaaGreatDoor.addT nameT
  cases hv : (t.v == 0) with
  | false => simpa using h
  | true =>
    have e : hasB a t.s = hasB b t.s := by rw [Bool.eq_iff_iff, hasB_iff, hasB_iff, h.mem]
    rw [e]
    cases hh : hasB b t.s with
    | true => simpa using h
    | false =>
      simp only [Bool.not_false, Bool.and_self, if_true, Bool.false_eq_true, if_false]
      refine ⟨fun y => ?_, by rw [withP_len, h.len]; simp⟩
      rw [withP_mem, h.mem]
      simp only [List.mem_append, List.mem_singleton]
      exact ⟨fun h => by rcases h with h | h; exact Or.inr h; exact Or.inl h, fun h => by rcases h with h | h; exact Or.inr h; exact Or.inl h⟩

theorem SameS.addP {a b : List ByteArray} (h : SameS a b) : ∀ ts : List RTerm, SameS (addP a ts) (((ts.filter fun t => t.v == 0).map fun t => t.s).foldl nameT b) := by
  intro ts
  unfold Go.Proofs.YtoihbhenbmffcaaGreatDoor.addP
  induction ts generalizing a b with
  | nil => exact h
  | cons t ts ih =>
    rw [List.foldl_cons, List.filter_cons]
    have h1 := h.addT t
    cases hv : (t.v == 0) with
    | true =>
      rw [hv] at h1
      simp only [if_true] at h1 ⊢
      rw [List.map_cons, List.foldl_cons]
      exact ih h1
    | false =>
      rw [hv] at h1
      simp only [Bool.false_eq_true, if_false] at h1 ⊢
      exact ih h1

theorem addP_app (l : List ByteArray) (a b : List RTerm) : addP l (a ++ b) = addP (addP l a) b := by
  unfold addP; rw [List.foldl_append]

theorem thingsC_eq (l : List ByteArray) (r : RCV) : thingsC l r = addP l (termsRr r) := by
  unfold thingsC termsRr
  rw [addP_app]
  generalize addP l r.head.args = l0
  induction r.bl generalizing l0 with
  | nil => rfl
  | cons q bl ih =>
    rw [List.foldl_cons, List.flatMap_cons, addP_app]
    exact ih _

theorem thingsP_same (cs : List RCV) : SameS (thingsP cs) (ddp (cs.flatMap thingsR)) := by
  unfold thingsP ddp
  rw [foldl_flat]
  have : ∀ (l : List RCV) (a b : List ByteArray), SameS a b → SameS (l.foldl thingsC a) (l.foldl (fun c r => (thingsR r).foldl nameT c) b) := by
    intro l
    induction l with
    | nil => intro a b h; exact h
    | cons r l ih =>
      intro a b h
      rw [List.foldl_cons, List.foldl_cons]
      refine ih _ _ ?_
      rw [thingsC_eq]
      exact h.addP _
  exact this cs [] [] ⟨fun y => Iff.rfl, rfl⟩

end Go.Proofs.YtoihbhenbmffcaaGreatDoor

namespace Go.Proofs.YtoihbhenbmffcaaGreatDoor
open Go.RowKit

/-- An atom's place, name and number of arguments. -/
abbrev AtN := Int × ByteArray × Nat
def trip (a : CAtom) : AtN := (a.place, a.name, lenOf a.tv)
def atomsN (r : RCV) : List AtN := ((r.head.at_ : Int), r.head.name, r.head.args.length) :: (r.bl.filter isA).map fun q => ((q.1.A.at_ : Int), q.1.A.name, q.1.A.args.length)

theorem lits_atoms {lvs : List PLV} {bl : List RLitV} (h : F2 LitC lvs bl) : (bodyAtoms lvs).map trip = (bl.filter isA).map fun q => ((q.1.A.at_ : Int), q.1.A.name, q.1.A.args.length) := by
  unfold bodyAtoms
  induction h using F2.ind with
  | nil => rfl
  | cons h1 _ ih =>
    rw [List.filter_cons, List.filter_cons, h1.atom]
    split
    · rw [List.map_cons, List.map_cons, List.map_cons, ih]
      congr 1
      unfold trip
      simp only
      rw [h1.eq, h1.len]
      rfl
    · exact ih

theorem Cor.atoms {c : PCV} {r : RCV} (h : Cor c r) : (atomsV c).map trip = atomsN r := by
  unfold atomsV atomsN
  rw [List.map_cons, lits_atoms h.lits]
  congr 1
  unfold trip
  simp only
  rw [h.hp, h.hn, h.len]

def isN (x : ByteArray) (p : ByteArray × Nat) : Bool := p.1.toList == x.toList
def arOf (L : List (ByteArray × Nat)) (x : ByteArray) : Int := match L.find? (isN x) with | some p => p.2 | none => -1
def badN (L : List (ByteArray × Nat)) (a : AtN) : Bool := arOf L a.2.1 != (a.2.2 : Int)

def allAt (cs : List RCV) : List (ByteArray × Nat) := cs.flatMap fun r => (atomsN r).map fun a => a.2

theorem arityL_find (bl : List RLitV) (x : ByteArray) : arityL bl x = (((bl.filter isA).map fun q => (q.1.A.name, q.1.A.args.length)).find? (isN x)).map fun p => p.2 := by
  unfold arityL
  induction bl with
  | nil => rfl
  | cons q bl ih =>
    rw [List.findSome?_cons, List.filter_cons]
    cases hq : isA q with
    | false =>
      simp only [Bool.false_and, Bool.false_eq_true, if_false]
      exact ih
    | true =>
      simp only [Bool.true_and, if_true, List.map_cons]
      rw [List.find?_cons]
      unfold isN
      simp only
      cases hn : (q.1.A.name.toList == x.toList) with
      | true => rfl
      | false => exact ih

theorem arityC_find (r : RCV) (x : ByteArray) : arityC r x = (((atomsN r).map fun a => a.2).find? (isN x)).map fun p => p.2 := by
  unfold arityC atomsN
  rw [List.map_cons, List.find?_cons, arityL_find, List.map_map]
  unfold isN
  simp only
  cases h : (r.head.name.toList == x.toList) with
  | true => rfl
  | false => rfl

theorem arityP_eq (cs : List RCV) (x : ByteArray) : arityP cs x = arOf (allAt cs) x := by
  have : cs.findSome? (arityC · x) = ((allAt cs).find? (isN x)).map fun p => p.2 := by
    unfold allAt
    induction cs with
    | nil => rfl
    | cons r cs ih =>
      rw [List.findSome?_cons, List.flatMap_cons, List.find?_append, arityC_find, ih]
      cases ((atomsN r).map fun a => a.2).find? (isN x) <;> rfl
  unfold arityP arOf
  rw [this]
  cases (allAt cs).find? (isN x) <;> rfl

/-- The atoms of a clause with another arity. -/
theorem find_atomsN (L : List (ByteArray × Nat)) (r : RCV) : ((atomsN r).find? (badN L)).map (fun a => a.1) =
    if arOf L r.head.name ≠ (r.head.args.length : Int) then some (r.head.at_ : Int) else (r.bl.find? fun q => isA q && (arOf L q.1.A.name != (q.1.A.args.length : Int))).map fun q => (q.1.A.at_ : Int) := by
  unfold atomsN
  rw [List.find?_cons]
  have e : badN L ((r.head.at_ : Int), r.head.name, r.head.args.length) = (arOf L r.head.name != (r.head.args.length : Int)) := rfl
  rw [e]
  cases hh : (arOf L r.head.name != (r.head.args.length : Int)) with
  | true =>
    have : arOf L r.head.name ≠ (r.head.args.length : Int) := by simpa using hh
    rw [if_pos this]
    rfl
  | false =>
    have : ¬ arOf L r.head.name ≠ (r.head.args.length : Int) := by simpa using hh
    rw [if_neg this]
    simp only
    induction r.bl with
    | nil => rfl
    | cons q bl ih =>
      rw [List.filter_cons, List.find?_cons]
      cases hq : isA q with
      | false =>
        simp only [Bool.false_and, Bool.false_eq_true, if_false]
        exact ih
      | true =>
        simp only [Bool.true_and, if_true, List.map_cons]
        rw [List.find?_cons]
        have e2 : badN L ((q.1.A.at_ : Int), q.1.A.name, q.1.A.args.length) = (arOf L q.1.A.name != (q.1.A.args.length : Int)) := rfl
        rw [e2]
        cases (arOf L q.1.A.name != (q.1.A.args.length : Int)) with
        | true => rfl
        | false => exact ih

/-- The variables that nothing binds. -/
theorem Cor.bound {c : PCV} {r : RCV} (h : Cor c r) (v : UInt8) : boundV c.lvs (v.toNat : Int) = boundB r.bl v := by
  unfold boundV boundB bindT
  have hl := h.lits
  generalize c.lvs = lvs at hl
  generalize r.bl = bl at hl
  induction hl using F2.ind with
  | nil => rfl
  | cons h1 _ ih =>
    rw [List.flatMap_cons, List.any_append, List.any_cons, ih]
    congr 1
    unfold boundL boundA
    rw [h1.eq]
    simp only [plR, sort0]
    split
    · rename_i hk
      rw [hk, List.any_map]
      simp only [Bool.true_and]
      apply any_cong
      intro t _
      exact ct_eq t v
    · rename_i hk
      simp only [Bool.not_eq_true] at hk
      rw [hk]
      rfl

theorem Cor.loose {c : PCV} {r : RCV} (h : Cor c r) (t : RTerm) : looseV c (ct t) = looseT r.bl t := by
  unfold looseV looseT
  have e : ((ct t).v != 0) = !(t.v == 0) := by rw [bne, ct_eq0]
  rw [e]
  have : (ct t).v = (t.v.toNat : Int) := rfl
  rw [this, h.bound]
  cases (t.v == 0) <;> simp

theorem Cor.unsaf {c : PCV} {r : RCV} (h : Cor c r) : unsafeO c = if 0 ≤ safeP r.head r.bl then some (safeP r.head r.bl) else none := by
  unfold unsafeO safeP
  have e1 : c.hts.any (looseV c) = r.head.args.any (looseT r.bl) := by
    rw [h.hts, List.any_map]
    apply any_cong
    intro t _
    exact h.loose t
  have e2 : (c.lvs.find? fun p => (termsL p.1).any (looseV c)).map (fun p => p.1.place) = (r.bl.find? (safeL r.bl)).map fun q => (q.1.at_ : Int) := by
    refine F2.find (fun p q hpq => ⟨?_, ?_⟩) h.lits
    · unfold safeL
      rw [hpq.terms, List.any_map]
      apply any_cong
      intro t _
      exact h.loose t
    · rw [hpq.eq]; rfl
  rw [e1, e2, h.hp]
  cases r.head.args.any (looseT r.bl) with
  | true =>
    simp only [if_true]
    rw [if_pos (by omega)]
  | false =>
    simp only [Bool.false_eq_true, if_false]
    cases r.bl.find? (safeL r.bl) with
    | none => rfl
    | some q =>
      simp only [Option.map_some]
      rw [if_pos (by omega)]

theorem Cor.great {c : PCV} {r : RCV} (h : Cor c r) : greatB c = (decide (2 < r.head.args.length) || r.bl.any manyArgs || decide (3 < r.bl.length)) := by
  unfold greatB
  rw [h.lits.length]
  congr 1
  have e : (atomsV c).any (fun a => decide (2 < lenOf a.tv)) = (atomsN r).any fun a => decide (2 < a.2.2) := by
    rw [← h.atoms, List.any_map]
    rfl
  rw [e]
  unfold atomsN
  rw [List.any_cons]
  congr 1
  have hp : ∀ q ∈ r.bl, isA q = false → q.1.A.args = [] := fun q hq => by
    obtain ⟨p, _, hpq⟩ := h.lits.mem q hq
    exact hpq.plain
  generalize r.bl = bl at hp
  induction bl with
  | nil => rfl
  | cons q bl ih =>
    rw [List.filter_cons, List.any_cons]
    have ih := ih (fun q hq => hp q (by simp [hq]))
    cases hq : isA q with
    | true =>
      simp only [if_true, List.map_cons, List.any_cons]
      rw [ih]
      rfl
    | false =>
      have := hp q (by simp) hq
      simp only [Bool.false_eq_true, if_false]
      rw [ih]
      unfold manyArgs
      rw [this]
      rfl

/-- The arities of the one are the other's. -/
theorem atoms_all {pcs : List PCV} {rcs : List RCV} (h : F2 Cor pcs rcs) : allAt rcs = ((pcs.flatMap atomsV).map trip).map fun a => a.2 := by
  unfold allAt
  rw [List.map_flatMap, ← F2.flatMap (f := fun c => (atomsV c).map trip) (g := atomsN) (fun a b hab => hab.atoms) h |>.symm, List.map_flatMap]

theorem arV_find {pcs : List PCV} {rcs : List RCV} (h : F2 Cor pcs rcs) (x : ByteArray) : arV pcs x = ((allAt rcs).find? (isN x)).map fun p => p.2 := by
  rw [atoms_all h, List.map_map, List.find?_map, Option.map_map]
  rfl

theorem arO_find {pcs : List PCV} {rcs : List RCV} (h : F2 Cor pcs rcs) {c : PCV} {r : RCV} (hc : Cor c r) (hm : ∀ a ∈ atomsN r, a.2 ∈ allAt rcs) (hg : greatB c = false) :
    arO pcs (atomsV c) = ((atomsN r).find? (badN (allAt rcs))).map fun a => a.1 := by
  unfold arO
  rw [← hc.atoms, List.find?_map, Option.map_map]
  have e : (atomsV c).find? (badA pcs) = (atomsV c).find? (badN (allAt rcs) ∘ trip) := by
    apply find_cong
    intro a ha
    have hl : ¬ 2 < lenOf a.tv := by
      unfold greatB at hg
      simp only [Bool.or_eq_false_iff] at hg
      have := (List.any_eq_false.1 hg.1) a ha
      simpa using this
    have hin : (trip a).2 ∈ allAt rcs := hm _ (by rw [← hc.atoms]; exact List.mem_map_of_mem ha)
    have hsome : ((allAt rcs).find? (isN a.name)).isSome = true := by
      rw [List.find?_isSome]
      exact ⟨_, hin, by simp [isN, trip]⟩
    unfold badA badN arOf
    simp only [Function.comp]
    rw [arV_find h]
    rw [show (trip a).2.1 = a.name from rfl, show (trip a).2.2 = lenOf a.tv from rfl]
    cases hq : (allAt rcs).find? (isN a.name) with
    | none => rw [hq] at hsome; cases hsome
    | some p =>
      simp only [Option.map_some, hl, decide_false, Bool.false_or]
      rw [Bool.eq_iff_iff]
      simp only [Bool.not_eq_true', beq_eq_false_iff_ne, bne_iff_ne, ne_eq]
      omega
  rw [e]
  rfl

/-- The check of a clause. -/
theorem chk_sound {pcs : List PCV} {rcs : List RCV} (h : F2 Cor pcs rcs) {k : Nat} {c : PCV} {r : RCV} (hc : Cor c r) (hm : ∀ a ∈ atomsN r, a.2 ∈ allAt rcs) :
    chkC pcs k c = soundC rcs k r := by
  have e1 := arO_find h hc hm
  have en : (ddp ((pcs.take (k + 1)).flatMap namesV)).length = (namesP (rcs.take (k + 1))).length := by
    rw [namesP_ddp, F2.flatMap (fun a b hab => hab.names) (h.take (k + 1))]
  have et : (ddp ((pcs.take (k + 1)).flatMap thingsV)).length = (thingsP (rcs.take (k + 1))).length := by
    rw [(thingsP_same _).len, F2.flatMap (g := fun r => (thingsR r).map thingC) (fun a b hab => hab.things) (h.take (k + 1)), ← List.map_flatMap, ddp_map_len _ (fun a b => thingC_inj)]
  unfold chkC soundC manyB
  rw [hc.great] at e1
  rw [en, et, hc.great, hc.unsaf, arityP_eq, hc.hp, hc.at_]
  generalize (namesP (rcs.take (k + 1))).length = N
  generalize (thingsP (rcs.take (k + 1))).length = T
  cases hcond : ((decide (12 < k + 1) || decide (6 < N) || decide (6 < T)) || (decide (2 < r.head.args.length) || r.bl.any manyArgs || decide (3 < r.bl.length))) with
  | true =>
    rw [if_pos rfl]
    by_cases h1 : 12 ≤ k ∨ 3 < r.bl.length
    · rw [if_pos h1]
    · rw [if_neg h1]
      by_cases h2 : 2 < r.head.args.length
      · rw [if_pos h2]
      · rw [if_neg h2]
        by_cases h3 : r.bl.any manyArgs = true
        · rw [if_pos h3]
        · rw [if_neg h3]
          by_cases h4 : 6 < N ∨ 6 < T
          · rw [if_pos h4]
          · exfalso
            simp only [Bool.or_eq_true, decide_eq_true_eq] at hcond
            simp only [not_or] at h1 h4
            rcases hcond with ((h | h) | h) | ((h | h) | h)
            · omega
            · exact h4.1 h
            · exact h4.2 h
            · exact h2 h
            · exact h3 h
            · exact h1.2 h
  | false =>
    simp only [Bool.or_eq_false_iff, decide_eq_false_iff_not] at hcond
    obtain ⟨⟨⟨c1, c2⟩, c3⟩, ⟨c4, c5⟩, c6⟩ := hcond
    rw [e1 (by simp only [c4, c5, c6, decide_false, Bool.or_self]), find_atomsN]
    rw [if_neg (show ¬ (false = true) by simp), if_neg (show ¬ (12 ≤ k ∨ 3 < r.bl.length) by omega), if_neg c4, if_neg (show ¬ (r.bl.any manyArgs = true) by rw [c5]; simp), if_neg (show ¬ (6 < N ∨ 6 < T) by omega)]
    by_cases h5 : arOf (allAt rcs) r.head.name ≠ (r.head.args.length : Int)
    · rw [if_pos h5, if_pos h5]
    · rw [if_neg h5, if_neg h5]
      have e5 : (r.bl.find? fun q => isA q && (arOf (allAt rcs) q.1.A.name != (q.1.A.args.length : Int))) = r.bl.find? (otherArity rcs) := by
        apply find_cong
        intro q _
        unfold otherArity
        rw [arityP_eq]
      rw [e5]
      cases r.bl.find? (otherArity rcs) with
      | some q => rfl
      | none =>
        simp only [Option.map_none]
        by_cases h6 : 0 ≤ safeP r.head r.bl <;> simp [h6]

theorem chkL_sound {pcs : List PCV} {rcs : List RCV} (h : F2 Cor pcs rcs) : ∀ {l : List PCV} {m : List RCV}, F2 Cor l m → ∀ (k : Nat), (∀ r ∈ m, r ∈ rcs) → chkL pcs k l = soundL rcs k m := by
  intro l m hlm
  induction hlm using F2.ind with
  | nil => intro k _; rfl
  | cons hc _ ih =>
    rename_i c r l m _
    intro k hin
    have hr : ∀ a ∈ atomsN r, a.2 ∈ allAt rcs := fun a ha => List.mem_flatMap.2 ⟨r, hin r (by simp), List.mem_map_of_mem ha⟩
    rw [chkL, soundL, chk_sound h hc hr]
    cases hs : soundC rcs k r with
    | some x => rfl
    | none => exact ih (k + 1) (fun r hr => hin r (by simp [hr]))

theorem loop_sound {pcs : List PCV} {rcs : List RCV} (h : F2 Cor pcs rcs) {f : ByteArray → ByteArray → Bool} (hf : ∀ x y, f x y = reachP rcs x y) : (loopO f pcs).map (fun p => ((6 : Int), p)) = rcs.findSome? (strataC rcs) := by
  unfold loopO
  have key : ∀ {l : List PCV} {m : List RCV}, F2 Cor l m → (l.findSome? (loopC f)).map (fun p => ((6 : Int), p)) = m.findSome? (strataC rcs) := by
    intro l m hlm
    induction hlm using F2.ind with
    | nil => rfl
    | cons hc _ ih =>
      rename_i c r l m _
      rw [List.findSome?_cons, List.findSome?_cons]
      have e : (loopC f c).map (fun p => ((6 : Int), p)) = strataC rcs r := by
        unfold loopC strataC
        rw [Option.map_map]
        refine F2.find (fun p q hpq => ⟨?_, ?_⟩) hc.lits
        · unfold loopL strataL
          rw [hpq.eq, hf, hc.hn]
          simp only [plR, sort1]
        · simp only [Function.comp]
          rw [hpq.eq]
          rfl
      rw [← e]
      cases loopC f c with
      | some p => rfl
      | none => exact ih
  exact key h

theorem load_sound {pcs : List PCV} {rcs : List RCV} (h : F2 Cor pcs rcs) {f : ByteArray → ByteArray → Bool} (hf : ∀ x y, f x y = reachP rcs x y) : loadR f pcs = soundP rcs := by
  unfold loadR soundP
  rw [chkL_sound h h 0 (fun r hr => hr), ← loop_sound h hf]
  cases soundL rcs 0 rcs with
  | some r => rfl
  | none =>
    simp only
    cases loopO f pcs <;> rfl

end Go.Proofs.YtoihbhenbmffcaaGreatDoor
