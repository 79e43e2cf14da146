import Derived.Test.YtddpdjjlkakecaaGreatPlC
import Derived.Test.YtddpdjjlkakecaaGreatChkK
import Derived.Test.YtddpdjjlkakecaaGreatRefRd
set_option linter.unusedVariables false
set_option linter.unusedSimpArgs false

namespace Go.Proofs.YtddpdjjlkakecaaGreat
open Go.RowKit

/-- Two lists, one value beside the other. -/
def F2 {α β : Type} (R : α → β → Prop) : List α → List β → Prop
  | [], [] => True
  | a :: l, b :: m => R a b ∧ F2 R l m
  | _, _ => False

theorem F2.nil {α β : Type} {R : α → β → Prop} : F2 R ([] : List α) ([] : List β) := trivial
theorem F2.cons {α β : Type} {R : α → β → Prop} {a : α} {b : β} {l : List α} {m : List β} (h : R a b) (t : F2 R l m) : F2 R (a :: l) (b :: m) := ⟨h, t⟩
theorem F2.ind {α β : Type} {R : α → β → Prop} {motive : (l : List α) → (m : List β) → F2 R l m → Prop} (nil : motive [] [] F2.nil) (cons : ∀ {a : α} {b : β} {l : List α} {m : List β} (h : R a b) (t : F2 R l m), motive l m t → motive (a :: l) (b :: m) (F2.cons h t)) : ∀ {l : List α} {m : List β} (h : F2 R l m), motive l m h
  | [], [], _ => nil
  | [], _ :: _, h => h.elim
  | _ :: _, [], h => h.elim
  | _ :: _, _ :: _, h => cons h.1 h.2 (F2.ind nil cons h.2)

theorem F2.of_map {α β γ : Type} {f : α → γ} {g : β → γ} : ∀ {l : List α} {m : List β}, l.map f = m.map g → F2 (fun a b => f a = g b) l m
  | [], [], _ => F2.nil
  | [], _ :: _, h => by simp at h
  | _ :: _, [], h => by simp at h
  | a :: l, b :: m, h => by
    simp only [List.map_cons, List.cons.injEq] at h
    exact F2.cons h.1 (F2.of_map h.2)

theorem F2.length {α β : Type} {R : α → β → Prop} {l : List α} {m : List β} (h : F2 R l m) : l.length = m.length := by
  induction h using F2.ind with
  | nil => rfl
  | cons _ _ ih => simp [ih]

theorem F2.take {α β : Type} {R : α → β → Prop} {l : List α} {m : List β} (h : F2 R l m) (k : Nat) : F2 R (l.take k) (m.take k) := by
  induction h using F2.ind generalizing k with
  | nil => simp; exact F2.nil
  | cons h1 _ ih =>
    cases k with
    | zero => simp; exact F2.nil
    | succ k => simp only [List.take_succ_cons]; exact F2.cons h1 (ih k)

theorem F2.flatMap {α β γ : Type} {R : α → β → Prop} {f : α → List γ} {g : β → List γ} (hR : ∀ a b, R a b → f a = g b) {l : List α} {m : List β} (h : F2 R l m) : l.flatMap f = m.flatMap g := by
  induction h using F2.ind with
  | nil => rfl
  | cons h1 _ ih => rw [List.flatMap_cons, List.flatMap_cons, hR _ _ h1, ih]

theorem F2.any {α β : Type} {R : α → β → Prop} {f : α → Bool} {g : β → Bool} (hR : ∀ a b, R a b → f a = g b) {l : List α} {m : List β} (h : F2 R l m) : l.any f = m.any g := by
  induction h using F2.ind with
  | nil => rfl
  | cons h1 _ ih => rw [List.any_cons, List.any_cons, hR _ _ h1, ih]

theorem F2.find {α β γ : Type} {R : α → β → Prop} {f : α → Bool} {g : β → Bool} {u : α → γ} {v : β → γ} (hR : ∀ a b, R a b → f a = g b ∧ u a = v b) {l : List α} {m : List β} (h : F2 R l m) : (l.find? f).map u = (m.find? g).map v := by
  induction h using F2.ind with
  | nil => rfl
  | cons h1 _ ih =>
    obtain ⟨e1, e2⟩ := hR _ _ h1
    rw [List.find?_cons, List.find?_cons, e1]
    split
    · simp [e2]
    · exact ih

theorem F2.mem {α β : Type} {R : α → β → Prop} {l : List α} {m : List β} (h : F2 R l m) : ∀ b ∈ m, ∃ a ∈ l, R a b := by
  induction h using F2.ind with
  | nil => intro b hb; simp at hb
  | cons h1 _ ih =>
    intro b hb
    rcases List.mem_cons.1 hb with rfl | hb
    · exact ⟨_, by simp, h1⟩
    · obtain ⟨a, ha, hr⟩ := ih b hb
      exact ⟨a, by simp [ha], hr⟩

theorem F2.mem1 {α β : Type} {R : α → β → Prop} {l : List α} {m : List β} (h : F2 R l m) : ∀ a ∈ l, ∃ b ∈ m, R a b := by
  induction h using F2.ind with
  | nil => intro b hb; simp at hb
  | cons h1 _ ih =>
    intro b hb
    rcases List.mem_cons.1 hb with rfl | hb
    · exact ⟨_, by simp, h1⟩
    · obtain ⟨a, ha, hr⟩ := ih b hb
      exact ⟨a, by simp [ha], hr⟩

theorem F2.mono {α β : Type} {R S : α → β → Prop} {l : List α} {m : List β} (h : F2 R l m) (hi : ∀ a ∈ l, ∀ b ∈ m, R a b → S a b) : F2 S l m := by
  induction h using F2.ind with
  | nil => exact F2.nil
  | cons h1 _ ih => exact F2.cons (hi _ (by simp) _ (by simp) h1) (ih (fun a ha b hb => hi a (by simp [ha]) b (by simp [hb])))

/-- A literal of the one beside the other's. -/
structure LitC (p : PLV) (q : RLitV) : Prop where
  eq : p.1 = plR q.1
  len : lenOf p.2 = q.1.A.args.length
  plain : isA q = false → q.1.A.args = []

theorem ct_eq0 (t : RTerm) : ((ct t).v == 0) = (t.v == 0) := by
  unfold ct
  simp only
  rw [Bool.eq_iff_iff]
  simp only [beq_iff_eq]
  constructor
  · intro h
    apply UInt8.toNat_inj.1
    rw [show (0 : UInt8).toNat = 0 from rfl]
    omega
  · intro h; rw [h]; rfl
theorem ct_eq (t : RTerm) (v : UInt8) : ((ct t).v == (v.toNat : Int)) = (t.v == v) := by
  unfold ct
  simp only
  rw [Bool.eq_iff_iff]
  simp only [beq_iff_eq]
  constructor
  · intro h
    apply UInt8.toNat_inj.1
    omega
  · intro h; rw [h]

theorem sort0 (k : UInt8) : (sortR k == 0) = (k == 97) := by
  unfold sortR
  by_cases h : k = 97
  · simp [h]
  · by_cases h1 : k = 33
    · simp [h1]
    · by_cases h2 : k = 61
      · simp [h2]
      · by_cases h3 : k = 35
        · simp [h3]
        · simp [h, h1, h2, h3]
theorem sort1 (k : UInt8) : (sortR k == 1) = (k == 33) := by
  unfold sortR
  by_cases h : k = 97
  · simp [h]
  · by_cases h1 : k = 33
    · simp [h1]
    · by_cases h2 : k = 61
      · simp [h2]
      · by_cases h3 : k = 35
        · simp [h3]
        · simp [h, h1, h2, h3]

theorem LitC.atom {p : PLV} {q : RLitV} (h : LitC p q) : hasAtomB p.1 = isA q := by
  unfold hasAtomB isA
  rw [h.eq]
  simp only [plR, sort0, sort1]

theorem LitC.terms {p : PLV} {q : RLitV} (h : LitC p q) : termsL p.1 = (litTerms q).map ct := by
  unfold termsL litTerms
  rw [h.atom, h.eq]
  split <;> simp [plR]

/-- A clause of the one beside the other's. -/
structure Cor (c : PCV) (r : RCV) : Prop where
  hp : c.hp = r.head.at_
  hn : c.hn = r.head.name
  hts : c.hts = r.head.args.map ct
  lits : F2 LitC c.lvs r.bl
  len : lenOf c.hv = r.head.args.length
  at_ : r.at_ = r.head.at_

def namesR (r : RCV) : List ByteArray := r.head.name :: (r.bl.filter isA).map fun q => q.1.A.name
def termsRr (r : RCV) : List RTerm := r.head.args ++ r.bl.flatMap litTerms

theorem lits_names {lvs : List PLV} {bl : List RLitV} (h : F2 LitC lvs bl) : bodyNames lvs = (bl.filter isA).map fun q => q.1.A.name := by
  unfold bodyNames
  induction h using F2.ind with
  | nil => rfl
  | cons h1 _ ih =>
    rw [List.filter_cons, List.filter_cons, h1.atom]
    split
    · rw [List.map_cons, List.map_cons, ih, h1.eq]; rfl
    · exact ih

theorem Cor.names {c : PCV} {r : RCV} (h : Cor c r) : namesV c = namesR r := by
  unfold namesV namesR
  rw [h.hn, lits_names h.lits]

theorem Cor.terms {c : PCV} {r : RCV} (h : Cor c r) : termsV c = (termsRr r).map ct := by
  unfold termsV termsRr bodyTerms
  rw [h.hts, List.map_append, List.map_flatMap, F2.flatMap (fun a b hab => hab.terms) h.lits]

def thingsR (r : RCV) : List ByteArray := ((termsRr r).filter fun t => t.v == 0).map fun t => t.s

theorem Cor.things {c : PCV} {r : RCV} (h : Cor c r) : thingsV c = thingsR r := by
  unfold thingsV thingsR
  rw [h.terms, List.filter_map, List.map_map]
  congr 1
  apply List.filter_congr
  intro t _
  exact ct_eq0 t

/-- The names. -/
theorem namesC_fold (l : List ByteArray) (r : RCV) : namesC l r = (namesR r).foldl nameT l := by
  unfold namesC namesR
  rw [List.foldl_cons]
  generalize nameT l r.head.name = l0
  induction r.bl generalizing l0 with
  | nil => rfl
  | cons q bl ih =>
    rw [List.foldl_cons, List.filter_cons]
    unfold nameL
    cases hq : isA q with
    | true =>
      simp only [if_true, List.map_cons, List.foldl_cons]
      exact ih _
    | false =>
      simp only [Bool.false_eq_true, if_false]
      exact ih _

theorem foldl_flat {α β γ : Type} (f : γ → β → γ) (g : α → List β) : ∀ (l : List α) (c : γ), (l.flatMap g).foldl f c = l.foldl (fun c a => (g a).foldl f c) c
  | [], c => rfl
  | a :: l, c => by rw [List.flatMap_cons, List.foldl_append, List.foldl_cons, foldl_flat f g l]

theorem namesP_ddp (cs : List RCV) : namesP cs = ddp (cs.flatMap namesR) := by
  unfold namesP ddp
  rw [foldl_flat]
  congr 1
  funext l r
  exact namesC_fold l r

theorem insFold_mem (x y : ByteArray) : ∀ (l : List ByteArray) (a : List ByteArray × Bool), (y ∈ (l.foldl (insStep x) a).1 ↔ y ∈ a.1 ∨ y ∈ l ∨ (y = x ∧ a.2 = false ∧ (l.foldl (insStep x) a).2 = true)) ∧ (a.2 = true → (l.foldl (insStep x) a).2 = true)
  | [], a => by
    refine ⟨?_, fun h => h⟩
    simp only [List.foldl_nil, List.not_mem_nil, false_or]
    constructor
    · exact Or.inl
    · rintro (h | ⟨_, h1, h2⟩)
      · exact h
      · rw [h1] at h2; cases h2
  | z :: l, a => by
    obtain ⟨i1, i2⟩ := insFold_mem x y l (insStep x a z)
    rw [List.foldl_cons]
    unfold insStep at i1 i2 ⊢
    cases hb : (!a.2 && lessB x z) with
    | true =>
      have ha : a.2 = false := by
        cases h : a.2 with
        | false => rfl
        | true => rw [h] at hb; simp at hb
      rw [hb] at i1 i2
      simp only [if_true] at i1 i2 ⊢
      have hfin := i2 trivial
      refine ⟨?_, fun h => by rw [ha] at h; cases h⟩
      rw [i1, hfin, ha]
      simp only [List.mem_append, List.mem_cons, List.not_mem_nil, Bool.true_eq_false, false_and, and_false, or_false, true_and, and_true, and_self]
      constructor
      · rintro ((h | h) | h)
        · rcases h with h | h
          · exact Or.inl h
          · exact Or.inr (Or.inr h)
        · exact Or.inr (Or.inl (Or.inl h))
        · exact Or.inr (Or.inl (Or.inr h))
      · rintro (h | (h | h) | h)
        · exact Or.inl (Or.inl (Or.inl h))
        · exact Or.inl (Or.inr h)
        · exact Or.inr h
        · exact Or.inl (Or.inl (Or.inr h))
    | false =>
      rw [hb] at i1 i2
      simp only [Bool.false_eq_true, if_false] at i1 i2 ⊢
      refine ⟨?_, i2⟩
      rw [i1]
      simp only [List.mem_append, List.mem_cons, List.not_mem_nil, or_false]
      constructor
      · rintro ((h | h) | h | h)
        · exact Or.inl h
        · exact Or.inr (Or.inl (Or.inl h))
        · exact Or.inr (Or.inl (Or.inr h))
        · exact Or.inr (Or.inr h)
      · rintro (h | (h | h) | h)
        · exact Or.inl (Or.inl h)
        · exact Or.inl (Or.inr h)
        · exact Or.inr (Or.inl h)
        · exact Or.inr (Or.inr h)

theorem withP_mem (l : List ByteArray) (x y : ByteArray) : y ∈ withP l x ↔ y = x ∨ y ∈ l := by
  have h := (insFold_mem x y l ([], false)).1
  unfold withP
  unfold insF
  cases hf : (l.foldl (insStep x) ([], false)).2 with
  | true =>
    rw [hf] at h
    simp only [if_true]
    rw [h]
    simp only [List.not_mem_nil, false_or, true_and, and_true, and_self]
    exact ⟨fun h => by rcases h with h | h; exact Or.inr h; exact Or.inl h, fun h => by rcases h with h | h; exact Or.inr h; exact Or.inl h⟩
  | false =>
    rw [hf] at h
    simp only [Bool.false_eq_true, if_false, List.mem_append, List.mem_singleton]
    rw [h]
    simp only [List.not_mem_nil, false_or, Bool.false_eq_true, and_false, or_false]
    exact ⟨fun h => by rcases h with h | h; exact Or.inr h; exact Or.inl h, fun h => by rcases h with h | h; exact Or.inr h; exact Or.inl h⟩

/-- Both lists of things have as many. -/
structure SameS (a b : List ByteArray) : Prop where
  mem : ∀ y, y ∈ a ↔ y ∈ b
  len : a.length = b.length

theorem SameS.addT {a b : List ByteArray} (h : SameS a b) (t : RTerm) : SameS (addT a t) (if t.v == 0 then nameT b t.s else b) := by
  unfold Go.Proofs.YtddpdjjlkakecaaGreat.addT nameT
  cases hv : (t.v == 0) with
  | false => simpa using h
  | true =>
    have e : hasB a t.s = hasB b t.s := by rw [Bool.eq_iff_iff, hasB_iff, hasB_iff, h.mem]
    rw [e]
    cases hh : hasB b t.s with
    | true => simpa using h
    | false =>
      simp only [Bool.not_false, Bool.and_self, if_true, Bool.false_eq_true, if_false]
      refine ⟨fun y => ?_, by rw [withP_len, h.len]; simp⟩
      rw [withP_mem, h.mem]
      simp only [List.mem_append, List.mem_singleton]
      exact ⟨fun h => by rcases h with h | h; exact Or.inr h; exact Or.inl h, fun h => by rcases h with h | h; exact Or.inr h; exact Or.inl h⟩

theorem SameS.addP {a b : List ByteArray} (h : SameS a b) : ∀ ts : List RTerm, SameS (addP a ts) (((ts.filter fun t => t.v == 0).map fun t => t.s).foldl nameT b) := by
  intro ts
  unfold Go.Proofs.YtddpdjjlkakecaaGreat.addP
  induction ts generalizing a b with
  | nil => exact h
  | cons t ts ih =>
    rw [List.foldl_cons, List.filter_cons]
    have h1 := h.addT t
    cases hv : (t.v == 0) with
    | true =>
      rw [hv] at h1
      simp only [if_true] at h1 ⊢
      rw [List.map_cons, List.foldl_cons]
      exact ih h1
    | false =>
      rw [hv] at h1
      simp only [Bool.false_eq_true, if_false] at h1 ⊢
      exact ih h1

theorem addP_app (l : List ByteArray) (a b : List RTerm) : addP l (a ++ b) = addP (addP l a) b := by
  unfold addP; rw [List.foldl_append]

theorem thingsC_eq (l : List ByteArray) (r : RCV) : thingsC l r = addP l (termsRr r) := by
  unfold thingsC termsRr
  rw [addP_app]
  generalize addP l r.head.args = l0
  induction r.bl generalizing l0 with
  | nil => rfl
  | cons q bl ih =>
    rw [List.foldl_cons, List.flatMap_cons, addP_app]
    exact ih _

theorem thingsP_same (cs : List RCV) : SameS (thingsP cs) (ddp (cs.flatMap thingsR)) := by
  unfold thingsP ddp
  rw [foldl_flat]
  have : ∀ (l : List RCV) (a b : List ByteArray), SameS a b → SameS (l.foldl thingsC a) (l.foldl (fun c r => (thingsR r).foldl nameT c) b) := by
    intro l
    induction l with
    | nil => intro a b h; exact h
    | cons r l ih =>
      intro a b h
      rw [List.foldl_cons, List.foldl_cons]
      refine ih _ _ ?_
      rw [thingsC_eq]
      exact h.addP _
  exact this cs [] [] ⟨fun y => Iff.rfl, rfl⟩

end Go.Proofs.YtddpdjjlkakecaaGreat
