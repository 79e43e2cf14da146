import Derived.Test.YtoihbhenbmffcaaGreatDoorRefA
set_option linter.unusedVariables false
set_option linter.unusedSimpArgs false

namespace Go.Proofs.YtoihbhenbmffcaaGreatDoor
open Go.RowKit

/-- A strict order, told by a Bool. -/
structure Ordr {α : Type} (lt : α → α → Bool) (eq : α → α → Bool) : Prop where
  trans : ∀ a b c, lt a b = true → lt b c = true → lt a c = true
  irr : ∀ a, lt a a = false
  tot : ∀ a b, lt a b = false → eq a b = false → lt b a = true
  eqv : ∀ a b, eq a b = true ↔ a = b

/-- A rising list. -/
def Rise {α : Type} (lt : α → α → Bool) (l : List α) : Prop := ∀ i j (hi : i < l.length) (hj : j < l.length), i < j → lt l[i] l[j] = true

/-- Where a leap comes down. -/
structure LeapIs {α : Type} (lt : α → α → Bool) (l : List α) (k : Nat) (x : α) (at_ : Nat) : Prop where
  ge : k ≤ at_
  le : at_ ≤ l.length
  below : ∀ i (h : i < l.length), k ≤ i → i < at_ → lt l[i] x = true
  above : ∀ i (h : i < l.length), at_ ≤ i → lt l[i] x = false

section
variable {α : Type} {lt eq : α → α → Bool} {l : List α}

theorem Rise.down (o : Ordr lt eq) (hr : Rise lt l) {i j : Nat} (hj : j < l.length) (hij : i ≤ j) {x : α} (h : lt l[j] x = true) : lt (l[i]'(by omega)) x = true := by
  rcases Nat.lt_or_eq_of_le hij with h1 | h1
  · exact o.trans _ _ _ (hr i j (by omega) hj h1) h
  · subst h1; exact h

theorem Rise.up (o : Ordr lt eq) (hr : Rise lt l) {i j : Nat} (hj : j < l.length) (hij : i ≤ j) {x : α} (h : lt (l[i]'(by omega)) x = false) : lt l[j] x = false := by
  cases hh : lt l[j] x with
  | false => rfl
  | true => rw [hr.down o hj hij hh] at h; cases h

/-- Is the value in the list? -/
def hasAt (eq : α → α → Bool) (l : List α) (at_ : Nat) (x : α) : Bool := if h : at_ < l.length then eq l[at_] x else false

theorem LeapIs.has (o : Ordr lt eq) (hr : Rise lt l) {x : α} {at_ : Nat} (h : LeapIs lt l 0 x at_) : hasAt eq l at_ x = true ↔ x ∈ l := by
  unfold hasAt
  constructor
  · intro hh
    split at hh
    · rename_i hlt
      have := (o.eqv _ _).1 hh
      rw [← this]
      exact List.getElem_mem hlt
    · cases hh
  · intro hx
    obtain ⟨i, hi, he⟩ := List.getElem_of_mem hx
    have h1 : at_ ≤ i := by
      by_cases hq : i < at_
      · have := h.below i hi (by omega) hq
        rw [he, o.irr] at this
        cases this
      · omega
    have hlt : at_ < l.length := by omega
    rw [dif_pos hlt]
    rcases Nat.lt_or_eq_of_le h1 with h2 | h2
    · have := hr at_ i hlt hi h2
      rw [he] at this
      rw [h.above at_ hlt (Nat.le_refl _)] at this
      cases this
    · subst h2
      rw [he]
      exact (o.eqv _ _).2 rfl

/-- The list with a value more. -/
def insAt (l : List α) (at_ : Nat) (x : α) : List α := l.take at_ ++ x :: l.drop at_

theorem insAt_len {at_ : Nat} (h : at_ ≤ l.length) (x : α) : (insAt l at_ x).length = l.length + 1 := by
  simp [insAt]; omega

theorem insAt_mem {at_ : Nat} (x y : α) : y ∈ insAt l at_ x ↔ y = x ∨ y ∈ l := by
  unfold insAt
  rw [List.mem_append, List.mem_cons]
  have : y ∈ l ↔ y ∈ l.take at_ ∨ y ∈ l.drop at_ := by rw [← List.mem_append, List.take_append_drop]
  rw [this]
  constructor
  · rintro (h | h | h)
    · exact Or.inr (Or.inl h)
    · exact Or.inl h
    · exact Or.inr (Or.inr h)
  · rintro (h | h | h)
    · exact Or.inr (Or.inl h)
    · exact Or.inl h
    · exact Or.inr (Or.inr h)

theorem rise_iff : Rise lt l ↔ l.Pairwise (fun a b => lt a b = true) := by
  unfold Rise
  rw [List.pairwise_iff_getElem]

theorem LeapIs.rise (o : Ordr lt eq) (hr : Rise lt l) {x : α} {at_ : Nat} (h : LeapIs lt l 0 x at_) (hn : hasAt eq l at_ x = false) : Rise lt (insAt l at_ x) := by
  rw [rise_iff] at hr ⊢
  have hlo : ∀ a ∈ l.take at_, lt a x = true := by
    intro a ha
    obtain ⟨i, hi, he⟩ := List.getElem_of_mem ha
    simp only [List.length_take] at hi
    rw [List.getElem_take] at he
    rw [← he]
    exact h.below i (by omega) (by omega) (by omega)
  have hhi : ∀ b ∈ l.drop at_, lt x b = true := by
    intro b hb
    obtain ⟨i, hi, he⟩ := List.getElem_of_mem hb
    simp only [List.length_drop] at hi
    rw [List.getElem_drop] at he
    have hlt : at_ < l.length := by omega
    have h0 : lt x l[at_] = true := by
      apply o.tot _ _ (h.above at_ hlt (Nat.le_refl _))
      unfold hasAt at hn
      rw [dif_pos hlt] at hn
      exact hn
    rw [← he]
    by_cases hi0 : i = 0
    · subst hi0; simpa using h0
    · exact o.trans _ _ _ h0 ((rise_iff.2 hr) at_ (at_ + i) hlt (by omega) (by omega))
  unfold insAt
  rw [List.pairwise_append]
  refine ⟨hr.sublist (List.take_sublist _ _), ?_, ?_⟩
  · rw [List.pairwise_cons]
    exact ⟨hhi, hr.sublist (List.drop_sublist _ _)⟩
  · intro a ha b hb
    rcases List.mem_cons.1 hb with rfl | hb
    · exact hlo a ha
    · exact o.trans _ _ _ (hlo a ha) (hhi b hb)

theorem Rise.nodup (o : Ordr lt eq) (hr : Rise lt l) : l.Nodup := by
  rw [rise_iff] at hr
  exact hr.imp (fun {a b} h e => by subst e; rw [o.irr] at h; cases h)

end

/-- The order of strings. -/
def ltS (a b : ByteArray) : Bool := Op.bytesLess a.toList b.toList
def eqS (a b : ByteArray) : Bool := a.toList == b.toList
def ltI (a b : Int) : Bool := decide (a < b)
def eqI (a b : Int) : Bool := a == b

theorem bl_trans : ∀ a b c : List UInt8, Op.bytesLess a b = true → Op.bytesLess b c = true → Op.bytesLess a c = true
  | a, b, [], _, h => by cases b <;> simp [Op.bytesLess] at h
  | [], b, _ :: _, _, _ => rfl
  | _ :: _, [], _ :: _, h, _ => by simp [Op.bytesLess] at h
  | x :: a, y :: b, z :: c, h1, h2 => by
    simp only [Op.bytesLess, Bool.or_eq_true, decide_eq_true_eq, Bool.and_eq_true, beq_iff_eq] at h1 h2 ⊢
    rcases h1 with h1 | ⟨rfl, h1⟩
    · rcases h2 with h2 | ⟨rfl, h2⟩
      · exact Or.inl (UInt8.lt_trans h1 h2)
      · exact Or.inl h1
    · rcases h2 with h2 | ⟨rfl, h2⟩
      · exact Or.inl h2
      · exact Or.inr ⟨rfl, bl_trans a b c h1 h2⟩
theorem bl_irr : ∀ a : List UInt8, Op.bytesLess a a = false
  | [] => rfl
  | x :: a => by simp [Op.bytesLess, bl_irr a]
theorem bl_tot : ∀ a b : List UInt8, Op.bytesLess a b = false → (a == b) = false → Op.bytesLess b a = true
  | [], [], _, h => by simp at h
  | [], _ :: _, h, _ => by simp [Op.bytesLess] at h
  | _ :: _, [], _, _ => rfl
  | x :: a, y :: b, h, h2 => by
    simp only [Op.bytesLess, Bool.or_eq_true, decide_eq_true_eq, Bool.and_eq_true, beq_iff_eq, Bool.or_eq_false_iff, decide_eq_false_iff_not, Bool.and_eq_false_imp] at h ⊢
    by_cases he : x = y
    · subst he
      refine Or.inr ⟨rfl, bl_tot a b (h.2 rfl) ?_⟩
      simpa using h2
    · left
      have h1 := h.1
      rw [UInt8.lt_iff_toNat_lt] at h1 ⊢
      have : x.toNat ≠ y.toNat := fun e => he (UInt8.toNat_inj.1 e)
      omega

theorem ordS : Ordr ltS eqS :=
  ⟨fun a b c => bl_trans _ _ _, fun a => bl_irr _, fun a b => bl_tot _ _, fun a b => by
    unfold eqS
    simp only [beq_iff_eq]
    exact ⟨fun h => by
      rw [ByteArray.toList_eq, ByteArray.toList_eq] at h
      exact ByteArray.ext (Array.toList_inj.1 h), fun h => by rw [h]⟩⟩
theorem ordI : Ordr ltI eqI :=
  ⟨fun a b c h1 h2 => by simp [ltI] at *; omega, fun a => by simp [ltI], fun a b h1 h2 => by simp [ltI, eqI] at *; omega, fun a b => by simp [eqI]⟩

end Go.Proofs.YtoihbhenbmffcaaGreatDoor

namespace Go.Proofs.YtoihbhenbmffcaaGreatDoor
open Go.RowKit


set_option maxHeartbeats 800000 in
theorem leapS_any (lv : Value) (l : List ByteArray) (k : Nat) (x : ByteArray) (base : Nat) (w : World) (hl : w.ownsRow base 9 1 lv l.length (l.flatMap strCell)) (hlen : l.length ≤ 1000000) (hk : k ≤ l.length) (hr : Rise ltS l) :
    Calls Tryz.prog 165 #[lv, .int .i64 k, .string x] w fun e w' => ∃ at_ : Nat, e = .returned (.int .i64 at_) ∧ LeapIs ltS l k x at_ ∧ w' = w := by
  obtain ⟨ad, cap, rfl⟩ := row_nil hl
  have HRs := hide hr
  have HCell : Hid (∀ i (h : i < l.length), ∃ g, ad = some ⟨g, 0, none⟩ ∧ l.length ≤ cap ∧ w.cell? ⟨g, i, none⟩ = some (.string l[i])) := by
    intro i hi
    obtain ⟨g, cap', he, hc, hcell⟩ := row_get hl (by simp [strCell]) i hi
    simp only [Value.slice.injEq] at he
    obtain ⟨rfl, _, rfl⟩ := he
    have hc0 := hcell i hi 0 (by omega)
    simp [strCell] at hc0
    exact ⟨g, rfl, hc, hc0⟩
  clear hr
  go_enter Tryz.func165, Tryz.ntmps165
  go_wp2
  go_loop [7, 8] (fun a s => ∃ (lo st : Nat), a = .int .i64 lo ∧ s = .int .i64 st ∧ k ≤ lo ∧ lo ≤ l.length ∧ 1 ≤ st ∧ st ≤ 2 * l.length + 1 ∧ Hid (∀ i (h : i < l.length), k ≤ i → i < lo → ltS l[i] x = true)) (fun a s => l.length - (intOf a).toNat)
  case atStart => exact ⟨k, 1, by go_num, rfl, Nat.le_refl _, hk, Nat.le_refl _, by omega, fun i h h1 h2 => by omega⟩
  case round =>
    obtain ⟨lo, st, rfl, rfl, hlo1, hlo2, hst1, hst2, HB⟩ := hrel
    by_cases hin : lo + st ≤ l.length
    · obtain ⟨g, hge, hcap, hc⟩ := (unhide HCell) (lo + st - 1) (by omega)
      have hix : ((lo + st - 1 : Nat) : Int) = (lo : Int) + (st : Int) - 1 := by omega
      have hix2 : ((lo : Int) + (st : Int) - 1).toNat = lo + st - 1 := by omega
      subst hge
      have HDown : Hid (ltS l[lo + st - 1] x = true → ∀ i (h : i < l.length), k ≤ i → i < lo + st → ltS l[i] x = true) := by
        intro hh i h h1 h2
        exact (unhide HRs).down ordS (by omega) (by omega) hh
      have HUp : Hid (ltS l[lo + st - 1] x = false → ∀ i (h : i < l.length), lo + st - 1 ≤ i → ltS l[i] x = false) := by
        intro hh i h h1
        exact (unhide HRs).up ordS h h1 hh
      go_wp2
      · refine ⟨⟨lo + st, st * 2, by go_num, by go_num, by omega, by omega, by omega, by omega, (unhide HDown) (by first | assumption | (simp [ltS]; omega))⟩, ?_⟩
        simp [intOf]
        omega
      ·
        have HU0 : Hid (∀ i (h : i < l.length), (lo + st - 1) ≤ i → ltS l[i] x = false) := (unhide HUp) (by first | assumption | (simp [ltS]; omega))
        go_loop [7, 9, 10] (fun a h m => ∃ (lo2 hi2 : Nat), a = .int .i64 lo2 ∧ h = .int .i64 hi2 ∧ k ≤ lo2 ∧ lo2 ≤ hi2 ∧ hi2 ≤ l.length ∧ Hid (∀ i (h : i < l.length), k ≤ i → i < lo2 → ltS l[i] x = true) ∧ Hid (∀ i (h : i < l.length), hi2 ≤ i → ltS l[i] x = false)) (fun a h m => (intOf h).toNat - (intOf a).toNat)
        case atStart => exact ⟨lo, (lo + st - 1), rfl, by go_num, hlo1, by omega, by omega, HB, HU0⟩
        case round =>
          clear HB HU0
          obtain ⟨lo2, hi2, rfl, rfl, h1, h2, h3, HB, HU⟩ := hrel
          by_cases hlt : lo2 < hi2
          · obtain ⟨mid, hmid⟩ : ∃ mid, lo2 + (hi2 - lo2) / 2 = mid := ⟨_, rfl⟩
            have hm1 : lo2 ≤ mid := by omega
            have hm2 : mid < hi2 := by omega
            have hmi : (lo2 : Int) + ((hi2 : Int) - (lo2 : Int)) / 2 = (mid : Int) := by omega
            have hmt : (lo2 : Int) + ((hi2 : Int) - (lo2 : Int)).tdiv 2 = (mid : Int) := by rw [Int.tdiv_eq_ediv_of_nonneg (by omega)]; exact hmi
            obtain ⟨g9, hge9, hcap9, hc9⟩ := (unhide HCell) mid (by omega)
            have HDown9 : Hid (ltS l[mid] x = true → ∀ i (h : i < l.length), k ≤ i → i < mid + 1 → ltS l[i] x = true) := by
              intro hh i h h1 h2
              exact (unhide HRs).down ordS (by omega) (by omega) hh
            have HUp9 : Hid (ltS l[mid] x = false → ∀ i (h : i < l.length), mid ≤ i → ltS l[i] x = false) := by
              intro hh i h h1
              exact (unhide HRs).up ordS h h1 hh
            simp only [Option.some.injEq, Addr.mk.injEq, and_true] at hge9; subst hge9
            go_wp2
            · refine ⟨⟨mid + 1, hi2, by go_num, rfl, by omega, by omega, h3, (unhide HDown9) (by first | assumption | (simp [ltS]; omega)), HU⟩, ?_⟩
              simp [intOf]
              omega
            · refine ⟨⟨lo2, mid, rfl, by go_num, h1, by omega, by omega, HB, (unhide HUp9) (by first | assumption | (simp [ltS]; omega))⟩, ?_⟩
              simp [intOf]
              omega
          · have HE : Hid (LeapIs ltS l k x lo2) := ⟨h1, by omega, unhide HB, fun i h hh => (unhide HU) i h (by omega)⟩
            go_wp2
            go_ret
            exact ⟨lo2, rfl, unhide HE, rfl⟩
    · go_wp2
      ·
        have HU0 : Hid (∀ i (h : i < l.length), l.length ≤ i → ltS l[i] x = false) := fun i h hh => by omega
        go_loop [7, 9, 10] (fun a h m => ∃ (lo2 hi2 : Nat), a = .int .i64 lo2 ∧ h = .int .i64 hi2 ∧ k ≤ lo2 ∧ lo2 ≤ hi2 ∧ hi2 ≤ l.length ∧ Hid (∀ i (h : i < l.length), k ≤ i → i < lo2 → ltS l[i] x = true) ∧ Hid (∀ i (h : i < l.length), hi2 ≤ i → ltS l[i] x = false)) (fun a h m => (intOf h).toNat - (intOf a).toNat)
        case atStart => exact ⟨lo, l.length, rfl, by go_num, hlo1, by omega, by omega, HB, HU0⟩
        case round =>
          clear HB HU0
          obtain ⟨lo2, hi2, rfl, rfl, h1, h2, h3, HB, HU⟩ := hrel
          by_cases hlt : lo2 < hi2
          · obtain ⟨mid, hmid⟩ : ∃ mid, lo2 + (hi2 - lo2) / 2 = mid := ⟨_, rfl⟩
            have hm1 : lo2 ≤ mid := by omega
            have hm2 : mid < hi2 := by omega
            have hmi : (lo2 : Int) + ((hi2 : Int) - (lo2 : Int)) / 2 = (mid : Int) := by omega
            have hmt : (lo2 : Int) + ((hi2 : Int) - (lo2 : Int)).tdiv 2 = (mid : Int) := by rw [Int.tdiv_eq_ediv_of_nonneg (by omega)]; exact hmi
            obtain ⟨g9, hge9, hcap9, hc9⟩ := (unhide HCell) mid (by omega)
            have HDown9 : Hid (ltS l[mid] x = true → ∀ i (h : i < l.length), k ≤ i → i < mid + 1 → ltS l[i] x = true) := by
              intro hh i h h1 h2
              exact (unhide HRs).down ordS (by omega) (by omega) hh
            have HUp9 : Hid (ltS l[mid] x = false → ∀ i (h : i < l.length), mid ≤ i → ltS l[i] x = false) := by
              intro hh i h h1
              exact (unhide HRs).up ordS h h1 hh
            subst hge9
            go_wp2
            · refine ⟨⟨mid + 1, hi2, by go_num, rfl, by omega, by omega, h3, (unhide HDown9) (by first | assumption | (simp [ltS]; omega)), HU⟩, ?_⟩
              simp [intOf]
              omega
            · refine ⟨⟨lo2, mid, rfl, by go_num, h1, by omega, by omega, HB, (unhide HUp9) (by first | assumption | (simp [ltS]; omega))⟩, ?_⟩
              simp [intOf]
              omega
          · have HE : Hid (LeapIs ltS l k x lo2) := ⟨h1, by omega, unhide HB, fun i h hh => (unhide HU) i h (by omega)⟩
            go_wp2
            go_ret
            exact ⟨lo2, rfl, unhide HE, rfl⟩
      ·
        have HU0 : Hid (∀ i (h : i < l.length), (lo + st - 1) ≤ i → ltS l[i] x = false) := fun i h hh => by omega
        go_loop [7, 9, 10] (fun a h m => ∃ (lo2 hi2 : Nat), a = .int .i64 lo2 ∧ h = .int .i64 hi2 ∧ k ≤ lo2 ∧ lo2 ≤ hi2 ∧ hi2 ≤ l.length ∧ Hid (∀ i (h : i < l.length), k ≤ i → i < lo2 → ltS l[i] x = true) ∧ Hid (∀ i (h : i < l.length), hi2 ≤ i → ltS l[i] x = false)) (fun a h m => (intOf h).toNat - (intOf a).toNat)
        case atStart => exact ⟨lo, (lo + st - 1), rfl, by go_num, hlo1, by omega, by omega, HB, HU0⟩
        case round =>
          clear HB HU0
          obtain ⟨lo2, hi2, rfl, rfl, h1, h2, h3, HB, HU⟩ := hrel
          by_cases hlt : lo2 < hi2
          · obtain ⟨mid, hmid⟩ : ∃ mid, lo2 + (hi2 - lo2) / 2 = mid := ⟨_, rfl⟩
            have hm1 : lo2 ≤ mid := by omega
            have hm2 : mid < hi2 := by omega
            have hmi : (lo2 : Int) + ((hi2 : Int) - (lo2 : Int)) / 2 = (mid : Int) := by omega
            have hmt : (lo2 : Int) + ((hi2 : Int) - (lo2 : Int)).tdiv 2 = (mid : Int) := by rw [Int.tdiv_eq_ediv_of_nonneg (by omega)]; exact hmi
            obtain ⟨g9, hge9, hcap9, hc9⟩ := (unhide HCell) mid (by omega)
            have HDown9 : Hid (ltS l[mid] x = true → ∀ i (h : i < l.length), k ≤ i → i < mid + 1 → ltS l[i] x = true) := by
              intro hh i h h1 h2
              exact (unhide HRs).down ordS (by omega) (by omega) hh
            have HUp9 : Hid (ltS l[mid] x = false → ∀ i (h : i < l.length), mid ≤ i → ltS l[i] x = false) := by
              intro hh i h h1
              exact (unhide HRs).up ordS h h1 hh
            subst hge9
            go_wp2
            · refine ⟨⟨mid + 1, hi2, by go_num, rfl, by omega, by omega, h3, (unhide HDown9) (by first | assumption | (simp [ltS]; omega)), HU⟩, ?_⟩
              simp [intOf]
              omega
            · refine ⟨⟨lo2, mid, rfl, by go_num, h1, by omega, by omega, HB, (unhide HUp9) (by first | assumption | (simp [ltS]; omega))⟩, ?_⟩
              simp [intOf]
              omega
          · have HE : Hid (LeapIs ltS l k x lo2) := ⟨h1, by omega, unhide HB, fun i h hh => (unhide HU) i h (by omega)⟩
            go_wp2
            go_ret
            exact ⟨lo2, rfl, unhide HE, rfl⟩

end Go.Proofs.YtoihbhenbmffcaaGreatDoor

namespace Go.Proofs.YtoihbhenbmffcaaGreatDoor
open Go.RowKit

def runeCell (x : Int) : List Value := [.int .i32 x]

set_option maxHeartbeats 800000 in
theorem leapI_any (lv : Value) (l : List Int) (k : Nat) (x : Int) (base : Nat) (w : World) (hl : w.ownsRow base 21 1 lv l.length (l.flatMap runeCell)) (hlen : l.length ≤ 1000000) (hk : k ≤ l.length) (hr : Rise ltI l) :
    Calls Tryz.prog 219 #[lv, .int .i64 k, .int .i32 x] w fun e w' => ∃ at_ : Nat, e = .returned (.int .i64 at_) ∧ LeapIs ltI l k x at_ ∧ w' = w := by
  obtain ⟨ad, cap, rfl⟩ := row_nil hl
  have HRs := hide hr
  have HCell : Hid (∀ i (h : i < l.length), ∃ g, ad = some ⟨g, 0, none⟩ ∧ l.length ≤ cap ∧ w.cell? ⟨g, i, none⟩ = some (.int .i32 l[i])) := by
    intro i hi
    obtain ⟨g, cap', he, hc, hcell⟩ := row_get hl (by simp [runeCell]) i hi
    simp only [Value.slice.injEq] at he
    obtain ⟨rfl, _, rfl⟩ := he
    have hc0 := hcell i hi 0 (by omega)
    simp [runeCell] at hc0
    exact ⟨g, rfl, hc, hc0⟩
  clear hr
  go_enter Tryz.func219, Tryz.ntmps219
  go_wp2
  go_loop [7, 8] (fun a s => ∃ (lo st : Nat), a = .int .i64 lo ∧ s = .int .i64 st ∧ k ≤ lo ∧ lo ≤ l.length ∧ 1 ≤ st ∧ st ≤ 2 * l.length + 1 ∧ Hid (∀ i (h : i < l.length), k ≤ i → i < lo → ltI l[i] x = true)) (fun a s => l.length - (intOf a).toNat)
  case atStart => exact ⟨k, 1, by go_num, rfl, Nat.le_refl _, hk, Nat.le_refl _, by omega, fun i h h1 h2 => by omega⟩
  case round =>
    obtain ⟨lo, st, rfl, rfl, hlo1, hlo2, hst1, hst2, HB⟩ := hrel
    by_cases hin : lo + st ≤ l.length
    · obtain ⟨g, hge, hcap, hc⟩ := (unhide HCell) (lo + st - 1) (by omega)
      have hix : ((lo + st - 1 : Nat) : Int) = (lo : Int) + (st : Int) - 1 := by omega
      have hix2 : ((lo : Int) + (st : Int) - 1).toNat = lo + st - 1 := by omega
      subst hge
      have HDown : Hid (ltI l[lo + st - 1] x = true → ∀ i (h : i < l.length), k ≤ i → i < lo + st → ltI l[i] x = true) := by
        intro hh i h h1 h2
        exact (unhide HRs).down ordI (by omega) (by omega) hh
      have HUp : Hid (ltI l[lo + st - 1] x = false → ∀ i (h : i < l.length), lo + st - 1 ≤ i → ltI l[i] x = false) := by
        intro hh i h h1
        exact (unhide HRs).up ordI h h1 hh
      go_wp2
      · refine ⟨⟨lo + st, st * 2, by go_num, by go_num, by omega, by omega, by omega, by omega, (unhide HDown) (by first | assumption | (simp [ltI]; omega))⟩, ?_⟩
        simp [intOf]
        omega
      ·
        have HU0 : Hid (∀ i (h : i < l.length), (lo + st - 1) ≤ i → ltI l[i] x = false) := (unhide HUp) (by first | assumption | (simp [ltI]; omega))
        go_loop [7, 9, 10] (fun a h m => ∃ (lo2 hi2 : Nat), a = .int .i64 lo2 ∧ h = .int .i64 hi2 ∧ k ≤ lo2 ∧ lo2 ≤ hi2 ∧ hi2 ≤ l.length ∧ Hid (∀ i (h : i < l.length), k ≤ i → i < lo2 → ltI l[i] x = true) ∧ Hid (∀ i (h : i < l.length), hi2 ≤ i → ltI l[i] x = false)) (fun a h m => (intOf h).toNat - (intOf a).toNat)
        case atStart => exact ⟨lo, (lo + st - 1), rfl, by go_num, hlo1, by omega, by omega, HB, HU0⟩
        case round =>
          clear HB HU0
          obtain ⟨lo2, hi2, rfl, rfl, h1, h2, h3, HB, HU⟩ := hrel
          by_cases hlt : lo2 < hi2
          · obtain ⟨mid, hmid⟩ : ∃ mid, lo2 + (hi2 - lo2) / 2 = mid := ⟨_, rfl⟩
            have hm1 : lo2 ≤ mid := by omega
            have hm2 : mid < hi2 := by omega
            have hmi : (lo2 : Int) + ((hi2 : Int) - (lo2 : Int)) / 2 = (mid : Int) := by omega
            have hmt : (lo2 : Int) + ((hi2 : Int) - (lo2 : Int)).tdiv 2 = (mid : Int) := by rw [Int.tdiv_eq_ediv_of_nonneg (by omega)]; exact hmi
            obtain ⟨g9, hge9, hcap9, hc9⟩ := (unhide HCell) mid (by omega)
            have HDown9 : Hid (ltI l[mid] x = true → ∀ i (h : i < l.length), k ≤ i → i < mid + 1 → ltI l[i] x = true) := by
              intro hh i h h1 h2
              exact (unhide HRs).down ordI (by omega) (by omega) hh
            have HUp9 : Hid (ltI l[mid] x = false → ∀ i (h : i < l.length), mid ≤ i → ltI l[i] x = false) := by
              intro hh i h h1
              exact (unhide HRs).up ordI h h1 hh
            simp only [Option.some.injEq, Addr.mk.injEq, and_true] at hge9; subst hge9
            go_wp2
            · refine ⟨⟨mid + 1, hi2, by go_num, rfl, by omega, by omega, h3, (unhide HDown9) (by first | assumption | (simp [ltI]; omega)), HU⟩, ?_⟩
              simp [intOf]
              omega
            · refine ⟨⟨lo2, mid, rfl, by go_num, h1, by omega, by omega, HB, (unhide HUp9) (by first | assumption | (simp [ltI]; omega))⟩, ?_⟩
              simp [intOf]
              omega
          · have HE : Hid (LeapIs ltI l k x lo2) := ⟨h1, by omega, unhide HB, fun i h hh => (unhide HU) i h (by omega)⟩
            go_wp2
            go_ret
            exact ⟨lo2, rfl, unhide HE, rfl⟩
    · go_wp2
      ·
        have HU0 : Hid (∀ i (h : i < l.length), l.length ≤ i → ltI l[i] x = false) := fun i h hh => by omega
        go_loop [7, 9, 10] (fun a h m => ∃ (lo2 hi2 : Nat), a = .int .i64 lo2 ∧ h = .int .i64 hi2 ∧ k ≤ lo2 ∧ lo2 ≤ hi2 ∧ hi2 ≤ l.length ∧ Hid (∀ i (h : i < l.length), k ≤ i → i < lo2 → ltI l[i] x = true) ∧ Hid (∀ i (h : i < l.length), hi2 ≤ i → ltI l[i] x = false)) (fun a h m => (intOf h).toNat - (intOf a).toNat)
        case atStart => exact ⟨lo, l.length, rfl, by go_num, hlo1, by omega, by omega, HB, HU0⟩
        case round =>
          clear HB HU0
          obtain ⟨lo2, hi2, rfl, rfl, h1, h2, h3, HB, HU⟩ := hrel
          by_cases hlt : lo2 < hi2
          · obtain ⟨mid, hmid⟩ : ∃ mid, lo2 + (hi2 - lo2) / 2 = mid := ⟨_, rfl⟩
            have hm1 : lo2 ≤ mid := by omega
            have hm2 : mid < hi2 := by omega
            have hmi : (lo2 : Int) + ((hi2 : Int) - (lo2 : Int)) / 2 = (mid : Int) := by omega
            have hmt : (lo2 : Int) + ((hi2 : Int) - (lo2 : Int)).tdiv 2 = (mid : Int) := by rw [Int.tdiv_eq_ediv_of_nonneg (by omega)]; exact hmi
            obtain ⟨g9, hge9, hcap9, hc9⟩ := (unhide HCell) mid (by omega)
            have HDown9 : Hid (ltI l[mid] x = true → ∀ i (h : i < l.length), k ≤ i → i < mid + 1 → ltI l[i] x = true) := by
              intro hh i h h1 h2
              exact (unhide HRs).down ordI (by omega) (by omega) hh
            have HUp9 : Hid (ltI l[mid] x = false → ∀ i (h : i < l.length), mid ≤ i → ltI l[i] x = false) := by
              intro hh i h h1
              exact (unhide HRs).up ordI h h1 hh
            subst hge9
            go_wp2
            · refine ⟨⟨mid + 1, hi2, by go_num, rfl, by omega, by omega, h3, (unhide HDown9) (by first | assumption | (simp [ltI]; omega)), HU⟩, ?_⟩
              simp [intOf]
              omega
            · refine ⟨⟨lo2, mid, rfl, by go_num, h1, by omega, by omega, HB, (unhide HUp9) (by first | assumption | (simp [ltI]; omega))⟩, ?_⟩
              simp [intOf]
              omega
          · have HE : Hid (LeapIs ltI l k x lo2) := ⟨h1, by omega, unhide HB, fun i h hh => (unhide HU) i h (by omega)⟩
            go_wp2
            go_ret
            exact ⟨lo2, rfl, unhide HE, rfl⟩
      ·
        have HU0 : Hid (∀ i (h : i < l.length), (lo + st - 1) ≤ i → ltI l[i] x = false) := fun i h hh => by omega
        go_loop [7, 9, 10] (fun a h m => ∃ (lo2 hi2 : Nat), a = .int .i64 lo2 ∧ h = .int .i64 hi2 ∧ k ≤ lo2 ∧ lo2 ≤ hi2 ∧ hi2 ≤ l.length ∧ Hid (∀ i (h : i < l.length), k ≤ i → i < lo2 → ltI l[i] x = true) ∧ Hid (∀ i (h : i < l.length), hi2 ≤ i → ltI l[i] x = false)) (fun a h m => (intOf h).toNat - (intOf a).toNat)
        case atStart => exact ⟨lo, (lo + st - 1), rfl, by go_num, hlo1, by omega, by omega, HB, HU0⟩
        case round =>
          clear HB HU0
          obtain ⟨lo2, hi2, rfl, rfl, h1, h2, h3, HB, HU⟩ := hrel
          by_cases hlt : lo2 < hi2
          · obtain ⟨mid, hmid⟩ : ∃ mid, lo2 + (hi2 - lo2) / 2 = mid := ⟨_, rfl⟩
            have hm1 : lo2 ≤ mid := by omega
            have hm2 : mid < hi2 := by omega
            have hmi : (lo2 : Int) + ((hi2 : Int) - (lo2 : Int)) / 2 = (mid : Int) := by omega
            have hmt : (lo2 : Int) + ((hi2 : Int) - (lo2 : Int)).tdiv 2 = (mid : Int) := by rw [Int.tdiv_eq_ediv_of_nonneg (by omega)]; exact hmi
            obtain ⟨g9, hge9, hcap9, hc9⟩ := (unhide HCell) mid (by omega)
            have HDown9 : Hid (ltI l[mid] x = true → ∀ i (h : i < l.length), k ≤ i → i < mid + 1 → ltI l[i] x = true) := by
              intro hh i h h1 h2
              exact (unhide HRs).down ordI (by omega) (by omega) hh
            have HUp9 : Hid (ltI l[mid] x = false → ∀ i (h : i < l.length), mid ≤ i → ltI l[i] x = false) := by
              intro hh i h h1
              exact (unhide HRs).up ordI h h1 hh
            subst hge9
            go_wp2
            · refine ⟨⟨mid + 1, hi2, by go_num, rfl, by omega, by omega, h3, (unhide HDown9) (by first | assumption | (simp [ltI]; omega)), HU⟩, ?_⟩
              simp [intOf]
              omega
            · refine ⟨⟨lo2, mid, rfl, by go_num, h1, by omega, by omega, HB, (unhide HUp9) (by first | assumption | (simp [ltI]; omega))⟩, ?_⟩
              simp [intOf]
              omega
          · have HE : Hid (LeapIs ltI l k x lo2) := ⟨h1, by omega, unhide HB, fun i h hh => (unhide HU) i h (by omega)⟩
            go_wp2
            go_ret
            exact ⟨lo2, rfl, unhide HE, rfl⟩

end Go.Proofs.YtoihbhenbmffcaaGreatDoor
