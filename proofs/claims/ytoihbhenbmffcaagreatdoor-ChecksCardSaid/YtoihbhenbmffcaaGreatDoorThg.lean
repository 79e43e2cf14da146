import Derived.Test.YtoihbhenbmffcaaGreatDoorCodC
set_option linter.unusedVariables false
set_option linter.unusedSimpArgs false
namespace Go.Proofs.YtoihbhenbmffcaaGreatDoor
open Go.RowKit

/-- Is it a NUMBER, of a word or a NUMBER? -/
def numB (s : ByteArray) : Bool := Op.bytesLess s.toList [97]

theorem isNumber_any (s : ByteArray) (w : World) : Calls Tryz.prog 144 #[.string s] w fun e w' => e = .returned (.bool (numB s)) ∧ w' = w := by
  go_enter Tryz.func144, Tryz.ntmps144
  go_wp2
  all_goals go_ret
  all_goals exact ⟨rfl, rfl⟩

def zeroB : ByteArray := ⟨#[48]⟩
/-- A zero ahead, up to three letters. -/
def padTo : Nat → ByteArray → ByteArray
  | 0, s => s
  | k + 1, s => if s.size < 3 then padTo k (zeroB ++ s) else s
def thingB (s : ByteArray) : ByteArray := if numB s then padTo 3 s else s

set_option maxRecDepth 100000 in
set_option maxHeartbeats 800000 in
theorem thingOf_any (s : ByteArray) (w : World) : Calls Tryz.prog 217 #[.string s] w fun e w' => e = .returned (.string (thingB s)) ∧ w' = w := by
  have h0 := isNumber_any s w
  by_cases hn : numB s = true
  · rw [hn] at h0
    have hT : thingB s = padTo 3 s := by unfold thingB; simp [hn]
    rw [hT]
    generalize hTe : padTo 3 s = T
    have HT := hide hTe
    clear hTe hT hn
    go_enter Tryz.func217, Tryz.ntmps217
    go_wp2_with (go_at_call 144; refine h0.mono ?_; rintro e w' ⟨rfl, rfl⟩)
    rename_i w' _ _
    go_loopg [0] 3 (fun gk o wr => ∃ (t : ByteArray), o = .string t ∧ Hid (padTo gk t = T) ∧ 3 ≤ t.size + gk ∧ wr = w')
    case atStart => exact ⟨s, rfl, HT, by omega, rfl⟩
    case round =>
      obtain ⟨t, rfl, hp, hs, rfl⟩ := hrel
      by_cases hlt : t.size < 3
      · have hlt' : (t.size : Int) < 3 := by omega
        go_wp2
        have hz : (zeroB ++ t).size = t.size + 1 := by rw [ByteArray.size_append]; show 1 + t.size = _; omega
        obtain ⟨k, rfl⟩ : ∃ k, gk = k + 1 := ⟨gk - 1, by omega⟩
        have hp2 := unhide hp
        rw [padTo, if_pos hlt] at hp2
        go_roundg k
        case measure => omega
        case rel => exact ⟨zeroB ++ t, rfl, hp2, by omega, rfl⟩
      · have hlt' : ¬ (t.size : Int) < 3 := by omega
        have hT : Hid (t = T) := by
          show t = T
          have hp2 := unhide hp
          cases gk with
          | zero => exact hp2
          | succ k => rw [padTo, if_neg hlt] at hp2; exact hp2
        go_wp2
        go_ret
        exact ⟨by rw [← unhide hT]; rfl, rfl⟩
  · have hn' : numB s = false := by simpa using hn
    rw [hn'] at h0
    go_enter Tryz.func217, Tryz.ntmps217
    go_wp2_with (go_at_call 144; refine h0.mono ?_; rintro e w' ⟨rfl, rfl⟩)
    all_goals go_ret
    all_goals refine ⟨?_, rfl⟩
    all_goals simp [thingB, hn']

/-- A NUMBER as it may be written: its letters. -/
def okL : List UInt8 → Bool
  | [] => false
  | [c] => decide (48 ≤ c.toNat ∧ c.toNat ≤ 57)
  | [c, _] => decide (49 ≤ c.toNat ∧ c.toNat ≤ 57)
  | [c, _, _] => decide (49 ≤ c.toNat ∧ c.toNat ≤ 57)
  | _ => false

/-- What the program keeps of a text; a text that no reader meets gets a value of its own, so that no two are one. -/
def thingC (s : ByteArray) : ByteArray := if s.size = 0 then s else if numB s then (if okL s.toList then padTo 3 s else ⟨#[0]⟩ ++ s) else s

def thingL : List UInt8 → List UInt8
  | [] => []
  | c :: r => if c.toNat < 97 then (if okL (c :: r) then List.replicate (3 - (c :: r).length) 48 ++ (c :: r) else 0 :: c :: r) else c :: r

theorem toList_app (a b : ByteArray) : (a ++ b).toList = a.toList ++ b.toList := by
  rw [ByteArray.toList_eq, ByteArray.toList_eq, ByteArray.toList_eq, ByteArray.data_append, Array.toList_append]

theorem size_toList (a : ByteArray) : a.size = a.toList.length := by
  rw [ByteArray.toList_eq]; rfl

theorem toList_inj {a b : ByteArray} (h : a.toList = b.toList) : a = b := by
  rw [ByteArray.toList_eq, ByteArray.toList_eq] at h
  exact ByteArray.ext (Array.toList_inj.1 h)

theorem zeroB_list : zeroB.toList = [48] := by rw [ByteArray.toList_eq]; rfl

theorem padTo_list : ∀ (k : Nat) (s : ByteArray), s.size ≤ 3 → 3 ≤ s.size + k → (padTo k s).toList = List.replicate (3 - s.size) 48 ++ s.toList
  | 0, s, h, hk => by
    rw [show 3 - s.size = 0 by omega]; rfl
  | k + 1, s, h, hk => by
    rw [padTo]
    split
    · rename_i hlt
      have hz : (zeroB ++ s).size = s.size + 1 := by rw [size_toList, toList_app, zeroB_list, size_toList]; simp
      rw [padTo_list k (zeroB ++ s) (by omega) (by omega), hz, toList_app, zeroB_list, show 3 - s.size = (3 - (s.size + 1)) + 1 by omega, List.replicate_succ']
      simp
    · rw [show 3 - s.size = 0 by omega]; rfl

theorem num_head (c : UInt8) (r : List UInt8) : Op.bytesLess (c :: r) [97] = decide (c.toNat < 97) := by
  have e : Op.bytesLess r [] = false := by cases r <;> rfl
  simp only [Op.bytesLess, e]
  by_cases h : c.toNat < 97
  · have : c < 97 := h
    simp [h, this]
  · have : ¬ c < 97 := h
    simp [h, this]

theorem thingC_list (s : ByteArray) : (thingC s).toList = thingL s.toList := by
  unfold thingC numB
  cases hs : s.toList with
  | nil =>
    have : s.size = 0 := by rw [size_toList, hs]; rfl
    rw [if_pos this, hs]; rfl
  | cons c r =>
    have hz : s.size = (c :: r).length := by rw [size_toList, hs]
    rw [if_neg (by rw [hz]; simp), num_head]
    unfold thingL
    by_cases h : c.toNat < 97
    · simp only [h, decide_true, if_true]
      cases ho : okL (c :: r) with
      | true =>
        simp only [if_true]
        have hl : (c :: r).length ≤ 3 := by
          match r, ho with
          | [], _ => simp
          | [_], _ => simp
          | [_, _], _ => simp
          | _ :: _ :: _ :: _, ho => simp [okL] at ho
        rw [padTo_list 3 s (by omega) (by omega), hs, hz]
      | false =>
        simp only [Bool.false_eq_true, if_false]
        rw [toList_app, hs]
        rw [show (⟨#[0]⟩ : ByteArray).toList = [0] from by rw [ByteArray.toList_eq]]
        rfl
    · simp only [h, decide_false, Bool.false_eq_true, if_false]
      exact hs

theorem ok_cases {l : List UInt8} (h : okL l = true) : (∃ c : UInt8, l = [c] ∧ 48 ≤ c.toNat ∧ c.toNat ≤ 57) ∨ (∃ c d : UInt8, l = [c, d] ∧ 49 ≤ c.toNat ∧ c.toNat ≤ 57) ∨ (∃ c d e : UInt8, l = [c, d, e] ∧ 49 ≤ c.toNat ∧ c.toNat ≤ 57) := by
  match l, h with
  | [], h => simp [okL] at h
  | [c], h => exact Or.inl ⟨c, rfl, by simpa [okL] using h⟩
  | [c, d], h => exact Or.inr (Or.inl ⟨c, d, rfl, by simpa [okL] using h⟩)
  | [c, d, e], h => exact Or.inr (Or.inr ⟨c, d, e, rfl, by simpa [okL] using h⟩)
  | _ :: _ :: _ :: _ :: _, h => simp [okL] at h

/-- The kinds of what is kept. -/
theorem thingL_kinds (l : List UInt8) : (l = [] ∧ thingL l = []) ∨ (∃ c r, l = c :: r ∧ 97 ≤ c.toNat ∧ thingL l = c :: r) ∨ (∃ c r, l = c :: r ∧ thingL l = 0 :: c :: r) ∨
    (∃ c, l = [c] ∧ 48 ≤ c.toNat ∧ c.toNat ≤ 57 ∧ thingL l = [48, 48, c]) ∨ (∃ c d, l = [c, d] ∧ 49 ≤ c.toNat ∧ c.toNat ≤ 57 ∧ thingL l = [48, c, d]) ∨ (∃ c d e, l = [c, d, e] ∧ 49 ≤ c.toNat ∧ c.toNat ≤ 57 ∧ thingL l = [c, d, e]) := by
  cases l with
  | nil => exact Or.inl ⟨rfl, rfl⟩
  | cons c r =>
    rw [show thingL (c :: r) = if c.toNat < 97 then (if okL (c :: r) then List.replicate (3 - (c :: r).length) 48 ++ (c :: r) else 0 :: c :: r) else c :: r from rfl]
    by_cases h : c.toNat < 97
    · rw [if_pos h]
      cases ho : okL (c :: r) with
      | true =>
        rw [if_pos rfl]
        refine Or.inr (Or.inr (Or.inr ?_))
        rcases ok_cases ho with ⟨c', e, h1, h2⟩ | ⟨c', d, e, h1, h2⟩ | ⟨c', d, e', e, h1, h2⟩
        · rw [e]; exact Or.inl ⟨c', rfl, h1, h2, rfl⟩
        · rw [e]; exact Or.inr (Or.inl ⟨c', d, rfl, h1, h2, rfl⟩)
        · rw [e]; exact Or.inr (Or.inr ⟨c', d, e', rfl, h1, h2, rfl⟩)
      | false =>
        rw [if_neg (by simp)]
        exact Or.inr (Or.inr (Or.inl ⟨c, r, rfl, rfl⟩))
    · rw [if_neg h]
      exact Or.inr (Or.inl ⟨c, r, rfl, by omega, rfl⟩)

theorem thingL_inj {a b : List UInt8} (h : thingL a = thingL b) : a = b := by
  have z : (48 : UInt8).toNat = 48 := rfl
  have o : (0 : UInt8).toNat = 0 := rfl
  rcases thingL_kinds a with ⟨rfl, e⟩ | ⟨c, r, rfl, h1, e⟩ | ⟨c, r, rfl, e⟩ | ⟨c, rfl, h1, h2, e⟩ | ⟨c, d, rfl, h1, h2, e⟩ | ⟨c, d, f, rfl, h1, h2, e⟩ <;>
    rcases thingL_kinds b with ⟨rfl, e'⟩ | ⟨c', r', rfl, h1', e'⟩ | ⟨c', r', rfl, e'⟩ | ⟨c', rfl, h1', h2', e'⟩ | ⟨c', d', rfl, h1', h2', e'⟩ | ⟨c', d', f', rfl, h1', h2', e'⟩ <;>
    rw [e] at h <;> (try rw [e'] at h) <;> simp only [List.cons.injEq, reduceCtorEq, List.nil_eq, and_true] at h ⊢
  all_goals first
    | exact h
    | exact h.2
    | exact h.2.2
    | (exfalso; have h3 := congrArg UInt8.toNat h.1; clear e e'; omega)
    | (exfalso; have h3 := congrArg UInt8.toNat h.2.1; clear e e'; omega)

theorem thingC_inj {a b : ByteArray} (h : thingC a = thingC b) : a = b :=
  toList_inj (thingL_inj (by rw [← thingC_list, ← thingC_list, h]))

theorem toList_head (t : ByteArray) (h : 0 < t.size) : ∃ r, t.toList = t[0] :: r ∧ t.toList.length = t.size := by
  rw [ByteArray.toList_eq]
  obtain ⟨⟨l⟩⟩ := t
  cases l with
  | nil => exact absurd h (by show ¬ (0 < 0); omega)
  | cons c r => exact ⟨r, rfl, rfl⟩

theorem thing_word {t : ByteArray} (h : 0 < t.size) (hw : 97 ≤ t[0].toNat) : thingB t = thingC t := by
  obtain ⟨r, h1, h2⟩ := toList_head t h
  have hn : numB t = false := by
    unfold numB
    rw [h1, num_head]
    simp; omega
  unfold thingB thingC
  rw [hn, if_neg (show ¬ t.size = 0 by omega)]
  simp

theorem thing_num {t : ByteArray} (h : 0 < t.size) (h1 : 48 ≤ t[0].toNat) (h2 : t[0].toNat ≤ 57) (h3 : t.size ≤ 3) (h4 : t[0].toNat = 48 → t.size = 1) : thingB t = thingC t := by
  obtain ⟨r, e1, e2⟩ := toList_head t h
  have hn : numB t = true := by
    unfold numB
    rw [e1, num_head]
    simp; omega
  have ho : okL t.toList = true := by
    rw [e1] at e2 ⊢
    generalize t[0] = c at *
    match r, e2 with
    | [], _ => simp [okL]; omega
    | [_], e2 => simp at e2; simp [okL]; omega
    | [_, _], e2 => simp at e2; simp [okL]; omega
    | _ :: _ :: _ :: _, e2 => simp at e2; omega
  unfold thingB thingC
  rw [hn, ho, if_neg (show ¬ t.size = 0 by omega)]
  simp

end Go.Proofs.YtoihbhenbmffcaaGreatDoor
