import Derived.Test.YtoihbhenbmffcaaGreatDoorRefA
set_option linter.unusedVariables false
set_option linter.unusedSimpArgs false

namespace Go.Proofs.YtoihbhenbmffcaaGreatDoor
open Go.RowKit

/-- The kind of the mark that a rune begins. -/
def kindR (r : Int) : Int :=
  if 97 ≤ r ∧ r ≤ 122 then 2 else if 48 ≤ r ∧ r ≤ 57 then 3 else if 65 ≤ r ∧ r ≤ 90 then 4
  else if r = 58 ∨ r = 46 ∨ r = 44 ∨ r = 33 ∨ r = 61 ∨ r = 35 ∨ r = 60 ∨ r = 40 ∨ r = 41 then 5 else 0

set_option maxHeartbeats 1600000 in
theorem kindOf_any (r : Int) (w : World) : Calls Tryz.prog 192 #[.int .i32 r] w fun e w' => e = .returned (.int .i64 (kindR r)) ∧ w' = w := by
  go_enter Tryz.func192, Tryz.ntmps192
  go_wp2
  all_goals
    go_ret
    refine ⟨ret_int ?_, rfl⟩
    try simp only [beq_eq_false_iff_ne, beq_iff_eq, ne_eq] at *
    unfold kindR
    (repeat' split) <;> omega

structure Mark where
  kind : Int
  place : Nat
  text : ByteArray

def markVal (m : Mark) : List Value := [.int .i64 m.kind, .int .i64 m.place, .string m.text]

/-- Does a rune belong to the mark ahead of it? -/
def goesOnB (m : Mark) (place : Nat) (r : Int) : Bool :=
  if m.place + m.text.size ≠ place then false
  else if m.kind = 2 ∨ m.kind = 3 then kindR r == m.kind
  else if m.kind = 5 then (m.text.toList == [58]) && r == 45
  else false

set_option maxHeartbeats 1600000 in
theorem goesOn_any (m : Mark) (place : Nat) (r : Int) (w : World) (hp : m.place ≤ 1000000) (ht : m.text.size ≤ 1000000) (hpl : place ≤ 1000000) :
    Calls Tryz.prog 191 #[.agg (markVal m).toArray, .int .i64 place, .int .i32 r] w fun e w' => e = .returned (.bool (goesOnB m place r)) ∧ Kept [] w w' := by
  simp only [markVal]
  obtain ⟨G, hG⟩ : ∃ G, goesOnB m place r = G := ⟨_, rfl⟩
  rw [hG]
  have HG := hG
  unfold goesOnB at HG
  clear hG
  by_cases h0 : m.place + m.text.size = place
  · have hne : ((m.place : Int) + (m.text.size : Int) != (place : Int)) = false := by simp; omega
    rw [if_neg (by omega)] at HG
    by_cases h1 : m.kind = 2 ∨ m.kind = 3
    · rw [if_pos h1] at HG
      have HH : Hid ((kindR r == m.kind) = G) := HG
      clear HG h0
      have y0 : ∀ n : Nat, True := fun _ => trivial
      clear y0
      rcases h1 with h1 | h1
      · have e2 : (m.kind == 2) = true := by simp [h1]
        clear h1
        go_enter Tryz.func191, Tryz.ntmps191
        go_wp2_with fail
        go_quiet ((go_at_call 192; exact Calls.quiet_of_same (kindOf_any _ _)))
        go_wp2
        go_ret
        exact ⟨ret_bool HH.out, ((Kept.refl _ _).alloc _).drewN _⟩
      · have e2 : (m.kind == 2) = false := by simp [h1]
        have e3 : (m.kind == 3) = true := by simp [h1]
        clear h1
        go_enter Tryz.func191, Tryz.ntmps191
        go_wp2_with fail
        go_quiet ((go_at_call 192; exact Calls.quiet_of_same (kindOf_any _ _)))
        go_wp2
        go_ret
        exact ⟨ret_bool HH.out, ((Kept.refl _ _).alloc _).drewN _⟩
    · rw [if_neg h1] at HG
      have e2 : (m.kind == 2) = false := by simp; omega
      have e3 : (m.kind == 3) = false := by simp; omega
      by_cases h5 : m.kind = 5
      · rw [if_pos h5] at HG
        have e5 : (m.kind == 5) = true := by simp [h5]
        have HH : Hid (((m.text.toList == [58]) && r == 45) = G) := HG
        clear HG h0 h1 h5
        go_enter Tryz.func191, Tryz.ntmps191
        go_wp2
        all_goals
          go_ret
          refine ⟨ret_bool ?_, (Kept.refl _ _).alloc _⟩
          rw [← HH.out]
          simp_all
      · rw [if_neg h5] at HG
        have e5 : (m.kind == 5) = false := by simp [h5]
        have HH : Hid (false = G) := HG
        clear HG h0 h1 h5
        go_enter Tryz.func191, Tryz.ntmps191
        go_wp2
        go_ret
        exact ⟨ret_bool HH.out, (Kept.refl _ _).alloc _⟩
  · have hne : ((m.place : Int) + (m.text.size : Int) != (place : Int)) = true := by simp; omega
    rw [if_pos (by omega)] at HG
    have HH : Hid (false = G) := HG
    clear HG h0
    go_enter Tryz.func191, Tryz.ntmps191
    go_wp2
    go_ret
    exact ⟨ret_bool HH.out, (Kept.refl _ _).alloc _⟩

theorem atB_yes0 {s : ByteArray} (h : 0 < s.size) : atB s 0 48 = ((s[0].toNat : Int) == 48) := by
  have e : ((s[0].toNat : Int) == 48) = (s[0] == 48) := byte_eq s[0] 48
  rw [e]; simp [atB, h]

/-- Is a row as the grammar asks? -/
def wholeB (m : Mark) : Bool :=
  if m.kind = 2 then decide (m.text.size ≤ 4)
  else if m.kind = 3 then decide (m.text.size = 1) || (decide (m.text.size ≤ 3) && !(atB m.text 0 48))
  else true

set_option maxHeartbeats 1600000 in
theorem isWhole_any (m : Mark) (w : World) (ht : m.text.size ≤ 1000000) (ht0 : m.kind = 3 → 0 < m.text.size) :
    Calls Tryz.prog 157 #[.agg (markVal m).toArray] w fun e w' => e = .returned (.bool (wholeB m)) ∧ Kept [] w w' := by
  simp only [markVal]
  obtain ⟨G, hG⟩ : ∃ G, wholeB m = G := ⟨_, rfl⟩
  rw [hG]
  have HG := hG
  unfold wholeB at HG
  clear hG
  by_cases h2 : m.kind = 2
  · have e2 : (m.kind == 2) = true := by simp [h2]
    rw [if_pos h2] at HG
    have HH : Hid (decide (m.text.size ≤ 4) = G) := HG
    clear HG h2 ht0
    go_enter Tryz.func157, Tryz.ntmps157
    go_wp2
    go_ret
    refine ⟨ret_bool ?_, (Kept.refl _ _).alloc _⟩
    rw [← HH.out]
    simp
    try omega
  · have e2 : (m.kind == 2) = false := by simp [h2]
    rw [if_neg h2] at HG
    by_cases h3 : m.kind = 3
    · have e3 : (m.kind == 3) = true := by simp [h3]
      have hpos := ht0 h3
      have hpos' : (0 : Int) < (m.text.size : Int) := by omega
      rw [if_pos h3, atB_yes0 hpos] at HG
      have HH : Hid ((decide (m.text.size = 1) || (decide (m.text.size ≤ 3) && !((m.text[0].toNat : Int) == 48))) = G) := HG
      clear HG h2 h3 ht0
      go_enter Tryz.func157, Tryz.ntmps157
      go_wp2
      · go_ret
        refine ⟨ret_bool ?_, (Kept.refl _ _).alloc _⟩
        have h1 : m.text.size = 1 := by omega
        rw [← HH.out]
        simp [h1]
      · go_ret
        refine ⟨ret_bool ?_, (Kept.refl _ _).alloc _⟩
        have h1 : ¬ m.text.size = 1 := by omega
        have h2 : m.text.size ≤ 3 := by omega
        rw [← HH.out]
        simp only [h1, h2, decide_false, decide_true, Bool.false_or, Bool.true_and]
        simp [bne]
        omega
      · go_ret
        refine ⟨ret_bool ?_, (Kept.refl _ _).alloc _⟩
        have h1 : ¬ m.text.size = 1 := by omega
        have h2 : ¬ m.text.size ≤ 3 := by omega
        rw [← HH.out]
        simp [h1, h2]
        omega
    · have e3 : (m.kind == 3) = false := by simp [h3]
      rw [if_neg h3] at HG
      have HH : Hid (true = G) := HG
      clear HG h2 h3 ht0
      go_enter Tryz.func157, Tryz.ntmps157
      go_wp2
      go_ret
      exact ⟨ret_bool HH.out, (Kept.refl _ _).alloc _⟩

end Go.Proofs.YtoihbhenbmffcaaGreatDoor

namespace Go.Proofs.YtoihbhenbmffcaaGreatDoor
open Go.RowKit

theorem Tryz.info206 : (Tryz.prog.info? 206).map (fun i => (i.zero, i.size, i.bytes)) = some (some (.agg #[.int .i64 0, .int .i64 0, .string ⟨#[]⟩]), 3, 32) := by kernel_rfl

theorem markVal_len (m : Mark) : (markVal m).length = 3 := rfl

/-- One cell of a row of one's own is written. -/
theorem ownsRow_setAt {w : World} {base : Nat} {e : TypeId} {size : Nat} {g n cap : Nat} {xs : List Value} (h : w.ownsRow base e size (.slice (some ⟨g, 0, none⟩) n cap) n xs) (i : Nat) (u : Value) :
    (w.setCell ⟨g, i, none⟩ u).ownsRow base e size (.slice (some ⟨g, 0, none⟩) n cap) n (xs.set i u) := by
  refine ⟨by rw [List.length_set]; exact h.1, ?_⟩
  rcases h.2 with ⟨he, _⟩ | ⟨g', cap', cur, he, hb, hg, hc, hm, hs, ht⟩
  · cases he
  · simp only [Value.slice.injEq, Option.some.injEq, Addr.mk.injEq] at he
    obtain ⟨⟨rfl, _, _⟩, _, rfl⟩ := he
    refine Or.inr ⟨g, cap, cur.setIfInBounds i u, rfl, hb, ?_, hc, hm, by simpa using hs, ?_⟩
    · simp [World.setCell, Array.getElem?_modify, hg]
    · rw [Array.toList_setIfInBounds, List.take_set, ht]

theorem ownsRow_frozen {w : World} {base : Nat} {e : TypeId} {size : Nat} {g n cap : Nat} {xs : List Value} (h : w.ownsRow base e size (.slice (some ⟨g, 0, none⟩) n cap) n xs) (i : Nat) : w.frozen? ⟨g, i, none⟩ = false := by
  rcases h.2 with ⟨he, _⟩ | ⟨g', cap', cur, he, hb, hg, _⟩
  · cases he
  · simp only [Value.slice.injEq, Option.some.injEq, Addr.mk.injEq] at he
    obtain ⟨⟨rfl, _, _⟩, _, rfl⟩ := he
    simp [World.frozen?, hg]

theorem enc_le (r : Int) : (Utf8.encode r).size ≤ 4 := by
  unfold Utf8.encode
  simp only
  generalize (if Utf8.valid r = true then r.toNat else Utf8.runeError) = c
  repeat' split
  all_goals simp [ByteArray.size]

def newMark (place : Nat) (r : Int) : Mark := ⟨kindR r, place, Utf8.encode r⟩

/-- A rune laid to the marks. -/
def layR (ms : List Mark) (place : Nat) (r : Int) : List Mark :=
  if r = 32 ∨ r = 10 then ms
  else match ms.getLast? with
    | some m => if goesOnB m place r then ms.dropLast ++ [{ m with text := m.text ++ Utf8.encode r }] else ms ++ [newMark place r]
    | none => ms ++ [newMark place r]

theorem layR_snoc {pre : List Mark} {m : Mark} {place : Nat} {r : Int} (h : ¬ (r = 32 ∨ r = 10)) : layR (pre ++ [m]) place r = if goesOnB m place r then pre ++ [{ m with text := m.text ++ Utf8.encode r }] else pre ++ [m] ++ [newMark place r] := by
  unfold layR
  rw [if_neg h]
  simp

theorem flat_set (pre : List Mark) (m : Mark) (u : ByteArray) : ((pre ++ [m]).flatMap markVal).set (pre.length * 3 + 2) (.string u) = (pre ++ [{ m with text := u }]).flatMap markVal := by
  have hl : (pre.flatMap markVal).length = pre.length * 3 := by
    induction pre with
    | nil => rfl
    | cons a l ih => rw [List.flatMap_cons, List.length_append, ih, markVal_len, List.length_cons]; omega
  simp only [List.flatMap_append, List.flatMap_cons, List.flatMap_nil, List.append_nil]
  rw [List.set_append_right _ _ (by omega), hl]
  simp [markVal]

set_option maxRecDepth 100000 in
set_option maxHeartbeats 1600000 in
theorem lay_any (mv : Value) (ms : List Mark) (place : Nat) (r : Int) (B : Nat) (w : World) (hB : B ≤ w.heap.size) (hm : w.ownsRow B 206 3 mv ms.length (ms.flatMap markVal)) (hlen : ms.length ≤ 1000000) (hpl : place ≤ 1000000)
    (hms : ∀ m ∈ ms, m.place ≤ 1000000 ∧ m.text.size ≤ 1000000) :
    Calls Tryz.prog 156 #[mv, .int .i64 place, .int .i32 r] w fun e w' => ∃ v, e = .returned v ∧ w'.ownsRow B 206 3 v (layR ms place r).length ((layR ms place r).flatMap markVal) ∧ Below B w w' := by
  obtain ⟨i0, hi0, hz0, hz1, hz2⟩ := info_parts Tryz.info206
  obtain ⟨ad, cap, rfl⟩ := row_nil hm
  by_cases hbl : r = 32 ∨ r = 10
  · have HL : Hid (layR ms place r = ms) := by show _ = _; unfold layR; rw [if_pos hbl]
    rcases hbl with hbl | hbl
    · have h1 : (r == 32) = true := by simp [hbl]
      clear hbl
      go_enter Tryz.func156, Tryz.ntmps156
      go_wp2
      go_ret
      rw [HL.out]
      exact ⟨_, rfl, hm, Below.refl _ _⟩
    · have h1 : (r == 32) = false := by simp [hbl]
      have h2 : (r == 10) = true := by simp [hbl]
      clear hbl
      go_enter Tryz.func156, Tryz.ntmps156
      go_wp2
      go_ret
      rw [HL.out]
      exact ⟨_, rfl, hm, Below.refl _ _⟩
  · have h1 : (r == 32) = false := by simp; omega
    have h2 : (r == 10) = false := by simp; omega
    rcases List.eq_nil_or_concat ms with rfl | ⟨pre, m, hmm⟩
    · have HL : Hid (layR [] place r = [newMark place r]) := by show _ = _; unfold layR; rw [if_neg hbl]; rfl
      have hkr := kindOf_any r w
      clear hbl hms
      have HKR := hide hkr
      clear hkr
      go_enter Tryz.func156, Tryz.ntmps156
      go_wp2_with fail
      refine (unhide HKR).mono ?_
      rintro e w1 ⟨rfl, hw1⟩
      rw [hw1]
      clear hw1 w1
      go_wp2_with (at_builtin; refine wpList_append_lies _ rfl (.tmp 40) (.tmp 47) _ rfl B 206 i0 _ 3 32 Tryz.underlying200 hi0 hz0 hz1 hz2 rfl (by omega) (.slice ad 0 cap) 0 [] rfl (World.ownsRow.alloc hm _) ⟨w.heap.size, 0, none⟩ 1 1 (markVal (newMark place r)) rfl rfl (World.news_of_block (cs := (markVal (newMark place r)).toArray) (t := 206) (fr := (0, 0)) (heap_alloc_new w _)) (by simp [Value.oneCell', markVal]) (by omega) (by unfold maxLen; omega) (by omega) (by simp; omega) (w.heap.size + 1) (by simp) ?_; intro g1 cp1 w1 ho1 hg1 ha1 hl1)
      have hBe : Below B w w1 := ((Below.refl B w).alloc hB _).grown hg1 (by simp; omega) (fun q hq => (hm.lt q hq).1)
      clear hg1 ha1 hl1
      go_wp2
      go_ret
      rw [HL.out]
      refine ⟨_, rfl, ?_, hBe⟩
      simpa using ho1
    · rw [List.concat_eq_append] at hmm
      subst hmm
      have HL := hide (layR_snoc (pre := pre) (m := m) (place := place) hbl)
      have hlt : pre.length < (pre ++ [m]).length := by simp
      obtain ⟨g, cap', he, hc, hcell⟩ := row_get hm (fun c _ => markVal_len c) pre.length hlt
      simp only [Value.slice.injEq] at he
      obtain ⟨rfl, _, rfl⟩ := he
      have c0 := hcell pre.length hlt 0 (by omega)
      have c1 := hcell pre.length hlt 1 (by omega)
      have c2 := hcell pre.length hlt 2 (by omega)
      simp [markVal] at c0 c1 c2
      have hmb := hms m (by simp)
      have hfr := ownsRow_frozen hm (pre.length * 3 + 2)
      have hl1 : (pre ++ [m]).length = pre.length + 1 := by simp
      have hpn : pre.length ≤ 1000000 := by omega
      have HG := goesOn_any m place r w hmb.1 hmb.2 hpl
      simp only [markVal] at HG
      have HGh := hide HG
      clear hcell hbl HG hms
      rw [hl1] at hm ⊢
      cases hgo : goesOnB m place r with
      | true =>
        have hgo' := hide hgo
        go_enter Tryz.func156, Tryz.ntmps156
        go_wp2_with fail
        refine (unhide HGh).mono ?_
        rintro e w1 ⟨rfl, hK1⟩
        rw [hgo]
        have hm1 := ownsRow_kept hm hK1 (by simp)
        have hfr1 := ownsRow_frozen hm1 (pre.length * 3 + 2)
        have hc1 : w1.cell? ⟨g, pre.length * 3 + 2, none⟩ = some (.string m.text) := by
          have hgl := (hm.lt g rfl).2
          rw [World.cell?_of_block (w := w) (hK1.block g hgl (by simp))]; exact c2
        have hBe1 : Below B w w1 := ⟨hK1.os, hK1.tape, hK1.output, hK1.size, fun k hk => hK1.block k (by omega) (by simp)⟩
        clear c0 c1 c2 hfr hK1 hgo
        have henc := enc_le r
        have hmt := hmb.2
        go_wp2
        go_ret
        rw [unhide HL, unhide hgo', if_pos rfl]
        refine ⟨_, rfl, ?_, hBe1.setCell (hm.lt g rfl).1 _⟩
        have h := ownsRow_setAt hm1 (pre.length * 3 + 2) (.string (m.text ++ Utf8.encode r))
        rw [flat_set] at h
        simpa using h
      | false =>
        have hgo' := hide hgo
        go_enter Tryz.func156, Tryz.ntmps156
        go_wp2_with fail
        refine (unhide HGh).mono ?_
        rintro e w1 ⟨rfl, hK1⟩
        rw [hgo]
        have hm1 := ownsRow_kept hm hK1 (by simp)
        have hBe1 : Below B w w1 := ⟨hK1.os, hK1.tape, hK1.output, hK1.size, fun k hk => hK1.block k (by omega) (by simp)⟩
        have hsz1 := hK1.size
        clear c0 c1 c2 hfr hK1 hgo
        go_wp2_with fail
        refine (kindOf_any r w1).mono ?_
        rintro e w2 ⟨rfl, hw2⟩
        rw [hw2]
        clear hw2 w2
        go_wp2_with (at_builtin; refine wpList_append_lies _ rfl (.tmp 40) (.tmp 47) _ rfl B 206 i0 _ 3 32 Tryz.underlying200 hi0 hz0 hz1 hz2 rfl (by omega) (.slice (some ⟨g, 0, none⟩) (pre.length + 1) cap) (pre.length + 1) ((pre ++ [m]).flatMap markVal) rfl (World.ownsRow.alloc hm1 _) ⟨w1.heap.size, 0, none⟩ 1 1 (markVal (newMark place r)) rfl rfl (World.news_of_block (cs := (markVal (newMark place r)).toArray) (t := 206) (fr := (0, 0)) (heap_alloc_new w1 _)) (by simp [Value.oneCell', markVal]) (by omega) (by unfold maxLen; omega) (by omega) (by simp; omega) (w1.heap.size + 1) (by simp) ?_; intro g1 cp1 w3 ho1 hg1 ha1 hl1)
        have hBe : Below B w w3 := (hBe1.alloc (by omega) _).grown hg1 (by simp; omega) (fun q hq => (hm1.lt q hq).1)
        clear hg1 ha1 hl1
        go_wp2
        go_ret
        rw [unhide HL, unhide hgo', if_neg (by simp)]
        refine ⟨_, rfl, ?_, hBe⟩
        simpa using ho1

end Go.Proofs.YtoihbhenbmffcaaGreatDoor
