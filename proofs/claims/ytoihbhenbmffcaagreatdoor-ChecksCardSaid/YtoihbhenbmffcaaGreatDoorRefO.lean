import Derived.Test.YtoihbhenbmffcaaGreatDoorRefN
import Derived.Test.YtoihbhenbmffcaaGreatDoorApp
set_option linter.unusedVariables false
set_option linter.unusedSimpArgs false

namespace Go.Proofs.YtoihbhenbmffcaaGreatDoor
open Go.RowKit

theorem Tryz.info95 : (Tryz.prog.info? 95).map (fun i => (i.zero, i.size, i.bytes)) = some (some (.agg #[.int .u8 0, .string ⟨#[]⟩, .slice none 0 0, .int .i64 0, .int .u8 0, .string ⟨#[]⟩, .int .u8 0, .string ⟨#[]⟩, .int .i64 0]), 9, 112) := by kernel_rfl

/-- A literal as it lies in memory: with the value of its atom's arguments. -/
abbrev RLitV := RLit × Value
def litsCells (l : List RLitV) : List Value := l.flatMap fun p => litVal p.1 p.2
def LitIn (w : World) (base : Nat) (p : RLitV) : Prop := w.ownsRow base 93 2 p.2 p.1.A.args.length (p.1.A.args.flatMap termVal)

theorem LitIn.kept {M : List Nat} {w w' : World} {base : Nat} {p : RLitV} (h : LitIn w base p) (k : Kept M w w') (hm : ∀ i, i ∈ M → i < base) : LitIn w' base p := ownsRow_kept h k hm
theorem LitIn.grown {w w' : World} {base : Nat} {p : RLitV} {lv : Value} (h : LitIn w base p) (k : w.grownBy w' lv.ownBlock) (ha : Apart p.2 lv) : LitIn w' base p :=
  World.ownsRow.kept (v := p.2) h k (by
    cases hv : p.2.ownBlock with
    | none => exact Or.inl rfl
    | some k => exact Or.inr (fun e => ha k hv e.symm))

theorem LitIn.alloc {w : World} {base : Nat} {p : RLitV} (h : LitIn w base p) (o : Obj) : LitIn (w.alloc o) base p := World.ownsRow.alloc h o

set_option maxRecDepth 100000 in
set_option maxHeartbeats 1600000 in
theorem body_any (b : Nat) (s : ByteArray) (at_ : Nat) (w : World) (hs : s.size ≤ 1000000) (hat : at_ ≤ s.size) (hB : Blk w b (scan s at_ false) 73) :
    Calls Tryz.prog 81 #[.pointer (some ⟨b, 0, none⟩)] w fun e w' => ∃ (bv : Value) (bl : List RLitV), e = .returned bv ∧ bl.map Prod.fst = (bodyR s at_).1 ∧
      w'.ownsRow w.heap.size 95 9 bv bl.length (litsCells bl) ∧ (∀ p ∈ bl, LitIn w' w.heap.size p) ∧ Blk w' b (scan s (bodyR s at_).2.1 (bodyR s at_).2.2) 73 ∧ Kept [b] w w' := by
  obtain ⟨i0, hi0, hz0, hz1, hz2⟩ := info_parts Tryz.info95
  have hbw := hB.lt
  obtain ⟨L, a3, b3, hL⟩ : ∃ L a3 b3, bodyR s at_ = (L, a3, b3) := ⟨_, _, _, rfl⟩
  rw [hL]
  have HL : Hid (bodyR s at_ = (L, a3, b3)) := hL
  clear hL
  go_enter Tryz.func81, Tryz.ntmps81
  go_wp2_with fail
  go_loopg [3, 4] (2 * (s.size - at_) + 1) (fun k l more wr => ∃ (mb bd : Bool) (a : Nat) (acc : List RLitV), more = .bool mb ∧ a ≤ s.size ∧ acc.length ≤ a + 1 ∧ ((mb && !bd) = true → acc.length ≤ a) ∧
    k = 2 * (s.size - a) + (if (mb && !bd) = true then 1 else 0) ∧ Hid (BodyRel s mb bd a (acc.map Prod.fst) (L, a3, b3)) ∧ Blk wr b (scan s a bd) 73 ∧
    wr.ownsRow w.heap.size 95 9 l acc.length (litsCells acc) ∧ Hid (∀ p ∈ acc, LitIn wr w.heap.size p ∧ Apart p.2 l) ∧ Kept [b] w wr)
  case atStart =>
    refine ⟨true, false, at_, [], rfl, hat, by simp, by simp, by simp, ?_, hB, World.ownsRow_nil _ _ _ _, fun p hp => by simp at hp, Kept.refl _ _⟩
    show BodyRel _ _ _ _ _ _
    unfold BodyRel
    simp [HL.out]
  case round =>
    obtain ⟨mb, bd, a, acc, rfl, ha, hacc, hacc2, hk, HBr, hb4, hown, hin, hK4⟩ := hrel
    have hk' : Hid (gk = 2 * (s.size - a) + (if (mb && !bd) = true then 1 else 0)) := hk
    clear hk
    obtain ⟨ad, cp, rfl⟩ := ownsRow_form hown
    cases mb with
    | false =>
      have hdone := HBr.out.done rfl
      have HD : Hid (acc.map Prod.fst = L ∧ a = a3 ∧ bd = b3) := hdone
      clear hacc hacc2 hk' HBr hdone
      go_wp2
      go_ret
      obtain ⟨d1, d2, d3⟩ := HD.out
      subst d2 d3
      exact ⟨_, acc, rfl, d1, hown, fun p hp => (hin.out p hp).1, hb4, hK4⟩
    | true =>
      cases bd with
      | true =>
        have hdone := HBr.out.done rfl
        have HD : Hid (acc.map Prod.fst = L ∧ a = a3 ∧ true = b3) := hdone
        have hc2 := hb4.cell 2
        simp [scan] at hc2
        clear hacc hacc2 hk' HBr hdone
        go_wp2
        go_ret
        obtain ⟨d1, d2, d3⟩ := HD.out
        subst d2 d3
        exact ⟨_, acc, rfl, d1, hown, fun p hp => (hin.out p hp).1, hb4, hK4⟩
      | false =>
        have hc2 := hb4.cell 2
        simp [scan] at hc2
        have hblt := hb4.lt
        have hacc3 : acc.length ≤ a := hacc2 rfl
        clear hacc hacc2
        obtain ⟨t, a', bd', ht⟩ : ∃ t a' bd', litR s a = (t, a', bd') := ⟨_, _, _, rfl⟩
        have ha' : a' ≤ s.size := by have := litR_le s a ha; rw [ht] at this; exact this
        have HS := HBr.out.step ht ha (by simpa using hacc3)
        obtain ⟨m, hm⟩ : ∃ m, (!bd' && atB s (gapB s a' bd') 44) = m := ⟨_, rfl⟩
        obtain ⟨a6, ha6⟩ : ∃ a6, isTo s a' bd' 44 = a6 := ⟨_, rfl⟩
        rw [hm, ha6] at HS
        obtain ⟨q1, q2, q3, q4, q5⟩ := HS
        have HQ : Hid (litR s a = (t, a', bd') ∧ (!bd' && atB s (gapB s a' bd') 44) = m ∧ isTo s a' bd' 44 = a6 ∧ a6 ≤ s.size ∧ (acc.map Prod.fst ++ [t]).length ≤ a6 + 1 ∧ ((m && !bd') = true → (acc.map Prod.fst ++ [t]).length ≤ a6) ∧ 2 * (s.size - a6) + (if (m && !bd') = true then 1 else 0) < gk ∧ BodyRel s m bd' a6 (acc.map Prod.fst ++ [t]) (L, a3, b3)) :=
          ⟨ht, hm, ha6, q1, q2, q3, by have := hk'.out; simp at this; omega, q5⟩
        clear ht hm ha6 q1 q2 q3 q4 q5 hk' HBr
        go_wp2_with fail
        refine (lit_any b s a _ hs ha hb4).mono ?_
        rintro e wt ⟨av, rfl, hownA, hbt, hKt⟩
        rw [HQ.out.1] at hbt hownA ⊢
        obtain ⟨ada, capa, rfl⟩ := ownsRow_form hownA
        have hownt := ownsRow_kept hown hKt (by simp; omega)
        have hszt := hKt.size
        have hszK := hK4.size
        simp only [litVal]
        simp only at hownA
        go_wp2_with (at_builtin; refine wpList_append_lies _ rfl _ _ _ rfl w.heap.size 95 i0 _ 9 112 Tryz.underlying80 hi0 hz0 hz1 hz2 rfl (by omega) (.slice ad acc.length cp) acc.length (litsCells acc) rfl (hownt.alloc _) ⟨wt.heap.size, 0, none⟩ 1 1 (litVal t (.slice ada t.A.args.length capa)) rfl rfl (World.news_of_block (cs := (litVal t (.slice ada t.A.args.length capa)).toArray) (t := 95) (fr := (0, 0)) (heap_alloc_new wt _)) (by simp [Value.oneCell', litVal]) (by omega) (by unfold maxLen; omega) (by omega) (by simp; omega) (wt.heap.size + 1) (by simp) ?_; intro gg cap w5 hown5 hgrow hat5 hlt5)
        have hgg := (hown5.lt gg rfl).1
        have hb5 := (hbt.alloc _).grown hgrow (by have := ownsRow_new hown b (by omega); simpa using this)
        have hK5 := ((hK4.trans hKt).alloc _).grown hgrow (fun k hk => Or.inr ((hown.lt k hk).1))
        have HIN : Hid (∀ p ∈ acc ++ [(t, (.slice ada t.A.args.length capa : Value))], LitIn w5 w.heap.size p ∧ Apart p.2 (.slice (some ⟨gg, 0, none⟩) (acc.length + 1) cap)) := by
          intro p hp
          rcases List.mem_append.1 hp with hp | hp
          · obtain ⟨h1, h2⟩ := hin.out p hp
            have h1' := h1.kept hKt (by simp; omega)
            exact ⟨(h1'.alloc _).grown hgrow h2, Apart.lies h2 h1' hat5 (by omega)⟩
          · simp only [List.mem_singleton] at hp
            subst hp
            have h2 : Apart (.slice ada t.A.args.length capa) (.slice ad acc.length cp) := by
              intro k hk he
              have := (hownA.lt k hk).1
              have := (hown.lt k he).2
              omega
            have h1' : LitIn wt w.heap.size (t, .slice ada t.A.args.length capa) := ownsRow_base hownA (by omega)
            exact ⟨(h1'.alloc _).grown hgrow h2, Apart.lies h2 hownA hat5 (by omega)⟩
        clear hin hownA hbt hKt hownt hgrow hat5 hown hb4 hK4 hszt hszK
        go_wp2_with fail
        refine (is_any b s a' bd' 44 44 _ rfl hs ha' hb5).mono ?_
        rintro e w6 ⟨rfl, hb6, hK6⟩
        have hown6 := ownsRow_kept hown5 hK6 (by simp; omega)
        have hK6' := hK5.trans hK6
        have HIN6 : Hid (∀ p ∈ acc ++ [(t, (.slice ada t.A.args.length capa : Value))], LitIn w6 w.heap.size p ∧ Apart p.2 (.slice (some ⟨gg, 0, none⟩) (acc.length + 1) cap)) :=
          fun p hp => ⟨(HIN.out p hp).1.kept hK6 (by simp; omega), (HIN.out p hp).2⟩
        rw [HQ.out.2.2.1] at hb6
        rw [HQ.out.2.1]
        clear hb5 hK5 hK6 hown5 HIN
        go_wp2_with fail
        go_roundg (2 * (s.size - a6) + (if (m && !bd') = true then 1 else 0))
        case measure => exact HQ.out.2.2.2.2.2.2.1
        case rel =>
          obtain ⟨_, _, _, q1, q2, q3, _, q5⟩ := HQ.out
          refine ⟨m, bd', a6, acc ++ [(t, .slice ada t.A.args.length capa)], rfl, q1, by simpa using q2, by simpa using q3, rfl, ?_, hb6, ?_, HIN6, hK6'⟩
          · show BodyRel _ _ _ _ _ _
            simpa using q5
          · simpa [litsCells] using hown6

end Go.Proofs.YtoihbhenbmffcaaGreatDoor
