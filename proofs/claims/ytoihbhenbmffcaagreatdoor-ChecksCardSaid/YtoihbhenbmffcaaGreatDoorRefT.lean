import Derived.Test.YtoihbhenbmffcaaGreatDoorRefS
set_option linter.unusedVariables false
set_option linter.unusedSimpArgs false

namespace Go.Proofs.YtoihbhenbmffcaaGreatDoor
open Go.RowKit



/-- Is a thing ahead of another one? -/
def lessB (a b : ByteArray) : Bool :=
  if digitB (byteAt a 0) != digitB (byteAt b 0) then digitB (byteAt a 0)
  else if digitB (byteAt a 0) && a.size != b.size then decide (a.size < b.size) else Op.bytesLess a.toList b.toList

set_option maxHeartbeats 800000 in
theorem less_any (a b : ByteArray) (w : World) (ha : 0 < a.size) (hb : 0 < b.size) (ha2 : a.size ≤ 1000000) (hb2 : b.size ≤ 1000000) :
    Calls Tryz.prog 86 #[.string a, .string b] w fun e w' => e = .returned (.bool (lessB a b)) ∧ w' = w := by
  have eA : byteAt a 0 = a[0] := by simp [byteAt, ha]
  have eB : byteAt b 0 = b[0] := by simp [byteAt, hb]
  obtain ⟨R, hR⟩ : ∃ R, lessB a b = R := ⟨_, rfl⟩
  rw [hR]
  unfold lessB at hR
  rw [eA, eB] at hR
  have ha' : (0 : Int) < (a.size : Int) := by omega
  have hb' : (0 : Int) < (b.size : Int) := by omega
  clear eA eB
  cases hx : digitB a[0] with
  | true =>
    cases hy : digitB b[0] with
    | true =>
      rw [hx, hy] at hR
      by_cases hsz : a.size = b.size
      · have h1 : (a.size != b.size) = false := by simp [hsz]
        have h2 : ((a.size : Int) != (b.size : Int)) = false := by simp [hsz]
        have HR : Hid (Op.bytesLess a.toList b.toList = R) := by show _ = _; rw [← hR, h1]; rfl
        clear hR h1 hsz
        go_enter Tryz.func86, Tryz.ntmps86
        go_wp2_with fail
        refine (digit_any _ a[0] _ rfl).mono ?_
        rintro e w2 ⟨rfl, rfl⟩
        rw [hx]
        go_wp2_with fail
        refine (digit_any _ b[0] _ rfl).mono ?_
        rintro e w2 ⟨rfl, rfl⟩
        rw [hy]
        go_wp2
        go_ret
        exact ⟨ret_bool HR.out, rfl⟩
      · have h1 : (a.size != b.size) = true := by simp [hsz]
        have h2 : ((a.size : Int) != (b.size : Int)) = true := by simp; omega
        have HR : Hid (decide (a.size < b.size) = R) := by show _ = _; rw [← hR, h1]; rfl
        clear hR h1 hsz
        go_enter Tryz.func86, Tryz.ntmps86
        go_wp2_with fail
        refine (digit_any _ a[0] _ rfl).mono ?_
        rintro e w2 ⟨rfl, rfl⟩
        rw [hx]
        go_wp2_with fail
        refine (digit_any _ b[0] _ rfl).mono ?_
        rintro e w2 ⟨rfl, rfl⟩
        rw [hy]
        go_wp2
        go_ret
        exact ⟨ret_bool HR.out, rfl⟩
    | false =>
      rw [hx, hy] at hR
      have HR : Hid (true = R) := by show _ = _; rw [← hR]; rfl
      clear hR
      go_enter Tryz.func86, Tryz.ntmps86
      go_wp2_with fail
      refine (digit_any _ a[0] _ rfl).mono ?_
      rintro e w2 ⟨rfl, rfl⟩
      rw [hx]
      go_wp2_with fail
      refine (digit_any _ b[0] _ rfl).mono ?_
      rintro e w2 ⟨rfl, rfl⟩
      rw [hy]
      go_wp2
      go_ret
      exact ⟨ret_bool HR.out, rfl⟩
  | false =>
    cases hy : digitB b[0] with
    | true =>
      rw [hx, hy] at hR
      have HR : Hid (false = R) := by show _ = _; rw [← hR]; rfl
      clear hR
      go_enter Tryz.func86, Tryz.ntmps86
      go_wp2_with fail
      refine (digit_any _ a[0] _ rfl).mono ?_
      rintro e w2 ⟨rfl, rfl⟩
      rw [hx]
      go_wp2_with fail
      refine (digit_any _ b[0] _ rfl).mono ?_
      rintro e w2 ⟨rfl, rfl⟩
      rw [hy]
      go_wp2
      go_ret
      exact ⟨ret_bool HR.out, rfl⟩
    | false =>
      rw [hx, hy] at hR
      have HR : Hid (Op.bytesLess a.toList b.toList = R) := by show _ = _; rw [← hR]; rfl
      clear hR
      go_enter Tryz.func86, Tryz.ntmps86
      go_wp2_with fail
      refine (digit_any _ a[0] _ rfl).mono ?_
      rintro e w2 ⟨rfl, rfl⟩
      rw [hx]
      go_wp2_with fail
      refine (digit_any _ b[0] _ rfl).mono ?_
      rintro e w2 ⟨rfl, rfl⟩
      rw [hy]
      go_wp2
      go_ret
      exact ⟨ret_bool HR.out, rfl⟩

/-- One thing more into a rising list: the round. -/
def insStep (x : ByteArray) (a : List ByteArray × Bool) (y : ByteArray) : List ByteArray × Bool := if !a.2 && lessB x y then (a.1 ++ [x] ++ [y], true) else (a.1 ++ [y], a.2)
def insF (l : List ByteArray) (x : ByteArray) : List ByteArray × Bool := l.foldl (insStep x) ([], false)
def withP (l : List ByteArray) (x : ByteArray) : List ByteArray := if (insF l x).2 then (insF l x).1 else (insF l x).1 ++ [x]

theorem insF_take {l : List ByteArray} {k : Nat} (hk : k < l.length) (x : ByteArray) : insF (l.take (k + 1)) x = insStep x (insF (l.take k) x) l[k] := by
  unfold insF; rw [List.take_succ_eq_append_getElem hk, List.foldl_append]; rfl

theorem insStep_len (x : ByteArray) (a : List ByteArray × Bool) (y : ByteArray) : (insStep x a y).1.length + a.2.toNat = a.1.length + 1 + (insStep x a y).2.toNat := by
  obtain ⟨o, d⟩ := a
  unfold insStep
  cases d <;> cases lessB x y <;> simp

theorem insFold_len (x : ByteArray) : ∀ (l : List ByteArray) (a : List ByteArray × Bool), (l.foldl (insStep x) a).1.length + a.2.toNat = a.1.length + l.length + (l.foldl (insStep x) a).2.toNat
  | [], a => by simp only [List.foldl_nil, List.length_nil, Nat.add_zero]
  | y :: l, a => by
    have h := insFold_len x l (insStep x a y)
    have h2 := insStep_len x a y
    simp only [List.foldl_cons, List.length_cons]
    omega

theorem insF_len (l : List ByteArray) (x : ByteArray) : (insF l x).1.length = l.length + (insF l x).2.toNat := by
  have h := insFold_len x l ([], false)
  simp only [List.length_nil, Bool.toNat_false] at h
  unfold insF
  omega

theorem withP_len (l : List ByteArray) (x : ByteArray) : (withP l x).length = l.length + 1 := by
  have h := insF_len l x
  unfold withP
  cases hd : (insF l x).2 <;> simp [hd] at h ⊢ <;> omega

set_option maxRecDepth 100000 in
set_option maxHeartbeats 1600000 in
theorem with_any (lv : Value) (l : List ByteArray) (x : ByteArray) (base : Nat) (w : World) (hl : w.ownsRow base 9 1 lv l.length (l.flatMap strCell)) (hlen : l.length ≤ 1000000) (hx : 0 < x.size ∧ x.size ≤ 1000000) (hls : ∀ y ∈ l, 0 < y.size ∧ y.size ≤ 1000000) :
    Calls Tryz.prog 171 #[lv, .string x] w fun e w' => ∃ v, e = .returned v ∧ w'.ownsRow w.heap.size 9 1 v (withP l x).length ((withP l x).flatMap strCell) ∧ Kept [] w w' := by
  obtain ⟨i0, hi0, hz0, hz1, hz2⟩ := info_parts Tryz.info9
  obtain ⟨ad, cap, rfl⟩ := row_nil hl
  have HR : Hid (w.ownsRow base 9 1 (.slice ad l.length cap) l.length (l.flatMap strCell) ∧ (∀ y ∈ l, 0 < y.size ∧ y.size ≤ 1000000)) := ⟨hl, hls⟩
  clear hl hls
  have hnot : ∀ (x : Bool) (w : World), (Op.unary .not (.bool x)).run Tryz.prog w = .ok (.bool (!x)) w := fun _ _ => rfl
  go_enter Tryz.func171, Tryz.ntmps171
  go_wp2
  go_loopw [5, 6, 7] (fun o d i wr => ∃ (k : Nat) (out : List ByteArray) (db : Bool), i = .int .i64 k ∧ k ≤ l.length ∧ d = .bool db ∧ Hid (insF (l.take k) x = (out, db)) ∧ out.length ≤ k + 1 ∧ wr.ownsRow w.heap.size 9 1 o out.length (out.flatMap strCell) ∧ Kept [] w wr) (fun _ _ i _ => l.length - (intOf i).toNat)
  case atStart => exact ⟨0, [], false, rfl, Nat.zero_le _, rfl, by show _ = _; simp [insF], by simp, World.ownsRow_nil _ _ _ _, Kept.refl _ _⟩
  case round =>
    obtain ⟨k, out, db, rfl, hk, rfl, HF, hol, hown, hK⟩ := hrel
    obtain ⟨ado, capo, rfl⟩ := row_nil hown
    have hsz := hK.size
    by_cases hlt : k < l.length
    · obtain ⟨g, cap', he, hc, hcell⟩ := row_get (ownsRow_kept HR.out.1 hK (by simp)) (fun c _ => rfl) k hlt
      simp only [Value.slice.injEq] at he
      obtain ⟨rfl, _, rfl⟩ := he
      have d0 := hcell k hlt 0 (by omega)
      simp [strCell] at d0
      clear hcell
      have hlk := HR.out.2 l[k] (List.getElem_mem hlt)
      have HS : Hid (insF (l.take (k + 1)) x = insStep x (out, db) l[k]) := by show _ = _; rw [insF_take hlt, HF.out]
      cases hq : (!db && lessB x l[k]) with
      | true =>
        have hdb : db = false := by cases db <;> simp_all
        subst hdb
        have hls : lessB x l[k] = true := by simpa using hq
        have hol1 : out.length ≤ k := by
          have h := insF_len (l.take k) x; rw [HF.out] at h; simp only [List.length_take, Bool.toNat_false] at h; omega
        have HS' : Hid (insF (l.take (k + 1)) x = (out ++ [x] ++ [l[k]], true)) := by show _ = _; rw [HS.out]; simp [insStep, hls]
        have hKc : ∀ {w1 : World} {o : Obj}, (wr.alloc o).grownBy w1 (Value.slice ado out.length capo).ownBlock → w1.cell? ⟨g, k, none⟩ = some (.string l[k]) := by
          intro w1 o hgr
          have hk1 := (hK.alloc o).grown hgr (fun q hq => Or.inr (hown.lt q hq).1)
          obtain ⟨g', cap', he, _, hcell⟩ := row_get (ownsRow_kept HR.out.1 hk1 (by simp)) (fun c _ => rfl) k hlt
          simp only [Value.slice.injEq, Option.some.injEq, Addr.mk.injEq] at he
          obtain ⟨⟨rfl, _, _⟩, _, rfl⟩ := he
          have d0 := hcell k hlt 0 (by omega)
          simpa [strCell] using d0
        clear HS hq
        go_wp2_with fail
        refine (less_any x l[k] _ hx.1 hlk.1 hx.2 hlk.2).mono ?_
        rintro e w0 ⟨rfl, hw0⟩
        rw [hls, hw0]
        clear hw0 w0
        go_wp2_with (first | (at_builtin; refine wpList_append_lies _ rfl (.tmp 24) (.tmp 26) _ rfl w.heap.size 9 i0 _ 1 16 Tryz.underlying41 hi0 hz0 hz1 hz2 rfl (by omega) (.slice ado out.length capo) out.length (out.flatMap strCell) rfl (hown.alloc _) ⟨wr.heap.size, 0, none⟩ 1 1 [.string x] rfl rfl (World.news_of_block (cs := #[.string x]) (t := 9) (fr := (0, 0)) (heap_alloc_new wr _)) (by simp [Value.oneCell']) (by omega) (by unfold maxLen; omega) (by omega) (by simp; omega) (wr.heap.size + 1) (by simp) ?_; intro g1 cp1 w1 ho1 hg1 ha1 hl1; have d1 := hKc hg1; have hsz1 : wr.heap.size ≤ w1.heap.size := by have := hg1.size; simp at this; omega) | (at_builtin; refine wpList_append_lies _ rfl (.tmp 28) (.tmp 33) _ rfl w.heap.size 9 i0 _ 1 16 Tryz.underlying41 hi0 hz0 hz1 hz2 rfl (by omega) (.slice (some ⟨g1, 0, none⟩) (out.length + 1) cp1) (out.length + 1) (out.flatMap strCell ++ [.string x]) rfl (ho1.alloc _) ⟨w1.heap.size, 0, none⟩ 1 1 [.string l[k]] rfl rfl (World.news_of_block (cs := #[.string l[k]]) (t := 9) (fr := (0, 0)) (heap_alloc_new w1 _)) (by simp [Value.oneCell']) (by omega) (by unfold maxLen; omega) (by omega) (by simp; omega) (w1.heap.size + 1) (by simp) ?_; intro g2 cp2 w2 ho2 hg2 ha2 hl2))
        have hKn : Kept [] w w2 := (((hK.alloc _).grown hg1 (fun q hq => Or.inr (hown.lt q hq).1)).alloc _).grown hg2 (fun q hq => Or.inr (ho1.lt q hq).1)
        clear hKc hg1 ha1 hl1 hg2 ha2 hl2 ho1 d1 d0 hown hK hsz
        go_wp2
        go_roundw
        case rel =>
          refine ⟨k + 1, out ++ [x] ++ [l[k]], true, by go_num, by omega, rfl, HS', by simp; omega, ?_, hKn⟩
          simpa [strCell] using ho2
        case measure => simp [intOf]; omega
      | false =>
        have HS' : Hid (insF (l.take (k + 1)) x = (out ++ [l[k]], db)) := by show _ = _; rw [HS.out]; simp [insStep, hq]
        clear HS
        have hol2 : out.length ≤ k + db.toNat := by
          have h := insF_len (l.take k) x; rw [HF.out] at h; simp only [List.length_take] at h; omega
        cases db with
        | true =>
          clear hq
          go_wp2_with (at_builtin; refine wpList_append_lies _ rfl (.tmp 28) (.tmp 33) _ rfl w.heap.size 9 i0 _ 1 16 Tryz.underlying41 hi0 hz0 hz1 hz2 rfl (by omega) (.slice ado out.length capo) out.length (out.flatMap strCell) rfl (hown.alloc _) ⟨wr.heap.size, 0, none⟩ 1 1 [.string l[k]] rfl rfl (World.news_of_block (cs := #[.string l[k]]) (t := 9) (fr := (0, 0)) (heap_alloc_new wr _)) (by simp [Value.oneCell']) (by omega) (by unfold maxLen; omega) (by omega) (by simp; omega) (wr.heap.size + 1) (by simp) ?_; intro g2 cp2 w2 ho2 hg2 ha2 hl2)
          have hKn : Kept [] w w2 := (hK.alloc _).grown hg2 (fun q hq => Or.inr (hown.lt q hq).1)
          clear hg2 ha2 hl2 d0 hown hK hsz
          go_wp2
          go_roundw
          case rel =>
            refine ⟨k + 1, out ++ [l[k]], true, by go_num, by omega, rfl, HS', by simp; omega, ?_, hKn⟩
            simpa [strCell] using ho2
          case measure => simp [intOf]; omega
        | false =>
          have hls : lessB x l[k] = false := by simpa using hq
          clear hq
          go_wp2_with fail
          refine (less_any x l[k] _ hx.1 hlk.1 hx.2 hlk.2).mono ?_
          rintro e w0 ⟨rfl, hw0⟩
          rw [hls, hw0]
          clear hw0 w0
          go_wp2_with (at_builtin; refine wpList_append_lies _ rfl (.tmp 28) (.tmp 33) _ rfl w.heap.size 9 i0 _ 1 16 Tryz.underlying41 hi0 hz0 hz1 hz2 rfl (by omega) (.slice ado out.length capo) out.length (out.flatMap strCell) rfl (hown.alloc _) ⟨wr.heap.size, 0, none⟩ 1 1 [.string l[k]] rfl rfl (World.news_of_block (cs := #[.string l[k]]) (t := 9) (fr := (0, 0)) (heap_alloc_new wr _)) (by simp [Value.oneCell']) (by omega) (by unfold maxLen; omega) (by omega) (by simp; omega) (wr.heap.size + 1) (by simp) ?_; intro g2 cp2 w2 ho2 hg2 ha2 hl2)
          have hKn : Kept [] w w2 := (hK.alloc _).grown hg2 (fun q hq => Or.inr (hown.lt q hq).1)
          clear hg2 ha2 hl2 d0 hown hK hsz
          go_wp2
          go_roundw
          case rel =>
            refine ⟨k + 1, out ++ [l[k]], false, by go_num, by omega, rfl, HS', by simp; omega, ?_, hKn⟩
            simpa [strCell] using ho2
          case measure => simp [intOf]; omega
    · have HE : Hid (insF l x = (out, db)) := by have h := HF.out; rwa [List.take_of_length_le (by omega)] at h
      have hol2 : out.length ≤ l.length + db.toNat := by
        have h := insF_len l x; rw [HE.out] at h; simp only at h; omega
      cases db with
      | true =>
        have HW : Hid (withP l x = out) := by show _ = _; unfold withP; rw [HE.out]; rfl
        go_wp2
        go_ret
        rw [HW.out]
        exact ⟨_, rfl, hown, hK⟩
      | false =>
        have HW : Hid (withP l x = out ++ [x]) := by show _ = _; unfold withP; rw [HE.out]; rfl
        have hol3 : out.length ≤ l.length := by simpa using hol2
        go_wp2_with (at_builtin; refine wpList_append_lies _ rfl (.tmp 37) (.tmp 39) _ rfl w.heap.size 9 i0 _ 1 16 Tryz.underlying41 hi0 hz0 hz1 hz2 rfl (by omega) (.slice ado out.length capo) out.length (out.flatMap strCell) rfl (hown.alloc _) ⟨wr.heap.size, 0, none⟩ 1 1 [.string x] rfl rfl (World.news_of_block (cs := #[.string x]) (t := 9) (fr := (0, 0)) (heap_alloc_new wr _)) (by simp [Value.oneCell']) (by omega) (by unfold maxLen; omega) (by omega) (by simp; omega) (wr.heap.size + 1) (by simp) ?_; intro g1 cp1 w1 ho1 hg1 ha1 hl1)
        have hKn : Kept [] w w1 := (hK.alloc _).grown hg1 (fun q hq => Or.inr (hown.lt q hq).1)
        clear hg1 ha1 hl1 hown hK hsz
        go_wp2
        go_ret
        rw [HW.out]
        refine ⟨_, rfl, ?_, hKn⟩
        simpa [strCell] using ho1

end Go.Proofs.YtoihbhenbmffcaaGreatDoor
