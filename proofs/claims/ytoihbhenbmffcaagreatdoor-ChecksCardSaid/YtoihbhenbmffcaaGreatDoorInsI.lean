import Derived.Test.YtoihbhenbmffcaaGreatDoorInsP
set_option linter.unusedVariables false
set_option linter.unusedSimpArgs false

namespace Go.Proofs.YtoihbhenbmffcaaGreatDoor
open Go.RowKit

set_option maxHeartbeats 4000000 in
set_option maxRecDepth 100000 in
theorem insI_shift (g n c i vb : Nat) (cs cur : List Value) (xv : Value) (w : World) (hi : i < n) (hroom : n + 1 ≤ c) (hc63 : c ≤ 9223372036854775807) (hvb : vb ≠ g)
    (hcl : cs.length = n) (hB : Blk w g cur 21) (hcur : cur.length = c) (htk : cur.take n = cs) (hV : Blk w vb [xv] 21) (h1c : ∀ v ∈ cs, v.oneCell' = true) (h1v : xv.oneCell' = true) :
    Calls Tryz.prog 220 #[.slice (some ⟨g, 0, none⟩) n c, .int .i64 i, .slice (some ⟨vb, 0, none⟩) 1 1] w fun e w' =>
      e = .returned (.slice (some ⟨g, 0, none⟩) (n + 1) c) ∧ w' = (w.drew.setCells g (i + 1) (cs.drop i)).setCells g i [xv] := by
  obtain ⟨i0, hi0, hz0, hzs, hzb⟩ := info_parts Tryz.info21
  have hsz : (Tryz.prog.info? 21).map (·.size) = some 1 := by rw [hi0]; simp [hzs]
  have hzo : ∀ w, (Go.sizeOf 21).run Tryz.prog w = .ok 1 w := fun w => by simp [sizeOf, typeInfo, hi0, hzs]
  have hsp : ∀ j, j < n + 1 → (w.cell? ⟨g, j, none⟩).isSome = true := fun j hj => hB.some j (by omega)
  have hfz : ∀ j, w.frozen? ⟨g, j, none⟩ = false := fun j => hB.frozen j
  have hcs : ∀ j v, cs[j]? = some v → w.cell? ⟨g, j, none⟩ = some v := fun j v hj => by
    rw [hB.cell]
    rw [← htk, List.getElem?_take] at hj
    split at hj
    · exact hj
    · cases hj
  have hov : ∀ lb cb, (callFunc 233 #[.slice (some ⟨vb, 0, none⟩) 1 1, .slice (some ⟨g, i + 1, none⟩) lb cb]).run Tryz.prog w = .ok (.value (.bool false)) w := fun lb cb => by
    rw [run_callFunc_extern Tryz.func233 (by kernel_rfl) (by kernel_rfl) (by kernel_rfl) (e := Extern.SlicesOverlaps.overlaps #[234, 234] #[4]) (by kernel_rfl),
      Lib.run_overlaps_apart w 234 4 21 Tryz.underlying234 1 hzo ⟨vb, 0, none⟩ ⟨g, i + 1, none⟩ 1 1 lb cb hvb 21 21 1 c (by simpa using hV.shape) (by rw [← hcur]; exact hB.shape) (by omega) (hV.frozen 0) (hV.frozen 1)]
    rfl
  have hdl : (cs.drop i).length = n - i := by rw [List.length_drop, hcl]
  have hcp1 : ∀ ty dc sc, (Builtin.copy_ #[234, 234] ty #[.slice (some ⟨g, i + 1, none⟩) (n - i) dc, .slice (some ⟨g, i, none⟩) (n + 1 - i) sc]).run Tryz.prog w.drew = .ok (goInt (cs.drop i).length) (w.drew.setCells g (i + 1) (cs.drop i)) := fun ty dc sc =>
    run_copy_cells w.drew _ _ ty 21 g (i + 1) (n - i) dc ⟨g, i, none⟩ (n + 1 - i) sc (cs.drop i) Tryz.underlying234 hsz (by rw [hdl]; simp only [Nat.min_def]; split <;> omega)
      (fun j v hj => by rw [Addr.add_lit]; exact hcs (i + j) v (by rwa [List.getElem?_drop] at hj))
      (fun j hj => hsp _ (by omega)) (fun j hj => hfz _) (fun v hv => h1c v (List.mem_of_mem_drop hv))
  obtain ⟨W1, hW1⟩ : ∃ W1, W1 = w.drew.setCells g (i + 1) (cs.drop i) := ⟨_, rfl⟩
  have hB1 : Blk W1 g (setL cur (i + 1) (cs.drop i)) 21 := by rw [hW1]; exact hB.drew.setCells _ _
  have hV1 : Blk W1 vb [xv] 21 := by rw [hW1]; exact hV.drew.kept (Kept.setCells (M := [g]) (by simp) _ _ (Kept.refl _ _)) (by simpa using hvb)
  have hcp2 : ∀ ty dc, (Builtin.copy_ #[234, 234] ty #[.slice (some ⟨g, i, none⟩) (n + 1 - i) dc, .slice (some ⟨vb, 0, none⟩) 1 1]).run Tryz.prog W1 = .ok (goInt [xv].length) (W1.setCells g i [xv]) := fun ty dc =>
    run_copy_cells W1 _ _ ty 21 g i (n + 1 - i) dc ⟨vb, 0, none⟩ 1 1 [xv] Tryz.underlying234 hsz (by simp only [Nat.min_def]; split <;> simp <;> omega)
      (fun j v hj => by rw [Addr.add_lit, Nat.zero_add, hV1.cell]; exact hj)
      (fun j hj => hB1.some _ (by rw [setL_len]; simp at hj; omega)) (fun j hj => hB1.frozen _) (by simpa using h1v)
  rw [← hW1] at hcp1
  have hw1 : IntKind.i64.wrap ((i : Int) + 1) = (i : Int) + 1 := by rw [IntKind.wrap_i64]; omega
  have hz2 : ¬ ((i : Int) = (n : Int)) := by omega
  have hb1 : (0 : Int) ≤ (i : Int) + 1 := by omega
  have hin : i ≤ n := by omega
  have htn : ((i : Int) + 1).toNat = i + 1 := by omega
  have hb2 : ¬ (c = i + 1) := by omega
  have hb3 : (i : Int) ≤ (n : Int) + 1 := by omega
  have hb4 : ¬ (c = i) := by omega
  have mixed : Tryz.prog.follows Departure.mixedOrders = true := by kernel_rfl
  have HW1 := hide hW1
  clear hB hV hB1 hV1 hcs hsp hfz hW1
  go_enter Tryz.func220, Tryz.ntmps220
  go_wp2_with (simp only [hov])
  go_region_law_o (refine step_copy_runI rfl _ _ 234 234 rfl _ _ (by simp [Act.eval, Act.put]) (by simp [Act.eval, Act.put]) (hcp1 _ _ _) ?_)
  go_wp2_with (at_builtin; refine wpList_copy_runI _ rfl _ _ 234 234 rfl _ _ rfl rfl (hcp2 _ _) ?_)
  go_ret
  exact ⟨rfl, by rw [unhide HW1]⟩

set_option maxHeartbeats 4000000 in
set_option maxRecDepth 100000 in
theorem insI_grow (g n c i vb : Nat) (cs cur : List Value) (xv : Value) (w : World) (hi : i < n) (hnc : n ≤ c) (hroom : c < n + 1) (hbig : n ≤ 1000000)
    (hcl : cs.length = n) (hB : Blk w g cur 21) (hcur : cur.length = c) (htk : cur.take n = cs) (hV : Blk w vb [xv] 21) (h1c : ∀ v ∈ cs, v.oneCell' = true) (h1v : xv.oneCell' = true) :
    Calls Tryz.prog 220 #[.slice (some ⟨g, 0, none⟩) n c, .int .i64 i, .slice (some ⟨vb, 0, none⟩) 1 1] w fun e w' =>
      ∃ (ROW : List Value) (G : Nat), ROW.length = G ∧ n + 1 ≤ G ∧ G ≤ maxLen ∧ ROW.take i = cs.take i ∧ e = .returned (.slice (some ⟨w.heap.size, 0, none⟩) (n + 1) G) ∧
      w' = (((w.alloc (.cells ROW.toArray 21)).drew.setCells w.heap.size i [xv]).drew).setCells w.heap.size (i + 1) (cs.drop i) := by
  obtain ⟨i0, hi0, hz0, hzs, hzb⟩ := info_parts Tryz.info21
  have mixed : Tryz.prog.follows Departure.mixedOrders = true := by kernel_rfl
  have hsz : (Tryz.prog.info? 21).map (·.size) = some 1 := by rw [hi0]; simp [hzs]
  have hbw := hB.lt
  have hvw := hV.lt
  have hkk : (n : Int) + 1 - (i : Int) = ((n + 1 - i : Nat) : Int) := by omega
  have hik : i + (n + 1 - i) = n + 1 := by omega
  have hcs : ∀ j v, cs[j]? = some v → w.cell? ⟨g, j, none⟩ = some v := fun j v hj => by
    rw [hB.cell]
    rw [← htk, List.getElem?_take] at hj
    split at hj
    · exact hj
    · cases hj
  have hold : (Builtin.firstCells i0.size i (.slice (some ⟨g, 0, none⟩) i c)).run Tryz.prog w.drew = .ok (cs.take i).toArray w.drew := by
    rw [hzs]
    exact run_firstCells_some w.drew 1 i ⟨g, 0, none⟩ i c (cs.take i) (by rw [List.length_take]; omega) (fun j v hj => by
      rw [Addr.add_lit, Nat.zero_add]
      rw [List.getElem?_take] at hj
      split at hj
      · exact hcs j v hj
      · cases hj)
  have hrz : ∀ ty, (Builtin.append_ #[234, 3] ty #[.slice (some ⟨g, 0, none⟩) i c, .int .i64 ((n : Int) + 1 - (i : Int))]).run Tryz.prog w =
      .ok (.slice (some ⟨w.heap.size, 0, none⟩) (n + 1) (grownCap w (n + 1) c 21)) (w.drew.alloc (.cells ((cs.take i).toArray ++ Builtin.zeroCells (Value.int .i32 0 : Value).cells (n + 1 - i) ++ Builtin.zeroCells (Value.int .i32 0 : Value).cells (grownCap w (n + 1) c 21 - (n + 1))) 21)) := fun ty => by
    have h := Lib.run_append_grow_zeros w 234 3 ty 21 i0 _ .i64 .i64 Tryz.underlying234 Tryz.underlying3 hi0 hz0 (some ⟨g, 0, none⟩) i c (cs.take i) hold (n + 1 - i) (by omega) (by omega) (by omega) (by omega) (by rw [hzb]; omega) (by rw [hzb, hik]; exact growslice_fits hroom (by omega))
    rw [hik] at h
    rw [hkk]
    exact h
  obtain ⟨G, hG⟩ : ∃ G, G = grownCap w (n + 1) c 21 := ⟨_, rfl⟩
  obtain ⟨ROW, hROW⟩ : ∃ ROW : List Value, ROW.toArray = (cs.take i).toArray ++ Builtin.zeroCells (Value.int .i32 0 : Value).cells (n + 1 - i) ++ Builtin.zeroCells (Value.int .i32 0 : Value).cells (G - (n + 1)) := ⟨_, Array.toArray_toList⟩
  rw [← hG] at hrz
  rw [← hROW] at hrz
  have hGn : n + 1 ≤ G := by rw [hG]; exact grownCap_ge w _ _ _
  have hGm : G ≤ maxLen := by rw [hG]; exact grownCap_le_maxLen w (n + 1) c 21 (by unfold maxLen; omega)
  have hRG : ROW.length = G := by
    have := congrArg Array.size hROW
    simp [Builtin.zeroCells, Value.cells] at this
    omega
  have hRT : ROW.take i = cs.take i := by
    have h := congrArg Array.toList hROW
    simp only [Array.toList_append, List.append_assoc] at h
    rw [h, List.take_append_of_le_length (by simp; omega)]
    simp [List.take_take]
  obtain ⟨N, hN⟩ : ∃ N, w.heap.size = N := ⟨_, rfl⟩
  have hW1 : Blk (w.drew.alloc (.cells ROW.toArray 21)) N ROW 21 := by rw [← hN]; exact Blk.new w.drew ROW 21
  have hVa : Blk (w.drew.alloc (.cells ROW.toArray 21)) vb [xv] 21 := hV.drew.alloc _
  have hcpA : ∀ (W : World), (∀ x, W.cell? x = (w.drew.alloc (.cells ROW.toArray 21)).cell? x) → (∀ x, W.frozen? x = (w.drew.alloc (.cells ROW.toArray 21)).frozen? x) → ∀ ty dc, (Builtin.copy_ #[234, 234] ty #[.slice (some ⟨N, i, none⟩) (n + 1 - i) dc, .slice (some ⟨vb, 0, none⟩) 1 1]).run Tryz.prog W = .ok (goInt [xv].length) (W.setCells N i [xv]) := fun W hWc hWf ty dc =>
    run_copy_cells W _ _ ty 21 N i (n + 1 - i) dc ⟨vb, 0, none⟩ 1 1 [xv] Tryz.underlying234 hsz (by simp only [Nat.min_def]; split <;> simp <;> omega)
      (fun j v hj => by rw [Addr.add_lit, Nat.zero_add, hWc, hVa.cell]; exact hj)
      (fun j hj => by rw [hWc]; exact hW1.some _ (by simp at hj; omega)) (fun j hj => by rw [hWf]; exact hW1.frozen _) (by simpa using h1v)
  have hW2 : Blk ((w.drew.alloc (.cells ROW.toArray 21)).setCells N i [xv]) N (setL ROW i [xv]) 21 := hW1.setCells _ _
  have hBa : Blk ((w.drew.alloc (.cells ROW.toArray 21)).setCells N i [xv]) g cur 21 := (hB.drew.alloc _).kept (Kept.setCells (M := [N]) (by simp) _ _ (Kept.refl _ _)) (by simp; omega)
  have hdl : (cs.drop i).length = n - i := by rw [List.length_drop, hcl]
  have hcpB : ∀ (W : World), (∀ x, W.cell? x = ((w.drew.alloc (.cells ROW.toArray 21)).setCells N i [xv]).cell? x) → (∀ x, W.frozen? x = ((w.drew.alloc (.cells ROW.toArray 21)).setCells N i [xv]).frozen? x) → ∀ ty dc sc, (Builtin.copy_ #[234, 234] ty #[.slice (some ⟨N, i + 1, none⟩) (n - i) dc, .slice (some ⟨g, i, none⟩) (n - i) sc]).run Tryz.prog W = .ok (goInt (cs.drop i).length) (W.setCells N (i + 1) (cs.drop i)) := fun W hWc hWf ty dc sc =>
    run_copy_cells W _ _ ty 21 N (i + 1) (n - i) dc ⟨g, i, none⟩ (n - i) sc (cs.drop i) Tryz.underlying234 hsz (by rw [hdl]; simp only [Nat.min_def]; split <;> omega)
      (fun j v hj => by
        rw [Addr.add_lit, hWc, hBa.cell]
        rw [List.getElem?_drop, ← htk, List.getElem?_take] at hj
        split at hj
        · exact hj
        · cases hj)
      (fun j hj => by rw [hWc]; exact hW2.some _ (by rw [setL_len]; omega))
      (fun j hj => by rw [hWf]; exact hW2.frozen _) (fun v hv => h1c v (List.mem_of_mem_drop hv))
  have hE1 : ∀ x, ((w.alloc (.cells ROW.toArray 21)).drew).cell? x = (w.drew.alloc (.cells ROW.toArray 21)).cell? x := fun x => rfl
  have hE2 : ∀ x, ((w.alloc (.cells ROW.toArray 21)).drew).frozen? x = (w.drew.alloc (.cells ROW.toArray 21)).frozen? x := fun x => rfl
  have hF1 : ∀ x, (((w.alloc (.cells ROW.toArray 21)).drew.setCells N i [xv]).drew).cell? x = ((w.drew.alloc (.cells ROW.toArray 21)).setCells N i [xv]).cell? x := fun x => rfl
  have hF2 : ∀ x, (((w.alloc (.cells ROW.toArray 21)).drew.setCells N i [xv]).drew).frozen? x = ((w.drew.alloc (.cells ROW.toArray 21)).setCells N i [xv]).frozen? x := fun x => rfl
  have hw1 : IntKind.i64.wrap ((i : Int) + 1) = (i : Int) + 1 := by rw [IntKind.wrap_i64]; omega
  have hz2 : ¬ ((i : Int) = (n : Int)) := by omega
  have hz3 : (c : Int) < (n : Int) + 1 := by omega
  have hb1 : (0 : Int) ≤ (i : Int) + 1 := by omega
  have hin : i ≤ n := by omega
  have htn : ((i : Int) + 1).toNat = i + 1 := by omega
  have hb3 : (i : Int) ≤ (n : Int) := by omega
  have hGi : ¬ (G = i) := by omega
  have hGim : ¬ (G = i + 1) := by omega
  have hci : ¬ (c = i) := by omega
  have hG63 : G ≤ 9223372036854775807 := by unfold maxLen at hGm; omega
  have HRG := hide hRG
  have HRT := hide hRT
  have HGm := hide hGm
  rw [hN] at hrz ⊢
  clear hkk hik hold hROW hG hRG hRT hGm hB hV hW1 hVa hW2 hBa hcs
  go_enter Tryz.func220, Tryz.ntmps220
  go_wp2_with (first
    | (at_builtin; refine Lib.wpList_append_run _ rfl _ _ _ _ rfl _ _ rfl rfl _ _ (hrz _) ?_)
    | (at_builtin; refine wpList_copy_runI _ rfl _ _ 234 234 rfl _ _ rfl rfl (hcpA _ hE1 hE2 _ _) ?_)
    | (at_builtin; refine wpList_copy_runI _ rfl _ _ 234 234 rfl _ _ rfl rfl (hcpB _ (fun _ => rfl) (fun _ => rfl) _ _ _) ?_))
  go_region_law_o (refine step_copy_runI rfl _ _ 234 234 rfl (.slice (some ⟨N, i + 1, none⟩) (n - i) (G - (i + 1))) (.slice (some ⟨g, i, none⟩) (n - i) (c - i)) (by simp [Act.eval, Act.put]) (by simp [Act.eval, Act.put]) (hcpB _ hF1 hF2 3 (G - (i + 1)) (c - i)) ?_)
  go_wp2
  go_ret
  exact ⟨ROW, G, unhide HRG, hGn, unhide HGm, unhide HRT, rfl, rfl⟩

theorem flatI (l : List Int) : l.flatMap runeCell = l.map (Value.int .i32) := by
  induction l with
  | nil => rfl
  | cons a l ih => rw [List.flatMap_cons, List.map_cons, ih]; rfl

theorem oneI (l : List Int) : ∀ v ∈ l.flatMap runeCell, v.oneCell' = true := by
  intro v hv
  rw [flatI] at hv
  obtain ⟨a, _, rfl⟩ := List.mem_map.1 hv
  rfl

theorem flat_insI (l : List Int) (i : Nat) (x : Int) : (insAt l i x).flatMap runeCell = (l.flatMap runeCell).take i ++ .int .i32 x :: (l.flatMap runeCell).drop i := by
  rw [flatI, flatI, insAt, List.map_append, List.map_cons, List.map_take, List.map_drop]

set_option maxRecDepth 100000 in
set_option maxHeartbeats 1600000 in
theorem insertI_any (ad : Option Addr) (cap : Nat) (l : List Int) (i : Nat) (x : Int) (base vb : Nat) (w : World) (hl : w.ownsRow base 21 1 (.slice ad l.length cap) l.length (l.flatMap runeCell)) (hlen : l.length ≤ 1000000) (hi : i ≤ l.length) (hV : Blk w vb [.int .i32 x] 21) (hne : (Value.slice ad l.length cap).ownBlock ≠ some vb) (hbase : base ≤ w.heap.size) :
    Calls Tryz.prog 220 #[.slice ad l.length cap, .int .i64 i, .slice (some ⟨vb, 0, none⟩) 1 1] w fun e w' => ∃ g cp, e = .returned (.slice (some ⟨g, 0, none⟩) (l.length + 1) cp) ∧ w'.ownsRow base 21 1 (.slice (some ⟨g, 0, none⟩) (l.length + 1) cp) (l.length + 1) ((insAt l i x).flatMap runeCell) ∧ Kept (Value.slice ad l.length cap).ownBlock.toList w w' ∧ ((Value.slice ad l.length cap).ownBlock = some g ∨ w.heap.size ≤ g) := by
  have hml : (l.flatMap runeCell).length = l.length := by rw [flatI]; simp
  by_cases hin : i = l.length
  · subst hin
    obtain ⟨i0, hi0, hz0, hz1, hz2⟩ := info_parts Tryz.info21
    have HI : Hid ((insAt l l.length x).flatMap runeCell = l.flatMap runeCell ++ [.int .i32 x]) := by
      show _ = _
      rw [flat_insI, List.take_of_length_le (by omega), List.drop_eq_nil_of_le (by omega)]
    have HV : Hid (∀ j u, [.int .i32 x][j]? = some u → w.cell? ((⟨vb, 0, none⟩ : Addr).add j) = some u) := fun j u hu => by rw [Addr.add_lit, Nat.zero_add, hV.cell]; exact hu
    have HL := hide hl
    clear hV
    cases ad with
    | none =>
      have hn0 : l.length = 0 := by
        rcases hl.2 with ⟨he, h0⟩ | ⟨g, c, cur, he, _⟩
        · exact h0
        · simp at he
      have hc0 : cap = 0 := by
        rcases hl.2 with ⟨he, h0⟩ | ⟨g, c, cur, he, _⟩
        · simp only [Value.slice.injEq] at he; exact he.2.2
        · simp at he
      subst hc0
      have hl0 : l = [] := List.length_eq_zero_iff.1 hn0
      subst hl0
      clear hl hn0
      simp only [List.length_nil] at HL ⊢
      go_enter Tryz.func220, Tryz.ntmps220
      go_wp2_with (at_builtin; refine wpList_append_lies _ rfl _ _ _ rfl base 21 i0 _ 1 4 Tryz.underlying234 hi0 hz0 hz1 hz2 rfl (by omega) (.slice none 0 0) 0 [] rfl (unhide HL) ⟨vb, 0, none⟩ 1 1 [.int .i32 x] rfl rfl (unhide HV) (by simp [Value.oneCell']) (by omega) (by unfold maxLen; omega) (by omega) hbase _ rfl ?_; intro g1 cp1 w9 ho1 hg1 ha1 hl1)
      go_ret
      refine ⟨g1, cp1, rfl, ho1, (Kept.refl _ w).grown hg1 (fun k hk => Or.inl (by rw [Option.mem_toList]; exact hk)), ?_⟩
      rcases ha1 with h | h
      · exact Or.inl h
      · exact Or.inr (by omega)
    | some a =>
      obtain ⟨ab, ao, asp⟩ := a
      have hao : ao = 0 ∧ asp = none := by
        rcases hl.2 with ⟨he, h0⟩ | ⟨g, c, cur, he, _⟩
        · simp at he
        · simp only [Value.slice.injEq, Option.some.injEq, Addr.mk.injEq] at he; exact he.1.2
      obtain ⟨rfl, rfl⟩ := hao
      have hcap : l.length ≤ cap ∧ cap ≤ maxLen := by
        rcases hl.2 with ⟨he, h0⟩ | ⟨g, c, cur, he, _, _, h1, h2, _⟩
        · simp at he
        · simp only [Value.slice.injEq] at he; rw [he.2.2]; exact ⟨h1, h2⟩
      obtain ⟨hc1, hc2⟩ := hcap
      unfold maxLen at hc2
      clear hl
      go_enter Tryz.func220, Tryz.ntmps220
      go_wp2_with (at_builtin; refine wpList_append_lies _ rfl _ _ _ rfl base 21 i0 _ 1 4 Tryz.underlying234 hi0 hz0 hz1 hz2 rfl (by omega) (.slice (some ⟨ab, 0, none⟩) l.length cap) l.length (l.flatMap runeCell) rfl (unhide HL) ⟨vb, 0, none⟩ 1 1 [.int .i32 x] rfl rfl (unhide HV) (by simp [Value.oneCell']) (by omega) (by unfold maxLen; omega) (by omega) hbase _ rfl ?_; intro g1 cp1 w9 ho1 hg1 ha1 hl1)
      all_goals
        go_ret
        rw [unhide HI]
        refine ⟨g1, cp1, rfl, ho1, (Kept.refl _ w).grown hg1 (fun k hk => Or.inl (by rw [Option.mem_toList]; exact hk)), ?_⟩
        rcases ha1 with h | h
        · exact Or.inl h
        · exact Or.inr (by omega)
  · have hil : i < l.length := by omega
    rcases hl.2 with ⟨he, h0⟩ | ⟨g, c, cur, he, hb, hblk, hc1, hc2, hcs, htk⟩
    · omega
    · simp only [Value.slice.injEq] at he
      obtain ⟨rfl, _, rfl⟩ := he
      have hvb : vb ≠ g := fun e => hne (by simp [Value.ownBlock, e])
      have hB : Blk w g cur.toList 21 := by unfold Blk; simpa using hblk
      have hcur : cur.toList.length = cap := by simpa using hcs
      have htk' : cur.toList.take l.length = l.flatMap runeCell := by simpa using htk
      by_cases hroom : l.length + 1 ≤ cap
      · refine (insI_shift g l.length cap i vb (l.flatMap runeCell) cur.toList (.int .i32 x) w hil hroom (by unfold maxLen at hc2; omega) hvb hml hB hcur htk' hV (oneI l) rfl).mono ?_
        rintro e w' ⟨rfl, rfl⟩
        have hfin := (hB.drew.setCells ((l.flatMap runeCell).drop i) (i + 1)).setCells [.int .i32 x] i
        refine ⟨g, cap, rfl, ⟨?_, Or.inr ⟨g, cap, _, rfl, hb, hfin, hroom, hc2, ?_, ?_⟩⟩, ?_, Or.inl rfl⟩
        · rw [flatI, List.length_map, insAt_len hi]; simp
        · simp only [List.size_toArray, setL_len]; omega
        · rw [flat_insI]
          simp only [Nat.mul_one]
          exact ins_list htk' hml hi (by omega) _
        · exact Kept.setCells (by simp [Value.ownBlock]) _ _ (Kept.setCells (by simp [Value.ownBlock]) _ _ (Kept.refl _ w).drew)
      · refine (insI_grow g l.length cap i vb (l.flatMap runeCell) cur.toList (.int .i32 x) w hil hc1 (by omega) hlen hml hB hcur htk' hV (oneI l) rfl).mono ?_
        rintro e w' ⟨ROW, G, hG1, hG2, hG3, hRT, rfl, rfl⟩
        have hfin := ((Blk.new w ROW 21).drew.setCells [.int .i32 x] i).drew.setCells ((l.flatMap runeCell).drop i) (i + 1)
        have hd : ((l.flatMap runeCell).drop i).length = l.length - i := by rw [List.length_drop, hml]
        refine ⟨w.heap.size, G, rfl, ⟨?_, Or.inr ⟨w.heap.size, G, _, rfl, hbase, hfin, hG2, hG3, ?_, ?_⟩⟩, ?_, Or.inr (Nat.le_refl _)⟩
        · rw [flatI, List.length_map, insAt_len hi]; simp
        · simp only [List.size_toArray, setL_len]; omega
        · rw [flat_insI]
          simp only [Nat.mul_one]
          rw [setL_eq _ _ _ (by rw [setL_len, hd]; omega), setL_eq _ _ _ (by simp; omega), hRT]
          have e1 : (List.take i (l.flatMap runeCell) ++ [Value.int .i32 x] ++ List.drop (i + [Value.int .i32 x].length) ROW).take (i + 1) = List.take i (l.flatMap runeCell) ++ [Value.int .i32 x] := by
            rw [List.take_append_of_le_length (by simp only [List.length_append, List.length_take, List.length_cons, List.length_nil, List.length_drop, hml]; omega), List.take_of_length_le (by simp only [List.length_append, List.length_take, List.length_cons, List.length_nil, List.length_drop, hml]; omega)]
          rw [e1, List.take_append_of_le_length (by simp only [List.length_append, List.length_take, List.length_cons, List.length_nil, List.length_drop, hml]; omega), List.take_of_length_le (by simp only [List.length_append, List.length_take, List.length_cons, List.length_nil, List.length_drop, hml]; omega)]
          simp
        · exact Kept.setCells (Or.inr (Nat.le_refl _)) _ _ (Kept.setCells (Or.inr (Nat.le_refl _)) _ _ ((Kept.refl _ w).alloc _).drew).drew

def inBI (l : List Int) (x : Int) : Bool := l.any fun y => eqI y x

theorem inBI_iff (l : List Int) (x : Int) : inBI l x = true ↔ x ∈ l := by
  unfold inBI
  rw [List.any_eq_true]
  constructor
  · rintro ⟨y, hy, h⟩
    rw [← (ordI.eqv y x).1 h]
    exact hy
  · intro h
    exact ⟨x, h, (ordI.eqv x x).2 rfl⟩

theorem LeapIs.inI {l : List Int} (hr : Rise ltI l) {x : Int} {at_ : Nat} (h : LeapIs ltI l 0 x at_) : hasAt eqI l at_ x = inBI l x := by
  rw [Bool.eq_iff_iff, h.has ordI hr, inBI_iff]

set_option maxRecDepth 100000 in
set_option maxHeartbeats 800000 in
theorem rhasI_any (ad : Option Addr) (cap : Nat) (l : List Int) (x : Int) (base : Nat) (w : World) (hl : w.ownsRow base 21 1 (.slice ad l.length cap) l.length (l.flatMap runeCell)) (hlen : l.length ≤ 1000000) (hr : Rise ltI l) :
    Calls Tryz.prog 201 #[.slice ad l.length cap, .int .i32 x] w fun e w' => e = .returned (.bool (inBI l x)) ∧ w' = w := by
  have HL := hide (leapI_any (.slice ad l.length cap) l 0 x base w hl hlen (Nat.zero_le _) hr)
  have HR := hide hr
  have HO := hide hl
  clear hl hr
  go_enter Tryz.func201, Tryz.ntmps201
  go_wp2_with fail
  refine (unhide HL).mono ?_
  rintro e w' ⟨at_, rfl, hat, rfl⟩
  have HI := hide (hat.inI (unhide HR))
  have hle := hat.le
  clear HL hat
  by_cases hlt : at_ < l.length
  · obtain ⟨g, cap', he, hc, hcell⟩ := row_get (unhide HO) (by simp [runeCell]) at_ hlt
    simp only [Value.slice.injEq] at he
    obtain ⟨rfl, _, rfl⟩ := he
    have hc0 := hcell at_ hlt 0 (by omega)
    simp [runeCell] at hc0
    clear hcell
    have HF : Hid (inBI l x = eqI l[at_] x) := by show _ = _; rw [← unhide HI]; unfold hasAt; rw [dif_pos hlt]
    go_wp2
    go_ret
    rw [HF.out]
    exact ⟨rfl, rfl⟩
  · have HF : Hid (inBI l x = false) := by show _ = _; rw [← unhide HI]; unfold hasAt; rw [dif_neg hlt]
    go_wp2
    go_ret
    rw [HF.out]
    exact ⟨rfl, rfl⟩

/-- What a call of Add comes to. -/
def AddIOut (base : Nat) (lv : Value) (l : List Int) (x : Int) (w : World) (e : Ending) (w' : World) : Prop :=
  ∃ (l' : List Int) (ad' : Option Addr) (cp' : Nat), e = .returned (.slice ad' l'.length cp') ∧ Rise ltI l' ∧ (∀ y, y ∈ l' ↔ y = x ∨ y ∈ l) ∧ l.length ≤ l'.length ∧ l'.length ≤ l.length + 1 ∧
    w'.ownsRow base 21 1 (.slice ad' l'.length cp') l'.length (l'.flatMap runeCell) ∧ Kept lv.ownBlock.toList w w' ∧ (∀ k, (Value.slice ad' l'.length cp').ownBlock = some k → lv.ownBlock = some k ∨ w.heap.size ≤ k)

set_option maxRecDepth 100000 in
set_option maxHeartbeats 800000 in
theorem addI_any (ad : Option Addr) (cap : Nat) (l : List Int) (x : Int) (base : Nat) (w : World) (hl : w.ownsRow base 21 1 (.slice ad l.length cap) l.length (l.flatMap runeCell)) (hlen : l.length ≤ 1000000) (hr : Rise ltI l) (hbase : base ≤ w.heap.size) :
    Calls Tryz.prog 202 #[.slice ad l.length cap, .int .i32 x] w fun e w' => AddIOut base (.slice ad l.length cap) l x w e w' := by
  have HL := hide (leapI_any (.slice ad l.length cap) l 0 x base w hl hlen (Nat.zero_le _) hr)
  have HR := hide hr
  have HO := hide hl
  clear hl hr
  go_enter Tryz.func202, Tryz.ntmps202
  go_wp2_with fail
  refine (unhide HL).mono ?_
  rintro e w' ⟨at_, rfl, hat, rfl⟩
  have HI := hide (hat.has ordI (unhide HR))
  have HA := hide hat
  have hle := hat.le
  clear HL hat
  have HIns : Hid (hasAt eqI l at_ x = false → Calls Tryz.prog 220 #[.slice ad l.length cap, .int .i64 at_, .slice (some ⟨w'.heap.size, 0, none⟩) 1 1] (w'.alloc (.cells #[.int .i32 x] 21)) fun e w2 => AddIOut base (.slice ad l.length cap) l x w' e w2) := by
    intro hno
    have hn : Blk (w'.alloc (.cells [.int .i32 x].toArray 21)) w'.heap.size [.int .i32 x] 21 := Blk.new w' [.int .i32 x] 21
    refine (insertI_any ad cap l at_ x base w'.heap.size _ (World.ownsRow.alloc (unhide HO) _) hlen hle hn (fun e => by have := ((unhide HO).lt _ e).2; omega) (by simp; omega)).mono ?_
    rintro e w2 ⟨g, cp, rfl, ho, hk, ha⟩
    have hlen' := insAt_len (x := x) hle
    refine ⟨insAt l at_ x, some ⟨g, 0, none⟩, cp, by rw [hlen'], (unhide HA).rise ordI (unhide HR) hno, fun y => insAt_mem x y, by omega, by omega, by rw [hlen']; exact ho, ((Kept.refl _ w').alloc _).trans hk, ?_⟩
    intro k hk2
    simp only [Value.ownBlock, Option.some.injEq] at hk2
    subst hk2
    rcases ha with h | h
    · exact Or.inl h
    · exact Or.inr (by simp at h; omega)
  have HSame : Hid (hasAt eqI l at_ x = true → AddIOut base (.slice ad l.length cap) l x w' (.returned (.slice ad l.length cap)) w') := by
    intro hyes
    have hx := (unhide HI).1 hyes
    exact ⟨l, ad, cap, rfl, unhide HR, fun y => ⟨Or.inr, fun h => by rcases h with rfl | h; exact hx; exact h⟩, by omega, by omega, unhide HO, Kept.refl _ _, fun k hk => Or.inl hk⟩
  by_cases hlt : at_ < l.length
  · obtain ⟨g, cap', he, hc, hcell⟩ := row_get (unhide HO) (by simp [runeCell]) at_ hlt
    simp only [Value.slice.injEq] at he
    obtain ⟨rfl, _, rfl⟩ := he
    have hc0 := hcell at_ hlt 0 (by omega)
    simp [runeCell] at hc0
    clear hcell
    have HF : Hid (hasAt eqI l at_ x = eqI l[at_] x) := by show _ = _; unfold hasAt; rw [dif_pos hlt]
    have HAt := hide hlt
    cases hq : eqI l[at_] x with
    | true =>
      have HS := hide (unhide HSame (by rw [HF.out]; exact hq))
      simp only [eqI] at hq
      clear HF HI HA HIns HSame
      go_wp2
      go_ret
      exact unhide HS
    | false =>
      have HS := hide (unhide HIns (by rw [HF.out]; exact hq))
      simp only [eqI] at hq
      clear HF HI HA HIns HSame
      go_wp2_with fail
      refine (unhide HS).mono ?_
      intro e w2 hout
      obtain ⟨l', ad', cp', rfl, rest⟩ := hout
      have HRest := hide rest
      clear rest
      go_wp2
      go_ret
      exact ⟨l', ad', cp', rfl, unhide HRest⟩
  · have HS := hide (unhide HIns (by unfold hasAt; rw [dif_neg hlt]))
    clear HI HA HIns HSame
    go_wp2_with fail
    refine (unhide HS).mono ?_
    intro e w2 hout
    obtain ⟨l', ad', cp', rfl, rest⟩ := hout
    have HRest := hide rest
    clear rest
    go_wp2
    go_ret
    exact ⟨l', ad', cp', rfl, unhide HRest⟩

end Go.Proofs.YtoihbhenbmffcaaGreatDoor
