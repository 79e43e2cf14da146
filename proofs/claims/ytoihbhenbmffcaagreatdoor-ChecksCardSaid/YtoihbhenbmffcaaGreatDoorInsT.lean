import Derived.Test.YtoihbhenbmffcaaGreatDoorInsS
set_option linter.unusedVariables false
set_option linter.unusedSimpArgs false

namespace Go.Proofs.YtoihbhenbmffcaaGreatDoor
open Go.RowKit

theorem Tryz.info170 : (Tryz.prog.info? 170).map (fun i => (i.zero, i.size, i.bytes)) = some (some (.string ⟨#[]⟩), 1, 16) := by kernel_rfl

set_option maxHeartbeats 800000 in
theorem leapT_any (lv : Value) (l : List ByteArray) (k : Nat) (x : ByteArray) (base : Nat) (w : World) (hl : w.ownsRow base 170 1 lv l.length (l.flatMap strCell)) (hlen : l.length ≤ 1000000) (hk : k ≤ l.length) (hr : Rise ltS l) :
    Calls Tryz.prog 149 #[lv, .int .i64 k, .string x] w fun e w' => ∃ at_ : Nat, e = .returned (.int .i64 at_) ∧ LeapIs ltS l k x at_ ∧ w' = w := by
  obtain ⟨ad, cap, rfl⟩ := row_nil hl
  have HRs := hide hr
  have HCell : Hid (∀ i (h : i < l.length), ∃ g, ad = some ⟨g, 0, none⟩ ∧ l.length ≤ cap ∧ w.cell? ⟨g, i, none⟩ = some (.string l[i])) := by
    intro i hi
    obtain ⟨g, cap', he, hc, hcell⟩ := row_get hl (by simp [strCell]) i hi
    simp only [Value.slice.injEq] at he
    obtain ⟨rfl, _, rfl⟩ := he
    have hc0 := hcell i hi 0 (by omega)
    simp [strCell] at hc0
    exact ⟨g, rfl, hc, hc0⟩
  clear hr
  go_enter Tryz.func149, Tryz.ntmps149
  go_wp2
  go_loop [7, 8] (fun a s => ∃ (lo st : Nat), a = .int .i64 lo ∧ s = .int .i64 st ∧ k ≤ lo ∧ lo ≤ l.length ∧ 1 ≤ st ∧ st ≤ 2 * l.length + 1 ∧ Hid (∀ i (h : i < l.length), k ≤ i → i < lo → ltS l[i] x = true)) (fun a s => l.length - (intOf a).toNat)
  case atStart => exact ⟨k, 1, by go_num, rfl, Nat.le_refl _, hk, Nat.le_refl _, by omega, fun i h h1 h2 => by omega⟩
  case round =>
    obtain ⟨lo, st, rfl, rfl, hlo1, hlo2, hst1, hst2, HB⟩ := hrel
    by_cases hin : lo + st ≤ l.length
    · obtain ⟨g, hge, hcap, hc⟩ := (unhide HCell) (lo + st - 1) (by omega)
      have hix : ((lo + st - 1 : Nat) : Int) = (lo : Int) + (st : Int) - 1 := by omega
      have hix2 : ((lo : Int) + (st : Int) - 1).toNat = lo + st - 1 := by omega
      subst hge
      have HDown : Hid (ltS l[lo + st - 1] x = true → ∀ i (h : i < l.length), k ≤ i → i < lo + st → ltS l[i] x = true) := by
        intro hh i h h1 h2
        exact (unhide HRs).down ordS (by omega) (by omega) hh
      have HUp : Hid (ltS l[lo + st - 1] x = false → ∀ i (h : i < l.length), lo + st - 1 ≤ i → ltS l[i] x = false) := by
        intro hh i h h1
        exact (unhide HRs).up ordS h h1 hh
      go_wp2
      · refine ⟨⟨lo + st, st * 2, by go_num, by go_num, by omega, by omega, by omega, by omega, (unhide HDown) (by first | assumption | (simp [ltS]; omega))⟩, ?_⟩
        simp [intOf]
        omega
      ·
        have HU0 : Hid (∀ i (h : i < l.length), (lo + st - 1) ≤ i → ltS l[i] x = false) := (unhide HUp) (by first | assumption | (simp [ltS]; omega))
        go_loop [7, 9, 10] (fun a h m => ∃ (lo2 hi2 : Nat), a = .int .i64 lo2 ∧ h = .int .i64 hi2 ∧ k ≤ lo2 ∧ lo2 ≤ hi2 ∧ hi2 ≤ l.length ∧ Hid (∀ i (h : i < l.length), k ≤ i → i < lo2 → ltS l[i] x = true) ∧ Hid (∀ i (h : i < l.length), hi2 ≤ i → ltS l[i] x = false)) (fun a h m => (intOf h).toNat - (intOf a).toNat)
        case atStart => exact ⟨lo, (lo + st - 1), rfl, by go_num, hlo1, by omega, by omega, HB, HU0⟩
        case round =>
          clear HB HU0
          obtain ⟨lo2, hi2, rfl, rfl, h1, h2, h3, HB, HU⟩ := hrel
          by_cases hlt : lo2 < hi2
          · obtain ⟨mid, hmid⟩ : ∃ mid, lo2 + (hi2 - lo2) / 2 = mid := ⟨_, rfl⟩
            have hm1 : lo2 ≤ mid := by omega
            have hm2 : mid < hi2 := by omega
            have hmi : (lo2 : Int) + ((hi2 : Int) - (lo2 : Int)) / 2 = (mid : Int) := by omega
            have hmt : (lo2 : Int) + ((hi2 : Int) - (lo2 : Int)).tdiv 2 = (mid : Int) := by rw [Int.tdiv_eq_ediv_of_nonneg (by omega)]; exact hmi
            obtain ⟨g9, hge9, hcap9, hc9⟩ := (unhide HCell) mid (by omega)
            have HDown9 : Hid (ltS l[mid] x = true → ∀ i (h : i < l.length), k ≤ i → i < mid + 1 → ltS l[i] x = true) := by
              intro hh i h h1 h2
              exact (unhide HRs).down ordS (by omega) (by omega) hh
            have HUp9 : Hid (ltS l[mid] x = false → ∀ i (h : i < l.length), mid ≤ i → ltS l[i] x = false) := by
              intro hh i h h1
              exact (unhide HRs).up ordS h h1 hh
            simp only [Option.some.injEq, Addr.mk.injEq, and_true] at hge9; subst hge9
            go_wp2
            · refine ⟨⟨mid + 1, hi2, by go_num, rfl, by omega, by omega, h3, (unhide HDown9) (by first | assumption | (simp [ltS]; omega)), HU⟩, ?_⟩
              simp [intOf]
              omega
            · refine ⟨⟨lo2, mid, rfl, by go_num, h1, by omega, by omega, HB, (unhide HUp9) (by first | assumption | (simp [ltS]; omega))⟩, ?_⟩
              simp [intOf]
              omega
          · have HE : Hid (LeapIs ltS l k x lo2) := ⟨h1, by omega, unhide HB, fun i h hh => (unhide HU) i h (by omega)⟩
            go_wp2
            go_ret
            exact ⟨lo2, rfl, unhide HE, rfl⟩
    · go_wp2
      ·
        have HU0 : Hid (∀ i (h : i < l.length), l.length ≤ i → ltS l[i] x = false) := fun i h hh => by omega
        go_loop [7, 9, 10] (fun a h m => ∃ (lo2 hi2 : Nat), a = .int .i64 lo2 ∧ h = .int .i64 hi2 ∧ k ≤ lo2 ∧ lo2 ≤ hi2 ∧ hi2 ≤ l.length ∧ Hid (∀ i (h : i < l.length), k ≤ i → i < lo2 → ltS l[i] x = true) ∧ Hid (∀ i (h : i < l.length), hi2 ≤ i → ltS l[i] x = false)) (fun a h m => (intOf h).toNat - (intOf a).toNat)
        case atStart => exact ⟨lo, l.length, rfl, by go_num, hlo1, by omega, by omega, HB, HU0⟩
        case round =>
          clear HB HU0
          obtain ⟨lo2, hi2, rfl, rfl, h1, h2, h3, HB, HU⟩ := hrel
          by_cases hlt : lo2 < hi2
          · obtain ⟨mid, hmid⟩ : ∃ mid, lo2 + (hi2 - lo2) / 2 = mid := ⟨_, rfl⟩
            have hm1 : lo2 ≤ mid := by omega
            have hm2 : mid < hi2 := by omega
            have hmi : (lo2 : Int) + ((hi2 : Int) - (lo2 : Int)) / 2 = (mid : Int) := by omega
            have hmt : (lo2 : Int) + ((hi2 : Int) - (lo2 : Int)).tdiv 2 = (mid : Int) := by rw [Int.tdiv_eq_ediv_of_nonneg (by omega)]; exact hmi
            obtain ⟨g9, hge9, hcap9, hc9⟩ := (unhide HCell) mid (by omega)
            have HDown9 : Hid (ltS l[mid] x = true → ∀ i (h : i < l.length), k ≤ i → i < mid + 1 → ltS l[i] x = true) := by
              intro hh i h h1 h2
              exact (unhide HRs).down ordS (by omega) (by omega) hh
            have HUp9 : Hid (ltS l[mid] x = false → ∀ i (h : i < l.length), mid ≤ i → ltS l[i] x = false) := by
              intro hh i h h1
              exact (unhide HRs).up ordS h h1 hh
            subst hge9
            go_wp2
            · refine ⟨⟨mid + 1, hi2, by go_num, rfl, by omega, by omega, h3, (unhide HDown9) (by first | assumption | (simp [ltS]; omega)), HU⟩, ?_⟩
              simp [intOf]
              omega
            · refine ⟨⟨lo2, mid, rfl, by go_num, h1, by omega, by omega, HB, (unhide HUp9) (by first | assumption | (simp [ltS]; omega))⟩, ?_⟩
              simp [intOf]
              omega
          · have HE : Hid (LeapIs ltS l k x lo2) := ⟨h1, by omega, unhide HB, fun i h hh => (unhide HU) i h (by omega)⟩
            go_wp2
            go_ret
            exact ⟨lo2, rfl, unhide HE, rfl⟩
      all_goals
        have HU0 : Hid (∀ i (h : i < l.length), (lo + st - 1) ≤ i → ltS l[i] x = false) := fun i h hh => by omega
        go_loop [7, 9, 10] (fun a h m => ∃ (lo2 hi2 : Nat), a = .int .i64 lo2 ∧ h = .int .i64 hi2 ∧ k ≤ lo2 ∧ lo2 ≤ hi2 ∧ hi2 ≤ l.length ∧ Hid (∀ i (h : i < l.length), k ≤ i → i < lo2 → ltS l[i] x = true) ∧ Hid (∀ i (h : i < l.length), hi2 ≤ i → ltS l[i] x = false)) (fun a h m => (intOf h).toNat - (intOf a).toNat)
        case atStart => exact ⟨lo, (lo + st - 1), rfl, by go_num, hlo1, by omega, by omega, HB, HU0⟩
        case round =>
          clear HB HU0
          obtain ⟨lo2, hi2, rfl, rfl, h1, h2, h3, HB, HU⟩ := hrel
          by_cases hlt : lo2 < hi2
          · obtain ⟨mid, hmid⟩ : ∃ mid, lo2 + (hi2 - lo2) / 2 = mid := ⟨_, rfl⟩
            have hm1 : lo2 ≤ mid := by omega
            have hm2 : mid < hi2 := by omega
            have hmi : (lo2 : Int) + ((hi2 : Int) - (lo2 : Int)) / 2 = (mid : Int) := by omega
            have hmt : (lo2 : Int) + ((hi2 : Int) - (lo2 : Int)).tdiv 2 = (mid : Int) := by rw [Int.tdiv_eq_ediv_of_nonneg (by omega)]; exact hmi
            obtain ⟨g9, hge9, hcap9, hc9⟩ := (unhide HCell) mid (by omega)
            have HDown9 : Hid (ltS l[mid] x = true → ∀ i (h : i < l.length), k ≤ i → i < mid + 1 → ltS l[i] x = true) := by
              intro hh i h h1 h2
              exact (unhide HRs).down ordS (by omega) (by omega) hh
            have HUp9 : Hid (ltS l[mid] x = false → ∀ i (h : i < l.length), mid ≤ i → ltS l[i] x = false) := by
              intro hh i h h1
              exact (unhide HRs).up ordS h h1 hh
            subst hge9
            go_wp2
            · refine ⟨⟨mid + 1, hi2, by go_num, rfl, by omega, by omega, h3, (unhide HDown9) (by first | assumption | (simp [ltS]; omega)), HU⟩, ?_⟩
              simp [intOf]
              omega
            · refine ⟨⟨lo2, mid, rfl, by go_num, h1, by omega, by omega, HB, (unhide HUp9) (by first | assumption | (simp [ltS]; omega))⟩, ?_⟩
              simp [intOf]
              omega
          · have HE : Hid (LeapIs ltS l k x lo2) := ⟨h1, by omega, unhide HB, fun i h hh => (unhide HU) i h (by omega)⟩
            go_wp2
            go_ret
            exact ⟨lo2, rfl, unhide HE, rfl⟩



set_option maxHeartbeats 4000000 in
set_option maxRecDepth 100000 in
theorem insT_shift (g n c i vb : Nat) (cs cur : List Value) (xv : Value) (w : World) (hi : i < n) (hroom : n + 1 ≤ c) (hc63 : c ≤ 9223372036854775807) (hvb : vb ≠ g)
    (hcl : cs.length = n) (hB : Blk w g cur 170) (hcur : cur.length = c) (htk : cur.take n = cs) (hV : Blk w vb [xv] 170) (h1c : ∀ v ∈ cs, v.oneCell' = true) (h1v : xv.oneCell' = true) :
    Calls Tryz.prog 214 #[.slice (some ⟨g, 0, none⟩) n c, .int .i64 i, .slice (some ⟨vb, 0, none⟩) 1 1] w fun e w' =>
      e = .returned (.slice (some ⟨g, 0, none⟩) (n + 1) c) ∧ w' = (w.drew.setCells g (i + 1) (cs.drop i)).setCells g i [xv] := by
  obtain ⟨i0, hi0, hz0, hzs, hzb⟩ := info_parts Tryz.info170
  have hsz : (Tryz.prog.info? 170).map (·.size) = some 1 := by rw [hi0]; simp [hzs]
  have hzo : ∀ w, (Go.sizeOf 170).run Tryz.prog w = .ok 1 w := fun w => by simp [sizeOf, typeInfo, hi0, hzs]
  have hsp : ∀ j, j < n + 1 → (w.cell? ⟨g, j, none⟩).isSome = true := fun j hj => hB.some j (by omega)
  have hfz : ∀ j, w.frozen? ⟨g, j, none⟩ = false := fun j => hB.frozen j
  have hcs : ∀ j v, cs[j]? = some v → w.cell? ⟨g, j, none⟩ = some v := fun j v hj => by
    rw [hB.cell]
    rw [← htk, List.getElem?_take] at hj
    split at hj
    · exact hj
    · cases hj
  have hov : ∀ lb cb, (callFunc 229 #[.slice (some ⟨vb, 0, none⟩) 1 1, .slice (some ⟨g, i + 1, none⟩) lb cb]).run Tryz.prog w = .ok (.value (.bool false)) w := fun lb cb => by
    rw [run_callFunc_extern Tryz.func229 (by kernel_rfl) (by kernel_rfl) (by kernel_rfl) (e := Extern.SlicesOverlaps.overlaps #[102, 102] #[4]) (by kernel_rfl),
      Lib.run_overlaps_apart w 102 4 170 Tryz.underlying102 1 hzo ⟨vb, 0, none⟩ ⟨g, i + 1, none⟩ 1 1 lb cb hvb 170 170 1 c (by simpa using hV.shape) (by rw [← hcur]; exact hB.shape) (by omega) (hV.frozen 0) (hV.frozen 1)]
    rfl
  have hdl : (cs.drop i).length = n - i := by rw [List.length_drop, hcl]
  have hcp1 : ∀ ty dc sc, (Builtin.copy_ #[102, 102] ty #[.slice (some ⟨g, i + 1, none⟩) (n - i) dc, .slice (some ⟨g, i, none⟩) (n + 1 - i) sc]).run Tryz.prog w.drew = .ok (goInt (cs.drop i).length) (w.drew.setCells g (i + 1) (cs.drop i)) := fun ty dc sc =>
    run_copy_cells w.drew _ _ ty 170 g (i + 1) (n - i) dc ⟨g, i, none⟩ (n + 1 - i) sc (cs.drop i) Tryz.underlying102 hsz (by rw [hdl]; simp only [Nat.min_def]; split <;> omega)
      (fun j v hj => by rw [Addr.add_lit]; exact hcs (i + j) v (by rwa [List.getElem?_drop] at hj))
      (fun j hj => hsp _ (by omega)) (fun j hj => hfz _) (fun v hv => h1c v (List.mem_of_mem_drop hv))
  obtain ⟨W1, hW1⟩ : ∃ W1, W1 = w.drew.setCells g (i + 1) (cs.drop i) := ⟨_, rfl⟩
  have hB1 : Blk W1 g (setL cur (i + 1) (cs.drop i)) 170 := by rw [hW1]; exact hB.drew.setCells _ _
  have hV1 : Blk W1 vb [xv] 170 := by rw [hW1]; exact hV.drew.kept (Kept.setCells (M := [g]) (by simp) _ _ (Kept.refl _ _)) (by simpa using hvb)
  have hcp2 : ∀ ty dc, (Builtin.copy_ #[102, 102] ty #[.slice (some ⟨g, i, none⟩) (n + 1 - i) dc, .slice (some ⟨vb, 0, none⟩) 1 1]).run Tryz.prog W1 = .ok (goInt [xv].length) (W1.setCells g i [xv]) := fun ty dc =>
    run_copy_cells W1 _ _ ty 170 g i (n + 1 - i) dc ⟨vb, 0, none⟩ 1 1 [xv] Tryz.underlying102 hsz (by simp only [Nat.min_def]; split <;> simp <;> omega)
      (fun j v hj => by rw [Addr.add_lit, Nat.zero_add, hV1.cell]; exact hj)
      (fun j hj => hB1.some _ (by rw [setL_len]; simp at hj; omega)) (fun j hj => hB1.frozen _) (by simpa using h1v)
  rw [← hW1] at hcp1
  have hw1 : IntKind.i64.wrap ((i : Int) + 1) = (i : Int) + 1 := by rw [IntKind.wrap_i64]; omega
  have hz2 : ¬ ((i : Int) = (n : Int)) := by omega
  have hb1 : (0 : Int) ≤ (i : Int) + 1 := by omega
  have hin : i ≤ n := by omega
  have htn : ((i : Int) + 1).toNat = i + 1 := by omega
  have hb2 : ¬ (c = i + 1) := by omega
  have hb3 : (i : Int) ≤ (n : Int) + 1 := by omega
  have hb4 : ¬ (c = i) := by omega
  have mixed : Tryz.prog.follows Departure.mixedOrders = true := by kernel_rfl
  have HW1 := hide hW1
  clear hB hV hB1 hV1 hcs hsp hfz hW1
  go_enter Tryz.func214, Tryz.ntmps214
  go_wp2_with (simp only [hov])
  go_region_law_o (refine step_copy_runI rfl _ _ 102 102 rfl _ _ (by simp [Act.eval, Act.put]) (by simp [Act.eval, Act.put]) (hcp1 _ _ _) ?_)
  go_wp2_with (at_builtin; refine wpList_copy_runI _ rfl _ _ 102 102 rfl _ _ rfl rfl (hcp2 _ _) ?_)
  go_ret
  exact ⟨rfl, by rw [unhide HW1]⟩

set_option maxHeartbeats 4000000 in
set_option maxRecDepth 100000 in
theorem insT_grow (g n c i vb : Nat) (cs cur : List Value) (xv : Value) (w : World) (hi : i < n) (hnc : n ≤ c) (hroom : c < n + 1) (hbig : n ≤ 1000000)
    (hcl : cs.length = n) (hB : Blk w g cur 170) (hcur : cur.length = c) (htk : cur.take n = cs) (hV : Blk w vb [xv] 170) (h1c : ∀ v ∈ cs, v.oneCell' = true) (h1v : xv.oneCell' = true) :
    Calls Tryz.prog 214 #[.slice (some ⟨g, 0, none⟩) n c, .int .i64 i, .slice (some ⟨vb, 0, none⟩) 1 1] w fun e w' =>
      ∃ (ROW : List Value) (G : Nat), ROW.length = G ∧ n + 1 ≤ G ∧ G ≤ maxLen ∧ ROW.take i = cs.take i ∧ e = .returned (.slice (some ⟨w.heap.size, 0, none⟩) (n + 1) G) ∧
      w' = (((w.alloc (.cells ROW.toArray 170)).drew.setCells w.heap.size i [xv]).drew).setCells w.heap.size (i + 1) (cs.drop i) := by
  obtain ⟨i0, hi0, hz0, hzs, hzb⟩ := info_parts Tryz.info170
  have mixed : Tryz.prog.follows Departure.mixedOrders = true := by kernel_rfl
  have hsz : (Tryz.prog.info? 170).map (·.size) = some 1 := by rw [hi0]; simp [hzs]
  have hbw := hB.lt
  have hvw := hV.lt
  have hkk : (n : Int) + 1 - (i : Int) = ((n + 1 - i : Nat) : Int) := by omega
  have hik : i + (n + 1 - i) = n + 1 := by omega
  have hcs : ∀ j v, cs[j]? = some v → w.cell? ⟨g, j, none⟩ = some v := fun j v hj => by
    rw [hB.cell]
    rw [← htk, List.getElem?_take] at hj
    split at hj
    · exact hj
    · cases hj
  have hold : (Builtin.firstCells i0.size i (.slice (some ⟨g, 0, none⟩) i c)).run Tryz.prog w.drew = .ok (cs.take i).toArray w.drew := by
    rw [hzs]
    exact run_firstCells_some w.drew 1 i ⟨g, 0, none⟩ i c (cs.take i) (by rw [List.length_take]; omega) (fun j v hj => by
      rw [Addr.add_lit, Nat.zero_add]
      rw [List.getElem?_take] at hj
      split at hj
      · exact hcs j v hj
      · cases hj)
  have hrz : ∀ ty, (Builtin.append_ #[102, 3] ty #[.slice (some ⟨g, 0, none⟩) i c, .int .i64 ((n : Int) + 1 - (i : Int))]).run Tryz.prog w =
      .ok (.slice (some ⟨w.heap.size, 0, none⟩) (n + 1) (grownCap w (n + 1) c 170)) (w.drew.alloc (.cells ((cs.take i).toArray ++ Builtin.zeroCells (Value.string ⟨#[]⟩ : Value).cells (n + 1 - i) ++ Builtin.zeroCells (Value.string ⟨#[]⟩ : Value).cells (grownCap w (n + 1) c 170 - (n + 1))) 170)) := fun ty => by
    have h := Lib.run_append_grow_zeros w 102 3 ty 170 i0 _ .i64 .i64 Tryz.underlying102 Tryz.underlying3 hi0 hz0 (some ⟨g, 0, none⟩) i c (cs.take i) hold (n + 1 - i) (by omega) (by omega) (by omega) (by omega) (by rw [hzb]; omega) (by rw [hzb, hik]; exact growslice_fits hroom (by omega))
    rw [hik] at h
    rw [hkk]
    exact h
  obtain ⟨G, hG⟩ : ∃ G, G = grownCap w (n + 1) c 170 := ⟨_, rfl⟩
  obtain ⟨ROW, hROW⟩ : ∃ ROW : List Value, ROW.toArray = (cs.take i).toArray ++ Builtin.zeroCells (Value.string ⟨#[]⟩ : Value).cells (n + 1 - i) ++ Builtin.zeroCells (Value.string ⟨#[]⟩ : Value).cells (G - (n + 1)) := ⟨_, Array.toArray_toList⟩
  rw [← hG] at hrz
  rw [← hROW] at hrz
  have hGn : n + 1 ≤ G := by rw [hG]; exact grownCap_ge w _ _ _
  have hGm : G ≤ maxLen := by rw [hG]; exact grownCap_le_maxLen w (n + 1) c 170 (by unfold maxLen; omega)
  have hRG : ROW.length = G := by
    have := congrArg Array.size hROW
    simp [Builtin.zeroCells, Value.cells] at this
    omega
  have hRT : ROW.take i = cs.take i := by
    have h := congrArg Array.toList hROW
    simp only [Array.toList_append, List.append_assoc] at h
    rw [h, List.take_append_of_le_length (by simp; omega)]
    simp [List.take_take]
  obtain ⟨N, hN⟩ : ∃ N, w.heap.size = N := ⟨_, rfl⟩
  have hW1 : Blk (w.drew.alloc (.cells ROW.toArray 170)) N ROW 170 := by rw [← hN]; exact Blk.new w.drew ROW 170
  have hVa : Blk (w.drew.alloc (.cells ROW.toArray 170)) vb [xv] 170 := hV.drew.alloc _
  have hcpA : ∀ (W : World), (∀ x, W.cell? x = (w.drew.alloc (.cells ROW.toArray 170)).cell? x) → (∀ x, W.frozen? x = (w.drew.alloc (.cells ROW.toArray 170)).frozen? x) → ∀ ty dc, (Builtin.copy_ #[102, 102] ty #[.slice (some ⟨N, i, none⟩) (n + 1 - i) dc, .slice (some ⟨vb, 0, none⟩) 1 1]).run Tryz.prog W = .ok (goInt [xv].length) (W.setCells N i [xv]) := fun W hWc hWf ty dc =>
    run_copy_cells W _ _ ty 170 N i (n + 1 - i) dc ⟨vb, 0, none⟩ 1 1 [xv] Tryz.underlying102 hsz (by simp only [Nat.min_def]; split <;> simp <;> omega)
      (fun j v hj => by rw [Addr.add_lit, Nat.zero_add, hWc, hVa.cell]; exact hj)
      (fun j hj => by rw [hWc]; exact hW1.some _ (by simp at hj; omega)) (fun j hj => by rw [hWf]; exact hW1.frozen _) (by simpa using h1v)
  have hW2 : Blk ((w.drew.alloc (.cells ROW.toArray 170)).setCells N i [xv]) N (setL ROW i [xv]) 170 := hW1.setCells _ _
  have hBa : Blk ((w.drew.alloc (.cells ROW.toArray 170)).setCells N i [xv]) g cur 170 := (hB.drew.alloc _).kept (Kept.setCells (M := [N]) (by simp) _ _ (Kept.refl _ _)) (by simp; omega)
  have hdl : (cs.drop i).length = n - i := by rw [List.length_drop, hcl]
  have hcpB : ∀ (W : World), (∀ x, W.cell? x = ((w.drew.alloc (.cells ROW.toArray 170)).setCells N i [xv]).cell? x) → (∀ x, W.frozen? x = ((w.drew.alloc (.cells ROW.toArray 170)).setCells N i [xv]).frozen? x) → ∀ ty dc sc, (Builtin.copy_ #[102, 102] ty #[.slice (some ⟨N, i + 1, none⟩) (n - i) dc, .slice (some ⟨g, i, none⟩) (n - i) sc]).run Tryz.prog W = .ok (goInt (cs.drop i).length) (W.setCells N (i + 1) (cs.drop i)) := fun W hWc hWf ty dc sc =>
    run_copy_cells W _ _ ty 170 N (i + 1) (n - i) dc ⟨g, i, none⟩ (n - i) sc (cs.drop i) Tryz.underlying102 hsz (by rw [hdl]; simp only [Nat.min_def]; split <;> omega)
      (fun j v hj => by
        rw [Addr.add_lit, hWc, hBa.cell]
        rw [List.getElem?_drop, ← htk, List.getElem?_take] at hj
        split at hj
        · exact hj
        · cases hj)
      (fun j hj => by rw [hWc]; exact hW2.some _ (by rw [setL_len]; omega))
      (fun j hj => by rw [hWf]; exact hW2.frozen _) (fun v hv => h1c v (List.mem_of_mem_drop hv))
  have hE1 : ∀ x, ((w.alloc (.cells ROW.toArray 170)).drew).cell? x = (w.drew.alloc (.cells ROW.toArray 170)).cell? x := fun x => rfl
  have hE2 : ∀ x, ((w.alloc (.cells ROW.toArray 170)).drew).frozen? x = (w.drew.alloc (.cells ROW.toArray 170)).frozen? x := fun x => rfl
  have hF1 : ∀ x, (((w.alloc (.cells ROW.toArray 170)).drew.setCells N i [xv]).drew).cell? x = ((w.drew.alloc (.cells ROW.toArray 170)).setCells N i [xv]).cell? x := fun x => rfl
  have hF2 : ∀ x, (((w.alloc (.cells ROW.toArray 170)).drew.setCells N i [xv]).drew).frozen? x = ((w.drew.alloc (.cells ROW.toArray 170)).setCells N i [xv]).frozen? x := fun x => rfl
  have hw1 : IntKind.i64.wrap ((i : Int) + 1) = (i : Int) + 1 := by rw [IntKind.wrap_i64]; omega
  have hz2 : ¬ ((i : Int) = (n : Int)) := by omega
  have hz3 : (c : Int) < (n : Int) + 1 := by omega
  have hb1 : (0 : Int) ≤ (i : Int) + 1 := by omega
  have hin : i ≤ n := by omega
  have htn : ((i : Int) + 1).toNat = i + 1 := by omega
  have hb3 : (i : Int) ≤ (n : Int) := by omega
  have hGi : ¬ (G = i) := by omega
  have hGim : ¬ (G = i + 1) := by omega
  have hci : ¬ (c = i) := by omega
  have hG63 : G ≤ 9223372036854775807 := by unfold maxLen at hGm; omega
  have HRG := hide hRG
  have HRT := hide hRT
  have HGm := hide hGm
  rw [hN] at hrz ⊢
  clear hkk hik hold hROW hG hRG hRT hGm hB hV hW1 hVa hW2 hBa hcs
  go_enter Tryz.func214, Tryz.ntmps214
  go_wp2_with (first
    | (at_builtin; refine Lib.wpList_append_run _ rfl _ _ _ _ rfl _ _ rfl rfl _ _ (hrz _) ?_)
    | (at_builtin; refine wpList_copy_runI _ rfl _ _ 102 102 rfl _ _ rfl rfl (hcpA _ hE1 hE2 _ _) ?_)
    | (at_builtin; refine wpList_copy_runI _ rfl _ _ 102 102 rfl _ _ rfl rfl (hcpB _ (fun _ => rfl) (fun _ => rfl) _ _ _) ?_))
  go_region_law_o (refine step_copy_runI rfl _ _ 102 102 rfl (.slice (some ⟨N, i + 1, none⟩) (n - i) (G - (i + 1))) (.slice (some ⟨g, i, none⟩) (n - i) (c - i)) (by simp [Act.eval, Act.put]) (by simp [Act.eval, Act.put]) (hcpB _ hF1 hF2 3 (G - (i + 1)) (c - i)) ?_)
  go_wp2
  go_ret
  exact ⟨ROW, G, unhide HRG, hGn, unhide HGm, unhide HRT, rfl, rfl⟩



set_option maxRecDepth 100000 in
set_option maxHeartbeats 1600000 in
theorem insertT_any (ad : Option Addr) (cap : Nat) (l : List ByteArray) (i : Nat) (x : ByteArray) (base vb : Nat) (w : World) (hl : w.ownsRow base 170 1 (.slice ad l.length cap) l.length (l.flatMap strCell)) (hlen : l.length ≤ 1000000) (hi : i ≤ l.length) (hV : Blk w vb [.string x] 170) (hne : (Value.slice ad l.length cap).ownBlock ≠ some vb) (hbase : base ≤ w.heap.size) :
    Calls Tryz.prog 214 #[.slice ad l.length cap, .int .i64 i, .slice (some ⟨vb, 0, none⟩) 1 1] w fun e w' => ∃ g cp, e = .returned (.slice (some ⟨g, 0, none⟩) (l.length + 1) cp) ∧ w'.ownsRow base 170 1 (.slice (some ⟨g, 0, none⟩) (l.length + 1) cp) (l.length + 1) ((insAt l i x).flatMap strCell) ∧ Kept (Value.slice ad l.length cap).ownBlock.toList w w' ∧ ((Value.slice ad l.length cap).ownBlock = some g ∨ w.heap.size ≤ g) := by
  have hml : (l.flatMap strCell).length = l.length := by rw [flatS]; simp
  by_cases hin : i = l.length
  · subst hin
    obtain ⟨i0, hi0, hz0, hz1, hz2⟩ := info_parts Tryz.info170
    have HI : Hid ((insAt l l.length x).flatMap strCell = l.flatMap strCell ++ [.string x]) := by
      show _ = _
      rw [flat_insS, List.take_of_length_le (by omega), List.drop_eq_nil_of_le (by omega)]
    have HV : Hid (∀ j u, [.string x][j]? = some u → w.cell? ((⟨vb, 0, none⟩ : Addr).add j) = some u) := fun j u hu => by rw [Addr.add_lit, Nat.zero_add, hV.cell]; exact hu
    have HL := hide hl
    clear hV
    cases ad with
    | none =>
      have hn0 : l.length = 0 := by
        rcases hl.2 with ⟨he, h0⟩ | ⟨g, c, cur, he, _⟩
        · exact h0
        · simp at he
      have hc0 : cap = 0 := by
        rcases hl.2 with ⟨he, h0⟩ | ⟨g, c, cur, he, _⟩
        · simp only [Value.slice.injEq] at he; exact he.2.2
        · simp at he
      subst hc0
      have hl0 : l = [] := List.length_eq_zero_iff.1 hn0
      subst hl0
      clear hl hn0
      simp only [List.length_nil] at HL ⊢
      go_enter Tryz.func214, Tryz.ntmps214
      go_wp2_with (at_builtin; refine wpList_append_lies _ rfl _ _ _ rfl base 170 i0 _ 1 16 Tryz.underlying102 hi0 hz0 hz1 hz2 rfl (by omega) (.slice none 0 0) 0 [] rfl (unhide HL) ⟨vb, 0, none⟩ 1 1 [.string x] rfl rfl (unhide HV) (by simp [Value.oneCell']) (by omega) (by unfold maxLen; omega) (by omega) hbase _ rfl ?_; intro g1 cp1 w9 ho1 hg1 ha1 hl1)
      go_ret
      refine ⟨g1, cp1, rfl, ho1, (Kept.refl _ w).grown hg1 (fun k hk => Or.inl (by rw [Option.mem_toList]; exact hk)), ?_⟩
      rcases ha1 with h | h
      · exact Or.inl h
      · exact Or.inr (by omega)
    | some a =>
      obtain ⟨ab, ao, asp⟩ := a
      have hao : ao = 0 ∧ asp = none := by
        rcases hl.2 with ⟨he, h0⟩ | ⟨g, c, cur, he, _⟩
        · simp at he
        · simp only [Value.slice.injEq, Option.some.injEq, Addr.mk.injEq] at he; exact he.1.2
      obtain ⟨rfl, rfl⟩ := hao
      have hcap : l.length ≤ cap ∧ cap ≤ maxLen := by
        rcases hl.2 with ⟨he, h0⟩ | ⟨g, c, cur, he, _, _, h1, h2, _⟩
        · simp at he
        · simp only [Value.slice.injEq] at he; rw [he.2.2]; exact ⟨h1, h2⟩
      obtain ⟨hc1, hc2⟩ := hcap
      unfold maxLen at hc2
      clear hl
      go_enter Tryz.func214, Tryz.ntmps214
      go_wp2_with (at_builtin; refine wpList_append_lies _ rfl _ _ _ rfl base 170 i0 _ 1 16 Tryz.underlying102 hi0 hz0 hz1 hz2 rfl (by omega) (.slice (some ⟨ab, 0, none⟩) l.length cap) l.length (l.flatMap strCell) rfl (unhide HL) ⟨vb, 0, none⟩ 1 1 [.string x] rfl rfl (unhide HV) (by simp [Value.oneCell']) (by omega) (by unfold maxLen; omega) (by omega) hbase _ rfl ?_; intro g1 cp1 w9 ho1 hg1 ha1 hl1)
      all_goals
        go_ret
        rw [unhide HI]
        refine ⟨g1, cp1, rfl, ho1, (Kept.refl _ w).grown hg1 (fun k hk => Or.inl (by rw [Option.mem_toList]; exact hk)), ?_⟩
        rcases ha1 with h | h
        · exact Or.inl h
        · exact Or.inr (by omega)
  · have hil : i < l.length := by omega
    rcases hl.2 with ⟨he, h0⟩ | ⟨g, c, cur, he, hb, hblk, hc1, hc2, hcs, htk⟩
    · omega
    · simp only [Value.slice.injEq] at he
      obtain ⟨rfl, _, rfl⟩ := he
      have hvb : vb ≠ g := fun e => hne (by simp [Value.ownBlock, e])
      have hB : Blk w g cur.toList 170 := by unfold Blk; simpa using hblk
      have hcur : cur.toList.length = cap := by simpa using hcs
      have htk' : cur.toList.take l.length = l.flatMap strCell := by simpa using htk
      by_cases hroom : l.length + 1 ≤ cap
      · refine (insT_shift g l.length cap i vb (l.flatMap strCell) cur.toList (.string x) w hil hroom (by unfold maxLen at hc2; omega) hvb hml hB hcur htk' hV (oneS l) rfl).mono ?_
        rintro e w' ⟨rfl, rfl⟩
        have hfin := (hB.drew.setCells ((l.flatMap strCell).drop i) (i + 1)).setCells [.string x] i
        refine ⟨g, cap, rfl, ⟨?_, Or.inr ⟨g, cap, _, rfl, hb, hfin, hroom, hc2, ?_, ?_⟩⟩, ?_, Or.inl rfl⟩
        · rw [flatS, List.length_map, insAt_len hi]; simp
        · simp only [List.size_toArray, setL_len]; omega
        · rw [flat_insS]
          simp only [Nat.mul_one]
          exact ins_list htk' hml hi (by omega) _
        · exact Kept.setCells (by simp [Value.ownBlock]) _ _ (Kept.setCells (by simp [Value.ownBlock]) _ _ (Kept.refl _ w).drew)
      · refine (insT_grow g l.length cap i vb (l.flatMap strCell) cur.toList (.string x) w hil hc1 (by omega) hlen hml hB hcur htk' hV (oneS l) rfl).mono ?_
        rintro e w' ⟨ROW, G, hG1, hG2, hG3, hRT, rfl, rfl⟩
        have hfin := ((Blk.new w ROW 170).drew.setCells [.string x] i).drew.setCells ((l.flatMap strCell).drop i) (i + 1)
        have hd : ((l.flatMap strCell).drop i).length = l.length - i := by rw [List.length_drop, hml]
        refine ⟨w.heap.size, G, rfl, ⟨?_, Or.inr ⟨w.heap.size, G, _, rfl, hbase, hfin, hG2, hG3, ?_, ?_⟩⟩, ?_, Or.inr (Nat.le_refl _)⟩
        · rw [flatS, List.length_map, insAt_len hi]; simp
        · simp only [List.size_toArray, setL_len]; omega
        · rw [flat_insS]
          simp only [Nat.mul_one]
          rw [setL_eq _ _ _ (by rw [setL_len, hd]; omega), setL_eq _ _ _ (by simp; omega), hRT]
          have e1 : (List.take i (l.flatMap strCell) ++ [Value.string x] ++ List.drop (i + [Value.string x].length) ROW).take (i + 1) = List.take i (l.flatMap strCell) ++ [Value.string x] := by
            rw [List.take_append_of_le_length (by simp only [List.length_append, List.length_take, List.length_cons, List.length_nil, List.length_drop, hml]; omega), List.take_of_length_le (by simp only [List.length_append, List.length_take, List.length_cons, List.length_nil, List.length_drop, hml]; omega)]
          rw [e1, List.take_append_of_le_length (by simp only [List.length_append, List.length_take, List.length_cons, List.length_nil, List.length_drop, hml]; omega), List.take_of_length_le (by simp only [List.length_append, List.length_take, List.length_cons, List.length_nil, List.length_drop, hml]; omega)]
          simp
        · exact Kept.setCells (Or.inr (Nat.le_refl _)) _ _ (Kept.setCells (Or.inr (Nat.le_refl _)) _ _ ((Kept.refl _ w).alloc _).drew).drew



/-- What a call of Add comes to. -/
def AddTOut (base : Nat) (lv : Value) (l : List ByteArray) (x : ByteArray) (w : World) (e : Ending) (w' : World) : Prop :=
  ∃ (l' : List ByteArray) (ad' : Option Addr) (cp' : Nat), e = .returned (.slice ad' l'.length cp') ∧ Rise ltS l' ∧ (∀ y, y ∈ l' ↔ y = x ∨ y ∈ l) ∧ l.length ≤ l'.length ∧ l'.length ≤ l.length + 1 ∧
    w'.ownsRow base 170 1 (.slice ad' l'.length cp') l'.length (l'.flatMap strCell) ∧ Kept lv.ownBlock.toList w w' ∧ (∀ k, (Value.slice ad' l'.length cp').ownBlock = some k → lv.ownBlock = some k ∨ w.heap.size ≤ k)

set_option maxRecDepth 100000 in
set_option maxHeartbeats 800000 in
theorem addT_any (ad : Option Addr) (cap : Nat) (l : List ByteArray) (x : ByteArray) (base : Nat) (w : World) (hl : w.ownsRow base 170 1 (.slice ad l.length cap) l.length (l.flatMap strCell)) (hlen : l.length ≤ 1000000) (hr : Rise ltS l) (hbase : base ≤ w.heap.size) :
    Calls Tryz.prog 185 #[.slice ad l.length cap, .string x] w fun e w' => AddTOut base (.slice ad l.length cap) l x w e w' := by
  have HL := hide (leapT_any (.slice ad l.length cap) l 0 x base w hl hlen (Nat.zero_le _) hr)
  have HR := hide hr
  have HO := hide hl
  clear hl hr
  go_enter Tryz.func185, Tryz.ntmps185
  go_wp2_with fail
  refine (unhide HL).mono ?_
  rintro e w' ⟨at_, rfl, hat, rfl⟩
  have HI := hide (hat.has ordS (unhide HR))
  have HA := hide hat
  have hle := hat.le
  clear HL hat
  have HIns : Hid (hasAt eqS l at_ x = false → Calls Tryz.prog 214 #[.slice ad l.length cap, .int .i64 at_, .slice (some ⟨w'.heap.size, 0, none⟩) 1 1] (w'.alloc (.cells #[.string x] 170)) fun e w2 => AddTOut base (.slice ad l.length cap) l x w' e w2) := by
    intro hno
    have hn : Blk (w'.alloc (.cells [.string x].toArray 170)) w'.heap.size [.string x] 170 := Blk.new w' [.string x] 170
    refine (insertT_any ad cap l at_ x base w'.heap.size _ (World.ownsRow.alloc (unhide HO) _) hlen hle hn (fun e => by have := ((unhide HO).lt _ e).2; omega) (by simp; omega)).mono ?_
    rintro e w2 ⟨g, cp, rfl, ho, hk, ha⟩
    have hlen' := insAt_len (x := x) hle
    refine ⟨insAt l at_ x, some ⟨g, 0, none⟩, cp, by rw [hlen'], (unhide HA).rise ordS (unhide HR) hno, fun y => insAt_mem x y, by omega, by omega, by rw [hlen']; exact ho, ((Kept.refl _ w').alloc _).trans hk, ?_⟩
    intro k hk2
    simp only [Value.ownBlock, Option.some.injEq] at hk2
    subst hk2
    rcases ha with h | h
    · exact Or.inl h
    · exact Or.inr (by simp at h; omega)
  have HSame : Hid (hasAt eqS l at_ x = true → AddTOut base (.slice ad l.length cap) l x w' (.returned (.slice ad l.length cap)) w') := by
    intro hyes
    have hx := (unhide HI).1 hyes
    exact ⟨l, ad, cap, rfl, unhide HR, fun y => ⟨Or.inr, fun h => by rcases h with rfl | h; exact hx; exact h⟩, by omega, by omega, unhide HO, Kept.refl _ _, fun k hk => Or.inl hk⟩
  by_cases hlt : at_ < l.length
  · obtain ⟨g, cap', he, hc, hcell⟩ := row_get (unhide HO) (by simp [strCell]) at_ hlt
    simp only [Value.slice.injEq] at he
    obtain ⟨rfl, _, rfl⟩ := he
    have hc0 := hcell at_ hlt 0 (by omega)
    simp [strCell] at hc0
    clear hcell
    have HF : Hid (hasAt eqS l at_ x = eqS l[at_] x) := by show _ = _; unfold hasAt; rw [dif_pos hlt]
    have HSy : Hid ((l[at_].toList == x.toList) = true → AddTOut base (.slice (some ⟨g, 0, none⟩) l.length cap) l x w' (.returned (.slice (some ⟨g, 0, none⟩) l.length cap)) w') := fun hq => unhide HSame (by rw [HF.out]; exact hq)
    have HSn : Hid ((l[at_].toList == x.toList) = false → Calls Tryz.prog 214 #[.slice (some ⟨g, 0, none⟩) l.length cap, .int .i64 at_, .slice (some ⟨w'.heap.size, 0, none⟩) 1 1] (w'.alloc (.cells #[.string x] 170)) fun e w2 => AddTOut base (.slice (some ⟨g, 0, none⟩) l.length cap) l x w' e w2) := fun hq => unhide HIns (by rw [HF.out]; exact hq)
    clear HF HI HA HIns HSame
    go_wp2_with fail
    · go_ret
      exact unhide HSy (by assumption)
    · refine (unhide HSn (by assumption)).mono ?_
      intro e w2 hout
      obtain ⟨l', ad', cp', rfl, rest⟩ := hout
      have HRest := hide rest
      clear rest
      go_wp2
      go_ret
      exact ⟨l', ad', cp', rfl, unhide HRest⟩
  · have HS := hide (unhide HIns (by unfold hasAt; rw [dif_neg hlt]))
    clear HI HA HIns HSame
    go_wp2_with fail
    refine (unhide HS).mono ?_
    intro e w2 hout
    obtain ⟨l', ad', cp', rfl, rest⟩ := hout
    have HRest := hide rest
    clear rest
    go_wp2
    go_ret
    exact ⟨l', ad', cp', rfl, unhide HRest⟩

end Go.Proofs.YtoihbhenbmffcaaGreatDoor
