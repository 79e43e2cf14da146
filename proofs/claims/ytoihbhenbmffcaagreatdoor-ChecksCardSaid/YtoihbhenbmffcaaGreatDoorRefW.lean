import Derived.Test.YtoihbhenbmffcaaGreatDoorRefU
set_option linter.unusedVariables false
set_option linter.unusedSimpArgs false

namespace Go.Proofs.YtoihbhenbmffcaaGreatDoor
open Go.RowKit

theorem nameT_len (l : List ByteArray) (x : ByteArray) : (nameT l x).length ≤ l.length + 1 := by
  unfold nameT; split <;> simp
theorem nameL_len (l : List ByteArray) (p : RLitV) : (nameL l p).length ≤ l.length + 1 := by
  unfold nameL; split
  · exact nameT_len l _
  · omega

/-- What is to be appended, in the second of two new blocks. -/
theorem news_two (w : World) (o : Obj) (cs : Array Value) (t : TypeId) (l : List Value) (hl : l = cs.toList) : ∀ j u, l[j]? = some u → ((w.alloc o).alloc (.cells cs t)).cell? ((⟨w.heap.size + 1, 0, none⟩ : Addr).add j) = some u := by
  subst hl
  have h := heap_alloc_new (w.alloc o) (.cells cs t)
  rw [World.size_alloc] at h
  exact World.news_of_block h

set_option maxRecDepth 100000 in
set_option maxHeartbeats 3200000 in
theorem names_any (pb : Nat) (lv : Value) (cs : List RCV) (w : World) (hP : Blk w pb [lv] 76) (hR : RowsIn w lv cs) (hlen : cs.length ≤ 12) (hsm : ∀ c ∈ cs, SmallC c) :
    Calls Tryz.prog 22 #[.pointer (some ⟨pb, 0, none⟩)] w fun e w' => ∃ v, e = .returned v ∧ w'.ownsRow w.heap.size 9 1 v (namesP cs).length ((namesP cs).flatMap strCell) ∧ Kept [] w w' := by
  obtain ⟨i0, hi0, hz0, hz1, hz2⟩ := info_parts Tryz.info9
  obtain ⟨ad, cap, rfl⟩ := row_nil hR.row
  have HR : Hid (RowsIn w (.slice ad cs.length cap) cs ∧ (∀ c ∈ cs, SmallC c)) := ⟨hR, hsm⟩
  clear hR hsm
  have hnot : ∀ (x : Bool) (w : World), (Op.unary .not (.bool x)).run Tryz.prog w = .ok (.bool (!x)) w := fun _ _ => rfl
  go_enter Tryz.func22, Tryz.ntmps22
  go_wp2
  go_loopw [3, 4] (fun o i wr => ∃ (k : Nat) (out : List ByteArray), i = .int .i64 k ∧ k ≤ cs.length ∧ Hid ((cs.take k).foldl namesC [] = out) ∧ out.length ≤ 4 * k ∧ wr.ownsRow w.heap.size 9 1 o out.length (out.flatMap strCell) ∧ Kept [] w wr) (fun _ i _ => cs.length - (intOf i).toNat)
  case atStart => exact ⟨0, [], rfl, Nat.zero_le _, by show _ = _; simp, by simp, World.ownsRow_nil _ _ _ _, Kept.refl _ _⟩
  case round =>
    obtain ⟨k, out, rfl, hk, HF, hol, hown, hK⟩ := hrel
    obtain ⟨ado, capo, rfl⟩ := row_nil hown
    have hpc := (hP.kept hK (by simp)).cell 0
    simp at hpc
    have hsz := hK.size
    by_cases hlt : k < cs.length
    · have hR' := HR.out.1.kept hK
      obtain ⟨g, cap', he, hc, hcell⟩ := row_get hR'.row (fun c _ => cvCells_len c) k hlt
      simp only [Value.slice.injEq] at he
      obtain ⟨rfl, _, rfl⟩ := he
      have hc0 := hcell k hlt 0 (by omega)
      simp [cvCells] at hc0
      have hin := hR'.each cs[k] (List.getElem_mem hlt)
      have hsm := HR.out.2 cs[k] (List.getElem_mem hlt)
      obtain ⟨adb, capb, hbv⟩ := row_nil hin.body
      have HHB : Hid (cs[k].bv = .slice adb cs[k].bl.length capb) := hbv
      have hs2 := hsm.body
      clear hcell hR' hin hbv hsm
      have key : ∀ (o1 : List ByteArray) (v1 : Value) (w1 : World), Hid (nameT out cs[k].head.name = o1) → o1.length ≤ 4 * k + 1 → w1.ownsRow w.heap.size 9 1 v1 o1.length (o1.flatMap strCell) → Kept [] w w1 → True := fun _ _ _ _ _ _ _ => trivial
      clear key
      cases hh : hasB out cs[k].head.name with
      | true =>
        have HO1 : Hid (nameT out cs[k].head.name = out) := by show _ = _; simp [nameT, hh]
        go_wp2_with fail
        refine (has_any _ out cs[k].head.name w.heap.size _ hown (by omega)).mono ?_
        rintro e w0 ⟨rfl, hw0⟩
        rw [hh, hw0]
        clear hw0 w0 hh
        have hown1 := hown
        have hK1' := hK
        have hol1 : out.length ≤ 4 * k + 1 := by omega
        go_wp2
        obtain ⟨o1, HO1, hown1, hol1⟩ : ∃ o1, Hid (nameT out cs[k].head.name = o1) ∧ wr.ownsRow w.heap.size 9 1 (.slice ado out.length capo) o1.length (o1.flatMap strCell) ∧ o1.length ≤ 4 * k + 1 := ⟨out, HO1, hown1, hol1⟩
        clear hc0 hpc hown hK hsz
        go_loopw [3, 5] (fun o i wq => ∃ (m : Nat) (o2 : List ByteArray), i = .int .i64 m ∧ m ≤ cs[k].bl.length ∧ Hid ((cs[k].bl.take m).foldl nameL o1 = o2) ∧ o2.length ≤ 4 * k + 1 + m ∧ wq.ownsRow w.heap.size 9 1 o o2.length (o2.flatMap strCell) ∧ Kept [] w wq) (fun _ i _ => cs[k].bl.length - (intOf i).toNat)
        case atStart => exact ⟨0, o1, rfl, Nat.zero_le _, by show _ = _; simp, by omega, hown1, hK1'⟩
        case round =>
          clear hown1 hK1'
          obtain ⟨m, o2, rfl, hm, HM, hol2, hown2, hKq⟩ := hrel
          obtain ⟨ad2, cap2, rfl⟩ := row_nil hown2
          have hpc := (hP.kept hKq (by simp)).cell 0
          simp at hpc
          have hszq := hKq.size
          have hRq := HR.out.1.kept hKq
          obtain ⟨g2, cap2', he2, _, hcell2⟩ := row_get hRq.row (fun c _ => cvCells_len c) k hlt
          simp only [Value.slice.injEq, Option.some.injEq, Addr.mk.injEq] at he2
          obtain ⟨⟨rfl, _, _⟩, _, rfl⟩ := he2
          have hc3 := hcell2 k hlt 3 (by omega)
          simp [cvCells] at hc3
          rw [HHB.out] at hc3
          have hin := hRq.each cs[k] (List.getElem_mem hlt)
          clear hcell2 hRq
          by_cases hlm : m < cs[k].bl.length
          · obtain ⟨gb, capb', heb, hcb, hcellb⟩ := row_get hin.body (fun c _ => litvCells_len c) m hlm
            rw [HHB.out] at heb
            simp only [Value.slice.injEq] at heb
            obtain ⟨rfl, _, rfl⟩ := heb
            have hl := hin.lits cs[k].bl[m] (List.getElem_mem hlm)
            obtain ⟨ada, capa, hav⟩ := row_nil hl
            have d0 := hcellb m hlm 0 (by omega)
            have d1 := hcellb m hlm 1 (by omega)
            have d2 := hcellb m hlm 2 (by omega)
            have d3 := hcellb m hlm 3 (by omega)
            have d4 := hcellb m hlm 4 (by omega)
            have d5 := hcellb m hlm 5 (by omega)
            have d6 := hcellb m hlm 6 (by omega)
            have d7 := hcellb m hlm 7 (by omega)
            have d8 := hcellb m hlm 8 (by omega)
            simp [litvCells, litVal] at d0 d1 d2 d3 d4 d5 d6 d7 d8
            rw [hav] at d2
            clear hcellb hl hav hin
            have HS : Hid ((cs[k].bl.take (m + 1)).foldl nameL o1 = nameL o2 cs[k].bl[m]) := by show _ = _; rw [foldl_take _ _ hlm, HM.out]
            have hAL := hown2.alloc (.cells #[.int .u8 cs[k].bl[m].1.kind.toNat, .string cs[k].bl[m].1.A.name, .slice ada cs[k].bl[m].1.A.args.length capa, .int .i64 cs[k].bl[m].1.A.at_, .int .u8 cs[k].bl[m].1.L.v.toNat, .string cs[k].bl[m].1.L.s, .int .u8 cs[k].bl[m].1.R.v.toNat, .string cs[k].bl[m].1.R.s, .int .i64 cs[k].bl[m].1.at_] 95)
            rcases kind_cases cs[k].bl[m] with ⟨k1, k3⟩ | ⟨k1, k2, k3⟩ | ⟨k1, k2, k3⟩
            · cases hh2 : hasB o2 cs[k].bl[m].1.A.name with
              | true =>
                have HS' : Hid ((cs[k].bl.take (m + 1)).foldl nameL o1 = o2) := by show _ = _; rw [HS.out]; simp [nameL, nameT, k3, hh2]
                clear HS k3
                go_wp2_with fail
                refine (has_any _ o2 cs[k].bl[m].1.A.name w.heap.size _ hAL (by omega)).mono ?_
                rintro e w0 ⟨rfl, hw0⟩
                rw [hh2, hw0]
                clear hw0 w0 hh2
                go_wp2
                go_roundw
                case rel => exact ⟨m + 1, o2, by go_num, by omega, HS', by omega, hAL, hKq.alloc _⟩
                case measure => simp [intOf]; omega
              | false =>
                have HS' : Hid ((cs[k].bl.take (m + 1)).foldl nameL o1 = o2 ++ [cs[k].bl[m].1.A.name]) := by show _ = _; rw [HS.out]; simp [nameL, nameT, k3, hh2]
                clear HS k3
                go_wp2_with fail
                refine (has_any _ o2 cs[k].bl[m].1.A.name w.heap.size _ hAL (by omega)).mono ?_
                rintro e w0 ⟨rfl, hw0⟩
                rw [hh2, hw0]
                clear hw0 w0 hh2
                go_wp2_with (at_builtin; refine wpList_append_lies _ rfl (.tmp 80) (.tmp 84) _ rfl w.heap.size 9 i0 _ 1 16 Tryz.underlying41 hi0 hz0 hz1 hz2 rfl (by omega) (.slice ad2 o2.length cap2) o2.length (o2.flatMap strCell) rfl (hAL.alloc _) ⟨wr.heap.size + 1, 0, none⟩ 1 1 [.string cs[k].bl[m].1.A.name] rfl rfl (news_two wr _ _ _ _ rfl) (by simp [Value.oneCell']) (by omega) (by unfold maxLen; omega) (by omega) (by simp; omega) (wr.heap.size + 2) (by simp) ?_; intro g5 cp5 w5 ho5 hg5 ha5 hl5)
                have hKn : Kept [] w w5 := ((hKq.alloc _).alloc _).grown hg5 (fun q hq => Or.inr (hown2.lt q hq).1)
                clear hg5 ha5 hl5
                go_wp2
                go_roundw
                case rel =>
                  refine ⟨m + 1, o2 ++ [cs[k].bl[m].1.A.name], by go_num, by omega, HS', by simp; omega, ?_, hKn⟩
                  simpa [strCell] using ho5
                case measure => simp [intOf]; omega
            · cases hh2 : hasB o2 cs[k].bl[m].1.A.name with
              | true =>
                have HS' : Hid ((cs[k].bl.take (m + 1)).foldl nameL o1 = o2) := by show _ = _; rw [HS.out]; simp [nameL, nameT, k3, hh2]
                clear HS k3
                go_wp2_with fail
                refine (has_any _ o2 cs[k].bl[m].1.A.name w.heap.size _ hAL (by omega)).mono ?_
                rintro e w0 ⟨rfl, hw0⟩
                rw [hh2, hw0]
                clear hw0 w0 hh2
                go_wp2
                go_roundw
                case rel => exact ⟨m + 1, o2, by go_num, by omega, HS', by omega, hAL, hKq.alloc _⟩
                case measure => simp [intOf]; omega
              | false =>
                have HS' : Hid ((cs[k].bl.take (m + 1)).foldl nameL o1 = o2 ++ [cs[k].bl[m].1.A.name]) := by show _ = _; rw [HS.out]; simp [nameL, nameT, k3, hh2]
                clear HS k3
                go_wp2_with fail
                refine (has_any _ o2 cs[k].bl[m].1.A.name w.heap.size _ hAL (by omega)).mono ?_
                rintro e w0 ⟨rfl, hw0⟩
                rw [hh2, hw0]
                clear hw0 w0 hh2
                go_wp2_with (at_builtin; refine wpList_append_lies _ rfl (.tmp 80) (.tmp 84) _ rfl w.heap.size 9 i0 _ 1 16 Tryz.underlying41 hi0 hz0 hz1 hz2 rfl (by omega) (.slice ad2 o2.length cap2) o2.length (o2.flatMap strCell) rfl (hAL.alloc _) ⟨wr.heap.size + 1, 0, none⟩ 1 1 [.string cs[k].bl[m].1.A.name] rfl rfl (news_two wr _ _ _ _ rfl) (by simp [Value.oneCell']) (by omega) (by unfold maxLen; omega) (by omega) (by simp; omega) (wr.heap.size + 2) (by simp) ?_; intro g5 cp5 w5 ho5 hg5 ha5 hl5)
                have hKn : Kept [] w w5 := ((hKq.alloc _).alloc _).grown hg5 (fun q hq => Or.inr (hown2.lt q hq).1)
                clear hg5 ha5 hl5
                go_wp2
                go_roundw
                case rel =>
                  refine ⟨m + 1, o2 ++ [cs[k].bl[m].1.A.name], by go_num, by omega, HS', by simp; omega, ?_, hKn⟩
                  simpa [strCell] using ho5
                case measure => simp [intOf]; omega
            · have HS' : Hid ((cs[k].bl.take (m + 1)).foldl nameL o1 = o2) := by show _ = _; rw [HS.out]; simp [nameL, k3]
              clear HS k3
              go_wp2
              go_roundw
              case rel => exact ⟨m + 1, o2, by go_num, by omega, HS', by omega, hAL, hKq.alloc _⟩
              case measure => simp [intOf]; omega
          · have HZ : Hid ((cs.take (k + 1)).foldl namesC [] = o2) := by
              have h := HM.out
              rw [List.take_of_length_le (by omega)] at h
              show _ = _
              rw [foldl_take _ _ hlt, HF.out, ← h]
              unfold namesC
              rw [HO1.out]
            go_wp2
            go_roundw
            case rel => exact ⟨k + 1, o2, by go_num, by omega, HZ, by omega, hown2, hKq⟩
            case measure => simp [intOf]; omega
      | false =>
        have HO1 : Hid (nameT out cs[k].head.name = out ++ [cs[k].head.name]) := by show _ = _; simp [nameT, hh]
        go_wp2_with fail
        refine (has_any _ out cs[k].head.name w.heap.size _ hown (by omega)).mono ?_
        rintro e w0 ⟨rfl, hw0⟩
        rw [hh, hw0]
        clear hw0 w0 hh
        go_wp2_with (at_builtin; refine wpList_append_lies _ rfl (.tmp 28) (.tmp 38) _ rfl w.heap.size 9 i0 _ 1 16 Tryz.underlying41 hi0 hz0 hz1 hz2 rfl (by omega) (.slice ado out.length capo) out.length (out.flatMap strCell) rfl (hown.alloc _) ⟨wr.heap.size, 0, none⟩ 1 1 [.string cs[k].head.name] rfl rfl (World.news_of_block (cs := #[.string cs[k].head.name]) (t := 9) (fr := (0, 0)) (heap_alloc_new wr _)) (by simp [Value.oneCell']) (by omega) (by unfold maxLen; omega) (by omega) (by simp; omega) (wr.heap.size + 1) (by simp) ?_; intro g1 cp1 w1 ho1 hg1 ha1 hl1)
        have hK1' : Kept [] w w1 := (hK.alloc _).grown hg1 (fun q hq => Or.inr (hown.lt q hq).1)
        have hown1 : w1.ownsRow w.heap.size 9 1 (.slice (some ⟨g1, 0, none⟩) (out.length + 1) cp1) (out ++ [cs[k].head.name]).length ((out ++ [cs[k].head.name]).flatMap strCell) := by simpa [strCell] using ho1
        have hol1 : (out ++ [cs[k].head.name]).length ≤ 4 * k + 1 := by simp; omega
        clear hg1 ha1 hl1 ho1
        go_wp2
        obtain ⟨o1, HO1, hown1, hol1⟩ : ∃ o1, Hid (nameT out cs[k].head.name = o1) ∧ w1.ownsRow w.heap.size 9 1 (.slice (some ⟨g1, 0, none⟩) (out.length + 1) cp1) o1.length (o1.flatMap strCell) ∧ o1.length ≤ 4 * k + 1 := ⟨_, HO1, hown1, hol1⟩
        clear hc0 hpc hown hK hsz
        go_loopw [3, 5] (fun o i wq => ∃ (m : Nat) (o2 : List ByteArray), i = .int .i64 m ∧ m ≤ cs[k].bl.length ∧ Hid ((cs[k].bl.take m).foldl nameL o1 = o2) ∧ o2.length ≤ 4 * k + 1 + m ∧ wq.ownsRow w.heap.size 9 1 o o2.length (o2.flatMap strCell) ∧ Kept [] w wq) (fun _ i _ => cs[k].bl.length - (intOf i).toNat)
        case atStart => exact ⟨0, o1, rfl, Nat.zero_le _, by show _ = _; simp, by omega, hown1, hK1'⟩
        case round =>
          clear hown1 hK1'
          obtain ⟨m, o2, rfl, hm, HM, hol2, hown2, hKq⟩ := hrel
          obtain ⟨ad2, cap2, rfl⟩ := row_nil hown2
          have hpc := (hP.kept hKq (by simp)).cell 0
          simp at hpc
          have hszq := hKq.size
          have hRq := HR.out.1.kept hKq
          obtain ⟨g2, cap2', he2, _, hcell2⟩ := row_get hRq.row (fun c _ => cvCells_len c) k hlt
          simp only [Value.slice.injEq, Option.some.injEq, Addr.mk.injEq] at he2
          obtain ⟨⟨rfl, _, _⟩, _, rfl⟩ := he2
          have hc3 := hcell2 k hlt 3 (by omega)
          simp [cvCells] at hc3
          rw [HHB.out] at hc3
          have hin := hRq.each cs[k] (List.getElem_mem hlt)
          clear hcell2 hRq
          by_cases hlm : m < cs[k].bl.length
          · obtain ⟨gb, capb', heb, hcb, hcellb⟩ := row_get hin.body (fun c _ => litvCells_len c) m hlm
            rw [HHB.out] at heb
            simp only [Value.slice.injEq] at heb
            obtain ⟨rfl, _, rfl⟩ := heb
            have hl := hin.lits cs[k].bl[m] (List.getElem_mem hlm)
            obtain ⟨ada, capa, hav⟩ := row_nil hl
            have d0 := hcellb m hlm 0 (by omega)
            have d1 := hcellb m hlm 1 (by omega)
            have d2 := hcellb m hlm 2 (by omega)
            have d3 := hcellb m hlm 3 (by omega)
            have d4 := hcellb m hlm 4 (by omega)
            have d5 := hcellb m hlm 5 (by omega)
            have d6 := hcellb m hlm 6 (by omega)
            have d7 := hcellb m hlm 7 (by omega)
            have d8 := hcellb m hlm 8 (by omega)
            simp [litvCells, litVal] at d0 d1 d2 d3 d4 d5 d6 d7 d8
            rw [hav] at d2
            clear hcellb hl hav hin
            have HS : Hid ((cs[k].bl.take (m + 1)).foldl nameL o1 = nameL o2 cs[k].bl[m]) := by show _ = _; rw [foldl_take _ _ hlm, HM.out]
            have hAL := hown2.alloc (.cells #[.int .u8 cs[k].bl[m].1.kind.toNat, .string cs[k].bl[m].1.A.name, .slice ada cs[k].bl[m].1.A.args.length capa, .int .i64 cs[k].bl[m].1.A.at_, .int .u8 cs[k].bl[m].1.L.v.toNat, .string cs[k].bl[m].1.L.s, .int .u8 cs[k].bl[m].1.R.v.toNat, .string cs[k].bl[m].1.R.s, .int .i64 cs[k].bl[m].1.at_] 95)
            rcases kind_cases cs[k].bl[m] with ⟨k1, k3⟩ | ⟨k1, k2, k3⟩ | ⟨k1, k2, k3⟩
            · cases hh2 : hasB o2 cs[k].bl[m].1.A.name with
              | true =>
                have HS' : Hid ((cs[k].bl.take (m + 1)).foldl nameL o1 = o2) := by show _ = _; rw [HS.out]; simp [nameL, nameT, k3, hh2]
                clear HS k3
                go_wp2_with fail
                refine (has_any _ o2 cs[k].bl[m].1.A.name w.heap.size _ hAL (by omega)).mono ?_
                rintro e w0 ⟨rfl, hw0⟩
                rw [hh2, hw0]
                clear hw0 w0 hh2
                go_wp2
                go_roundw
                case rel => exact ⟨m + 1, o2, by go_num, by omega, HS', by omega, hAL, hKq.alloc _⟩
                case measure => simp [intOf]; omega
              | false =>
                have HS' : Hid ((cs[k].bl.take (m + 1)).foldl nameL o1 = o2 ++ [cs[k].bl[m].1.A.name]) := by show _ = _; rw [HS.out]; simp [nameL, nameT, k3, hh2]
                clear HS k3
                go_wp2_with fail
                refine (has_any _ o2 cs[k].bl[m].1.A.name w.heap.size _ hAL (by omega)).mono ?_
                rintro e w0 ⟨rfl, hw0⟩
                rw [hh2, hw0]
                clear hw0 w0 hh2
                go_wp2_with (at_builtin; refine wpList_append_lies _ rfl (.tmp 80) (.tmp 84) _ rfl w.heap.size 9 i0 _ 1 16 Tryz.underlying41 hi0 hz0 hz1 hz2 rfl (by omega) (.slice ad2 o2.length cap2) o2.length (o2.flatMap strCell) rfl (hAL.alloc _) ⟨wr.heap.size + 1, 0, none⟩ 1 1 [.string cs[k].bl[m].1.A.name] rfl rfl (news_two wr _ _ _ _ rfl) (by simp [Value.oneCell']) (by omega) (by unfold maxLen; omega) (by omega) (by simp; omega) (wr.heap.size + 2) (by simp) ?_; intro g5 cp5 w5 ho5 hg5 ha5 hl5)
                have hKn : Kept [] w w5 := ((hKq.alloc _).alloc _).grown hg5 (fun q hq => Or.inr (hown2.lt q hq).1)
                clear hg5 ha5 hl5
                go_wp2
                go_roundw
                case rel =>
                  refine ⟨m + 1, o2 ++ [cs[k].bl[m].1.A.name], by go_num, by omega, HS', by simp; omega, ?_, hKn⟩
                  simpa [strCell] using ho5
                case measure => simp [intOf]; omega
            · cases hh2 : hasB o2 cs[k].bl[m].1.A.name with
              | true =>
                have HS' : Hid ((cs[k].bl.take (m + 1)).foldl nameL o1 = o2) := by show _ = _; rw [HS.out]; simp [nameL, nameT, k3, hh2]
                clear HS k3
                go_wp2_with fail
                refine (has_any _ o2 cs[k].bl[m].1.A.name w.heap.size _ hAL (by omega)).mono ?_
                rintro e w0 ⟨rfl, hw0⟩
                rw [hh2, hw0]
                clear hw0 w0 hh2
                go_wp2
                go_roundw
                case rel => exact ⟨m + 1, o2, by go_num, by omega, HS', by omega, hAL, hKq.alloc _⟩
                case measure => simp [intOf]; omega
              | false =>
                have HS' : Hid ((cs[k].bl.take (m + 1)).foldl nameL o1 = o2 ++ [cs[k].bl[m].1.A.name]) := by show _ = _; rw [HS.out]; simp [nameL, nameT, k3, hh2]
                clear HS k3
                go_wp2_with fail
                refine (has_any _ o2 cs[k].bl[m].1.A.name w.heap.size _ hAL (by omega)).mono ?_
                rintro e w0 ⟨rfl, hw0⟩
                rw [hh2, hw0]
                clear hw0 w0 hh2
                go_wp2_with (at_builtin; refine wpList_append_lies _ rfl (.tmp 80) (.tmp 84) _ rfl w.heap.size 9 i0 _ 1 16 Tryz.underlying41 hi0 hz0 hz1 hz2 rfl (by omega) (.slice ad2 o2.length cap2) o2.length (o2.flatMap strCell) rfl (hAL.alloc _) ⟨wr.heap.size + 1, 0, none⟩ 1 1 [.string cs[k].bl[m].1.A.name] rfl rfl (news_two wr _ _ _ _ rfl) (by simp [Value.oneCell']) (by omega) (by unfold maxLen; omega) (by omega) (by simp; omega) (wr.heap.size + 2) (by simp) ?_; intro g5 cp5 w5 ho5 hg5 ha5 hl5)
                have hKn : Kept [] w w5 := ((hKq.alloc _).alloc _).grown hg5 (fun q hq => Or.inr (hown2.lt q hq).1)
                clear hg5 ha5 hl5
                go_wp2
                go_roundw
                case rel =>
                  refine ⟨m + 1, o2 ++ [cs[k].bl[m].1.A.name], by go_num, by omega, HS', by simp; omega, ?_, hKn⟩
                  simpa [strCell] using ho5
                case measure => simp [intOf]; omega
            · have HS' : Hid ((cs[k].bl.take (m + 1)).foldl nameL o1 = o2) := by show _ = _; rw [HS.out]; simp [nameL, k3]
              clear HS k3
              go_wp2
              go_roundw
              case rel => exact ⟨m + 1, o2, by go_num, by omega, HS', by omega, hAL, hKq.alloc _⟩
              case measure => simp [intOf]; omega
          · have HZ : Hid ((cs.take (k + 1)).foldl namesC [] = o2) := by
              have h := HM.out
              rw [List.take_of_length_le (by omega)] at h
              show _ = _
              rw [foldl_take _ _ hlt, HF.out, ← h]
              unfold namesC
              rw [HO1.out]
            go_wp2
            go_roundw
            case rel => exact ⟨k + 1, o2, by go_num, by omega, HZ, by omega, hown2, hKq⟩
            case measure => simp [intOf]; omega
    · have HE : Hid (namesP cs = out) := by have h := HF.out; rwa [List.take_of_length_le (by omega)] at h
      go_wp2
      go_ret
      rw [HE.out]
      exact ⟨_, rfl, hown, hK⟩

end Go.Proofs.YtoihbhenbmffcaaGreatDoor
