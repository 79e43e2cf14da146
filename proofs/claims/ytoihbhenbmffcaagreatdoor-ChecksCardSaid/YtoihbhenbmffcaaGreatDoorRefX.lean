import Derived.Test.YtoihbhenbmffcaaGreatDoorRefW
set_option linter.unusedVariables false
set_option linter.unusedSimpArgs false

namespace Go.Proofs.YtoihbhenbmffcaaGreatDoor
open Go.RowKit

def stepC (x : ByteArray) (l : List ByteArray) (c : RCV) : List ByteArray := if c.head.name.toList == x.toList then c.bl.foldl nameL l else l
def stepP (cs : List RCV) (l : List ByteArray) (x : ByteArray) : List ByteArray := cs.foldl (stepC x) l
def atomsOf (cs : List RCV) : List ByteArray := cs.flatMap fun c => (c.bl.filter isA).map fun p => p.1.A.name
def missing (cs : List RCV) (l : List ByteArray) : Nat := (atomsOf cs).countP fun x => !hasB l x
def Bd (cs : List RCV) (l : List ByteArray) : Prop := l.length + missing cs l ≤ 1 + (atomsOf cs).length

def reachF : Nat → List RCV → ByteArray → List ByteArray → Nat → Bool
  | 0, _, _, _, _ => false
  | f + 1, cs, to, l, n => if h : n < l.length then (if l[n].toList == to.toList then true else reachF f cs to (stepP cs l l[n]) (n + 1)) else false
def reachP (cs : List RCV) (frm to : ByteArray) : Bool := reachF (2 + (atomsOf cs).length) cs to [frm] 0

theorem countP_snoc (l : List ByteArray) (x : ByteArray) : ∀ (m : List ByteArray), (m.countP fun y => !hasB (l ++ [x]) y) ≤ m.countP fun y => !hasB l y
  | [] => by simp
  | y :: m => by
    have ih := countP_snoc l x m
    simp only [List.countP_cons]
    have : (!hasB (l ++ [x]) y) = true → (!hasB l y) = true := by
      rw [hasB_snoc]; cases hasB l y <;> simp
    cases h1 : (!hasB (l ++ [x]) y) with
    | true => simp only [this h1, if_true]; omega
    | false => simp only [Bool.false_eq_true, if_false]; omega

theorem countP_snoc_mem (l : List ByteArray) (x : ByteArray) (hx : hasB l x = false) : ∀ (m : List ByteArray), x ∈ m → (m.countP fun y => !hasB (l ++ [x]) y) + 1 ≤ m.countP fun y => !hasB l y
  | [], h => by simp at h
  | y :: m, h => by
    simp only [List.countP_cons]
    by_cases hy : y = x
    · subst hy
      have h1 := countP_snoc l y m
      have h2 : hasB (l ++ [y]) y = true := by rw [hasB_snoc]; simp
      simp only [h2, hx, Bool.not_true, Bool.not_false, if_true, Bool.false_eq_true, if_false]
      omega
    · have ih := countP_snoc_mem l x hx m (by rcases List.mem_cons.1 h with h | h; exact absurd h.symm hy; exact h)
      have : (!hasB (l ++ [x]) y) = true → (!hasB l y) = true := by
        rw [hasB_snoc]; cases hasB l y <;> simp
      cases h1 : (!hasB (l ++ [x]) y) with
      | true => simp only [this h1, if_true]; omega
      | false => simp only [Bool.false_eq_true, if_false]; omega

theorem nameL_bd {cs : List RCV} {c : RCV} {p : RLitV} {l : List ByteArray} (hc : c ∈ cs) (hp : p ∈ c.bl) (h : Bd cs l) : Bd cs (nameL l p) := by
  unfold nameL nameT
  split
  · rename_i ha
    split
    · exact h
    · rename_i hn
      have hn' : hasB l p.1.A.name = false := by simpa using hn
      have hm : p.1.A.name ∈ atomsOf cs := by
        unfold atomsOf
        rw [List.mem_flatMap]
        exact ⟨c, hc, List.mem_map.2 ⟨p, List.mem_filter.2 ⟨hp, ha⟩, rfl⟩⟩
      have := countP_snoc_mem l p.1.A.name hn' (atomsOf cs) hm
      unfold Bd missing at h ⊢
      simp only [List.length_append, List.length_cons, List.length_nil]
      omega
  · exact h

theorem nameL_pre (l : List ByteArray) (p : RLitV) : ∃ suf, nameL l p = l ++ suf := by
  unfold nameL nameT
  split
  · split
    · exact ⟨[], by simp⟩
    · exact ⟨[_], rfl⟩
  · exact ⟨[], by simp⟩

/-- Where the list stands: it goes on with the one before, and is bounded. -/
structure Grows (cs : List RCV) (l l2 : List ByteArray) : Prop where
  pre : ∃ suf, l2 = l ++ suf
  bd : Bd cs l2

theorem Grows.nameL {cs : List RCV} {l l2 : List ByteArray} (h : Grows cs l l2) {c : RCV} {p : RLitV} (hc : c ∈ cs) (hp : p ∈ c.bl) : Grows cs l (nameL l2 p) := by
  obtain ⟨⟨suf, rfl⟩, hb⟩ := h
  obtain ⟨s2, h2⟩ := nameL_pre (l ++ suf) p
  exact ⟨⟨suf ++ s2, by rw [h2, List.append_assoc]⟩, nameL_bd hc hp hb⟩

theorem Grows.at {cs : List RCV} {l l2 : List ByteArray} (h : Grows cs l l2) {n : Nat} (hn : n < l.length) : ∃ h2 : n < l2.length, l2[n] = l[n] := by
  obtain ⟨⟨suf, rfl⟩, _⟩ := h
  exact ⟨by simp; omega, List.getElem_append_left hn⟩

theorem Grows.len {cs : List RCV} {l l2 : List ByteArray} (h : Grows cs l l2) : l.length ≤ l2.length ∧ l2.length ≤ 1 + (atomsOf cs).length := by
  obtain ⟨⟨suf, rfl⟩, hb⟩ := h
  unfold Bd at hb
  exact ⟨by simp, by omega⟩

set_option maxRecDepth 100000 in
set_option maxHeartbeats 3200000 in
theorem reaches_any (pb : Nat) (lv : Value) (cs : List RCV) (frm to : ByteArray) (w : World) (hP : Blk w pb [lv] 76) (hR : RowsIn w lv cs) (hlen : cs.length ≤ 1000000) (hbl : ∀ c ∈ cs, c.bl.length ≤ 1000000) (hat : (atomsOf cs).length ≤ 900000) :
    Calls Tryz.prog 85 #[.pointer (some ⟨pb, 0, none⟩), .string frm, .string to] w fun e w' => e = .returned (.bool (reachP cs frm to)) ∧ Kept [] w w' := by
  obtain ⟨i0, hi0, hz0, hz1, hz2⟩ := info_parts Tryz.info9
  obtain ⟨ad, cap, rfl⟩ := row_nil hR.row
  obtain ⟨R, hRR⟩ : ∃ R, reachP cs frm to = R := ⟨_, rfl⟩
  rw [hRR]
  have HR : Hid (RowsIn w (.slice ad cs.length cap) cs ∧ (∀ c ∈ cs, c.bl.length ≤ 1000000) ∧ reachP cs frm to = R) := ⟨hR, hbl, hRR⟩
  obtain ⟨A, hA⟩ : ∃ A, (atomsOf cs).length = A := ⟨_, rfl⟩
  rw [hA] at hat
  have HA := hide hA
  clear hR hbl hRR hA
  have hnot : ∀ (x : Bool) (w : World), (Op.unary .not (.bool x)).run Tryz.prog w = .ok (.bool (!x)) w := fun _ _ => rfl
  go_enter Tryz.func85, Tryz.ntmps85
  go_wp2
  go_loopg [7, 8] (1 + A) (fun gk o i wr => ∃ (n : Nat) (l : List ByteArray), i = .int .i64 n ∧ n ≤ l.length ∧ l.length ≤ 1 + A ∧ gk = 1 + A - n ∧ Hid (Bd cs l ∧ reachF (2 + A - n) cs to l n = R) ∧ wr.ownsRow w.heap.size 9 1 o l.length (l.flatMap strCell) ∧ Kept [] w wr)
  case atStart =>
    refine ⟨0, [frm], rfl, by simp, by simp, by simp, ⟨?_, ?_⟩, ?_, (Kept.refl _ _).alloc _⟩
    · unfold Bd missing
      have := List.countP_le_length (p := fun x => !hasB [frm] x) (l := atomsOf cs)
      simp only [List.length_cons, List.length_nil]
      omega
    · have h := HR.out.2.2; unfold reachP at h; rw [unhide HA] at h; exact h
    · exact ⟨rfl, Or.inr ⟨_, 1, #[.string frm], rfl, Nat.le_refl _, heap_alloc_new w _, by simp, by unfold maxLen; omega, rfl, by simp [strCell]⟩⟩
  case round =>
    obtain ⟨n, l, rfl, hn, hl, hgk, HB, hown, hK⟩ := hrel
    have HG : Hid (gk = 1 + A - n) := hgk
    clear hgk
    obtain ⟨ado, capo, rfl⟩ := row_nil hown
    by_cases hlt : n < l.length
    · obtain ⟨g, cap', he, hc, hcell⟩ := row_get hown (fun c _ => rfl) n hlt
      simp only [Value.slice.injEq] at he
      obtain ⟨rfl, _, rfl⟩ := he
      have d0 := hcell n hlt 0 (by omega)
      simp [strCell] at d0
      clear hcell
      obtain ⟨x, hx⟩ : ∃ x, l[n] = x := ⟨_, rfl⟩
      rw [hx] at d0
      cases hto : (x.toList == to.toList) with
      | true =>
        have HRt : Hid (R = true) := by
          have h := HB.out.2
          rw [show 2 + A - n = (1 + A - n) + 1 by omega, reachF, dif_pos hlt, hx, hto] at h
          exact h.symm
        clear hx
        go_wp2
        go_ret
        rw [HRt.out]
        exact ⟨rfl, hK⟩
      | false =>
        have HRn : Hid (reachF (2 + A - (n + 1)) cs to (stepP cs l x) (n + 1) = R ∧ l[n] = x) := by
          have h := HB.out.2
          rw [show 2 + A - n = (2 + A - (n + 1)) + 1 by omega, reachF, dif_pos hlt, hx, hto] at h
          exact ⟨h, hx⟩
        have HGr : Hid (Grows cs l l) := ⟨⟨[], by simp⟩, HB.out.1⟩
        clear hx HB
        go_wp2
        clear d0 hto
        go_loopw [7, 9] (fun o i wq => ∃ (k : Nat) (l2 : List ByteArray), i = .int .i64 k ∧ k ≤ cs.length ∧ Hid ((cs.take k).foldl (stepC x) l = l2 ∧ Grows cs l l2) ∧ wq.ownsRow w.heap.size 9 1 o l2.length (l2.flatMap strCell) ∧ Kept [] w wq) (fun _ i _ => cs.length - (intOf i).toNat)
        case atStart => exact ⟨0, l, rfl, Nat.zero_le _, ⟨by simp, HGr.out⟩, hown, hK⟩
        case round =>
          clear hown hK HGr
          obtain ⟨k, l2, rfl, hk, HM, hown2, hKq⟩ := hrel
          obtain ⟨ad2, cap2, rfl⟩ := row_nil hown2
          have hpc := (hP.kept hKq (by simp)).cell 0
          simp at hpc
          by_cases hlk : k < cs.length
          · have hRq := HR.out.1.kept hKq
            obtain ⟨gp, capp, hep, _, hcellp⟩ := row_get hRq.row (fun c _ => cvCells_len c) k hlk
            simp only [Value.slice.injEq] at hep
            obtain ⟨rfl, _, rfl⟩ := hep
            have hin := hRq.each cs[k] (List.getElem_mem hlk)
            have hbk := HR.out.2.1 cs[k] (List.getElem_mem hlk)
            obtain ⟨adb, capb, hbv⟩ := row_nil hin.body
            have HHB := hide hbv
            clear hcellp hRq hin hbv hpc
            have FACTS : Hid (∀ (wz : World) (o : Value) (l3 : List ByteArray), Kept [] w wz → wz.ownsRow w.heap.size 9 1 o l3.length (l3.flatMap strCell) → Grows cs l l3 →
                wz.cell? ⟨pb, 0, none⟩ = some (.slice (some ⟨gp, 0, none⟩) cs.length cap) ∧ wz.cell? ⟨gp, k * 5, none⟩ = some (.string cs[k].head.name) ∧ wz.cell? ⟨gp, k * 5 + 3, none⟩ = some (.slice adb cs[k].bl.length capb) ∧
                ∃ go co, o = .slice (some ⟨go, 0, none⟩) l3.length co ∧ n < l3.length ∧ wz.cell? ⟨go, n, none⟩ = some (.string x)) := by
              intro wz o l3 hkz hoz hgz
              have h1 := (hP.kept hkz (by simp)).cell 0
              have hRz := HR.out.1.kept hkz
              obtain ⟨g2, c2, he2, _, hcell2⟩ := row_get hRz.row (fun c _ => cvCells_len c) k hlk
              simp only [Value.slice.injEq, Option.some.injEq, Addr.mk.injEq] at he2
              obtain ⟨⟨rfl, _, _⟩, _, rfl⟩ := he2
              have h2 := hcell2 k hlk 0 (by omega)
              have h3 := hcell2 k hlk 3 (by omega)
              simp [cvCells] at h1 h2 h3
              rw [unhide HHB] at h3
              obtain ⟨hn3, hx3⟩ := hgz.at hlt
              obtain ⟨go, co, heo, _, hcello⟩ := row_get hoz (fun c _ => rfl) n hn3
              have h4 := hcello n hn3 0 (by omega)
              simp [strCell] at h4
              rw [hx3, HRn.out.2] at h4
              exact ⟨h1, h2, h3, go, co, heo, hn3, h4⟩
            cases hnm : (cs[k].head.name.toList == x.toList) with
            | false =>
              have HZ : Hid ((cs.take (k + 1)).foldl (stepC x) l = l2 ∧ Grows cs l l2) := ⟨by rw [foldl_take _ _ hlk, HM.out.1]; simp [stepC, hnm], HM.out.2⟩
              obtain ⟨f1, f2, f3, go, co, heo, hn3, f4⟩ := FACTS.out _ _ _ hKq hown2 HZ.out.2
              simp only [Value.slice.injEq] at heo
              obtain ⟨rfl, _, rfl⟩ := heo
              clear FACTS
              have hlk' : (k : Int) < (cs.length : Int) := by omega
              have hn3' : (n : Int) < (l2.length : Int) := by omega
              go_wp2
              go_loopw [7, 10] (fun o i wq => o = .slice (some ⟨go, 0, none⟩) l2.length cap2 ∧ i = .int .i64 0 ∧ ∃ q, wq = wr.drewN q) (fun _ _ _ => 0)
              case atStart => exact ⟨rfl, rfl, 0, rfl⟩
              case round =>
                obtain ⟨rfl, rfl, q, rfl⟩ := hrel
                go_wp2_with fail
                go_quiet (fail)
                go_wp2_with fail
                go_roundw
                case rel => exact ⟨k + 1, l2, by go_num, by omega, HZ, ownsRow_drewN hown2 _, hKq.drewN _⟩
                case measure => simp [intOf]; omega
            | true =>
              have HZ0 : Hid ((cs.take (k + 1)).foldl (stepC x) l = cs[k].bl.foldl nameL l2) := by show _ = _; rw [foldl_take _ _ hlk, HM.out.1]; simp [stepC, hnm]
              have HG2 := hide HM.out.2
              have hlk' : (k : Int) < (cs.length : Int) := by omega
              obtain ⟨f1, _⟩ := FACTS.out _ _ _ hKq hown2 (unhide HG2)
              go_wp2
              clear f1
              go_loopw [7, 10] (fun o i wq => ∃ (m : Nat) (l3 : List ByteArray), i = .int .i64 m ∧ m ≤ cs[k].bl.length ∧ Hid ((cs[k].bl.take m).foldl nameL l2 = l3 ∧ Grows cs l l3) ∧ wq.ownsRow w.heap.size 9 1 o l3.length (l3.flatMap strCell) ∧ Kept [] w wq) (fun _ i _ => cs[k].bl.length - (intOf i).toNat)
              case atStart => exact ⟨0, l2, rfl, Nat.zero_le _, ⟨by simp, unhide HG2⟩, hown2, hKq⟩
              case round =>
                clear hown2
                have HKq := hide hKq
                clear hKq
                obtain ⟨m, l3, rfl, hm, HN, hown3, hK3⟩ := hrel
                obtain ⟨f1, f2, f3, go, co, heo, hn3, f4⟩ := FACTS.out _ _ _ hK3 hown3 HN.out.2
                subst heo
                have hn3' : (n : Int) < (l3.length : Int) := by omega
                have hl3 : l3.length ≤ 1 + A := by have := HN.out.2.len.2; rw [unhide HA] at this; exact this
                have hsz3 := hK3.size
                by_cases hlm : m < cs[k].bl.length
                · have hlm' : (m : Int) < (cs[k].bl.length : Int) := by omega
                  have hdm : decide ((m : Int) < (cs[k].bl.length : Int)) = true := by simp; omega
                  have hin := (HR.out.1.kept hK3).each cs[k] (List.getElem_mem hlk)
                  obtain ⟨gb, capb', heb, hcb, hcellb⟩ := row_get hin.body (fun c _ => litvCells_len c) m hlm
                  rw [unhide HHB] at heb
                  simp only [Value.slice.injEq] at heb
                  obtain ⟨rfl, _, rfl⟩ := heb
                  have hl := hin.lits cs[k].bl[m] (List.getElem_mem hlm)
                  obtain ⟨ada, capa, hav⟩ := row_nil hl
                  have d0 := hcellb m hlm 0 (by omega)
                  have d1 := hcellb m hlm 1 (by omega)
                  have d2 := hcellb m hlm 2 (by omega)
                  have d3 := hcellb m hlm 3 (by omega)
                  have d4 := hcellb m hlm 4 (by omega)
                  have d5 := hcellb m hlm 5 (by omega)
                  have d6 := hcellb m hlm 6 (by omega)
                  have d7 := hcellb m hlm 7 (by omega)
                  have d8 := hcellb m hlm 8 (by omega)
                  simp [litvCells, litVal] at d0 d1 d2 d3 d4 d5 d6 d7 d8
                  rw [hav] at d2
                  have HD : Hid (wr.cell? ⟨gb, m * 9, none⟩ = some (.int .u8 cs[k].bl[m].1.kind.toNat) ∧ wr.cell? ⟨gb, m * 9 + 1, none⟩ = some (.string cs[k].bl[m].1.A.name) ∧ wr.cell? ⟨gb, m * 9 + 2, none⟩ = some (.slice ada cs[k].bl[m].1.A.args.length capa) ∧ wr.cell? ⟨gb, m * 9 + 3, none⟩ = some (.int .i64 cs[k].bl[m].1.A.at_) ∧ wr.cell? ⟨gb, m * 9 + 4, none⟩ = some (.int .u8 cs[k].bl[m].1.L.v.toNat) ∧ wr.cell? ⟨gb, m * 9 + 5, none⟩ = some (.string cs[k].bl[m].1.L.s) ∧ wr.cell? ⟨gb, m * 9 + 6, none⟩ = some (.int .u8 cs[k].bl[m].1.R.v.toNat) ∧ wr.cell? ⟨gb, m * 9 + 7, none⟩ = some (.string cs[k].bl[m].1.R.s) ∧ wr.cell? ⟨gb, m * 9 + 8, none⟩ = some (.int .i64 cs[k].bl[m].1.at_)) := ⟨d0, d1, d2, d3, d4, d5, d6, d7, d8⟩
                  have HS : Hid ((cs[k].bl.take (m + 1)).foldl nameL l2 = nameL l3 cs[k].bl[m] ∧ Grows cs l (nameL l3 cs[k].bl[m])) := ⟨by rw [foldl_take _ _ hlm, HN.out.1], HN.out.2.nameL (List.getElem_mem hlk) (List.getElem_mem hlm)⟩
                  clear hcellb hl hav hin d0 d1 d2 d3 d4 d5 d6 d7 d8 FACTS
                  go_wp2_with fail
                  go_quiet (fail)
                  have hown4 := ownsRow_drewN hown3 nq
                  have hK4 := hK3.drewN nq
                  have FF : (wr.drewN nq).cell? ⟨pb, 0, none⟩ = some (.slice (some ⟨gp, 0, none⟩) cs.length cap) ∧ (wr.drewN nq).cell? ⟨gp, k * 5 + 3, none⟩ = some (.slice (some ⟨gb, 0, none⟩) cs[k].bl.length capb) ∧ (wr.drewN nq).cell? ⟨gb, m * 9, none⟩ = some (.int .u8 cs[k].bl[m].1.kind.toNat) ∧ (wr.drewN nq).cell? ⟨gb, m * 9 + 1, none⟩ = some (.string cs[k].bl[m].1.A.name) ∧ (wr.drewN nq).cell? ⟨gb, m * 9 + 2, none⟩ = some (.slice ada cs[k].bl[m].1.A.args.length capa) ∧ (wr.drewN nq).cell? ⟨gb, m * 9 + 3, none⟩ = some (.int .i64 cs[k].bl[m].1.A.at_) ∧ (wr.drewN nq).cell? ⟨gb, m * 9 + 4, none⟩ = some (.int .u8 cs[k].bl[m].1.L.v.toNat) ∧ (wr.drewN nq).cell? ⟨gb, m * 9 + 5, none⟩ = some (.string cs[k].bl[m].1.L.s) ∧ (wr.drewN nq).cell? ⟨gb, m * 9 + 6, none⟩ = some (.int .u8 cs[k].bl[m].1.R.v.toNat) ∧ (wr.drewN nq).cell? ⟨gb, m * 9 + 7, none⟩ = some (.string cs[k].bl[m].1.R.s) ∧ (wr.drewN nq).cell? ⟨gb, m * 9 + 8, none⟩ = some (.int .i64 cs[k].bl[m].1.at_) := ⟨f1, f3, HD.out⟩
                  clear HD f1 f2 f3 f4 hown3 hK3 hsz3
                  generalize wr.drewN nq = wd at FF hown4 hK4 ⊢
                  obtain ⟨f1, f3, d0, d1, d2, d3, d4, d5, d6, d7, d8⟩ := FF
                  have hsz4 := hK4.size
                  have hAL := hown4.alloc (.cells #[.int .u8 cs[k].bl[m].1.kind.toNat, .string cs[k].bl[m].1.A.name, .slice ada cs[k].bl[m].1.A.args.length capa, .int .i64 cs[k].bl[m].1.A.at_, .int .u8 cs[k].bl[m].1.L.v.toNat, .string cs[k].bl[m].1.L.s, .int .u8 cs[k].bl[m].1.R.v.toNat, .string cs[k].bl[m].1.R.s, .int .i64 cs[k].bl[m].1.at_] 95)
                  rcases kind_cases cs[k].bl[m] with ⟨k1, k3⟩ | ⟨k1, k2, k3⟩ | ⟨k1, k2, k3⟩
                  · cases hh2 : hasB l3 cs[k].bl[m].1.A.name with
                    | true =>
                      have e : nameL l3 cs[k].bl[m] = l3 := by simp [nameL, nameT, k3, hh2]
                      have HS' : Hid ((cs[k].bl.take (m + 1)).foldl nameL l2 = l3 ∧ Grows cs l l3) := by have h := HS.out; rw [e] at h; exact h
                      clear e
                      clear HS k3
                      go_wp2_with fail
                      refine (has_any _ l3 cs[k].bl[m].1.A.name w.heap.size _ hAL (by omega)).mono ?_
                      rintro e w0 ⟨rfl, hw0⟩
                      rw [hh2, hw0]
                      clear hw0 w0 hh2
                      go_wp2
                      go_roundw
                      case rel => exact ⟨m + 1, l3, by go_num, by omega, HS', hAL, hK4.alloc _⟩
                      case measure => simp [intOf]; omega
                    | false =>
                      have e : nameL l3 cs[k].bl[m] = l3 ++ [cs[k].bl[m].1.A.name] := by simp [nameL, nameT, k3, hh2]
                      have HS' : Hid ((cs[k].bl.take (m + 1)).foldl nameL l2 = l3 ++ [cs[k].bl[m].1.A.name] ∧ Grows cs l (l3 ++ [cs[k].bl[m].1.A.name])) := by have h := HS.out; rw [e] at h; exact h
                      clear e
                      clear HS k3
                      go_wp2_with fail
                      refine (has_any _ l3 cs[k].bl[m].1.A.name w.heap.size _ hAL (by omega)).mono ?_
                      rintro e w0 ⟨rfl, hw0⟩
                      rw [hh2, hw0]
                      clear hw0 w0 hh2
                      go_wp2_with (at_builtin; refine wpList_append_lies _ rfl (.tmp 91) (.tmp 95) _ rfl w.heap.size 9 i0 _ 1 16 Tryz.underlying41 hi0 hz0 hz1 hz2 rfl (by omega) (.slice (some ⟨go, 0, none⟩) l3.length co) l3.length (l3.flatMap strCell) rfl (hAL.alloc _) ⟨wd.heap.size + 1, 0, none⟩ 1 1 [.string cs[k].bl[m].1.A.name] rfl rfl (news_two wd _ _ _ _ rfl) (by simp [Value.oneCell']) (by omega) (by unfold maxLen; omega) (by omega) (by simp; omega) (wd.heap.size + 2) (by simp) ?_; intro g5 cp5 w5 ho5 hg5 ha5 hl5)
                      have hKn : Kept [] w w5 := ((hK4.alloc _).alloc _).grown hg5 (fun q hq => Or.inr (hown4.lt q hq).1)
                      clear hg5 ha5 hl5
                      go_wp2
                      go_roundw
                      case rel =>
                        refine ⟨m + 1, l3 ++ [cs[k].bl[m].1.A.name], by go_num, by omega, HS', ?_, hKn⟩
                        simpa [strCell] using ho5
                      case measure => simp [intOf]; omega
                  · cases hh2 : hasB l3 cs[k].bl[m].1.A.name with
                    | true =>
                      have e : nameL l3 cs[k].bl[m] = l3 := by simp [nameL, nameT, k3, hh2]
                      have HS' : Hid ((cs[k].bl.take (m + 1)).foldl nameL l2 = l3 ∧ Grows cs l l3) := by have h := HS.out; rw [e] at h; exact h
                      clear e
                      clear HS k3
                      go_wp2_with fail
                      refine (has_any _ l3 cs[k].bl[m].1.A.name w.heap.size _ hAL (by omega)).mono ?_
                      rintro e w0 ⟨rfl, hw0⟩
                      rw [hh2, hw0]
                      clear hw0 w0 hh2
                      go_wp2
                      go_roundw
                      case rel => exact ⟨m + 1, l3, by go_num, by omega, HS', hAL, hK4.alloc _⟩
                      case measure => simp [intOf]; omega
                    | false =>
                      have e : nameL l3 cs[k].bl[m] = l3 ++ [cs[k].bl[m].1.A.name] := by simp [nameL, nameT, k3, hh2]
                      have HS' : Hid ((cs[k].bl.take (m + 1)).foldl nameL l2 = l3 ++ [cs[k].bl[m].1.A.name] ∧ Grows cs l (l3 ++ [cs[k].bl[m].1.A.name])) := by have h := HS.out; rw [e] at h; exact h
                      clear e
                      clear HS k3
                      go_wp2_with fail
                      refine (has_any _ l3 cs[k].bl[m].1.A.name w.heap.size _ hAL (by omega)).mono ?_
                      rintro e w0 ⟨rfl, hw0⟩
                      rw [hh2, hw0]
                      clear hw0 w0 hh2
                      go_wp2_with (at_builtin; refine wpList_append_lies _ rfl (.tmp 91) (.tmp 95) _ rfl w.heap.size 9 i0 _ 1 16 Tryz.underlying41 hi0 hz0 hz1 hz2 rfl (by omega) (.slice (some ⟨go, 0, none⟩) l3.length co) l3.length (l3.flatMap strCell) rfl (hAL.alloc _) ⟨wd.heap.size + 1, 0, none⟩ 1 1 [.string cs[k].bl[m].1.A.name] rfl rfl (news_two wd _ _ _ _ rfl) (by simp [Value.oneCell']) (by omega) (by unfold maxLen; omega) (by omega) (by simp; omega) (wd.heap.size + 2) (by simp) ?_; intro g5 cp5 w5 ho5 hg5 ha5 hl5)
                      have hKn : Kept [] w w5 := ((hK4.alloc _).alloc _).grown hg5 (fun q hq => Or.inr (hown4.lt q hq).1)
                      clear hg5 ha5 hl5
                      go_wp2
                      go_roundw
                      case rel =>
                        refine ⟨m + 1, l3 ++ [cs[k].bl[m].1.A.name], by go_num, by omega, HS', ?_, hKn⟩
                        simpa [strCell] using ho5
                      case measure => simp [intOf]; omega
                  · have e : nameL l3 cs[k].bl[m] = l3 := by simp [nameL, k3]
                    have HS' : Hid ((cs[k].bl.take (m + 1)).foldl nameL l2 = l3 ∧ Grows cs l l3) := by have h := HS.out; rw [e] at h; exact h
                    clear e
                    clear HS k3
                    go_wp2
                    go_roundw
                    case rel => exact ⟨m + 1, l3, by go_num, by omega, HS', hAL, hK4.alloc _⟩
                    case measure => simp [intOf]; omega
                · have hdm : decide ((m : Int) < (cs[k].bl.length : Int)) = false := by simp; omega
                  have hdN : decide (m < cs[k].bl.length) = false := by simp; omega
                  have HZ : Hid ((cs.take (k + 1)).foldl (stepC x) l = l3 ∧ Grows cs l l3) := by
                    have h := HN.out
                    rw [List.take_of_length_le (by omega)] at h
                    exact ⟨by rw [unhide HZ0]; exact h.1, h.2⟩
                  clear FACTS
                  go_wp2_with fail
                  go_quiet (fail)
                  go_wp2_with fail
                  go_roundw
                  case rel => exact ⟨k + 1, l3, by go_num, by omega, HZ, ownsRow_drewN hown3 _, hK3.drewN _⟩
                  case measure => simp [intOf]; omega
          · have HZ : Hid (stepP cs l x = l2 ∧ Grows cs l l2) := by have h := HM.out; rw [List.take_of_length_le (by omega)] at h; exact h
            have hz1 : n + 1 ≤ l2.length := by have := HZ.out.2.len.1; omega
            have hz2 : l2.length ≤ 1 + A := by have := HZ.out.2.len.2; rw [unhide HA] at this; exact this
            go_wp2
            go_roundg (1 + A - (n + 1))
            case measure => have := HG.out; omega
            case rel => exact ⟨n + 1, l2, by go_num, hz1, hz2, rfl, ⟨HZ.out.2.bd, by rw [← HZ.out.1]; exact HRn.out.1⟩, hown2, hKq⟩
    · have HRf : Hid (R = false) := by
        have h := HB.out.2
        rw [show 2 + A - n = (1 + A - n) + 1 by omega, reachF, dif_neg hlt] at h
        exact h.symm
      go_wp2
      go_ret
      rw [HRf.out]
      exact ⟨rfl, hK⟩

end Go.Proofs.YtoihbhenbmffcaaGreatDoor

namespace Go.Proofs.YtoihbhenbmffcaaGreatDoor
open Go.RowKit

def manyArgs (p : RLitV) : Bool := decide (2 < p.1.A.args.length)
def otherArity (cs : List RCV) (p : RLitV) : Bool := isA p && (arityP cs p.1.A.name != (p.1.A.args.length : Int))

/-- The error of a clause's own, and its place. -/
def soundC (cs : List RCV) (i : Nat) (c : RCV) : Option (Int × Int) :=
  if 12 ≤ i ∨ 3 < c.bl.length then some (3, c.at_)
  else if 2 < c.head.args.length then some (3, c.at_)
  else if c.bl.any manyArgs then some (3, c.at_)
  else if 6 < (namesP (cs.take (i + 1))).length ∨ 6 < (thingsP (cs.take (i + 1))).length then some (3, c.at_)
  else if arityP cs c.head.name ≠ (c.head.args.length : Int) then some (4, c.head.at_)
  else match c.bl.find? (otherArity cs) with
    | some p => some (4, p.1.A.at_)
    | none => if 0 ≤ safeP c.head c.bl then some (5, safeP c.head c.bl) else none

def soundL (cs : List RCV) : Nat → List RCV → Option (Int × Int)
  | _, [] => none
  | i, c :: l => match soundC cs i c with
    | some r => some r
    | none => soundL cs (i + 1) l

def strataL (cs : List RCV) (c : RCV) (p : RLitV) : Bool := p.1.kind == 33 && reachP cs p.1.A.name c.head.name
def strataC (cs : List RCV) (c : RCV) : Option (Int × Int) := (c.bl.find? (strataL cs c)).map fun p => (6, (p.1.at_ : Int))

def soundP (cs : List RCV) : Int × Int := match soundL cs 0 cs with
  | some r => r
  | none => match cs.findSome? (strataC cs) with
    | some r => r
    | none => (0, 0)

theorem soundL_skip {cs : List RCV} : ∀ (l : List RCV) (i k : Nat), (∀ j (hj : j < l.length), j < k → soundC cs (i + j) l[j] = none) → k ≤ l.length → soundL cs i l = soundL cs (i + k) (l.drop k)
  | l, i, 0, _, _ => by simp
  | [], i, k + 1, _, hk => by simp at hk
  | c :: l, i, k + 1, h, hk => by
    have h0 := h 0 (by simp) (by omega)
    simp only [Nat.add_zero, List.getElem_cons_zero] at h0
    rw [soundL, h0]
    simp only [List.drop_succ_cons]
    rw [soundL_skip l (i + 1) k (fun j hj hjk => by
      have := h (j + 1) (by simp; omega) (by omega)
      simp only [List.getElem_cons_succ] at this
      rw [show i + 1 + j = i + (j + 1) by omega]; exact this) (by simpa using hk)]
    rw [show i + 1 + k = i + (k + 1) by omega]

theorem soundP_hit {cs : List RCV} {k : Nat} (hk : k < cs.length) (h0 : ∀ j (hj : j < cs.length), j < k → soundC cs j cs[j] = none) {r : Int × Int} (hr : soundC cs k cs[k] = some r) : soundP cs = r := by
  unfold soundP
  rw [soundL_skip cs 0 k (fun j hj hjk => by rw [Nat.zero_add]; exact h0 j hj hjk) (by omega), List.drop_eq_getElem_cons hk, Nat.zero_add, soundL, hr]

theorem soundP_none {cs : List RCV} (h0 : ∀ j (hj : j < cs.length), soundC cs j cs[j] = none) : soundP cs = match cs.findSome? (strataC cs) with | some r => r | none => (0, 0) := by
  unfold soundP
  rw [soundL_skip cs 0 cs.length (fun j hj _ => by rw [Nat.zero_add]; exact h0 j hj) (Nat.le_refl _), List.drop_length, soundL]

/-- What stands ahead of a clause that is looked at is small. -/
theorem soundC_small {cs : List RCV} {i : Nat} {c : RCV} (h : soundC cs i c = none) : i < 12 ∧ SmallC c := by
  unfold soundC at h
  split at h
  · cases h
  · rename_i h1
    split at h
    · cases h
    · rename_i h2
      split at h
      · cases h
      · rename_i h3
        refine ⟨by omega, ⟨by omega, by omega, fun p hp => ?_⟩⟩
        have : manyArgs p = false := by
          cases hm : manyArgs p with
          | false => rfl
          | true => exact absurd (by rw [List.any_eq_true]; exact ⟨p, hp, hm⟩) h3
        simpa [manyArgs] using this

theorem RowsIn.take {w : World} {g : Nat} {cap : Nat} {cs : List RCV} (h : RowsIn w (.slice (some ⟨g, 0, none⟩) cs.length cap) cs) (k : Nat) (hk : k ≤ cs.length) : RowsIn w (.slice (some ⟨g, 0, none⟩) k cap) (cs.take k) := by
  refine ⟨?_, fun c hc => h.each c (List.mem_of_mem_take hc)⟩
  have hl : (cs.take k).length = k := by simp; omega
  rw [hl]
  have hfl : ∀ (l : List RCV), (l.flatMap cvCells).length = l.length * 5 := by
    intro l
    induction l with
    | nil => rfl
    | cons a l ih => rw [List.flatMap_cons, List.length_append, ih, cvCells_len, List.length_cons]; omega
  rcases h.row.2 with ⟨he, _⟩ | ⟨g', cap', cur, he, _, hg, hc, hm, hsz, ht⟩
  · cases he
  · simp only [Value.slice.injEq, Option.some.injEq, Addr.mk.injEq] at he
    obtain ⟨⟨rfl, _, _⟩, _, rfl⟩ := he
    refine ⟨by rw [hfl, hl], Or.inr ⟨g, cap, cur, rfl, Nat.zero_le _, hg, by omega, hm, hsz, ?_⟩⟩
    have e : cs.flatMap cvCells = (cs.take k).flatMap cvCells ++ (cs.drop k).flatMap cvCells := by rw [← List.flatMap_append, List.take_append_drop]
    have h1 : cur.toList.take (k * 5) = (cur.toList.take (cs.length * 5)).take (k * 5) := by rw [List.take_take, Nat.min_eq_left (by omega)]
    rw [h1, ht, e, List.take_append_of_le_length (by rw [hfl, hl]; omega), List.take_of_length_le (by rw [hfl, hl]; omega)]

structure Fits (cs : List RCV) : Prop where
  len : cs.length ≤ 1000
  body : ∀ c ∈ cs, c.bl.length ≤ 1000
  head : ∀ c ∈ cs, c.head.args.length ≤ 1000000
  lits : ∀ c ∈ cs, ∀ p ∈ c.bl, p.1.A.args.length ≤ 1000000
  atoms : (atomsOf cs).length ≤ 900000
  full : ∀ c ∈ cs, FullC c

/-- The cells of the clause that is looked at, in whatever world. -/
theorem rows_at {w wz : World} {g cap : Nat} {cs : List RCV} (h : RowsIn w (.slice (some ⟨g, 0, none⟩) cs.length cap) cs) (hK : Kept [] w wz) {k : Nat} (hk : k < cs.length) :
    wz.cell? ⟨g, k * 5, none⟩ = some (.string cs[k].head.name) ∧ wz.cell? ⟨g, k * 5 + 1, none⟩ = some cs[k].hv ∧ wz.cell? ⟨g, k * 5 + 2, none⟩ = some (.int .i64 cs[k].head.at_) ∧ wz.cell? ⟨g, k * 5 + 3, none⟩ = some cs[k].bv ∧ wz.cell? ⟨g, k * 5 + 4, none⟩ = some (.int .i64 cs[k].at_) := by
  have hRq := h.kept hK
  obtain ⟨g2, c2, he2, _, hc⟩ := row_get hRq.row (fun c _ => cvCells_len c) k hk
  simp only [Value.slice.injEq, Option.some.injEq, Addr.mk.injEq] at he2
  obtain ⟨⟨rfl, _, _⟩, _, rfl⟩ := he2
  have h0 := hc k hk 0 (by omega)
  have h1 := hc k hk 1 (by omega)
  have h2 := hc k hk 2 (by omega)
  have h3 := hc k hk 3 (by omega)
  have h4 := hc k hk 4 (by omega)
  simp [cvCells] at h0 h1 h2 h3 h4
  exact ⟨h0, h1, h2, h3, h4⟩

theorem lits_at {w : World} {c : RCV} (h : CvIn w c) {m : Nat} (hm : m < c.bl.length) : ∃ gb capb, c.bv = .slice (some ⟨gb, 0, none⟩) c.bl.length capb ∧
    w.cell? ⟨gb, m * 9, none⟩ = some (.int .u8 c.bl[m].1.kind.toNat) ∧ w.cell? ⟨gb, m * 9 + 1, none⟩ = some (.string c.bl[m].1.A.name) ∧ w.cell? ⟨gb, m * 9 + 2, none⟩ = some c.bl[m].2 ∧ w.cell? ⟨gb, m * 9 + 3, none⟩ = some (.int .i64 c.bl[m].1.A.at_) ∧
    w.cell? ⟨gb, m * 9 + 4, none⟩ = some (.int .u8 c.bl[m].1.L.v.toNat) ∧ w.cell? ⟨gb, m * 9 + 5, none⟩ = some (.string c.bl[m].1.L.s) ∧ w.cell? ⟨gb, m * 9 + 6, none⟩ = some (.int .u8 c.bl[m].1.R.v.toNat) ∧ w.cell? ⟨gb, m * 9 + 7, none⟩ = some (.string c.bl[m].1.R.s) ∧ w.cell? ⟨gb, m * 9 + 8, none⟩ = some (.int .i64 c.bl[m].1.at_) := by
  obtain ⟨gb, capb, he, _, hc⟩ := row_get h.body (fun p _ => litvCells_len p) m hm
  have d0 := hc m hm 0 (by omega)
  have d1 := hc m hm 1 (by omega)
  have d2 := hc m hm 2 (by omega)
  have d3 := hc m hm 3 (by omega)
  have d4 := hc m hm 4 (by omega)
  have d5 := hc m hm 5 (by omega)
  have d6 := hc m hm 6 (by omega)
  have d7 := hc m hm 7 (by omega)
  have d8 := hc m hm 8 (by omega)
  simp [litvCells, litVal] at d0 d1 d2 d3 d4 d5 d6 d7 d8
  exact ⟨gb, capb, he, d0, d1, d2, d3, d4, d5, d6, d7, d8⟩

end Go.Proofs.YtoihbhenbmffcaaGreatDoor
