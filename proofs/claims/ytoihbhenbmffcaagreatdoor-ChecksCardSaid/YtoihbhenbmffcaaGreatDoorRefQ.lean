import Derived.Test.YtoihbhenbmffcaaGreatDoorRefP
set_option linter.unusedVariables false
set_option linter.unusedSimpArgs false

namespace Go.Proofs.YtoihbhenbmffcaaGreatDoor
open Go.RowKit

def hasB (l : List ByteArray) (x : ByteArray) : Bool := l.any fun y => y.toList == x.toList

theorem hasB_snoc (l : List ByteArray) (y x : ByteArray) : hasB (l ++ [y]) x = (hasB l x || (y.toList == x.toList)) := by simp [hasB, List.any_append]

theorem hasB_take {l : List ByteArray} {k : Nat} (hk : k < l.length) (x : ByteArray) : hasB (l.take (k + 1)) x = (hasB (l.take k) x || (l[k].toList == x.toList)) := by
  rw [List.take_succ_eq_append_getElem hk, hasB_snoc]

theorem hasB_mem {l : List ByteArray} {k : Nat} (hk : k < l.length) {x : ByteArray} (h : (l[k].toList == x.toList) = true) : hasB l x = true := by
  unfold hasB; rw [List.any_eq_true]; exact ⟨l[k], List.getElem_mem hk, h⟩

set_option maxHeartbeats 400000 in
theorem has_any (lv : Value) (l : List ByteArray) (x : ByteArray) (base : Nat) (w : World) (hl : w.ownsRow base 9 1 lv l.length (l.flatMap strCell)) (hlen : l.length ≤ 1000000) :
    Calls Tryz.prog 50 #[lv, .string x] w fun e w' => e = .returned (.bool (hasB l x)) ∧ w' = w := by
  obtain ⟨ad, cap, rfl⟩ := row_nil hl
  go_enter Tryz.func50, Tryz.ntmps50
  go_wp2
  go_loop [5] (fun i => ∃ k : Nat, i = .int .i64 k ∧ k ≤ l.length ∧ Hid (hasB (l.take k) x = false)) (fun i => l.length - (intOf i).toNat)
  case atStart => exact ⟨0, rfl, Nat.zero_le _, by show _ = _; simp [hasB]⟩
  case round =>
    obtain ⟨k, rfl, hk, HC⟩ := hrel
    by_cases hlt : k < l.length
    · obtain ⟨g, cap', he, hc, hcell⟩ := row_get hl (by simp [strCell]) k hlt
      simp only [Value.slice.injEq] at he
      obtain ⟨rfl, _, rfl⟩ := he
      have hc0 := hcell k hlt 0 (by omega)
      simp [strCell] at hc0
      clear hcell
      have HT : Hid ((l[k].toList == x.toList) = true → hasB l x = true) := hasB_mem hlt
      have HN : Hid ((l[k].toList == x.toList) = false → hasB (l.take (k + 1)) x = false) := by
        intro h; rw [hasB_take hlt, HC.out, h]; rfl
      go_wp2
      · go_ret
        rw [HT.out (by assumption)]
        exact ⟨rfl, rfl⟩
      · go_round
        case rel => exact ⟨k + 1, by go_num, by omega, HN.out (by assumption)⟩
        case measure => simp [intOf]; omega
    · have HE : Hid (hasB l x = false) := by have := HC.out; rwa [List.take_of_length_le (by omega)] at this
      go_wp2
      go_ret
      rw [HE.out]
      exact ⟨rfl, rfl⟩

end Go.Proofs.YtoihbhenbmffcaaGreatDoor

namespace Go.Proofs.YtoihbhenbmffcaaGreatDoor
open Go.RowKit

/-- A clause as it lies in memory. -/
structure RCV where
  head : RAtom
  hv : Value
  bv : Value
  bl : List RLitV
  at_ : Nat

def cvCells (c : RCV) : List Value := [.string c.head.name, c.hv, .int .i64 c.head.at_, c.bv, .int .i64 c.at_]
def litvCells (p : RLitV) : List Value := litVal p.1 p.2
theorem cvCells_len (c : RCV) : (cvCells c).length = 5 := rfl
theorem litvCells_len (p : RLitV) : (litvCells p).length = 9 := rfl
theorem termVal_len (t : RTerm) : (termVal t).length = 2 := rfl

structure CvIn (w : World) (c : RCV) : Prop where
  args : w.ownsRow 0 93 2 c.hv c.head.args.length (c.head.args.flatMap termVal)
  body : w.ownsRow 0 95 9 c.bv c.bl.length (c.bl.flatMap litvCells)
  lits : ∀ p ∈ c.bl, LitIn w 0 p

structure RowsIn (w : World) (lv : Value) (cs : List RCV) : Prop where
  row : w.ownsRow 0 82 5 lv cs.length (cs.flatMap cvCells)
  each : ∀ c ∈ cs, CvIn w c

theorem CvIn.kept {w w' : World} {c : RCV} (h : CvIn w c) (k : Kept [] w w') : CvIn w' c :=
  ⟨ownsRow_kept h.args k (by simp), ownsRow_kept h.body k (by simp), fun p hp => ownsRow_kept (h.lits p hp) k (by simp)⟩
theorem RowsIn.kept {w w' : World} {lv : Value} {cs : List RCV} (h : RowsIn w lv cs) (k : Kept [] w w') : RowsIn w' lv cs :=
  ⟨ownsRow_kept h.row k (by simp), fun c hc => (h.each c hc).kept k⟩

/-- Is the literal over an atom? -/
def isA (p : RLitV) : Bool := p.1.kind == 97 || p.1.kind == 33

def arityL (bl : List RLitV) (x : ByteArray) : Option Nat := bl.findSome? fun p => if isA p && (p.1.A.name.toList == x.toList) then some p.1.A.args.length else none
def arityC (c : RCV) (x : ByteArray) : Option Nat := if c.head.name.toList == x.toList then some c.head.args.length else arityL c.bl x
def arityP (cs : List RCV) (x : ByteArray) : Int := match cs.findSome? (arityC · x) with | some n => n | none => -1

theorem findSome_take {α β : Type} (f : α → Option β) (l : List α) (k : Nat) (hk : k < l.length) (h0 : (l.take k).findSome? f = none) : (l.take (k + 1)).findSome? f = f l[k] := by
  rw [List.take_succ_eq_append_getElem hk, List.findSome?_append, h0]
  simp
theorem findSome_hit {α β : Type} (f : α → Option β) (l : List α) (k : Nat) (hk : k < l.length) (h0 : (l.take k).findSome? f = none) {b : β} (hb : f l[k] = some b) : l.findSome? f = some b := by
  have h := findSome_take f l k hk h0
  rw [hb] at h
  have e : l = l.take (k + 1) ++ l.drop (k + 1) := (List.take_append_drop _ _).symm
  rw [e, List.findSome?_append, h]
  rfl

/-- The tests on a literal's kind, in the walk's form. -/
theorem kind_cases (p : RLitV) : (((p.1.kind.toNat : Int) == 97) = true ∧ isA p = true) ∨ (((p.1.kind.toNat : Int) == 97) = false ∧ ((p.1.kind.toNat : Int) == 33) = true ∧ isA p = true) ∨
    (((p.1.kind.toNat : Int) == 97) = false ∧ ((p.1.kind.toNat : Int) == 33) = false ∧ isA p = false) := by
  have e1 : ((p.1.kind.toNat : Int) == 97) = (p.1.kind == 97) := byte_eq _ 97
  have e2 : ((p.1.kind.toNat : Int) == 33) = (p.1.kind == 33) := byte_eq _ 33
  rw [e1, e2]
  unfold isA
  cases (p.1.kind == 97) <;> cases (p.1.kind == 33) <;> simp

set_option maxRecDepth 100000 in
set_option maxHeartbeats 1600000 in
theorem arity_any (pb : Nat) (lv : Value) (cs : List RCV) (x : ByteArray) (w : World) (hP : Blk w pb [lv] 76) (hR : RowsIn w lv cs) (hlen : cs.length ≤ 1000000) (hbl : ∀ c ∈ cs, c.bl.length ≤ 1000000) :
    Calls Tryz.prog 23 #[.pointer (some ⟨pb, 0, none⟩), .string x] w fun e w' => e = .returned (.int .i64 (arityP cs x)) ∧ Kept [] w w' := by
  obtain ⟨ad, cap, rfl⟩ := row_nil hR.row
  have HR : Hid (RowsIn w (.slice ad cs.length cap) cs ∧ ∀ c ∈ cs, c.bl.length ≤ 1000000) := ⟨hR, hbl⟩
  clear hR hbl
  go_enter Tryz.func23, Tryz.ntmps23
  go_wp2
  go_loopw [5] (fun i wr => ∃ k : Nat, i = .int .i64 k ∧ k ≤ cs.length ∧ Hid ((cs.take k).findSome? (arityC · x) = none) ∧ Kept [] w wr) (fun i _ => cs.length - (intOf i).toNat)
  case atStart => exact ⟨0, rfl, Nat.zero_le _, by show _ = _; simp, Kept.refl _ _⟩
  case round =>
    obtain ⟨k, rfl, hk, HC, hK⟩ := hrel
    have hpc := (hP.kept hK (by simp)).cell 0
    simp at hpc
    by_cases hlt : k < cs.length
    · have hR' := HR.out.1.kept hK
      obtain ⟨g, cap', he, hc, hcell⟩ := row_get hR'.row (fun c _ => cvCells_len c) k hlt
      simp only [Value.slice.injEq] at he
      obtain ⟨rfl, _, rfl⟩ := he
      have hc0 := hcell k hlt 0 (by omega)
      have hc1 := hcell k hlt 1 (by omega)
      have hc3 := hcell k hlt 3 (by omega)
      simp [cvCells] at hc0 hc1 hc3
      have hin := hR'.each cs[k] (List.getElem_mem hlt)
      have hbk := HR.out.2 cs[k] (List.getElem_mem hlt)
      obtain ⟨adh, caph, hhv⟩ := row_nil hin.args
      obtain ⟨adb, capb, hbv⟩ := row_nil hin.body
      rw [hhv] at hc1
      rw [hbv] at hc3
      have HCI : Hid (CvIn wr cs[k]) := hin
      have HHB : Hid (cs[k].bv = .slice adb cs[k].bl.length capb) := hbv
      clear hcell hR' hin hhv hbv
      cases hnm : (cs[k].head.name.toList == x.toList) with
      | true =>
        have HE : Hid (arityP cs x = (cs[k].head.args.length : Int)) := by
          show _ = _
          unfold arityP
          rw [findSome_hit (arityC · x) cs k hlt HC.out (b := cs[k].head.args.length) (by simp [arityC, hnm])]
        go_wp2
        go_ret
        rw [HE.out]
        exact ⟨rfl, hK⟩
      | false =>
        have HA : Hid (arityC cs[k] x = arityL cs[k].bl x) := by show _ = _; simp [arityC, hnm]
        go_wp2
        clear hc0 hc1
        go_loopw [6] (fun i wq => ∃ m : Nat, i = .int .i64 m ∧ m ≤ cs[k].bl.length ∧ Hid ((cs[k].bl.take m).findSome? (fun p => if isA p && (p.1.A.name.toList == x.toList) then some p.1.A.args.length else none) = none) ∧ Kept [] w wq) (fun i _ => cs[k].bl.length - (intOf i).toNat)
        case atStart => exact ⟨0, rfl, Nat.zero_le _, by show _ = _; simp, hK⟩
        case round =>
          rename_i wq _
          obtain ⟨m, rfl, hm, HM, hKq⟩ := hrel
          clear hpc hc3 hK HCI
          have hpc := (hP.kept hKq (by simp)).cell 0
          simp at hpc
          have hRq := HR.out.1.kept hKq
          obtain ⟨g2, cap2, he2, _, hcell2⟩ := row_get hRq.row (fun c _ => cvCells_len c) k hlt
          simp only [Value.slice.injEq, Option.some.injEq, Addr.mk.injEq] at he2
          obtain ⟨⟨rfl, _, _⟩, _, rfl⟩ := he2
          have hc3 := hcell2 k hlt 3 (by omega)
          simp [cvCells] at hc3
          rw [HHB.out] at hc3
          have hin := hRq.each cs[k] (List.getElem_mem hlt)
          clear hcell2 hRq
          by_cases hlm : m < cs[k].bl.length
          · obtain ⟨gb, capb', heb, hcb, hcellb⟩ := row_get hin.body (fun c _ => litvCells_len c) m hlm
            rw [HHB.out] at heb
            simp only [Value.slice.injEq] at heb
            obtain ⟨rfl, _, rfl⟩ := heb
            have hl := hin.lits cs[k].bl[m] (List.getElem_mem hlm)
            obtain ⟨ada, capa, hav⟩ := row_nil hl
            have d0 := hcellb m hlm 0 (by omega)
            have d1 := hcellb m hlm 1 (by omega)
            have d2 := hcellb m hlm 2 (by omega)
            have d3 := hcellb m hlm 3 (by omega)
            have d4 := hcellb m hlm 4 (by omega)
            have d5 := hcellb m hlm 5 (by omega)
            have d6 := hcellb m hlm 6 (by omega)
            have d7 := hcellb m hlm 7 (by omega)
            have d8 := hcellb m hlm 8 (by omega)
            simp [litvCells, litVal] at d0 d1 d2 d3 d4 d5 d6 d7 d8
            rw [hav] at d2
            clear hcellb hl hav hin
            have HN : Hid (isA cs[k].bl[m] = false ∨ (cs[k].bl[m].1.A.name.toList == x.toList) = false → (cs[k].bl.take (m + 1)).findSome? (fun p => if isA p && (p.1.A.name.toList == x.toList) then some p.1.A.args.length else none) = none) := by
              intro h
              rw [findSome_take _ _ m hlm HM.out]
              rcases h with h | h <;> simp [h]
            have HY : Hid (isA cs[k].bl[m] = true → (cs[k].bl[m].1.A.name.toList == x.toList) = true → arityP cs x = (cs[k].bl[m].1.A.args.length : Int)) := by
              intro h1 h2
              have h3 := findSome_hit (fun p : RLitV => if isA p && (p.1.A.name.toList == x.toList) then some p.1.A.args.length else none) cs[k].bl m hlm HM.out (b := cs[k].bl[m].1.A.args.length) (by simp [h1, h2])
              have h4 : arityC cs[k] x = some cs[k].bl[m].1.A.args.length := by rw [HA.out]; exact h3
              unfold arityP
              rw [findSome_hit (arityC · x) cs k hlt HC.out h4]
            cases hnm2 : (cs[k].bl[m].1.A.name.toList == x.toList) with
            | true =>
              rcases kind_cases cs[k].bl[m] with ⟨k1, k3⟩ | ⟨k1, k2, k3⟩ | ⟨k1, k2, k3⟩
              · have HY' := hide (HY.out k3 hnm2)
                clear HY HN k3
                go_wp2
                go_ret
                rw [unhide HY']
                exact ⟨rfl, hKq.alloc _⟩
              · have HY' := hide (HY.out k3 hnm2)
                clear HY HN k3
                go_wp2
                go_ret
                rw [unhide HY']
                exact ⟨rfl, hKq.alloc _⟩
              · have HN' := hide (HN.out (Or.inl k3))
                clear HY HN k3
                go_wp2
                go_roundw
                case rel => exact ⟨m + 1, by go_num, by omega, unhide HN', hKq.alloc _⟩
                case measure => simp [intOf]; omega
            | false =>
              have HN' := hide (HN.out (Or.inr hnm2))
              rcases kind_cases cs[k].bl[m] with ⟨k1, k3⟩ | ⟨k1, k2, k3⟩ | ⟨k1, k2, k3⟩
              all_goals
                clear HY HN k3
                go_wp2
                go_roundw
                case rel => exact ⟨m + 1, by go_num, by omega, unhide HN', hKq.alloc _⟩
                case measure => simp [intOf]; omega
          · have HZ : Hid ((cs.take (k + 1)).findSome? (arityC · x) = none) := by
              show _ = _
              rw [findSome_take _ _ k hlt HC.out]
              have h := HM.out
              rw [List.take_of_length_le (by omega)] at h
              rw [HA.out]; exact h
            go_wp2
            go_roundw
            case rel => exact ⟨k + 1, by go_num, by omega, HZ, hKq⟩
            case measure => simp [intOf]; omega
    · have HE : Hid (arityP cs x = -1) := by
        have h := HC.out; rw [List.take_of_length_le (by omega)] at h
        show _ = _
        unfold arityP; rw [h]
      go_wp2
      go_ret
      rw [HE.out]
      exact ⟨rfl, hK⟩

end Go.Proofs.YtoihbhenbmffcaaGreatDoor
