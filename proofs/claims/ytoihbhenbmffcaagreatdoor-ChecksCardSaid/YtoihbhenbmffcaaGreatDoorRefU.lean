import Derived.Test.YtoihbhenbmffcaaGreatDoorRefT
set_option linter.unusedVariables false
set_option linter.unusedSimpArgs false

namespace Go.Proofs.YtoihbhenbmffcaaGreatDoor
open Go.RowKit

def addT (l : List ByteArray) (t : RTerm) : List ByteArray := if t.v == 0 && !hasB l t.s then withP l t.s else l
def addP (l : List ByteArray) (ts : List RTerm) : List ByteArray := ts.foldl addT l

/-- The strings of a list are not empty, and not great. -/
def Full (l : List ByteArray) : Prop := ∀ y ∈ l, 0 < y.size ∧ y.size ≤ 1000000
def FullT (ts : List RTerm) : Prop := ∀ t ∈ ts, t.v = 0 → 0 < t.s.size ∧ t.s.size ≤ 1000000

theorem insFold_full (x : ByteArray) (hx : 0 < x.size ∧ x.size ≤ 1000000) : ∀ (l : List ByteArray) (a : List ByteArray × Bool), Full l → Full a.1 → Full (l.foldl (insStep x) a).1
  | [], _, _, ha => ha
  | y :: l, a, hl, ha => by
    refine insFold_full x hx l _ (fun z hz => hl z (by simp [hz])) ?_
    have hy := hl y (by simp)
    unfold insStep
    split
    · intro z hz
      simp only [List.mem_append, List.mem_singleton] at hz
      rcases hz with (hz | hz) | hz
      · exact ha z hz
      · rw [hz]; exact hx
      · rw [hz]; exact hy
    · intro z hz
      simp only [List.mem_append, List.mem_singleton] at hz
      rcases hz with hz | hz
      · exact ha z hz
      · rw [hz]; exact hy

theorem withP_full {l : List ByteArray} {x : ByteArray} (hl : Full l) (hx : 0 < x.size ∧ x.size ≤ 1000000) : Full (withP l x) := by
  have h : Full (insF l x).1 := insFold_full x hx l ([], false) hl (by intro y hy; simp at hy)
  unfold withP
  split
  · exact h
  · intro z hz
    simp only [List.mem_append, List.mem_singleton] at hz
    rcases hz with hz | hz
    · exact h z hz
    · rw [hz]; exact hx

theorem addT_full {l : List ByteArray} {t : RTerm} (hl : Full l) (ht : t.v = 0 → 0 < t.s.size ∧ t.s.size ≤ 1000000) : Full (addT l t) := by
  unfold addT
  split
  · rename_i h
    simp only [Bool.and_eq_true, beq_iff_eq] at h
    exact withP_full hl (ht h.1)
  · exact hl

theorem addT_len (l : List ByteArray) (t : RTerm) : (addT l t).length ≤ l.length + 1 := by
  unfold addT
  split
  · rw [withP_len]; omega
  · omega

theorem addP_take (l : List ByteArray) {ts : List RTerm} {k : Nat} (hk : k < ts.length) : addP l (ts.take (k + 1)) = addT (addP l (ts.take k)) ts[k] := by
  unfold addP; rw [List.take_succ_eq_append_getElem hk, List.foldl_append]; rfl

theorem addP_len (l : List ByteArray) (ts : List RTerm) : (addP l ts).length ≤ l.length + ts.length := by
  unfold addP
  induction ts generalizing l with
  | nil => simp
  | cons t ts ih =>
    have h1 := ih (addT l t)
    have h2 := addT_len l t
    simp only [List.foldl_cons, List.length_cons]
    omega

theorem addP_full {l : List ByteArray} {ts : List RTerm} (hl : Full l) (ht : FullT ts) : Full (addP l ts) := by
  unfold addP
  induction ts generalizing l with
  | nil => exact hl
  | cons t ts ih => exact ih (addT_full hl (ht t (by simp))) (fun u hu => ht u (by simp [hu]))

set_option maxRecDepth 100000 in
set_option maxHeartbeats 1600000 in
theorem add_any (lv tv : Value) (l : List ByteArray) (ts : List RTerm) (base : Nat) (w : World) (hl : w.ownsRow base 9 1 lv l.length (l.flatMap strCell)) (ht : w.ownsRow 0 93 2 tv ts.length (ts.flatMap termVal)) (hbase : base ≤ w.heap.size)
    (hlen : l.length + ts.length ≤ 1000000) (hfl : Full l) (hft : FullT ts) :
    Calls Tryz.prog 130 #[lv, tv] w fun e w' => ∃ v, e = .returned v ∧ w'.ownsRow base 9 1 v (addP l ts).length ((addP l ts).flatMap strCell) ∧ Kept [] w w' := by
  obtain ⟨ad, cap, rfl⟩ := row_nil hl
  obtain ⟨adt, capt, rfl⟩ := row_nil ht
  have HR : Hid (w.ownsRow 0 93 2 (.slice adt ts.length capt) ts.length (ts.flatMap termVal) ∧ Full l ∧ FullT ts) := ⟨ht, hfl, hft⟩
  clear ht hfl hft
  have hnot : ∀ (x : Bool) (w : World), (Op.unary .not (.bool x)).run Tryz.prog w = .ok (.bool (!x)) w := fun _ _ => rfl
  go_enter Tryz.func130, Tryz.ntmps130
  go_wp2
  go_loopw [0, 5] (fun o i wr => ∃ (k : Nat) (out : List ByteArray), i = .int .i64 k ∧ k ≤ ts.length ∧ Hid (addP l (ts.take k) = out ∧ Full out) ∧ out.length ≤ l.length + k ∧ wr.ownsRow base 9 1 o out.length (out.flatMap strCell) ∧ Kept [] w wr) (fun _ i _ => ts.length - (intOf i).toNat)
  case atStart => exact ⟨0, l, rfl, Nat.zero_le _, ⟨by simp [addP], HR.out.2.1⟩, by omega, hl, Kept.refl _ _⟩
  case round =>
    clear hl
    obtain ⟨k, out, rfl, hk, HF, hol, hown, hK⟩ := hrel
    obtain ⟨ado, capo, rfl⟩ := row_nil hown
    have hsz := hK.size
    by_cases hlt : k < ts.length
    · obtain ⟨g, cap', he, hc, hcell⟩ := row_get (ownsRow_kept HR.out.1 hK (by simp)) (fun c _ => termVal_len c) k hlt
      simp only [Value.slice.injEq] at he
      obtain ⟨rfl, _, rfl⟩ := he
      have d0 := hcell k hlt 0 (by omega)
      have d1 := hcell k hlt 1 (by omega)
      simp [termVal] at d0 d1
      clear hcell
      have e1 : ((ts[k].v.toNat : Int) == 0) = (ts[k].v == 0) := byte_eq _ 0
      have HS : Hid (addP l (ts.take (k + 1)) = addT out ts[k] ∧ Full (addT out ts[k])) := ⟨by rw [addP_take l hlt, HF.out.1], addT_full HF.out.2 (HR.out.2.2 ts[k] (List.getElem_mem hlt))⟩
      cases hz : (ts[k].v == 0) with
      | false =>
        rw [hz] at e1
        have HS' : Hid (addP l (ts.take (k + 1)) = out ∧ Full out) := by have h := HS.out; simp only [addT, hz, Bool.false_and, Bool.false_eq_true, if_false] at h; exact h
        clear HS hz
        go_wp2
        go_roundw
        case rel => exact ⟨k + 1, out, by go_num, by omega, HS', by omega, hown, hK⟩
        case measure => simp [intOf]; omega
      | true =>
        rw [hz] at e1
        have hts := HR.out.2.2 ts[k] (List.getElem_mem hlt) (by simpa using hz)
        cases hh : hasB out ts[k].s with
        | true =>
          have HS' : Hid (addP l (ts.take (k + 1)) = out ∧ Full out) := by have h := HS.out; simp only [addT, hz, hh, Bool.not_true, Bool.and_false, Bool.false_eq_true, if_false] at h; exact h
          clear HS hz
          go_wp2_with fail
          refine (has_any _ out ts[k].s base _ hown (by omega)).mono ?_
          rintro e w0 ⟨rfl, hw0⟩
          rw [hh, hw0]
          clear hw0 w0
          go_wp2
          go_roundw
          case rel => exact ⟨k + 1, out, by go_num, by omega, HS', by omega, hown, hK⟩
          case measure => simp [intOf]; omega
        | false =>
          have HS' : Hid (addP l (ts.take (k + 1)) = withP out ts[k].s ∧ Full (withP out ts[k].s)) := by have h := HS.out; simp only [addT, hz, hh, Bool.not_false, Bool.and_true, if_true] at h; exact h
          have HF2 := hide HF.out.2
          clear HS hz
          go_wp2_with fail
          refine (has_any _ out ts[k].s base _ hown (by omega)).mono ?_
          rintro e w0 ⟨rfl, hw0⟩
          rw [hh, hw0]
          clear hw0 w0
          go_wp2_with fail
          refine (with_any _ out ts[k].s base _ hown (by omega) hts (unhide HF2)).mono ?_
          rintro e w2 ⟨v2, rfl, hown2, hK2⟩
          have hK2' := hK.trans hK2
          have hown2' := ownsRow_base (base' := base) hown2 (by omega)
          have hwl := withP_len out ts[k].s
          have HWL := hide hwl
          clear hown2 hK2 hwl
          go_wp2
          go_roundw
          case rel => exact ⟨k + 1, withP out ts[k].s, by go_num, by omega, HS', by rw [unhide HWL]; omega, hown2', hK2'⟩
          case measure => simp [intOf]; omega
    · have HE : Hid (addP l ts = out) := by have h := HF.out.1; rwa [List.take_of_length_le (by omega)] at h
      go_wp2
      go_ret
      rw [HE.out]
      exact ⟨_, rfl, hown, hK⟩

end Go.Proofs.YtoihbhenbmffcaaGreatDoor

namespace Go.Proofs.YtoihbhenbmffcaaGreatDoor
open Go.RowKit

structure SmallC (c : RCV) : Prop where
  body : c.bl.length ≤ 3
  args : c.head.args.length ≤ 2
  lits : ∀ p ∈ c.bl, p.1.A.args.length ≤ 2

structure FullC (c : RCV) : Prop where
  head : FullT c.head.args
  body : ∀ p ∈ c.bl, FullT (litTerms p)

def nameT (l : List ByteArray) (x : ByteArray) : List ByteArray := if hasB l x then l else l ++ [x]
def nameL (l : List ByteArray) (p : RLitV) : List ByteArray := if isA p then nameT l p.1.A.name else l
def namesC (l : List ByteArray) (c : RCV) : List ByteArray := c.bl.foldl nameL (nameT l c.head.name)
def namesP (cs : List RCV) : List ByteArray := cs.foldl namesC []
def thingsL (l : List ByteArray) (p : RLitV) : List ByteArray := addP l (litTerms p)
def thingsC (l : List ByteArray) (c : RCV) : List ByteArray := c.bl.foldl thingsL (addP l c.head.args)
def thingsP (cs : List RCV) : List ByteArray := cs.foldl thingsC []

theorem foldl_take {α β : Type} (f : β → α → β) (b : β) {l : List α} {k : Nat} (hk : k < l.length) : (l.take (k + 1)).foldl f b = f ((l.take k).foldl f b) l[k] := by
  rw [List.take_succ_eq_append_getElem hk, List.foldl_append]; rfl

set_option maxRecDepth 100000 in
set_option maxHeartbeats 1600000 in
theorem things_any (pb : Nat) (lv : Value) (cs : List RCV) (w : World) (hP : Blk w pb [lv] 76) (hR : RowsIn w lv cs) (hlen : cs.length ≤ 12) (hsm : ∀ c ∈ cs, SmallC c) (hfc : ∀ c ∈ cs, FullC c) :
    Calls Tryz.prog 83 #[.pointer (some ⟨pb, 0, none⟩)] w fun e w' => ∃ v, e = .returned v ∧ w'.ownsRow w.heap.size 9 1 v (thingsP cs).length ((thingsP cs).flatMap strCell) ∧ Kept [] w w' := by
  obtain ⟨ad, cap, rfl⟩ := row_nil hR.row
  have HR : Hid (RowsIn w (.slice ad cs.length cap) cs ∧ (∀ c ∈ cs, SmallC c) ∧ (∀ c ∈ cs, FullC c)) := ⟨hR, hsm, hfc⟩
  clear hR hsm hfc
  go_enter Tryz.func83, Tryz.ntmps83
  go_wp2
  go_loopw [3, 4] (fun o i wr => ∃ (k : Nat) (out : List ByteArray), i = .int .i64 k ∧ k ≤ cs.length ∧ Hid ((cs.take k).foldl thingsC [] = out ∧ Full out) ∧ out.length ≤ 8 * k ∧ wr.ownsRow w.heap.size 9 1 o out.length (out.flatMap strCell) ∧ Kept [] w wr) (fun _ i _ => cs.length - (intOf i).toNat)
  case atStart => exact ⟨0, [], rfl, Nat.zero_le _, ⟨by simp, by intro y hy; simp at hy⟩, by simp, World.ownsRow_nil _ _ _ _, Kept.refl _ _⟩
  case round =>
    obtain ⟨k, out, rfl, hk, HF, hol, hown, hK⟩ := hrel
    obtain ⟨ado, capo, rfl⟩ := row_nil hown
    have hpc := (hP.kept hK (by simp)).cell 0
    simp at hpc
    have hsz := hK.size
    by_cases hlt : k < cs.length
    · have hR' := HR.out.1.kept hK
      obtain ⟨g, cap', he, hc, hcell⟩ := row_get hR'.row (fun c _ => cvCells_len c) k hlt
      simp only [Value.slice.injEq] at he
      obtain ⟨rfl, _, rfl⟩ := he
      have hc1 := hcell k hlt 1 (by omega)
      simp [cvCells] at hc1
      have hin := hR'.each cs[k] (List.getElem_mem hlt)
      have hsm := HR.out.2.1 cs[k] (List.getElem_mem hlt)
      have hfc := HR.out.2.2 cs[k] (List.getElem_mem hlt)
      obtain ⟨adh, caph, hhv⟩ := row_nil hin.args
      obtain ⟨adb, capb, hbv⟩ := row_nil hin.body
      rw [hhv] at hc1
      have HHB : Hid (cs[k].bv = .slice adb cs[k].bl.length capb) := hbv
      have A := add_any _ _ out cs[k].head.args w.heap.size _ hown hin.args hsz (by have := hsm.args; omega) HF.out.2 hfc.head
      rw [hhv] at A
      have HA := hide A
      have hs1 := hsm.args
      have hs2 := hsm.body
      have HSF : Hid (SmallC cs[k] ∧ FullC cs[k]) := ⟨hsm, hfc⟩
      clear hcell hR' hin hhv hbv A hsm hfc
      go_wp2_with fail
      refine (unhide HA).mono ?_
      rintro e w1 ⟨v1, rfl, hown1, hK1⟩
      have hK1' := hK.trans hK1
      have HL1 := hide (addP_len out cs[k].head.args)
      obtain ⟨o1, ho1⟩ : ∃ o1, addP out cs[k].head.args = o1 := ⟨_, rfl⟩
      rw [ho1] at hown1 HL1
      have HO1 : Hid (addP out cs[k].head.args = o1 ∧ Full o1) := ⟨ho1, by rw [← ho1]; exact addP_full HF.out.2 HSF.out.2.head⟩
      have hol1 : o1.length ≤ 8 * k + 2 := by have := unhide HL1; omega
      obtain ⟨ad1, cap1, rfl⟩ := row_nil hown1
      clear hc1 hpc hown hK hsz hK1 ho1 HL1 HA
      go_wp2
      go_loopw [3, 5] (fun o i wq => ∃ (m : Nat) (o2 : List ByteArray), i = .int .i64 m ∧ m ≤ cs[k].bl.length ∧ Hid ((cs[k].bl.take m).foldl thingsL o1 = o2 ∧ Full o2) ∧ o2.length ≤ 8 * k + 2 + 2 * m ∧ wq.ownsRow w.heap.size 9 1 o o2.length (o2.flatMap strCell) ∧ Kept [] w wq) (fun _ i _ => cs[k].bl.length - (intOf i).toNat)
      case atStart => exact ⟨0, o1, rfl, Nat.zero_le _, ⟨by simp, HO1.out.2⟩, by omega, hown1, hK1'⟩
      case round =>
        rename_i wq _
        clear hown1 hK1'
        obtain ⟨m, o2, rfl, hm, HM, hol2, hown2, hKq⟩ := hrel
        obtain ⟨ad2, cap2, rfl⟩ := row_nil hown2
        have hpc := (hP.kept hKq (by simp)).cell 0
        simp at hpc
        have hszq := hKq.size
        have hRq := HR.out.1.kept hKq
        obtain ⟨g2, cap2, he2, _, hcell2⟩ := row_get hRq.row (fun c _ => cvCells_len c) k hlt
        simp only [Value.slice.injEq, Option.some.injEq, Addr.mk.injEq] at he2
        obtain ⟨⟨rfl, _, _⟩, _, rfl⟩ := he2
        have hc3 := hcell2 k hlt 3 (by omega)
        simp [cvCells] at hc3
        rw [HHB.out] at hc3
        have hin := hRq.each cs[k] (List.getElem_mem hlt)
        clear hcell2 hRq
        by_cases hlm : m < cs[k].bl.length
        · obtain ⟨gb, capb', heb, hcb, hcellb⟩ := row_get hin.body (fun c _ => litvCells_len c) m hlm
          rw [HHB.out] at heb
          simp only [Value.slice.injEq] at heb
          obtain ⟨rfl, _, rfl⟩ := heb
          have hl := hin.lits cs[k].bl[m] (List.getElem_mem hlm)
          obtain ⟨ada, capa, hav⟩ := row_nil hl
          have T := terms_any cs[k].bl[m] _ hl
          simp only [litvCells, litVal, hav] at T
          have d0 := hcellb m hlm 0 (by omega)
          have d1 := hcellb m hlm 1 (by omega)
          have d2 := hcellb m hlm 2 (by omega)
          have d3 := hcellb m hlm 3 (by omega)
          have d4 := hcellb m hlm 4 (by omega)
          have d5 := hcellb m hlm 5 (by omega)
          have d6 := hcellb m hlm 6 (by omega)
          have d7 := hcellb m hlm 7 (by omega)
          have d8 := hcellb m hlm 8 (by omega)
          simp [litvCells, litVal] at d0 d1 d2 d3 d4 d5 d6 d7 d8
          rw [hav] at d2
          have HT := hide T
          clear hcellb hl hav hin T
          have htl : (litTerms cs[k].bl[m]).length ≤ 2 := by
            have := HSF.out.1.lits cs[k].bl[m] (List.getElem_mem hlm)
            unfold litTerms; split
            · exact this
            · simp
          go_wp2_with fail
          refine (unhide HT).mono ?_
          rintro e w2 ⟨tv, rfl, hownT, hK2⟩
          have hKq2 := hKq.trans hK2
          have hownq := ownsRow_kept hown2 hK2 (by simp)
          have hsz2 := hKq2.size
          clear d0 d1 d2 d3 d4 d5 d6 d7 d8 HT hpc hc3
          go_wp2_with fail
          refine (add_any _ _ o2 (litTerms cs[k].bl[m]) w.heap.size _ hownq hownT hsz2 (by omega) HM.out.2 (HSF.out.2.body _ (List.getElem_mem hlm))).mono ?_
          rintro e w3 ⟨v3, rfl, hown3, hK3⟩
          have hK3' := hKq2.trans hK3
          have HL3 := hide (addP_len o2 (litTerms cs[k].bl[m]))
          have HM3 : Hid ((cs[k].bl.take (m + 1)).foldl thingsL o1 = addP o2 (litTerms cs[k].bl[m]) ∧ Full (addP o2 (litTerms cs[k].bl[m]))) :=
            ⟨by rw [foldl_take _ _ hlm, HM.out.1]; rfl, addP_full HM.out.2 (HSF.out.2.body _ (List.getElem_mem hlm))⟩
          obtain ⟨o3, ho3⟩ : ∃ o3, addP o2 (litTerms cs[k].bl[m]) = o3 := ⟨_, rfl⟩
          rw [ho3] at hown3 HL3 HM3
          have hol3 : o3.length ≤ 8 * k + 2 + 2 * (m + 1) := by have := unhide HL3; omega
          clear hKq hown2 hownq hownT hK2 hK3 hKq2 ho3 HL3
          go_wp2
          go_roundw
          case rel => exact ⟨m + 1, o3, by go_num, by omega, HM3, hol3, hown3, hK3'⟩
          case measure => simp [intOf]; omega
        · have HZ : Hid ((cs.take (k + 1)).foldl thingsC [] = o2 ∧ Full o2) := by
            have h := HM.out.1
            rw [List.take_of_length_le (by omega)] at h
            refine ⟨?_, HM.out.2⟩
            rw [foldl_take _ _ hlt, HF.out.1, ← h]
            unfold thingsC
            rw [HO1.out.1]
          go_wp2
          go_roundw
          case rel => exact ⟨k + 1, o2, by go_num, by omega, HZ, by omega, hown2, hKq⟩
          case measure => simp [intOf]; omega
    · have HE : Hid (thingsP cs = out) := by have h := HF.out.1; rwa [List.take_of_length_le (by omega)] at h
      go_wp2
      go_ret
      rw [HE.out]
      exact ⟨_, rfl, hown, hK⟩

end Go.Proofs.YtoihbhenbmffcaaGreatDoor
