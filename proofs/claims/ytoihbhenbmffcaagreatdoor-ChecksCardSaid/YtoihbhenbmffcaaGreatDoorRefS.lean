import Derived.Test.YtoihbhenbmffcaaGreatDoorRefQ
set_option linter.unusedVariables false
set_option linter.unusedSimpArgs false

namespace Go.Proofs.YtoihbhenbmffcaaGreatDoor
open Go.RowKit

def litTerms (p : RLitV) : List RTerm := if isA p then p.1.A.args else [p.1.L, p.1.R]

set_option maxRecDepth 100000 in
set_option maxHeartbeats 800000 in
theorem terms_any (p : RLitV) (w : World) (hp : LitIn w 0 p) :
    Calls Tryz.prog 131 #[.agg (litvCells p).toArray] w fun e w' => ∃ tv, e = .returned tv ∧ w'.ownsRow 0 93 2 tv (litTerms p).length ((litTerms p).flatMap termVal) ∧ Kept [] w w' := by
  obtain ⟨ada, capa, hav⟩ := row_nil hp
  simp only [litvCells, litVal, hav]
  rcases kind_cases p with ⟨k1, k3⟩ | ⟨k1, k2, k3⟩ | ⟨k1, k2, k3⟩
  · have HT : Hid (litTerms p = p.1.A.args ∧ p.2 = .slice ada p.1.A.args.length capa ∧ LitIn w 0 p) := ⟨by unfold litTerms; simp [k3], hav, hp⟩
    clear k3 hav hp
    go_enter Tryz.func131, Tryz.ntmps131
    go_wp2
    go_ret
    refine ⟨_, rfl, ?_, (Kept.refl _ _).alloc _⟩
    rw [HT.out.1]
    have h : w.ownsRow 0 93 2 _ _ _ := HT.out.2.2
    rw [HT.out.2.1] at h
    exact h.alloc _
  · have HT : Hid (litTerms p = p.1.A.args ∧ p.2 = .slice ada p.1.A.args.length capa ∧ LitIn w 0 p) := ⟨by unfold litTerms; simp [k3], hav, hp⟩
    clear k3 hav hp
    go_enter Tryz.func131, Tryz.ntmps131
    go_wp2
    go_ret
    refine ⟨_, rfl, ?_, (Kept.refl _ _).alloc _⟩
    rw [HT.out.1]
    have h : w.ownsRow 0 93 2 _ _ _ := HT.out.2.2
    rw [HT.out.2.1] at h
    exact h.alloc _
  · have HT : Hid (litTerms p = [p.1.L, p.1.R]) := by show _ = _; unfold litTerms; simp [k3]
    clear k3 hav hp
    go_enter Tryz.func131, Tryz.ntmps131
    go_wp2
    go_ret
    refine ⟨_, rfl, ?_, ((Kept.refl _ _).alloc _).alloc _⟩
    rw [HT.out]
    refine ⟨rfl, Or.inr ⟨_, 2, #[.int .u8 p.1.L.v.toNat, .string p.1.L.s, .int .u8 p.1.R.v.toNat, .string p.1.R.s], rfl, Nat.zero_le _, by have h := heap_alloc_new (w.alloc (.cells #[.int .u8 p.1.kind.toNat, .string p.1.A.name, .slice ada p.1.A.args.length capa, .int .i64 p.1.A.at_, .int .u8 p.1.L.v.toNat, .string p.1.L.s, .int .u8 p.1.R.v.toNat, .string p.1.R.s, .int .i64 p.1.at_] 95)) (.cells #[.int .u8 p.1.L.v.toNat, .string p.1.L.s, .int .u8 p.1.R.v.toNat, .string p.1.R.s] 93); rw [World.size_alloc] at h; exact h, by simp, by unfold maxLen; omega, rfl, ?_⟩⟩
    simp [termVal]

def boundA (l : List RTerm) (v : UInt8) : Bool := l.any fun t => t.v == v
def boundL (v : UInt8) (p : RLitV) : Bool := p.1.kind == 97 && boundA p.1.A.args v
def boundB (bl : List RLitV) (v : UInt8) : Bool := bl.any (boundL v)

theorem any_take {α : Type} (f : α → Bool) (l : List α) (k : Nat) (hk : k < l.length) (h0 : (l.take k).any f = false) : (l.take (k + 1)).any f = f l[k] := by
  rw [List.take_succ_eq_append_getElem hk, List.any_append, h0]; simp
theorem any_hit {α : Type} (f : α → Bool) (l : List α) (k : Nat) (hk : k < l.length) (h : f l[k] = true) : l.any f = true := by
  rw [List.any_eq_true]; exact ⟨_, List.getElem_mem hk, h⟩

set_option maxRecDepth 100000 in
set_option maxHeartbeats 800000 in
theorem bound_any (bv : Value) (bl : List RLitV) (n : Int) (v : UInt8) (w : World) (hn : n = v.toNat) (hb : w.ownsRow 0 95 9 bv bl.length (bl.flatMap litvCells)) (hl : ∀ p ∈ bl, LitIn w 0 p) (hlen : bl.length ≤ 1000000) (hal : ∀ p ∈ bl, p.1.A.args.length ≤ 1000000) :
    Calls Tryz.prog 132 #[bv, .int .u8 n] w fun e w' => e = .returned (.bool (boundB bl v)) ∧ w' = w := by
  subst hn
  obtain ⟨ad, cap, rfl⟩ := row_nil hb
  have HR : Hid (w.ownsRow 0 95 9 (.slice ad bl.length cap) bl.length (bl.flatMap litvCells) ∧ (∀ p ∈ bl, LitIn w 0 p) ∧ (∀ p ∈ bl, p.1.A.args.length ≤ 1000000)) := ⟨hb, hl, hal⟩
  clear hb hl hal
  go_enter Tryz.func132, Tryz.ntmps132
  go_wp2
  go_loop [5] (fun i => ∃ k : Nat, i = .int .i64 k ∧ k ≤ bl.length ∧ Hid ((bl.take k).any (boundL v) = false)) (fun i => bl.length - (intOf i).toNat)
  case atStart => exact ⟨0, rfl, Nat.zero_le _, by show _ = _; simp⟩
  case round =>
    obtain ⟨k, rfl, hk, HC⟩ := hrel
    by_cases hlt : k < bl.length
    · obtain ⟨g, cap', he, hc, hcell⟩ := row_get HR.out.1 (fun c _ => litvCells_len c) k hlt
      simp only [Value.slice.injEq] at he
      obtain ⟨rfl, _, rfl⟩ := he
      have d0 := hcell k hlt 0 (by omega)
      have d2 := hcell k hlt 2 (by omega)
      simp [litvCells, litVal] at d0 d2
      have hin := HR.out.2.1 bl[k] (List.getElem_mem hlt)
      have hak := HR.out.2.2 bl[k] (List.getElem_mem hlt)
      obtain ⟨ada, capa, hav⟩ := row_nil hin
      rw [hav] at d2
      have HI : Hid (w.ownsRow 0 93 2 (.slice ada bl[k].1.A.args.length capa) bl[k].1.A.args.length (bl[k].1.A.args.flatMap termVal)) := by
        have h : w.ownsRow 0 93 2 _ _ _ := hin
        rw [hav] at h; exact h
      clear hcell hin hav
      have e1 : ((bl[k].1.kind.toNat : Int) == 97) = (bl[k].1.kind == 97) := byte_eq _ 97
      cases hkd : (bl[k].1.kind == 97) with
      | false =>
        rw [hkd] at e1
        have HN : Hid ((bl.take (k + 1)).any (boundL v) = false) := by show _ = _; rw [any_take _ _ k hlt HC.out]; simp [boundL, hkd]
        clear hkd
        go_wp2
        go_loop [6] (fun i => i = .int .i64 0) (fun _ => 0)
        case atStart => rfl
        case round =>
          subst hrel
          go_wp2
          go_round
          case rel => exact ⟨k + 1, by go_num, by omega, HN⟩
          case measure => simp [intOf]; omega
      | true =>
        rw [hkd] at e1
        have HN : Hid (boundA bl[k].1.A.args v = false → (bl.take (k + 1)).any (boundL v) = false) := by intro h; rw [any_take _ _ k hlt HC.out]; simp [boundL, h]
        have HY : Hid (boundA bl[k].1.A.args v = true → boundB bl v = true) := by intro h; exact any_hit _ _ k hlt (by simp [boundL, hkd, h])
        clear hkd
        go_wp2
        go_loop [6] (fun i => ∃ m : Nat, i = .int .i64 m ∧ m ≤ bl[k].1.A.args.length ∧ Hid ((bl[k].1.A.args.take m).any (fun t => t.v == v) = false)) (fun i => bl[k].1.A.args.length - (intOf i).toNat)
        case atStart => exact ⟨0, rfl, Nat.zero_le _, by show _ = _; simp⟩
        case round =>
          obtain ⟨m, rfl, hm, HM⟩ := hrel
          by_cases hlm : m < bl[k].1.A.args.length
          · obtain ⟨ga, capa', hea, hca, hcella⟩ := row_get HI.out (fun c _ => termVal_len c) m hlm
            simp only [Value.slice.injEq] at hea
            obtain ⟨rfl, _, rfl⟩ := hea
            have f0 := hcella m hlm 0 (by omega)
            simp [termVal] at f0
            clear hcella
            have e2 : ((bl[k].1.A.args[m].v.toNat : Int) == (v.toNat : Int)) = (bl[k].1.A.args[m].v == v) := byte_eq _ v
            cases hv : (bl[k].1.A.args[m].v == v) with
            | true =>
              rw [hv] at e2
              have HY' := hide (HY.out (any_hit _ _ m hlm hv))
              clear hv HY HN
              go_wp2
              go_ret
              rw [unhide HY']
              exact ⟨rfl, rfl⟩
            | false =>
              rw [hv] at e2
              have HN' : Hid ((bl[k].1.A.args.take (m + 1)).any (fun t => t.v == v) = false) := by show _ = _; rw [any_take _ _ m hlm HM.out]; exact hv
              clear hv HY HN
              go_wp2
              go_round
              case rel => exact ⟨m + 1, by go_num, by omega, HN'⟩
              case measure => simp [intOf]; omega
          · have HN' := hide (HN.out (by have h := HM.out; rwa [List.take_of_length_le (by omega)] at h))
            go_wp2
            go_round
            case rel => exact ⟨k + 1, by go_num, by omega, HN'⟩
            case measure => simp [intOf]; omega
    · have HE : Hid (boundB bl v = false) := by have h := HC.out; rwa [List.take_of_length_le (by omega)] at h
      go_wp2
      go_ret
      rw [HE.out]
      exact ⟨rfl, rfl⟩

/-- Is nothing there that binds the term? -/
def looseT (bl : List RLitV) (t : RTerm) : Bool := !(t.v == 0 || boundB bl t.v)
def safeL (bl : List RLitV) (p : RLitV) : Bool := (litTerms p).any (looseT bl)
def safeP (head : RAtom) (bl : List RLitV) : Int := if head.args.any (looseT bl) then head.at_ else match bl.find? (safeL bl) with | some p => p.1.at_ | none => -1

theorem find_take {α : Type} (f : α → Bool) (l : List α) (k : Nat) (hk : k < l.length) (h0 : (l.take k).any f = false) (h : f l[k] = true) : l.find? f = some l[k] := by
  have e : l.find? f = (l.take k ++ l.drop k).find? f := by rw [List.take_append_drop]
  rw [e, List.find?_append]
  have h1 : (l.take k).find? f = none := by
    rw [List.find?_eq_none]
    intro x hx hf
    have : (l.take k).any f = true := by rw [List.any_eq_true]; exact ⟨x, hx, hf⟩
    rw [h0] at this; cases this
  rw [h1, Option.none_or, List.drop_eq_getElem_cons hk, List.find?_cons_of_pos h]

set_option maxRecDepth 100000 in
set_option maxHeartbeats 1600000 in
theorem safe_any (head : RAtom) (hv bv : Value) (bl : List RLitV) (w : World) (hh : w.ownsRow 0 93 2 hv head.args.length (head.args.flatMap termVal)) (hb : w.ownsRow 0 95 9 bv bl.length (bl.flatMap litvCells)) (hl : ∀ p ∈ bl, LitIn w 0 p) (hlen : bl.length ≤ 1000000) (hal : ∀ p ∈ bl, p.1.A.args.length ≤ 1000000) (hhl : head.args.length ≤ 1000000) :
    Calls Tryz.prog 84 #[.agg (atomVal head.name hv head.at_).toArray, bv] w fun e w' => e = .returned (.int .i64 (safeP head bl)) ∧ Kept [] w w' := by
  obtain ⟨adh, caph, rfl⟩ := row_nil hh
  obtain ⟨ad, cap, rfl⟩ := row_nil hb
  simp only [atomVal]
  have HR : Hid (w.ownsRow 0 93 2 (.slice adh head.args.length caph) head.args.length (head.args.flatMap termVal) ∧ w.ownsRow 0 95 9 (.slice ad bl.length cap) bl.length (bl.flatMap litvCells) ∧ (∀ p ∈ bl, LitIn w 0 p) ∧ (∀ p ∈ bl, p.1.A.args.length ≤ 1000000)) := ⟨hh, hb, hl, hal⟩
  clear hh hb hl hal
  have hnot : ∀ (x : Bool) (w : World), (Op.unary .not (.bool x)).run Tryz.prog w = .ok (.bool (!x)) w := fun _ _ => rfl
  go_enter Tryz.func84, Tryz.ntmps84
  go_wp2_with fail
  go_loopw [5] (fun i wr => ∃ k : Nat, i = .int .i64 k ∧ k ≤ head.args.length ∧ Hid ((head.args.take k).any (looseT bl) = false) ∧ wr = w.alloc (.cells #[.string head.name, .slice adh head.args.length caph, .int .i64 head.at_] 79)) (fun i _ => head.args.length - (intOf i).toNat)
  case atStart => exact ⟨0, rfl, Nat.zero_le _, by show _ = _; simp, rfl⟩
  case round =>
    obtain ⟨k, rfl, hk, HC, rfl⟩ := hrel
    by_cases hlt : k < head.args.length
    · obtain ⟨g, cap', he, hc, hcell⟩ := row_get (HR.out.1.alloc (.cells #[.string head.name, .slice adh head.args.length caph, .int .i64 head.at_] 79)) (fun c _ => termVal_len c) k hlt
      simp only [Value.slice.injEq] at he
      obtain ⟨rfl, _, rfl⟩ := he
      have d0 := hcell k hlt 0 (by omega)
      simp [termVal] at d0
      clear hcell
      have e1 : ((head.args[k].v.toNat : Int) == 0) = (head.args[k].v == 0) := byte_eq _ 0
      have HN : Hid (looseT bl head.args[k] = false → (head.args.take (k + 1)).any (looseT bl) = false) := by intro h; rw [any_take _ _ k hlt HC.out]; exact h
      have HY : Hid (looseT bl head.args[k] = true → safeP head bl = (head.at_ : Int)) := by intro h; unfold safeP; rw [if_pos (any_hit _ _ k hlt h)]
      cases hz : (head.args[k].v == 0) with
      | true =>
        rw [hz] at e1
        have HN' := hide (HN.out (by simp [looseT, hz]))
        clear hz HN HY
        go_wp2_with fail
        go_roundw
        case rel => exact ⟨k + 1, by go_num, by omega, HN', by trivial⟩
        case measure => simp [intOf]; omega
      | false =>
        rw [hz] at e1
        cases hbd : boundB bl head.args[k].v with
        | true =>
          have HN' := hide (HN.out (by simp [looseT, hbd]))
          clear hz HN HY
          go_wp2_with (go_at_call 132; refine (bound_any _ bl _ head.args[k].v _ rfl (HR.out.2.1.alloc _) (fun p hp => (HR.out.2.2.1 p hp).alloc _) hlen HR.out.2.2.2).mono ?_; rintro e w2 ⟨rfl, rfl⟩; rw [hbd])
          go_roundw
          case rel => exact ⟨k + 1, by go_num, by omega, HN', by trivial⟩
          case measure => simp [intOf]; omega
        | false =>
          have HY' := hide (HY.out (by simp [looseT, hbd, hz]))
          clear hz HN HY
          go_wp2_with (go_at_call 132; refine (bound_any _ bl _ head.args[k].v _ rfl (HR.out.2.1.alloc _) (fun p hp => (HR.out.2.2.1 p hp).alloc _) hlen HR.out.2.2.2).mono ?_; rintro e w2 ⟨rfl, rfl⟩; rw [hbd])
          go_ret
          rw [unhide HY']
          exact ⟨rfl, (Kept.refl _ _).alloc _⟩
    · have HH : Hid (head.args.any (looseT bl) = false) := by have h := HC.out; rwa [List.take_of_length_le (by omega)] at h
      clear HC
      have hKA := (Kept.refl [] w).alloc (.cells #[.string head.name, .slice adh head.args.length caph, .int .i64 head.at_] 79)
      go_wp2_with fail
      go_loopw [7] (fun i wr => ∃ k : Nat, i = .int .i64 k ∧ k ≤ bl.length ∧ Hid ((bl.take k).any (safeL bl) = false) ∧ Kept [] w wr) (fun i _ => bl.length - (intOf i).toNat)
      case atStart => exact ⟨0, rfl, Nat.zero_le _, by show _ = _; simp, hKA⟩
      case round =>
        rename_i wr _ _
        obtain ⟨q, rfl, hq, HQ, hKq⟩ := hrel
        clear hKA
        by_cases hlq : q < bl.length
        · have hRq := ownsRow_kept HR.out.2.1 hKq (by simp)
          obtain ⟨g, cap', he, hc, hcell⟩ := row_get hRq (fun c _ => litvCells_len c) q hlq
          simp only [Value.slice.injEq] at he
          obtain ⟨rfl, _, rfl⟩ := he
          have hin : LitIn _ 0 bl[q] := (HR.out.2.2.1 bl[q] (List.getElem_mem hlq)).kept hKq (by simp)
          obtain ⟨ada, capa, hav⟩ := row_nil hin
          have T := terms_any bl[q] _ hin
          simp only [litvCells, litVal, hav] at T
          have d0 := hcell q hlq 0 (by omega)
          have d1 := hcell q hlq 1 (by omega)
          have d2 := hcell q hlq 2 (by omega)
          have d3 := hcell q hlq 3 (by omega)
          have d4 := hcell q hlq 4 (by omega)
          have d5 := hcell q hlq 5 (by omega)
          have d6 := hcell q hlq 6 (by omega)
          have d7 := hcell q hlq 7 (by omega)
          have d8 := hcell q hlq 8 (by omega)
          simp [litvCells, litVal] at d0 d1 d2 d3 d4 d5 d6 d7 d8
          rw [hav] at d2
          have HT := hide T
          clear hcell hRq hin hav T
          have HN : Hid (safeL bl bl[q] = false → (bl.take (q + 1)).any (safeL bl) = false) := by intro h; rw [any_take _ _ q hlq HQ.out]; exact h
          have HY : Hid (safeL bl bl[q] = true → safeP head bl = (bl[q].1.at_ : Int)) := by
            intro h; unfold safeP; rw [if_neg (by rw [HH.out]; exact Bool.false_ne_true), find_take _ _ q hlq HQ.out h]
          have htl : (litTerms bl[q]).length ≤ 1000000 := by
            have := HR.out.2.2.2 bl[q] (List.getElem_mem hlq)
            unfold litTerms; split <;> simp <;> omega
          go_wp2_with fail
          refine (unhide HT).mono ?_
          rintro e w2 ⟨tv, rfl, hown, hK2⟩
          have hKq2 := hKq.trans hK2
          have hRq := ownsRow_kept HR.out.2.1 hKq2 (by simp)
          obtain ⟨g', cap', he, _, hcell⟩ := row_get hRq (fun c _ => litvCells_len c) q hlq
          simp only [Value.slice.injEq, Option.some.injEq, Addr.mk.injEq] at he
          obtain ⟨⟨rfl, _, _⟩, _, rfl⟩ := he
          have e8 := hcell q hlq 8 (by omega)
          simp [litvCells, litVal] at e8
          have HB : Hid (w2.ownsRow 0 95 9 (.slice (some ⟨g, 0, none⟩) bl.length cap) bl.length (bl.flatMap litvCells) ∧ (∀ p ∈ bl, LitIn w2 0 p)) := ⟨hRq, fun p hp => (HR.out.2.2.1 p hp).kept hKq2 (by simp)⟩
          clear hcell hRq d0 d1 d2 d3 d4 d5 d6 d7 d8 HT hK2 hKq
          obtain ⟨adt, capt, rfl⟩ := row_nil hown
          have HO := hide hown
          clear hown
          obtain ⟨ts, hts⟩ : ∃ ts, litTerms bl[q] = ts := ⟨_, rfl⟩
          rw [hts] at HO htl ⊢
          have HTS := hide hts
          clear hts
          go_wp2_with fail
          go_loop [9] (fun i => ∃ m : Nat, i = .int .i64 m ∧ m ≤ ts.length ∧ Hid ((ts.take m).any (looseT bl) = false)) (fun i => ts.length - (intOf i).toNat)
          case atStart => exact ⟨0, rfl, Nat.zero_le _, by show _ = _; simp⟩
          case round =>
            obtain ⟨m, rfl, hm, HM⟩ := hrel
            by_cases hlm : m < ts.length
            · obtain ⟨ga, capa', hea, hca, hcella⟩ := row_get (unhide HO) (fun c _ => termVal_len c) m hlm
              simp only [Value.slice.injEq] at hea
              obtain ⟨rfl, _, rfl⟩ := hea
              have f0 := hcella m hlm 0 (by omega)
              simp [termVal] at f0
              clear hcella
              have e1 : ((ts[m].v.toNat : Int) == 0) = (ts[m].v == 0) := byte_eq _ 0
              have MN : Hid (looseT bl ts[m] = false → (ts.take (m + 1)).any (looseT bl) = false) := by intro h; rw [any_take _ _ m hlm HM.out]; exact h
              have MY : Hid (looseT bl ts[m] = true → safeP head bl = (bl[q].1.at_ : Int)) := by intro h; exact HY.out (by unfold safeL; rw [unhide HTS]; exact any_hit _ _ m hlm h)
              cases hz : (ts[m].v == 0) with
              | true =>
                rw [hz] at e1
                have MN' := hide (MN.out (by simp [looseT, hz]))
                clear hz MN MY HN HY
                go_wp2_with fail
                go_round
                case rel => exact ⟨m + 1, by go_num, by omega, MN'⟩
                case measure => simp [intOf]; omega
              | false =>
                rw [hz] at e1
                cases hbd : boundB bl ts[m].v with
                | true =>
                  have MN' := hide (MN.out (by simp [looseT, hbd]))
                  clear hz MN MY HN HY
                  go_wp2_with (go_at_call 132; refine (bound_any _ bl _ ts[m].v _ rfl HB.out.1 HB.out.2 hlen HR.out.2.2.2).mono ?_; rintro e w2 ⟨rfl, rfl⟩; rw [hbd])
                  go_round
                  case rel => exact ⟨m + 1, by go_num, by omega, MN'⟩
                  case measure => simp [intOf]; omega
                | false =>
                  have MY' := hide (MY.out (by simp [looseT, hbd, hz]))
                  clear hz MN MY HN HY
                  go_wp2_with (go_at_call 132; refine (bound_any _ bl _ ts[m].v _ rfl HB.out.1 HB.out.2 hlen HR.out.2.2.2).mono ?_; rintro e w2 ⟨rfl, rfl⟩; rw [hbd])
                  go_ret
                  rw [unhide MY']
                  exact ⟨rfl, hKq2⟩
            · have HN' := hide (HN.out (by unfold safeL; rw [unhide HTS]; have h := HM.out; rwa [List.take_of_length_le (by omega)] at h))
              clear HN HY
              go_wp2_with fail
              go_roundw
              case rel => exact ⟨q + 1, by go_num, by omega, HN', hKq2⟩
              case measure => simp [intOf]; omega
        · have HE : Hid (safeP head bl = -1) := by
            have h := HQ.out; rw [List.take_of_length_le (by omega)] at h
            show _ = _
            unfold safeP
            rw [if_neg (by rw [HH.out]; exact Bool.false_ne_true)]
            have : bl.find? (safeL bl) = none := by
              rw [List.find?_eq_none]; intro x hx hf
              have : bl.any (safeL bl) = true := by rw [List.any_eq_true]; exact ⟨x, hx, hf⟩
              rw [h] at this; cases this
            rw [this]
          go_wp2_with fail
          go_ret
          rw [HE.out]
          exact ⟨rfl, hKq⟩

end Go.Proofs.YtoihbhenbmffcaaGreatDoor
