import Derived.Test.YtoihbhenbmffcaaGreatDoorRefX
set_option linter.unusedVariables false
set_option linter.unusedSimpArgs false

namespace Go.Proofs.YtoihbhenbmffcaaGreatDoor
open Go.RowKit

theorem small_take {cs : List RCV} {k : Nat} (hk : k < cs.length) (h0 : ∀ j (hj : j < cs.length), j < k → soundC cs j cs[j] = none) (hc : SmallC cs[k]) : ∀ c ∈ cs.take (k + 1), SmallC c := by
  intro c hm
  obtain ⟨j, hj, rfl⟩ := List.mem_iff_getElem.1 hm
  simp only [List.length_take] at hj
  rw [List.getElem_take]
  by_cases h : j < k
  · exact (soundC_small (h0 j (by omega) h)).2
  · have : j = k := by omega
    subst this; exact hc

/-- A world in which what was there in w0 is kept. -/
structure KW (w0 : World) where
  wk : World
  kept : Kept [] w0 wk
theorem KW.some (w0 : World) : Nonempty (KW w0) := ⟨⟨w0, Kept.refl _ _⟩⟩

/-- A region that draws its order, among the worlds in which what was there is kept: its calls may make memory. -/
theorem wp_region_class {P : Program} {id : Nat} {Q : Exit → Act → World → Prop} {a : Act} {w w0 : World} {l : List Oper} (hm : P.follows .mixedOrders = true) (hB : Region.lexB .any l.toArray = true) (hw : Kept [] w0 w)
    (h : wpQuiet P l.toArray (fun w' => ∃ n : KW w0, w' = n.wk) (fun a' => ∀ w', (∃ n : KW w0, w' = n.wk) → Q .normal a' w') l a) : (Code.region id l.toArray true).wp P Q a w :=
  wp_region_quiet (C := fun w' => ∃ n : KW w0, w' = n.wk) hm hB ⟨⟨_, hw.drew⟩, rfl⟩ (by simpa using h)

theorem Calls.class_of {P : Program} {f : FuncId} {args : Array Value} {w0 : World} {n : KW w0} {v : Value}
    (h : Calls P f args n.wk fun e w' => e = .returned v ∧ Kept [] n.wk w') : Calls P f args n.wk fun e w'' => e = .returned v ∧ ∃ m : KW w0, w'' = m.wk :=
  h.mono fun _ w' ⟨he, hk⟩ => ⟨he, ⟨⟨w', n.kept.trans hk⟩, rfl⟩⟩

set_option maxRecDepth 100000 in
set_option maxHeartbeats 6400000 in
theorem sound_any (pb : Nat) (lv : Value) (cs : List RCV) (w : World) (hP : Blk w pb [lv] 76) (hR : RowsIn w lv cs) (hF : Fits cs) :
    Calls Tryz.prog 45 #[.pointer (some ⟨pb, 0, none⟩)] w fun e w' => e = .returned (.tuple #[.int .i64 (soundP cs).1, .int .i64 (soundP cs).2]) ∧ Kept [] w w' := by
  obtain ⟨ad, cap, rfl⟩ := row_nil hR.row
  obtain ⟨R, hRR⟩ : ∃ R, soundP cs = R := ⟨_, rfl⟩
  rw [hRR]
  have HR : Hid (RowsIn w (.slice ad cs.length cap) cs ∧ Fits cs ∧ soundP cs = R) := ⟨hR, hF, hRR⟩
  have hlen := hF.len
  clear hR hF hRR
  go_enter Tryz.func45, Tryz.ntmps45
  go_wp2
  go_loopw [4] (fun i wr => ∃ k : Nat, i = .int .i64 k ∧ k ≤ cs.length ∧ Hid (∀ j (hj : j < cs.length), j < k → soundC cs j cs[j] = none) ∧ Kept [] w wr) (fun i _ => cs.length - (intOf i).toNat)
  case atStart => exact ⟨0, rfl, Nat.zero_le _, fun j hj h => by omega, Kept.refl _ _⟩
  case round =>
    obtain ⟨k, rfl, hk, HC, hK⟩ := hrel
    have hpc := (hP.kept hK (by simp)).cell 0
    simp at hpc
    by_cases hlt : k < cs.length
    · obtain ⟨g, cap', he, hcap, hcellx⟩ := row_get HR.out.1.row (fun c _ => cvCells_len c) k hlt
      clear hcellx
      simp only [Value.slice.injEq] at he
      obtain ⟨rfl, _, rfl⟩ := he
      obtain ⟨c0, c1, c2, c3, c4⟩ := rows_at HR.out.1 hK hlt
      have hin := (HR.out.1.kept hK).each cs[k] (List.getElem_mem hlt)
      obtain ⟨adh, caph, hhv⟩ := row_nil hin.args
      obtain ⟨adb, capb, hbv⟩ := row_nil hin.body
      rw [hhv] at c1
      rw [hbv] at c3
      obtain ⟨c, hc⟩ : ∃ c, cs[k] = c := ⟨_, rfl⟩
      rw [hc] at c0 c1 c2 c3 c4 hhv hbv
      have HH : Hid (cs[k] = c ∧ c.hv = .slice adh c.head.args.length caph ∧ c.bv = .slice adb c.bl.length capb) := ⟨hc, hhv, hbv⟩
      have hbl : c.bl.length ≤ 1000 := by have := HR.out.2.1.body cs[k] (List.getElem_mem hlt); rw [hc] at this; exact this
      have hhl : c.head.args.length ≤ 1000000 := by have := HR.out.2.1.head cs[k] (List.getElem_mem hlt); rw [hc] at this; exact this
      have HIT : Hid (∀ r, soundC cs k c = some r → R = r) := by
        intro r hr; rw [← HR.out.2.2]; exact soundP_hit hlt HC.out (by rw [hc]; exact hr)
      clear hin hhv hbv hc
      by_cases h1 : 12 ≤ k ∨ 3 < c.bl.length
      · have HRt : Hid (R = (3, (c.at_ : Int))) := HIT.out _ (by unfold soundC; rw [if_pos h1])
        by_cases h12 : 12 ≤ k
        · have h12' : (12 : Int) ≤ (k : Int) := by omega
          clear h1
          go_wp2_with fail
          go_quiet (fail)
          go_wp2_with fail
          go_ret2
          rw [HRt.out]
          exact ⟨rfl, (hK.alloc _).drewN _⟩
        · have h3 : (3 : Int) < (c.bl.length : Int) := by omega
          clear h1
          go_wp2_with fail
          go_quiet (fail)
          go_wp2_with fail
          go_ret2
          rw [HRt.out]
          exact ⟨rfl, (hK.alloc _).drewN _⟩
      · have hk12 : k < 12 := by omega
        have hb3 : c.bl.length ≤ 3 := by omega
        by_cases h2 : 2 < c.head.args.length
        · have HRt : Hid (R = (3, (c.at_ : Int))) := HIT.out _ (by unfold soundC; rw [if_neg h1, if_pos h2])
          clear h1
          go_wp2_with fail
          go_quiet (fail)
          go_wp2_with fail
          go_ret2
          rw [HRt.out]
          exact ⟨rfl, (hK.alloc _).drewN _⟩
        · have ha2 : c.head.args.length ≤ 2 := by omega
          have H12 : Hid (¬ (12 ≤ k ∨ 3 < c.bl.length) ∧ ¬ 2 < c.head.args.length) := ⟨h1, h2⟩
          clear h1 h2
          go_wp2_with fail
          have hB1 := Blk.new wr [.string c.head.name, .slice adh c.head.args.length caph, .int .i64 c.head.at_, .slice adb c.bl.length capb, .int .i64 c.at_] 82
          have hK1 := hK.alloc (.cells [.string c.head.name, .slice adh c.head.args.length caph, .int .i64 c.head.at_, .slice adb c.bl.length capb, .int .i64 c.at_].toArray 82)
          have hwN := hK.size
          clear hpc c0 c1 c2 c3 c4 hK
          generalize wr.alloc (.cells [.string c.head.name, .slice adh c.head.args.length caph, .int .i64 c.head.at_, .slice adb c.bl.length capb, .int .i64 c.at_].toArray 82) = w1 at hB1 hK1 ⊢
          generalize wr.heap.size = N at hB1 hwN ⊢
          have q0 := hB1.cell 0
          have q1 := hB1.cell 1
          have q2 := hB1.cell 2
          have q3 := hB1.cell 3
          have q4 := hB1.cell 4
          simp at q0 q1 q2 q3 q4
          go_loop [6] (fun i => ∃ m : Nat, i = .int .i64 m ∧ m ≤ c.bl.length ∧ Hid ((c.bl.take m).any manyArgs = false)) (fun i => c.bl.length - (intOf i).toNat)
          case atStart => exact ⟨0, rfl, Nat.zero_le _, by show _ = _; simp⟩
          case round =>
            obtain ⟨m, rfl, hm, HM⟩ := hrel
            by_cases hlm : m < c.bl.length
            · have hin := (HR.out.1.kept hK1).each cs[k] (List.getElem_mem hlt)
              rw [HH.out.1] at hin
              obtain ⟨gb, capb', heb, d0, d1, d2, d3, d4, d5, d6, d7, d8⟩ := lits_at hin hlm
              rw [HH.out.2.2] at heb
              simp only [Value.slice.injEq] at heb
              obtain ⟨rfl, _, rfl⟩ := heb
              obtain ⟨ada, capa, hav⟩ := row_nil (hin.lits c.bl[m] (List.getElem_mem hlm))
              rw [hav] at d2
              clear d0 d1 d3 d4 d5 d6 d7 d8 hin hav
              by_cases hma : 2 < c.bl[m].1.A.args.length
              · have HRt : Hid (R = (3, (c.at_ : Int))) := HIT.out _ (by unfold soundC; rw [if_neg H12.out.1, if_neg H12.out.2, if_pos (any_hit _ _ m hlm (by simpa [manyArgs] using hma))])
                go_wp2_with fail
                go_quiet (fail)
                go_wp2_with fail
                go_ret2
                rw [HRt.out]
                exact ⟨rfl, hK1.drewN _⟩
              · have HN : Hid ((c.bl.take (m + 1)).any manyArgs = false) := by show _ = _; rw [any_take _ _ m hlm HM.out]; simpa [manyArgs] using hma
                go_wp2_with fail
                go_round
                case rel => exact ⟨m + 1, by go_num, by omega, HN⟩
                case measure => simp [intOf]; omega
            · have HM2 : Hid (c.bl.any manyArgs = false) := by have h := HM.out; rwa [List.take_of_length_le (by omega)] at h
              clear HM
              have hpc := (hP.kept hK1 (by simp)).cell 0
              simp at hpc
              have hcap' : (k : Int) + 1 ≤ (cap : Int) := by omega
              have HSm : Hid (∀ c' ∈ cs.take (k + 1), SmallC c') := by
                refine small_take hlt HC.out ?_
                rw [HH.out.1]
                refine ⟨hb3, ha2, fun p hp => ?_⟩
                cases hmm : manyArgs p with
                | false => simpa [manyArgs] using hmm
                | true => have : c.bl.any manyArgs = true := by rw [List.any_eq_true]; exact ⟨p, hp, hmm⟩
                          rw [HM2.out] at this; cases this
              go_wp2_with fail
              clear hlm hm
              have hBq := Blk.new w1 [.slice (some ⟨g, 0, none⟩) (k + 1) cap] 76
              have hK2 := hK1.alloc (.cells [.slice (some ⟨g, 0, none⟩) (k + 1) cap].toArray 76)
              have hB2 := hB1.alloc (.cells [.slice (some ⟨g, 0, none⟩) (k + 1) cap].toArray 76)
              have hNlt := hB1.lt
              clear hpc q0 q1 q2 q3 q4 hB1 hK1
              generalize w1.alloc (.cells [.slice (some ⟨g, 0, none⟩) (k + 1) cap].toArray 76) = w2 at hBq hK2 hB2 ⊢
              generalize w1.heap.size = Nq at hBq hNlt ⊢
              have htl : (cs.take (k + 1)).length = k + 1 := by simp; omega
              have hRk := (HR.out.1.kept hK2).take (k + 1) (by omega)
              refine (names_any Nq _ (cs.take (k + 1)) _ hBq hRk (by omega) (unhide HSm)).mono ?_
              rintro e w3 ⟨v3, rfl, hown3, hK3⟩
              obtain ⟨ad3, cap3, rfl⟩ := row_nil hown3
              have hK3' := hK2.trans hK3
              have hB3 := hB2.kept hK3 (by simp)
              have hBq3 := hBq.kept hK3 (by simp)
              have hRk3 := hRk.kept hK3
              obtain ⟨nn, hnn⟩ : ∃ nn, (namesP (cs.take (k + 1))).length = nn := ⟨_, rfl⟩
              have HNN := hide hnn
              rw [hnn]
              clear hown3 hK3 hB2 hBq hRk hK2 hnn
              have q4 := hB3.cell 4
              simp at q4
              by_cases hn6 : 6 < nn
              · have HRt : Hid (R = (3, (c.at_ : Int))) := HIT.out _ (by unfold soundC; rw [if_neg H12.out.1, if_neg H12.out.2, if_neg (by rw [HM2.out]; exact Bool.false_ne_true), if_pos (Or.inl (by rw [unhide HNN]; exact hn6))])
                go_wp2_with fail
                go_quiet (fail)
                go_wp2_with fail
                go_ret2
                rw [HRt.out]
                exact ⟨rfl, hK3'.drewN _⟩
              · go_wp2_with fail
                refine (things_any Nq _ (cs.take (k + 1)) _ hBq3 hRk3 (by omega) (unhide HSm) (fun c' hc' => HR.out.2.1.full c' (List.mem_of_mem_take hc'))).mono ?_
                rintro e w4 ⟨v4, rfl, hown4, hK4⟩
                obtain ⟨ad4, cap4, rfl⟩ := row_nil hown4
                have hK4' := hK3'.trans hK4
                have hB4 := hB3.kept hK4 (by simp)
                obtain ⟨nt, hnt⟩ : ∃ nt, (thingsP (cs.take (k + 1))).length = nt := ⟨_, rfl⟩
                have HNT := hide hnt
                rw [hnt]
                clear hown4 hK4 hB3 hBq3 hRk3 hK3' hnt q4
                have q0 := hB4.cell 0
                have q1 := hB4.cell 1
                have q2 := hB4.cell 2
                have q4 := hB4.cell 4
                simp at q0 q1 q2 q4
                by_cases ht6 : 6 < nt
                · have HRt : Hid (R = (3, (c.at_ : Int))) := HIT.out _ (by unfold soundC; rw [if_neg H12.out.1, if_neg H12.out.2, if_neg (by rw [HM2.out]; exact Bool.false_ne_true), if_pos (Or.inr (by rw [unhide HNT]; exact ht6))])
                  go_wp2_with fail
                  go_quiet (fail)
                  go_wp2_with fail
                  go_ret2
                  rw [HRt.out]
                  exact ⟨rfl, hK4'.drewN _⟩
                · have H34 : Hid (¬ (6 < (namesP (cs.take (k + 1))).length ∨ 6 < (thingsP (cs.take (k + 1))).length)) := by
                    show ¬ _; rw [unhide HNN, unhide HNT]; omega
                  obtain ⟨ar, har⟩ : ∃ ar, arityP cs c.head.name = ar := ⟨_, rfl⟩
                  have HAr := hide har
                  have hP4 := (hP.kept hK4' (by simp)).drew
                  have hK4d := hK4'.drew
                  have HF4 : Hid (cs.length ≤ 1000000 ∧ (∀ c ∈ cs, c.bl.length ≤ 1000000) ∧ (∀ c ∈ cs, ∀ p ∈ c.bl, p.1.A.args.length ≤ 1000000)) := ⟨by omega, fun c' hc' => by have := HR.out.2.1.body c' hc'; omega, HR.out.2.1.lits⟩
                  clear har
                  go_wp2_with fail
                  go_region_held3 (fun w' => w'.cell? ⟨N, 0, none⟩ = some (.string c.head.name) ∧ w'.cell? ⟨N, 1, none⟩ = some (.slice adh c.head.args.length caph)) (go_keep) (first | (go_at_call 23; refine (arity_any pb _ cs c.head.name _ (by exact hP4) (by exact HR.out.1.kept hK4d) HF4.out.1 HF4.out.2.1).mono ?_; rintro e w5 ⟨rfl, hK5⟩; rw [unhide HAr]; have hB5 := hB4.drew.kept hK5 (by simp); have r0 := hB5.cell 0; have r1 := hB5.cell 1; simp at r0 r1))
                  have hK5' := hK4d.trans hK5
                  clear hP4 hK4d hK4' hB4 q0 q1 q2 q4 hK5 r0 r1
                  have q2 := hB5.cell 2
                  have q3 := hB5.cell 3
                  simp at q2 q3
                  by_cases hae : ar = (c.head.args.length : Int)
                  · have hne : (ar != (c.head.args.length : Int)) = false := by simp [hae]
                    have HAE : Hid (¬ arityP cs c.head.name ≠ (c.head.args.length : Int)) := by show ¬ _; rw [unhide HAr]; simp [hae]
                    clear hae
                    go_wp2_with fail
                    go_loopw [8] (fun i wq => ∃ m : Nat, i = .int .i64 m ∧ m ≤ c.bl.length ∧ Hid ((c.bl.take m).any (otherArity cs) = false) ∧ Kept [] w wq ∧ Blk wq N [.string c.head.name, .slice adh c.head.args.length caph, .int .i64 c.head.at_, .slice adb c.bl.length capb, .int .i64 c.at_] 82) (fun i _ => c.bl.length - (intOf i).toNat)
                    case atStart => exact ⟨0, rfl, Nat.zero_le _, by show _ = _; simp, hK5', hB5⟩
                    case round =>
                      clear q2 q3 hB5 hK5' hne
                      obtain ⟨m, rfl, hm, HM, hKq, hBq⟩ := hrel
                      have hNq := hBq.lt
                      have q0 := hBq.cell 0
                      have q1 := hBq.cell 1
                      have q2 := hBq.cell 2
                      have q3 := hBq.cell 3
                      simp at q0 q1 q2 q3
                      have hin := (HR.out.1.kept hKq).each cs[k] (List.getElem_mem hlt)
                      rw [HH.out.1] at hin
                      by_cases hlm : m < c.bl.length
                      · obtain ⟨gb, capb', heb, d0, d1, d2, d3, d4, d5, d6, d7, d8⟩ := lits_at hin hlm
                        rw [HH.out.2.2] at heb
                        simp only [Value.slice.injEq] at heb
                        obtain ⟨rfl, _, rfl⟩ := heb
                        obtain ⟨ada, capa, hav⟩ := row_nil (hin.lits c.bl[m] (List.getElem_mem hlm))
                        rw [hav] at d2
                        clear hin hav
                        obtain ⟨pp, hpp⟩ : ∃ pp, c.bl[m] = pp := ⟨_, rfl⟩
                        rw [hpp] at d0 d1 d2 d3 d4 d5 d6 d7 d8
                        have HY : Hid (otherArity cs pp = true → R = (4, (pp.1.A.at_ : Int))) := by
                          intro ho
                          refine HIT.out _ ?_
                          unfold soundC
                          rw [if_neg H12.out.1, if_neg H12.out.2, if_neg (by rw [HM2.out]; exact Bool.false_ne_true), if_neg H34.out, if_neg HAE.out, find_take _ _ m hlm HM.out (by rw [hpp]; exact ho), hpp]
                        have HN : Hid (otherArity cs pp = false → (c.bl.take (m + 1)).any (otherArity cs) = false) := by
                          intro ho; rw [any_take _ _ m hlm HM.out, hpp]; exact ho
                        clear hpp
                        go_wp2_with fail
                        clear d0 d1 d2 d3 d4 d5 d6 d7 d8 q0 q1 q2 q3
                        have hBx := Blk.new wr [.int .u8 pp.1.kind.toNat, .string pp.1.A.name, .slice ada pp.1.A.args.length capa, .int .i64 pp.1.A.at_, .int .u8 pp.1.L.v.toNat, .string pp.1.L.s, .int .u8 pp.1.R.v.toNat, .string pp.1.R.s, .int .i64 pp.1.at_] 95
                        have hBn := hBq.alloc (.cells [.int .u8 pp.1.kind.toNat, .string pp.1.A.name, .slice ada pp.1.A.args.length capa, .int .i64 pp.1.A.at_, .int .u8 pp.1.L.v.toNat, .string pp.1.L.s, .int .u8 pp.1.R.v.toNat, .string pp.1.R.s, .int .i64 pp.1.at_].toArray 95)
                        have hKx := hKq.alloc (.cells [.int .u8 pp.1.kind.toNat, .string pp.1.A.name, .slice ada pp.1.A.args.length capa, .int .i64 pp.1.A.at_, .int .u8 pp.1.L.v.toNat, .string pp.1.L.s, .int .u8 pp.1.R.v.toNat, .string pp.1.R.s, .int .i64 pp.1.at_].toArray 95)
                        clear hBq hKq
                        generalize wr.alloc (.cells [.int .u8 pp.1.kind.toNat, .string pp.1.A.name, .slice ada pp.1.A.args.length capa, .int .i64 pp.1.A.at_, .int .u8 pp.1.L.v.toNat, .string pp.1.L.s, .int .u8 pp.1.R.v.toNat, .string pp.1.R.s, .int .i64 pp.1.at_].toArray 95) = w6 at hBx hBn hKx ⊢
                        generalize wr.heap.size = Nx at hBx hNq ⊢
                        have x0 := hBx.cell 0
                        have x1 := hBx.cell 1
                        have x2 := hBx.cell 2
                        have x3 := hBx.cell 3
                        simp at x0 x1 x2 x3
                        obtain ⟨ar2, har2⟩ : ∃ ar2, arityP cs pp.1.A.name = ar2 := ⟨_, rfl⟩
                        have HA2 := hide har2
                        have hP6 := (hP.kept hKx (by simp)).drew
                        have hK6d := hKx.drew
                        rcases kind_cases pp with ⟨k1, k3⟩ | ⟨k1, k2, k3⟩ | ⟨k1, k2, k3⟩
                        · have y0 : ∀ n : KW w6, n.wk.cell? ⟨Nx, 0, none⟩ = some (.int .u8 pp.1.kind.toNat) := fun n => (hBx.kept n.kept (by simp)).cell 0
                          have y1 : ∀ n : KW w6, n.wk.cell? ⟨Nx, 1, none⟩ = some (.string pp.1.A.name) := fun n => (hBx.kept n.kept (by simp)).cell 1
                          have y2 : ∀ n : KW w6, n.wk.cell? ⟨Nx, 2, none⟩ = some (.slice ada pp.1.A.args.length capa) := fun n => (hBx.kept n.kept (by simp)).cell 2
                          have ACALL : Hid (∀ n : KW w6, Calls Tryz.prog 23 #[.pointer (some ⟨pb, 0, none⟩), .string pp.1.A.name] n.wk fun e w'' => e = .returned (.int .i64 ar2) ∧ ∃ m : KW w6, w'' = m.wk) := by
                            intro n
                            have h := arity_any pb _ cs pp.1.A.name n.wk (hP.kept (hKx.trans n.kept) (by simp)) (HR.out.1.kept (hKx.trans n.kept)) HF4.out.1 HF4.out.2.1
                            rw [unhide HA2] at h
                            exact Calls.class_of h
                          clear x0 x1 x2
                          have hsome := KW.some w6
                          refine wp_region_class (w0 := w6) (by kernel_rfl) (by kernel_rfl) (Kept.refl _ _) ?_
                          repeat (go_big_quiet_step ((go_at_call 23; exact (unhide ACALL) _)))
                          refine wpQuiet_nil ?_
                          intro _ hw'
                          obtain ⟨⟨w7, hK7⟩, hw7⟩ := hw'
                          subst hw7
                          try simp only
                          clear y0 y1 y2 ACALL
                          have hK7' := hKx.trans hK7
                          have hBn7 := hBn.kept hK7 (by simp)
                          have x3' := (hBx.kept hK7 (by simp)).cell 3
                          simp at x3'
                          by_cases hae : ar2 = (pp.1.A.args.length : Int)
                          · have hne2 : (ar2 != (pp.1.A.args.length : Int)) = false := by simp [hae]
                            have HN' := hide (HN.out (by simp only [otherArity, k3, unhide HA2, hne2, Bool.and_false]))
                            clear HY HN k3 har2 hP6 hK6d x3 hBx hBn hKx hK7 hae
                            go_wp2_with fail
                            go_roundw
                            case rel => exact ⟨m + 1, by go_num, by omega, HN', hK7', hBn7⟩
                            case measure => simp [intOf]; omega
                          · have hne2 : (ar2 != (pp.1.A.args.length : Int)) = true := by simp [hae]
                            have HRt : Hid (R = (4, (pp.1.A.at_ : Int))) := HY.out (by simp only [otherArity, k3, unhide HA2, hne2, Bool.and_self])
                            clear HY HN k3 har2 hP6 hK6d x3 hBx hBn hKx hK7 hae
                            go_wp2_with fail
                            go_quiet (fail)
                            go_wp2_with fail
                            go_ret2
                            rw [HRt.out]
                            exact ⟨rfl, hK7'.drewN _⟩
                        · have y0 : ∀ n : KW w6, n.wk.cell? ⟨Nx, 0, none⟩ = some (.int .u8 pp.1.kind.toNat) := fun n => (hBx.kept n.kept (by simp)).cell 0
                          have y1 : ∀ n : KW w6, n.wk.cell? ⟨Nx, 1, none⟩ = some (.string pp.1.A.name) := fun n => (hBx.kept n.kept (by simp)).cell 1
                          have y2 : ∀ n : KW w6, n.wk.cell? ⟨Nx, 2, none⟩ = some (.slice ada pp.1.A.args.length capa) := fun n => (hBx.kept n.kept (by simp)).cell 2
                          have ACALL : Hid (∀ n : KW w6, Calls Tryz.prog 23 #[.pointer (some ⟨pb, 0, none⟩), .string pp.1.A.name] n.wk fun e w'' => e = .returned (.int .i64 ar2) ∧ ∃ m : KW w6, w'' = m.wk) := by
                            intro n
                            have h := arity_any pb _ cs pp.1.A.name n.wk (hP.kept (hKx.trans n.kept) (by simp)) (HR.out.1.kept (hKx.trans n.kept)) HF4.out.1 HF4.out.2.1
                            rw [unhide HA2] at h
                            exact Calls.class_of h
                          clear x0 x1 x2
                          have hsome := KW.some w6
                          refine wp_region_class (w0 := w6) (by kernel_rfl) (by kernel_rfl) (Kept.refl _ _) ?_
                          repeat (go_big_quiet_step ((go_at_call 23; exact (unhide ACALL) _)))
                          refine wpQuiet_nil ?_
                          intro _ hw'
                          obtain ⟨⟨w7, hK7⟩, hw7⟩ := hw'
                          subst hw7
                          try simp only
                          clear y0 y1 y2 ACALL
                          have hK7' := hKx.trans hK7
                          have hBn7 := hBn.kept hK7 (by simp)
                          have x3' := (hBx.kept hK7 (by simp)).cell 3
                          simp at x3'
                          by_cases hae : ar2 = (pp.1.A.args.length : Int)
                          · have hne2 : (ar2 != (pp.1.A.args.length : Int)) = false := by simp [hae]
                            have HN' := hide (HN.out (by simp only [otherArity, k3, unhide HA2, hne2, Bool.and_false]))
                            clear HY HN k3 har2 hP6 hK6d x3 hBx hBn hKx hK7 hae
                            go_wp2_with fail
                            go_roundw
                            case rel => exact ⟨m + 1, by go_num, by omega, HN', hK7', hBn7⟩
                            case measure => simp [intOf]; omega
                          · have hne2 : (ar2 != (pp.1.A.args.length : Int)) = true := by simp [hae]
                            have HRt : Hid (R = (4, (pp.1.A.at_ : Int))) := HY.out (by simp only [otherArity, k3, unhide HA2, hne2, Bool.and_self])
                            clear HY HN k3 har2 hP6 hK6d x3 hBx hBn hKx hK7 hae
                            go_wp2_with fail
                            go_quiet (fail)
                            go_wp2_with fail
                            go_ret2
                            rw [HRt.out]
                            exact ⟨rfl, hK7'.drewN _⟩
                        · have HN' := hide (HN.out (by simp [otherArity, k3]))
                          clear HY HN k3 har2 hP6 hK6d
                          go_quiet (fail)
                          go_wp2_with fail
                          go_roundw
                          case rel => exact ⟨m + 1, by go_num, by omega, HN', hKx.drewN _, hBn.drewN _⟩
                          case measure => simp [intOf]; omega
                      · have HFN : Hid (c.bl.find? (otherArity cs) = none) := by
                          have h := HM.out; rw [List.take_of_length_le (by omega)] at h
                          show _ = _
                          rw [List.find?_eq_none]; intro x hx hf
                          have : c.bl.any (otherArity cs) = true := by rw [List.any_eq_true]; exact ⟨x, hx, hf⟩
                          rw [h] at this; cases this
                        have T := safe_any c.head c.hv c.bv c.bl _ hin.args hin.body hin.lits (by omega) (fun p hp => by have := HF4.out.2.2 cs[k] (List.getElem_mem hlt) p (by rw [HH.out.1]; exact hp); exact this) hhl
                        rw [HH.out.2.1, HH.out.2.2] at T
                        simp only [atomVal] at T
                        have HT := hide T
                        obtain ⟨sf, hsf⟩ : ∃ sf, safeP c.head c.bl = sf := ⟨_, rfl⟩
                        have HSF := hide hsf
                        have hsfb : -1 ≤ sf ∧ sf ≤ 9223372036854775806 → True := fun _ => trivial
                        clear hsfb T hin hsf
                        go_wp2_with fail
                        refine (unhide HT).mono ?_
                        rintro e w7 ⟨rfl, hK7⟩
                        rw [unhide HSF]
                        have hK7' := hKq.trans hK7
                        clear HT hK7 hKq hBq q0 q1 q2 q3
                        by_cases hs0 : 0 ≤ sf
                        · have HRt : Hid (R = (5, sf)) := HIT.out _ (by unfold soundC; rw [if_neg H12.out.1, if_neg H12.out.2, if_neg (by rw [HM2.out]; exact Bool.false_ne_true), if_neg H34.out, if_neg HAE.out, HFN.out]; simp only; rw [unhide HSF, if_pos hs0])
                          go_wp2_with fail
                          go_ret2
                          rw [HRt.out]
                          exact ⟨rfl, hK7'⟩
                        · have HCn : Hid (∀ j (hj : j < cs.length), j < k + 1 → soundC cs j cs[j] = none) := by
                            intro j hj hjk
                            by_cases hjk' : j < k
                            · exact HC.out j hj hjk'
                            · have : j = k := by omega
                              subst this
                              rw [HH.out.1]
                              unfold soundC
                              rw [if_neg H12.out.1, if_neg H12.out.2, if_neg (by rw [HM2.out]; exact Bool.false_ne_true), if_neg H34.out, if_neg HAE.out, HFN.out]
                              simp only
                              rw [unhide HSF, if_neg hs0]
                          go_wp2_with fail
                          go_roundw
                          case rel => exact ⟨k + 1, by go_num, by omega, HCn, hK7'⟩
                          case measure => simp [intOf]; omega
                  · have hne : (ar != (c.head.args.length : Int)) = true := by simp [hae]
                    have HRt : Hid (R = (4, (c.head.at_ : Int))) := HIT.out _ (by unfold soundC; rw [if_neg H12.out.1, if_neg H12.out.2, if_neg (by rw [HM2.out]; exact Bool.false_ne_true), if_neg H34.out, if_pos (by rw [unhide HAr]; exact hae)])
                    clear hae
                    go_wp2_with fail
                    go_quiet (fail)
                    go_wp2_with fail
                    go_ret2
                    rw [HRt.out]
                    exact ⟨rfl, hK5'.drewN _⟩
    · have HRn : Hid (R = match cs.findSome? (strataC cs) with | some r => r | none => (0, 0)) := by
        rw [← HR.out.2.2]; exact soundP_none (fun j hj => HC.out j hj (by omega))
      have HF5 : Hid (cs.length ≤ 1000000 ∧ (∀ c ∈ cs, c.bl.length ≤ 1000000) ∧ (atomsOf cs).length ≤ 900000) := ⟨by omega, fun c' hc' => by have := HR.out.2.1.body c' hc'; omega, HR.out.2.1.atoms⟩
      clear HC
      go_wp2_with fail
      clear hpc
      go_loopw [11] (fun i wr => ∃ q : Nat, i = .int .i64 q ∧ q ≤ cs.length ∧ Hid ((cs.take q).findSome? (strataC cs) = none) ∧ Kept [] w wr) (fun i _ => cs.length - (intOf i).toNat)
      case atStart => exact ⟨0, rfl, Nat.zero_le _, by show _ = _; simp, hK⟩
      case round =>
        clear hK
        obtain ⟨q, rfl, hq, HQ, hK⟩ := hrel
        have hpc := (hP.kept hK (by simp)).cell 0
        simp at hpc
        by_cases hlq : q < cs.length
        · obtain ⟨g, cap', he, hcap, hcellx⟩ := row_get HR.out.1.row (fun c _ => cvCells_len c) q hlq
          clear hcellx
          simp only [Value.slice.injEq] at he
          obtain ⟨rfl, _, rfl⟩ := he
          have hin0 := HR.out.1.each cs[q] (List.getElem_mem hlq)
          obtain ⟨adb, capb, hbv⟩ := row_nil hin0.body
          obtain ⟨c, hc⟩ : ∃ c, cs[q] = c := ⟨_, rfl⟩
          rw [hc] at hbv
          have HH : Hid (cs[q] = c ∧ c.bv = .slice adb c.bl.length capb) := ⟨hc, hbv⟩
          have hbl : c.bl.length ≤ 1000 := by have := HR.out.2.1.body cs[q] (List.getElem_mem hlq); rw [hc] at this; exact this
          clear hin0 hbv hc
          go_wp2_with fail
          clear hpc
          go_loopw [12] (fun i wq => ∃ m : Nat, i = .int .i64 m ∧ m ≤ c.bl.length ∧ Hid ((c.bl.take m).any (strataL cs c) = false) ∧ Kept [] w wq) (fun i _ => c.bl.length - (intOf i).toNat)
          case atStart => exact ⟨0, rfl, Nat.zero_le _, by show _ = _; simp, hK⟩
          case round =>
            clear hK
            obtain ⟨m, rfl, hm, HM, hKq⟩ := hrel
            have hpc := (hP.kept hKq (by simp)).cell 0
            simp at hpc
            obtain ⟨c0, _, _, c3, _⟩ := rows_at HR.out.1 hKq hlq
            rw [HH.out.1] at c0 c3
            rw [HH.out.2] at c3
            have hin := (HR.out.1.kept hKq).each cs[q] (List.getElem_mem hlq)
            rw [HH.out.1] at hin
            by_cases hlm : m < c.bl.length
            · obtain ⟨gb, capb', heb, d0, d1, d2, d3, d4, d5, d6, d7, d8⟩ := lits_at hin hlm
              rw [HH.out.2] at heb
              simp only [Value.slice.injEq] at heb
              obtain ⟨rfl, _, rfl⟩ := heb
              obtain ⟨ada, capa, hav⟩ := row_nil (hin.lits c.bl[m] (List.getElem_mem hlm))
              rw [hav] at d2
              clear hin hav
              obtain ⟨pp, hpp⟩ : ∃ pp, c.bl[m] = pp := ⟨_, rfl⟩
              rw [hpp] at d0 d1 d2 d3 d4 d5 d6 d7 d8
              have HY : Hid (strataL cs c pp = true → R = (6, (pp.1.at_ : Int))) := by
                intro ho
                have h1 : strataC cs cs[q] = some (6, (pp.1.at_ : Int)) := by
                  unfold strataC; rw [HH.out.1, find_take _ _ m hlm HM.out (by rw [hpp]; exact ho), hpp]; rfl
                rw [HRn.out, findSome_hit _ _ q hlq HQ.out h1]
              have HN : Hid (strataL cs c pp = false → (c.bl.take (m + 1)).any (strataL cs c) = false) := by
                intro ho; rw [any_take _ _ m hlm HM.out, hpp]; exact ho
              clear hpp
              have e33 : ((pp.1.kind.toNat : Int) == 33) = (pp.1.kind == 33) := byte_eq _ 33
              cases hkd : (pp.1.kind == 33) with
              | false =>
                rw [hkd] at e33
                have HN' := hide (HN.out (by simp [strataL, hkd]))
                clear HY HN hkd
                go_wp2_with fail
                go_roundw
                case rel => exact ⟨m + 1, by go_num, by omega, HN', hKq.alloc _⟩
                case measure => simp [intOf]; omega
              | true =>
                rw [hkd] at e33
                go_wp2_with fail
                clear d0 d1 d2 d3 d4 d5 d6 d7 d8 hpc c0 c3 e33
                have hBx := Blk.new wr [.int .u8 pp.1.kind.toNat, .string pp.1.A.name, .slice ada pp.1.A.args.length capa, .int .i64 pp.1.A.at_, .int .u8 pp.1.L.v.toNat, .string pp.1.L.s, .int .u8 pp.1.R.v.toNat, .string pp.1.R.s, .int .i64 pp.1.at_] 95
                have hKx := hKq.alloc (.cells [.int .u8 pp.1.kind.toNat, .string pp.1.A.name, .slice ada pp.1.A.args.length capa, .int .i64 pp.1.A.at_, .int .u8 pp.1.L.v.toNat, .string pp.1.L.s, .int .u8 pp.1.R.v.toNat, .string pp.1.R.s, .int .i64 pp.1.at_].toArray 95)
                clear hKq
                generalize wr.alloc (.cells [.int .u8 pp.1.kind.toNat, .string pp.1.A.name, .slice ada pp.1.A.args.length capa, .int .i64 pp.1.A.at_, .int .u8 pp.1.L.v.toNat, .string pp.1.L.s, .int .u8 pp.1.R.v.toNat, .string pp.1.R.s, .int .i64 pp.1.at_].toArray 95) = w6 at hBx hKx ⊢
                generalize wr.heap.size = Nx at hBx ⊢
                have y1 : ∀ n : KW w6, n.wk.cell? ⟨Nx, 1, none⟩ = some (.string pp.1.A.name) := fun n => (hBx.kept n.kept (by simp)).cell 1
                have y2 : ∀ n : KW w6, n.wk.cell? ⟨pb, 0, none⟩ = some (.slice (some ⟨g, 0, none⟩) cs.length cap) := fun n => (hP.kept (hKx.trans n.kept) (by simp)).cell 0
                have y3 : ∀ n : KW w6, n.wk.cell? ⟨g, q * 5, none⟩ = some (.string c.head.name) := fun n => by have h := (rows_at HR.out.1 (hKx.trans n.kept) hlq).1; rw [HH.out.1] at h; exact h
                obtain ⟨rb, hrb⟩ : ∃ rb, reachP cs pp.1.A.name c.head.name = rb := ⟨_, rfl⟩
                have HRB := hide hrb
                have ACALL : Hid (∀ n : KW w6, Calls Tryz.prog 85 #[.pointer (some ⟨pb, 0, none⟩), .string pp.1.A.name, .string c.head.name] n.wk fun e w'' => e = .returned (.bool rb) ∧ ∃ m : KW w6, w'' = m.wk) := by
                  intro n
                  have h := reaches_any pb _ cs pp.1.A.name c.head.name n.wk (hP.kept (hKx.trans n.kept) (by simp)) (HR.out.1.kept (hKx.trans n.kept)) HF5.out.1 HF5.out.2.1 HF5.out.2.2
                  rw [unhide HRB] at h
                  exact Calls.class_of h
                have hlq' : (q : Int) < (cs.length : Int) := by omega
                clear hrb
                have hsome := KW.some w6
                refine wp_region_class (w0 := w6) (by kernel_rfl) (by kernel_rfl) (Kept.refl _ _) ?_
                repeat (go_big_quiet_step ((go_at_call 85; exact (unhide ACALL) _)))
                refine wpQuiet_nil ?_
                intro _ hw'
                obtain ⟨⟨w7, hK7⟩, hw7⟩ := hw'
                subst hw7
                try simp only
                clear y1 y2 y3 ACALL
                have hK7' := hKx.trans hK7
                have x8 := (hBx.kept hK7 (by simp)).cell 8
                simp at x8
                cases rb with
                | true =>
                  have HRt : Hid (R = (6, (pp.1.at_ : Int))) := HY.out (by simp only [strataL, hkd, unhide HRB, Bool.and_self])
                  clear HY HN hkd hBx hKx hK7
                  go_wp2_with fail
                  go_quiet (fail)
                  go_wp2_with fail
                  go_ret2
                  rw [HRt.out]
                  exact ⟨rfl, hK7'.drewN _⟩
                | false =>
                  have HN' := hide (HN.out (by simp only [strataL, hkd, unhide HRB, Bool.and_false]))
                  clear HY HN hkd hBx hKx hK7
                  go_wp2_with fail
                  go_roundw
                  case rel => exact ⟨m + 1, by go_num, by omega, HN', hK7'⟩
                  case measure => simp [intOf]; omega
            · have HZ : Hid ((cs.take (q + 1)).findSome? (strataC cs) = none) := by
                have h := HM.out; rw [List.take_of_length_le (by omega)] at h
                show _ = _
                rw [findSome_take _ _ q hlq HQ.out, HH.out.1]
                unfold strataC
                have : c.bl.find? (strataL cs c) = none := by
                  rw [List.find?_eq_none]; intro x hx hf
                  have : c.bl.any (strataL cs c) = true := by rw [List.any_eq_true]; exact ⟨x, hx, hf⟩
                  rw [h] at this; cases this
                rw [this]; rfl
              go_wp2_with fail
              go_roundw
              case rel => exact ⟨q + 1, by go_num, by omega, HZ, hKq⟩
              case measure => simp [intOf]; omega
        · have HE : Hid (R = (0, 0)) := by
            have h := HQ.out; rw [List.take_of_length_le (by omega)] at h
            show _ = _
            rw [HRn.out, h]
          go_wp2_with fail
          go_ret2
          rw [HE.out]
          exact ⟨rfl, hK⟩

end Go.Proofs.YtoihbhenbmffcaaGreatDoor
