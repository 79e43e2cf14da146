import Derived.Test.YtoihbhenbmffcaaGreatDoorPlF
import Derived.Test.YtoihbhenbmffcaaGreatDoorRefRd
set_option linter.unusedVariables false
set_option linter.unusedSimpArgs false

namespace Go.Proofs.YtoihbhenbmffcaaGreatDoor
open Go.RowKit

def namesPC (c : PC) : List ByteArray := c.hn :: (c.body.filter hasAtomB).map fun l => l.an

theorem namesV_pc (c : PCV) : namesV c = namesPC c.pc := by
  unfold namesV namesPC bodyNames PCV.pc
  simp only [List.filter_map, List.map_map]
  rfl

theorem plR_atom (x : RLit) : hasAtomB (plR x) = (x.kind == 97 || x.kind == 33) := by
  unfold hasAtomB plR
  simp only [sort0, sort1]

theorem namesR_pc (r : RCV) : namesR r = namesPC (pcR r.erase) := by
  unfold namesR namesPC pcR RCV.erase
  simp only [List.map_map, List.filter_map]
  congr 1
  have : (hasAtomB ∘ (plR ∘ Prod.fst)) = isA := by
    funext q
    simp only [Function.comp, plR_atom]
    rfl
  rw [this]
  rfl

/-- A clause of the reference, with no values. -/
def rcvOf (c : RClause) : RCV := ⟨c.head, .slice none 0 0, .slice none 0 0, c.body.map fun x => (x, .slice none 0 0), c.at_⟩

theorem rcvOf_erase (c : RClause) : (rcvOf c).erase = c := by
  unfold rcvOf RCV.erase
  simp only [List.map_map]
  have : (Prod.fst ∘ fun x : RLit => (x, Value.slice none 0 0)) = id := rfl
  rw [this, List.map_id]

def fOf (s : ByteArray) : ByteArray → ByteArray → Bool := reachP ((clausesR s (gapTo s 0)).1.map rcvOf)

theorem leans_pc {pcs : List PCV} {rcs : List RCV} (h : pcs.map PCV.pc = rcs.map fun r => pcR r.erase) (x y : ByteArray) : LeansOn pcs x y ↔ LeansR rcs x y := by
  have h2 := F2.of_map h
  constructor
  · intro hl S hx hc
    refine hl S hx (fun c hcm hs z hz => ?_)
    obtain ⟨r, hr, hcr⟩ := h2.mem1 c hcm
    rw [namesV_pc, hcr, ← namesR_pc] at hz
    have hn : c.hn = r.head.name := congrArg PC.hn hcr
    rw [hn] at hs
    exact hc r hr hs z hz
  · intro hl S hx hc
    refine hl S hx (fun r hrm hs z hz => ?_)
    obtain ⟨c, hcm, hcr⟩ := h2.mem r hrm
    rw [namesR_pc, ← hcr, ← namesV_pc] at hz
    have hn : c.hn = r.head.name := congrArg PC.hn hcr
    rw [← hn] at hs
    exact hc c hcm hs z hz

theorem prog_of (s : ByteArray) : match progM (cutR s) 0 [] with
    | .ok cs => (clausesR s (gapTo s 0)).2.2 = false ∧ cs = (clausesR s (gapTo s 0)).1.map pcR ∧ (∀ c ∈ (clausesR s (gapTo s 0)).1, c.at_ = c.head.at_)
    | .error p => (clausesR s (gapTo s 0)).2.2 = true ∧ p = ((clausesR s (gapTo s 0)).2.1 : Int) := by
  have hat : At s (cutR s) 0 0 := by
    unfold At
    rw [cutR_marks]
    rfl
  have := prog_eq _ 0 (gapTo s 0) [] (Nat.le_refl _) hat.gap (gapTo_le s 0 (Nat.zero_le _)) (gapTo_idem s 0)
  revert this
  cases progM (cutR s) 0 [] with
  | error p => exact fun h => h
  | ok cs => exact fun h => ⟨h.1, by simpa using h.2.1, h.2.2⟩

theorem good_ps {s : ByteArray} (hs : s.size ≤ 300) {cs : List PC} (hp : progM (cutR s) 0 [] = .ok cs) {pcs : List PCV} (hm : pcs.map PCV.pc = cs) : GoodPs (fOf s) pcs := by
  have hl := (cutR_len s).1
  have hgood := progM_good (by omega) _ 0 [] (Nat.le_refl _) (by simp) hp
  have hprog := prog_of s
  rw [hp] at hprog
  have hcs : pcs.length = cs.length := by rw [← hm]; simp
  have hg : ∀ c ∈ pcs, GoodPC c.pc := fun c hc => hgood.1 _ (by rw [← hm]; exact List.mem_map.2 ⟨c, hc, rfl⟩)
  have hlen := hgood.2
  simp only [List.length_nil] at hlen
  refine ⟨fun x y => ?_, fun c hc => (good_fit (hg c hc)).1, by omega, ?_⟩
  · unfold fOf
    rw [reachP_iff]
    refine (leans_pc ?_ x y).symm
    rw [hm, hprog.2.1, List.map_map]
    apply List.map_congr_left
    intro c _
    simp only [Function.comp, rcvOf_erase]
  · have h1 := flat_le namesV 152 pcs (fun c hc => (good_fit (hg c hc)).2)
    have h2 : pcs.length * 152 ≤ 301 * 152 := Nat.mul_le_mul_right _ (by omega)
    omega

theorem cor_of {c : PCV} {r : RCV} (h : c.pc = pcR r.erase) (hg : GoodPC c.pc) (hw : Wf c) (hat : r.at_ = r.head.at_) : Cor c r := by
  have e1 : c.hp = r.head.at_ := congrArg PC.hp h
  have e2 : c.hn = r.head.name := congrArg PC.hn h
  have e3 : c.hts = r.head.args.map ct := congrArg PC.hts h
  have e4 : c.lvs.map Prod.fst = r.bl.map fun q => plR q.1 := by
    have : c.lvs.map Prod.fst = (r.bl.map Prod.fst).map plR := congrArg PC.body h
    rw [this, List.map_map]
    rfl
  refine ⟨e1, e2, e3, ?_, by rw [hw.head, e3]; simp, hat⟩
  refine (F2.of_map e4).mono (fun p hp q hq hpq => ⟨hpq, ?_, fun hh => ?_⟩)
  · rw [hw.lits p hp, hpq]
    simp [plR]
  · have hgl := hg.lits p.1 (List.mem_map.2 ⟨p, hp, rfl⟩)
    have : hasAtomB p.1 = false := by rw [hpq, plR_atom]; exact hh
    have h2 := hgl.plain this
    rw [hpq] at h2
    simpa [plR] using h2

/-- The two answers are one. -/
theorem read_load {s : ByteArray} {e at_ : Int} {r : Int × Int} (hR : ReadIs s e at_) (hL : LoadIs s (fOf s) r) : r = (e, at_) := by
  unfold ReadIs at hR
  unfold LoadIs at hL
  by_cases hbig : 300 < s.size
  · rw [if_pos hbig] at hR hL
    rw [hL, hR.1, hR.2]
  · rw [if_neg hbig] at hR hL
    have hprog := prog_of s
    cases hp : progM (cutR s) 0 [] with
    | error p =>
      rw [hp] at hprog hL
      rw [if_pos hprog.1] at hR
      simp only at hL
      rw [hL, hR.1, hR.2, hprog.2]
    | ok cs =>
      rw [hp] at hprog hL
      rw [if_neg (by rw [hprog.1]; simp)] at hR
      obtain ⟨rcs, hre, hso⟩ := hR
      obtain ⟨pcs, hm, hw, hr⟩ := hL
      have hl := (cutR_len s).1
      have hgood := progM_good (by omega) _ 0 [] (Nat.le_refl _) (by simp) hp
      have hmap : pcs.map PCV.pc = rcs.map fun r => pcR r.erase := by
        rw [hm, hprog.2.1, ← hre, List.map_map]
        rfl
      have hF : F2 Cor pcs rcs := (F2.of_map hmap).mono (fun c hc r' hr' hcr => cor_of hcr (hgood.1 _ (by rw [← hm]; exact List.mem_map.2 ⟨c, hc, rfl⟩)) (hw c hc) (by
        have := hprog.2.2 r'.erase (by rw [← hre]; exact List.mem_map.2 ⟨r', hr', rfl⟩)
        exact this))
      have hf : ∀ x y, fOf s x y = reachP rcs x y := by
        intro x y
        rw [Bool.eq_iff_iff, (good_ps (by omega) hp hm).leans, reachP_iff]
        exact leans_pc hmap x y
      rw [hr, hso]
      exact load_sound hF hf

end Go.Proofs.YtoihbhenbmffcaaGreatDoor

namespace Go.Proofs.YtoihbhenbmffcaaGreatDoor
open Go.RowKit

theorem num_any (n : Int) (w : World) : Calls Tryz.prog 16 #[.int .i64 n] w fun e w' => e = .returned (.int .i64 n) ∧ w' = w := by
  go_enter Tryz.func16, Tryz.ntmps16
  go_wp2
  go_ret
  exact ⟨rfl, rfl⟩

set_option maxRecDepth 100000 in
set_option maxHeartbeats 1600000 in
theorem plays_any (S T : ByteArray) (w : World) (hS : S.size ≤ 9223372036854775807) : Calls Tryz.prog 39 #[.agg #[.int .i64 1, .string S, .string T]] w fun e w' => e = .returned (.bool true) ∧ Kept [] w w' := by
  have HN := hide (Blk.new w [.int .i64 1, .string S, .string T] 29)
  have HK := hide ((Kept.refl [] w).alloc (.cells [.int .i64 1, .string S, .string T].toArray 29))
  have HCh := hide (check_any S (fOf S) (w.alloc (.cells [.int .i64 1, .string S, .string T].toArray 29)) hS (fun hs cs hp pcs hm => good_ps hs hp hm))
  go_enter Tryz.func39, Tryz.ntmps39
  go_wp2_with fail
  refine (unhide HCh).mono ?_
  rintro e w2 ⟨r, rfl, hl, k2⟩
  have HN2 := (unhide HN).kept k2 (by simp)
  have HK2 := hide ((unhide HK).trans k2)
  have HRd := hide (read_any S w2 hS)
  have c1 := HN2.cell 1
  simp at c1
  have HLd := hide hl
  clear HCh k2 hl HN HK
  go_wp2_with fail
  refine (unhide HRd).mono ?_
  rintro e w3 ⟨pv, er, at_, rfl, hR, k3⟩
  have hre := read_load hR (unhide HLd)
  subst hre
  have HK3 := hide ((unhide HK2).trans k3)
  clear HRd hR k3 HLd c1 HN2 HK2
  go_wp2_with fail
  refine (num_any er w3).mono ?_
  rintro e w4 ⟨rfl, hw4⟩
  subst hw4
  go_wp2
  go_ret
  exact ⟨by simp, unhide HK3⟩

/-- The script as it lies. -/
def ScrIn (w : World) (ab ao : Nat) (len : Nat) (K : Nat → Int) (S T : Nat → ByteArray) : Prop :=
  ∀ i, i < len → w.cell? ⟨ab, ao + i * 3, none⟩ = some (.int .i64 (K i)) ∧ w.cell? ⟨ab, ao + i * 3 + 1, none⟩ = some (.string (S i)) ∧ w.cell? ⟨ab, ao + i * 3 + 2, none⟩ = some (.string (T i))

theorem cell_kept {w w' : World} (k : Kept [] w w') {a : Addr} {v : Value} (h : w.cell? a = some v) : w'.cell? a = some v := by
  rw [World.cell?_of_block (k.block a.block (World.block_lt_of_cell? w a h) (by simp))]
  exact h

theorem ScrIn.kept {w w' : World} {ab ao : Nat} {len : Nat} {K : Nat → Int} {S T : Nat → ByteArray} (h : ScrIn w ab ao len K S T) (k : Kept [] w w') : ScrIn w' ab ao len K S T :=
  fun i hi => ⟨cell_kept k (h i hi).1, cell_kept k (h i hi).2.1, cell_kept k (h i hi).2.2⟩

set_option maxRecDepth 100000 in
set_option maxHeartbeats 1600000 in
theorem upTo_any (ab ao len cap : Nat) (K : Nat → Int) (S T : Nat → ByteArray) (w : World) (h : ScrIn w ab ao len K S T) (hl : len ≤ cap) (hc : cap ≤ 9223372036854775807) (hS : ∀ i, i < len → (S i).size ≤ 9223372036854775807) :
    Calls Tryz.prog 13 #[.slice (some ⟨ab, ao, none⟩) len cap, .int .i64 1, .int .i64 1] w fun e w' => e = .returned (.int .i64 (-1)) ∧ Kept [] w w' := by
  have HSc := hide h
  have HSs := hide hS
  clear h hS
  go_enter Tryz.func13, Tryz.ntmps13
  go_wp2
  go_loopg [7] len (fun gk i wr => ∃ (k : Nat), i = .int .i64 k ∧ k ≤ len ∧ k ≤ 1152921504606846976 ∧ gk = len - k ∧ Hid (Kept [] w wr))
  case atStart => exact ⟨0, rfl, by omega, by omega, rfl, Kept.refl _ _⟩
  case round =>
    obtain ⟨k, rfl, hk, hk60, hgk, HK⟩ := hrel
    have HG := hide hgk
    clear hgk
    by_cases hlt : k < len
    · have hli : (k : Int) < (len : Int) := by omega
      by_cases h60 : k < 1152921504606846976
      · have h6i : (k : Int) < 1152921504606846976 := by omega
        have H60 := hide h60
        clear h60 hk60
        obtain ⟨d0, d1, d2⟩ := (unhide HSc).kept (unhide HK) k hlt
        have hSk := unhide HSs k hlt
        have HKa := hide ((unhide HK).alloc (.cells [.int .i64 (K k), .string (S k), .string (T k)].toArray 29))
        by_cases hk1 : K k = 1
        · rw [hk1] at d0 HKa
          have HPl := hide (plays_any (S k) (T k) (wr.alloc (.cells [.int .i64 1, .string (S k), .string (T k)].toArray 29)) hSk)
          go_wp2_with fail
          refine (unhide HPl).mono ?_
          rintro e w2 ⟨rfl, k2⟩
          have HK2 := hide ((unhide HKa).trans k2)
          clear HPl k2
          go_wp2
          go_roundg (len - (k + 1))
          case measure => have := unhide HG; omega
          case rel => exact ⟨k + 1, by go_num, by omega, by have := unhide H60; omega, rfl, HK2⟩
        · have hd : ¬ ((1 : Int) ≤ K k ∧ K k ≤ 1) := by omega
          by_cases hk2 : 1 ≤ K k
          · have hk3 : ¬ (K k ≤ 1) := by omega
            go_wp2
            go_roundg (len - (k + 1))
            case measure => have := unhide HG; omega
            case rel => exact ⟨k + 1, by go_num, by omega, by have := unhide H60; omega, rfl, HKa⟩
          · go_wp2
            go_roundg (len - (k + 1))
            case measure => have := unhide HG; omega
            case rel => exact ⟨k + 1, by go_num, by omega, by have := unhide H60; omega, rfl, HKa⟩
      · have h6i : ¬ (k : Int) < 1152921504606846976 := by omega
        go_wp2
        go_ret
        exact ⟨rfl, unhide HK⟩
    · have hli : ¬ (k : Int) < (len : Int) := by omega
      go_wp2
      go_ret
      exact ⟨rfl, unhide HK⟩

set_option maxHeartbeats 400000 in
theorem upTo_nil (a : Option Addr) (cap : Nat) (w : World) : Calls Tryz.prog 13 #[.slice a 0 cap, .int .i64 1, .int .i64 1] w fun e w' => e = .returned (.int .i64 (-1)) ∧ Kept [] w w' := by
  go_enter Tryz.func13, Tryz.ntmps13
  go_wp2
  go_loop [7] (fun i => i = .int .i64 0) (fun _ => 0)
  case atStart => rfl
  case round =>
    subst hrel
    go_wp2
    go_ret
    exact ⟨rfl, Kept.refl _ _⟩

theorem checks_of {v : Value} {w : World} (h : Calls Tryz.prog 13 #[v, .int .i64 1, .int .i64 1] w fun e w' => e = .returned (.int .i64 (-1)) ∧ Kept [] w w') : Calls Tryz.prog 3 #[v] w fun e w' => e = .returned (.bool true) ∧ Kept [] w w' := by
  go_enter Tryz.func3, Tryz.ntmps3
  go_wp2_with fail
  refine h.mono ?_
  rintro e w2 ⟨rfl, k2⟩
  have HK := hide k2
  clear k2
  go_wp2
  go_ret
  exact ⟨rfl, unhide HK⟩

end Go.Proofs.YtoihbhenbmffcaaGreatDoor
