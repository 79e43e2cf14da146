import Derived.Test.YtoihbhenbmffcaaGreatDoorCenB
set_option linter.unusedVariables false
set_option linter.unusedSimpArgs false

namespace Go.Proofs.YtoihbhenbmffcaaGreatDoor
open Go.RowKit

def ClosedS (cs : List PCV) (S : ByteArray → Prop) : Prop := ∀ c ∈ cs, S c.hn → ∀ y ∈ namesV c, S y
/-- A relation leans on another. -/
def LeansOn (cs : List PCV) (x y : ByteArray) : Prop := ∀ S : ByteArray → Prop, S x → ClosedS cs S → S y

structure LeanIs (cs : List PCV) (x : ByteArray) (l : List ByteArray) : Prop where
  rise : Rise ltS l
  iff : ∀ y, y ∈ l ↔ LeansOn cs x y

theorem pigeon {α : Type} [DecidableEq α] : ∀ (l l' : List α), l.Nodup → (∀ y ∈ l, y ∈ l') → l.length ≤ l'.length
  | [], _, _, _ => Nat.zero_le _
  | a :: t, l', hn, hs => by
    rw [List.nodup_cons] at hn
    have ha : a ∈ l' := hs a (by simp)
    have ih := pigeon t (l'.erase a) hn.2 (fun y hy => (List.mem_erase_of_ne (fun e => hn.1 (by rw [← e]; exact hy))).2 (hs y (by simp [hy])))
    have hl := List.length_erase_of_mem ha
    have hp : 0 < l'.length := List.length_pos_of_mem ha
    simp only [List.length_cons]
    omega

theorem same_of_len {l l' : List ByteArray} (hr : Rise ltS l) (hs : ∀ y ∈ l, y ∈ l') (hl : l'.length = l.length) : ∀ y ∈ l', y ∈ l := by
  intro y hy
  by_cases h : y ∈ l
  · exact h
  · have := pigeon (y :: l) l' (List.nodup_cons.2 ⟨h, hr.nodup ordS⟩) (fun z hz => by
      rcases List.mem_cons.1 hz with rfl | hz
      · exact hy
      · exact hs z hz)
    simp only [List.length_cons] at this
    omega

set_option maxRecDepth 100000 in
set_option maxHeartbeats 1600000 in
theorem leaning_any (lad : Option Addr) (lcp : Nat) (cs : List PCV) (x : ByteArray) (w : World) (h : ProgIn w (.slice lad cs.length lcp) cs) (hlen : cs.length ≤ 1000) (hf : ∀ c ∈ cs, c.lvs.length ≤ 1000) (hU : (cs.flatMap namesV).length ≤ 800000) :
    Calls Tryz.prog 122 #[.slice lad cs.length lcp, .string x] w fun e w' => ∃ l ad cp, e = .returned (.slice ad l.length cp) ∧ LeanIs cs x l ∧ l.length ≤ 800001 ∧ w'.ownsRow w.heap.size 9 1 (.slice ad l.length cp) l.length (l.flatMap strCell) ∧ Kept [] w w' := by
  have HP := hide h
  have HFl := hide hf
  clear h hf
  have HBd : Hid (∀ l : List ByteArray, Rise ltS l → (∀ y ∈ l, LeansOn cs x y) → l.length ≤ 1 + (cs.flatMap namesV).length) := by
    intro l hr hs
    have := pigeon l (x :: cs.flatMap namesV) (hr.nodup ordS) (fun y hy => by
      refine hs y hy (fun z => z ∈ x :: cs.flatMap namesV) (by simp) (fun c hc _ z hz => ?_)
      exact List.mem_cons_of_mem _ (List.mem_flatMap.2 ⟨c, hc, hz⟩))
    simp only [List.length_cons] at this
    omega
  obtain ⟨U, hUe⟩ : ∃ U, (cs.flatMap namesV).length = U := ⟨_, rfl⟩
  rw [hUe] at hU HBd
  clear hUe
  have hr0 : (w.alloc (.cells [.string x].toArray 9)).ownsRow w.heap.size 9 1 (.slice (some ⟨w.heap.size, 0, none⟩) 1 1) 1 ([x].flatMap strCell) := ⟨rfl, Or.inr ⟨w.heap.size, 1, _, rfl, Nat.le_refl _, Blk.new w [.string x] 9, Nat.le_refl _, by unfold maxLen; omega, rfl, rfl⟩⟩
  have hk0 := (Kept.refl [] w).alloc (.cells [.string x].toArray 9)
  have HR0 := hide hr0
  have HK0 := hide hk0
  clear hr0 hk0
  go_enter Tryz.func122, Tryz.ntmps122
  go_wp2
  change Code.wp _ _ _ _ (w.alloc (.cells [.string x].toArray 9))
  generalize w.alloc (.cells [.string x].toArray 9) = w1 at HR0 HK0 ⊢
  go_loopg [5] (U + 2 - 1) (fun gk o wr => ∃ (l : List ByteArray) (ad : Option Addr) (cp : Nat), o = .slice ad l.length cp ∧ gk = U + 2 - l.length ∧ l.length ≤ U + 1 ∧ Hid (Rise ltS l) ∧ Hid (x ∈ l) ∧ Hid (∀ y ∈ l, LeansOn cs x y) ∧ Hid (wr.ownsRow w.heap.size 9 1 (.slice ad l.length cp) l.length (l.flatMap strCell)) ∧ Hid (Kept [] w wr))
  case atStart => exact ⟨[x], _, _, rfl, rfl, by simp, fun i j hi hj hij => by simp at hi hj; omega, by simp [Hid], fun y hy S h1 h2 => by simp at hy; subst hy; exact h1, HR0, HK0⟩
  case round =>
    clear HR0 HK0
    obtain ⟨l, ad, cp, rfl, hgk, hlU, HRi, HX, HSo, HRo, HK⟩ := hrel
    have HG := hide hgk
    clear hgk
    go_wp2
    go_loopg [5, 15] cs.length (fun gk2 o i wr2 => ∃ (k : Nat) (m : List ByteArray) (ad2 : Option Addr) (cp2 : Nat), o = .slice ad2 m.length cp2 ∧ i = .int .i64 k ∧ k ≤ cs.length ∧ gk2 = cs.length - k ∧ l.length ≤ m.length ∧ m.length ≤ U + 1 ∧ Hid (Rise ltS m) ∧ Hid (∀ y ∈ l, y ∈ m) ∧ Hid (∀ y ∈ m, LeansOn cs x y) ∧ Hid (m.length = l.length → ∀ c ∈ cs.take k, c.hn ∈ m → ∀ y ∈ namesV c, y ∈ m) ∧ Hid (wr2.ownsRow w.heap.size 9 1 (.slice ad2 m.length cp2) m.length (m.flatMap strCell)) ∧ Hid (Kept [] w wr2))
    case atStart => exact ⟨0, l, ad, cp, rfl, rfl, by omega, rfl, by omega, hlU, HRi, fun y hy => hy, HSo, fun _ c hc => by simp at hc, HRo, HK⟩
    case round =>
      obtain ⟨k, m, ad2, cp2, rfl, rfl, hk, hgk2, hlm, hmU, HMi, HSub, HMs, HCl, HMo, HK2⟩ := hrel
      have HG2 := hide hgk2
      clear hgk2
      by_cases hlt : k < cs.length
      · have hPr := (unhide HP).kept (unhide HK2)
        obtain ⟨g, cap, hp, hn, hts, adh, cph, adb, cpb, lvs, he, hck, d0, d1, d2, d3⟩ := pc_cells hPr k hlt
        simp only [Value.slice.injEq] at he
        obtain ⟨rfl, _, rfl⟩ := he
        have hKs := (unhide HK2).size
        have HPk := hide (hPr.each _ (List.getElem_mem hlt))
        have hfk := unhide HFl _ (List.getElem_mem hlt)
        have HTk : Hid (∀ c, c ∈ cs.take (k + 1) ↔ c ∈ cs.take k ∨ c = ⟨hp, hn, hts, .slice adh hts.length cph, .slice adb lvs.length cpb, lvs⟩) := by
          intro c
          rw [List.take_succ_eq_append_getElem hlt, hck, List.mem_append, List.mem_singleton]
        have HIn : Hid ((⟨hp, hn, hts, .slice adh hts.length cph, .slice adb lvs.length cpb, lvs⟩ : PCV) ∈ cs) := by rw [← hck]; exact List.getElem_mem hlt
        rw [hck] at HPk hfk
        simp only at hfk
        clear hPr hck
        have HKa := hide ((unhide HK2).alloc (.cells [.int .i64 hp, .string hn, .slice adh hts.length cph, .slice adb lvs.length cpb].toArray 189))
        have HMa := hide (World.ownsRow.alloc (unhide HMo) (.cells [.int .i64 hp, .string hn, .slice adh hts.length cph, .slice adb lvs.length cpb].toArray 189))
        have HHas := hide (rhasS_any ad2 cp2 m hn w.heap.size _ (unhide HMa) (by omega) (unhide HMi))
        go_wp2_with fail
        refine (unhide HHas).mono ?_
        rintro e w4 ⟨rfl, hw4⟩
        subst hw4
        clear HHas
        cases hh : inBS m hn with
        | false =>
          have HCl2 : Hid (m.length = l.length → ∀ c ∈ cs.take (k + 1), c.hn ∈ m → ∀ y ∈ namesV c, y ∈ m) := by
            intro hl c hc hin
            rcases (unhide HTk c).1 hc with hc | hc
            · exact unhide HCl hl c hc hin
            · subst hc
              simp only at hin
              rw [(inBS_iff m hn).2 hin] at hh
              cases hh
          clear hh HCl
          go_wp2
          go_roundg (cs.length - (k + 1))
          case measure => have := unhide HG2; omega
          case rel => exact ⟨k + 1, m, ad2, cp2, rfl, by go_num, by omega, rfl, hlm, hmU, HMi, HSub, HMs, HCl2, HMa, HKa⟩
        | true =>
          have HMem : Hid (hn ∈ m) := (inBS_iff m hn).1 hh
          have HAd := hide (addNames_any ⟨hp, hn, hts, .slice adh hts.length cph, .slice adb lvs.length cpb, lvs⟩ ad2 cp2 m w.heap.size (wr.alloc (.cells [.int .i64 hp, .string hn, .slice adh hts.length cph, .slice adb lvs.length cpb].toArray 189)) ((unhide HPk).kept ((Kept.refl [] wr).alloc _) (by simp)) hfk (unhide HMa) (by omega) (unhide HMi) (by simp; omega))
          simp only [pcvCells] at HAd
          clear hh
          go_wp2_with fail
          refine (unhide HAd).mono ?_
          rintro e w5 ⟨m', ad5, cp5, rfl, hA⟩
          have hK5 : Kept [] w w5 := (unhide HKa).trans' hA.kept (fun i hi => Or.inr (((unhide HMa).lt i (by simpa using hi)).1))
          have hs5 : ∀ y ∈ m', LeansOn cs x y := by
            intro y hy
            rcases (hA.mem y).1 hy with h1 | h1
            · intro S hS hC
              exact hC _ (unhide HIn) (unhide HMs _ (unhide HMem) S hS hC) y h1
            · exact unhide HMs y h1
          have hsub : ∀ y ∈ m, y ∈ m' := fun y hy => (hA.mem y).2 (Or.inr hy)
          have HCl2 : Hid (m'.length = l.length → ∀ c ∈ cs.take (k + 1), c.hn ∈ m' → ∀ y ∈ namesV c, y ∈ m') := by
            intro hl c hc hin y hy
            have hge := hA.ge
            have hback := same_of_len (unhide HMi) hsub (by omega)
            rcases (unhide HTk c).1 hc with hc | hc
            · exact hsub y (unhide HCl (by omega) c hc (hback _ hin) y hy)
            · subst hc
              exact (hA.mem y).2 (Or.inl hy)
          have hlm5 : l.length ≤ m'.length := by have := hA.ge; omega
          have hm5 := unhide HBd m' hA.rise hs5
          have HS5 := hide hs5
          have HSb5 : Hid (∀ y ∈ l, y ∈ m') := fun y hy => hsub y (unhide HSub y hy)
          have HR5 := hide hA.rise
          have HO5 := hide hA.own
          have HK5 := hide hK5
          clear HAd hA hK5 hs5 hsub HCl HMs HSub HMi HMo HMa HKa HMem
          go_wp2
          go_roundg (cs.length - (k + 1))
          case measure => have := unhide HG2; omega
          case rel => exact ⟨k + 1, m', ad5, cp5, rfl, by go_num, by omega, rfl, hlm5, by omega, HR5, HSb5, HS5, HCl2, HO5, HK5⟩
      · by_cases hml : m.length = l.length
        · have HE : Hid (LeanIs cs x m) := by
            refine ⟨unhide HMi, fun y => ⟨unhide HMs y, fun hy => ?_⟩⟩
            refine hy (fun z => z ∈ m) (unhide HSub x (unhide HX)) (fun c hc hin z hz => ?_)
            have h := unhide HCl hml
            rw [List.take_of_length_le (by omega)] at h
            exact h c hc hin z hz
          have hmi : (m.length : Int) = (l.length : Int) := by omega
          go_wp2
          go_ret
          exact ⟨m, ad2, cp2, rfl, unhide HE, by omega, unhide HMo, unhide HK2⟩
        · have hmi : ¬ (m.length : Int) = (l.length : Int) := by omega
          have HX2 : Hid (x ∈ m) := unhide HSub x (unhide HX)
          go_wp2
          go_roundg (U + 2 - m.length)
          case measure => have := unhide HG; omega
          case rel => exact ⟨m, ad2, cp2, rfl, rfl, hmU, HMi, HX2, HMs, HMo, HK2⟩

end Go.Proofs.YtoihbhenbmffcaaGreatDoor

namespace Go.Proofs.YtoihbhenbmffcaaGreatDoor
open Go.RowKit

def loopL (f : ByteArray → ByteArray → Bool) (hn : ByteArray) (p : PLV) : Bool := p.1.sort == 1 && f p.1.an hn
def loopC (f : ByteArray → ByteArray → Bool) (c : PCV) : Option Int := (c.lvs.find? (loopL f c.hn)).map fun p => p.1.place
def loopO (f : ByteArray → ByteArray → Bool) (cs : List PCV) : Option Int := cs.findSome? (loopC f)

theorem findSome_pick {α β : Type} (f : α → Option β) (l : List α) (k : Nat) (hk : k < l.length) (h : ∀ c ∈ l.take k, f c = none) {b : β} (hb : f l[k] = some b) : l.findSome? f = some b := by
  conv => lhs; rw [← List.take_append_drop k l]
  rw [List.findSome?_append]
  have : (l.take k).findSome? f = none := by rw [List.findSome?_eq_none_iff]; exact h
  rw [this, List.drop_eq_getElem_cons hk, List.findSome?_cons, hb]
  rfl

set_option maxRecDepth 100000 in
set_option maxHeartbeats 1600000 in
theorem findLoop_any (f : ByteArray → ByteArray → Bool) (lad : Option Addr) (lcp : Nat) (cs : List PCV) (hfl : ∀ x y, f x y = true ↔ LeansOn cs x y) (w : World) (h : ProgIn w (.slice lad cs.length lcp) cs) (hlen : cs.length ≤ 1000) (hf : ∀ c ∈ cs, c.lvs.length ≤ 1000) (hU : (cs.flatMap namesV).length ≤ 800000) :
    Calls Tryz.prog 73 #[.slice lad cs.length lcp] w fun e w' => e = .returned (foundOut (loopO f cs)) ∧ Kept [] w w' := by
  have HP := hide h
  have HFl := hide hf
  have HFf := hide hfl
  clear h hf hfl
  obtain ⟨R, hR⟩ : ∃ R, loopO f cs = R := ⟨_, rfl⟩
  rw [hR]
  have HRR := hide hR
  clear hR
  go_enter Tryz.func73, Tryz.ntmps73
  go_wp2
  go_loopg [10] cs.length (fun gk i wr => ∃ (k : Nat), i = .int .i64 k ∧ k ≤ cs.length ∧ gk = cs.length - k ∧ Hid (∀ c ∈ cs.take k, loopC f c = none) ∧ Hid (Kept [] w wr))
  case atStart => exact ⟨0, rfl, by omega, rfl, fun c hc => by simp at hc, Kept.refl _ _⟩
  case round =>
    obtain ⟨k, rfl, hk, hgk, HC, HK⟩ := hrel
    have HG := hide hgk
    clear hgk
    by_cases hlt : k < cs.length
    · have hPr := (unhide HP).kept (unhide HK)
      obtain ⟨g, cap, hp, hn, hts, adh, cph, adb, cpb, lvs, he, hck, d0, d1, d2, d3⟩ := pc_cells hPr k hlt
      simp only [Value.slice.injEq] at he
      obtain ⟨rfl, _, rfl⟩ := he
      have HB0 := hide (hPr.each _ (List.getElem_mem hlt)).body
      have hfk := unhide HFl _ (List.getElem_mem hlt)
      have HSm : Hid (∀ p, loopC f ⟨hp, hn, hts, .slice adh hts.length cph, .slice adb lvs.length cpb, lvs⟩ = some p → R = some p) := by
        intro p hp'
        rw [← unhide HRR]
        exact findSome_pick _ _ k hlt (unhide HC) (by rw [hck]; exact hp')
      have HNn : Hid (loopC f ⟨hp, hn, hts, .slice adh hts.length cph, .slice adb lvs.length cpb, lvs⟩ = none → ∀ c ∈ cs.take (k + 1), loopC f c = none) := by
        intro hno c hc
        rw [List.take_succ_eq_append_getElem hlt, hck, List.mem_append, List.mem_singleton] at hc
        rcases hc with hc | hc
        · exact unhide HC c hc
        · rw [hc]; exact hno
      rw [hck] at HB0 hfk
      simp only at hfk HB0
      clear hPr hck
      have HK1 := hide ((unhide HK).alloc (.cells [.int .i64 hp, .string hn, .slice adh hts.length cph, .slice adb lvs.length cpb].toArray 189))
      have HKr := hide ((Kept.refl [] wr).alloc (.cells [.int .i64 hp, .string hn, .slice adh hts.length cph, .slice adb lvs.length cpb].toArray 189))
      have HN1 := hide (Blk.new wr [.int .i64 hp, .string hn, .slice adh hts.length cph, .slice adb lvs.length cpb] 189)
      go_wp2
      change Code.wp _ _ _ _ (wr.alloc (.cells [.int .i64 hp, .string hn, .slice adh hts.length cph, .slice adb lvs.length cpb].toArray 189))
      have HB1 := hide ((unhide HB0).kept (unhide HKr) (by simp))
      generalize wr.alloc (.cells [.int .i64 hp, .string hn, .slice adh hts.length cph, .slice adb lvs.length cpb].toArray 189) = w1 at HK1 HN1 HB1 ⊢
      generalize wr.heap.size = N at HN1 ⊢
      clear HKr HB0 HK d0 d1 d2 d3
      go_loopg [17] lvs.length (fun gk i wr => ∃ (j : Nat), i = .int .i64 j ∧ j ≤ lvs.length ∧ gk = lvs.length - j ∧ Hid ((lvs.take j).any (loopL f hn) = false) ∧ Hid (Kept [] w wr) ∧ Hid (Kept [] w1 wr))
      case atStart => exact ⟨0, rfl, by omega, rfl, by show _ = _; simp, HK1, Kept.refl _ _⟩
      case round =>
        clear HK1
        obtain ⟨j, rfl, hj, hgk2, HJ, HK, HKw⟩ := hrel
        have HG2 := hide hgk2
        clear hgk2
        by_cases hlj : j < lvs.length
        · obtain ⟨g2, cap2, q, adl, cpl, hbv, hlk, hin, e0, e1, e2, e3, e4, e5, e6, e7, e8⟩ := lit_cells ((unhide HB1).kept (unhide HKw) (by simp)) j hlj
          simp only [Value.slice.injEq] at hbv
          obtain ⟨rfl, _, rfl⟩ := hbv
          have HY : Hid (loopL f hn (q, .slice adl q.ts.length cpl) = true → R = some q.place) := by
            intro hh
            refine unhide HSm _ ?_
            unfold loopC
            simp only
            rw [find_take _ _ j hlj (unhide HJ) (by rw [hlk]; exact hh), hlk]
            rfl
          have HNo : Hid (loopL f hn (q, .slice adl q.ts.length cpl) = false → (lvs.take (j + 1)).any (loopL f hn) = false) := by
            intro hh
            rw [any_take _ _ j hlj (unhide HJ), hlk]
            exact hh
          clear hlk hin
          have HKa := hide ((unhide HK).alloc (.cells (plvCells (q, .slice adl q.ts.length cpl)).toArray 217))
          have HKb := hide ((unhide HKw).alloc (.cells (plvCells (q, .slice adl q.ts.length cpl)).toArray 217))
          have HLb := hide (Blk.new wr (plvCells (q, .slice adl q.ts.length cpl)) 217)
          simp only [plvCells] at HKa HKb HLb
          cases hs : (q.sort == 1) with
          | false =>
            have hs2 : (q.sort != 1) = true := by simp [bne, hs]
            have HNx := hide (unhide HNo (by unfold loopL; simp only; rw [hs]; rfl))
            clear HY HNo hs
            go_wp2
            go_roundg (lvs.length - (j + 1))
            case measure => have := unhide HG2; omega
            case rel => exact ⟨j + 1, by go_num, by omega, rfl, HNx, HKa, HKb⟩
          | true =>
            have hs2 : (q.sort != 1) = false := by simp [bne, hs]
            have HYe : Hid (f q.an hn = true → R = some q.place) := fun hh => unhide HY (by unfold loopL; simp only; rw [hs, hh]; rfl)
            have HNe : Hid (f q.an hn = false → (lvs.take (j + 1)).any (loopL f hn) = false) := fun hh => unhide HNo (by unfold loopL; simp only; rw [hs, hh]; rfl)
            clear HY HNo hs
            go_wp2_with fail
            change Code.wp _ _ _ _ (wr.alloc (.cells [.int .i64 q.place, .int .i64 q.sort, .int .i64 q.ap, .string q.an, .slice adl q.ts.length cpl, .int .i32 q.l.v, .string q.l.s, .int .i32 q.r.v, .string q.r.s].toArray 217))
            generalize wr.alloc (.cells [.int .i64 q.place, .int .i64 q.sort, .int .i64 q.ap, .string q.an, .slice adl q.ts.length cpl, .int .i32 q.l.v, .string q.l.s, .int .i32 q.r.v, .string q.r.s].toArray 217) = w3 at HKa HKb HLb ⊢
            generalize wr.heap.size = T at HLb ⊢
            have t3 := (unhide HLb).cell 3
            have n1 := ((unhide HN1).kept (unhide HKb) (by simp)).cell 1
            simp at t3 n1
            have HLe := hide (leaning_any _ _ cs q.an w3.drew ((unhide HP).kept (unhide HKa).drew) hlen (unhide HFl) hU)
            have HCs : Hid (∀ w', Kept [] w3.drew w' → w'.cell? ⟨T, 3, none⟩ = some (.string q.an) ∧ w'.cell? ⟨N, 1, none⟩ = some (.string hn) ∧ w'.cell? ⟨T, 0, none⟩ = some (.int .i64 q.place) ∧ Kept [] w w' ∧ Kept [] w1 w') := by
              intro w' hk'
              exact ⟨((unhide HLb).drew.kept hk' (by simp)).cell 3, (((unhide HN1).kept (unhide HKb) (by simp)).drew.kept hk' (by simp)).cell 1, ((unhide HLb).drew.kept hk' (by simp)).cell 0, (unhide HKa).drew.trans hk', (unhide HKb).drew.trans hk'⟩
            have HHs : Hid (∀ (l : List ByteArray) ad cp base w', LeanIs cs q.an l → l.length ≤ 800001 → w'.ownsRow base 9 1 (.slice ad l.length cp) l.length (l.flatMap strCell) → Calls Tryz.prog 121 #[.slice ad l.length cp, .string hn] w' fun e w9 => e = .returned (.bool (f q.an hn)) ∧ w9 = w') := by
              intro l ad cp base w' hl h1 h2
              have heq : inBS l hn = f q.an hn := by rw [Bool.eq_iff_iff, inBS_iff, hl.iff, unhide HFf]
              have hh := rhasS_any ad cp l hn base w' h2 (by omega) hl.rise
              rw [heq] at hh
              exact hh
            clear HKa HKb HLb HP HFf
            go_region_held3 (fun w' => w'.cell? ⟨T, 3, none⟩ = some (.string q.an) ∧ w'.cell? ⟨N, 1, none⟩ = some (.string hn)) (go_keep) ((first | (go_at_call 122; refine (unhide HLe).mono ?_; rintro e w4 ⟨l, ad4, cp4, rfl, hl, hll, hrow, k4⟩; have hcs := unhide HCs w4 k4; have f3 := hcs.1; have f1 := hcs.2.1; have f0 := hcs.2.2.1; have HCs4 := hide hcs; have HH4 := hide (unhide HHs l ad4 cp4 _ w4 hl hll hrow); clear hl hll hrow k4 hcs) | (go_at_call 121; refine (unhide HH4).mono ?_; rintro e w9 ⟨rfl, hw9⟩; subst hw9)))
            rename_i hHeldX
            clear hHeldX
            cases hh : f q.an hn with
            | true =>
              have HT := hide (unhide HYe hh)
              clear HYe HNe hh
              go_wp2
              go_ret2
              rw [unhide HT]
              exact ⟨rfl, (unhide HCs4).2.2.2.1⟩
            | false =>
              have HT := hide (unhide HNe hh)
              clear HYe HNe hh
              go_wp2
              go_roundg (lvs.length - (j + 1))
              case measure => have := unhide HG2; omega
              case rel => exact ⟨j + 1, by go_num, by omega, rfl, HT, (unhide HCs4).2.2.2.1, (unhide HCs4).2.2.2.2⟩
        · have HE : Hid (loopC f ⟨hp, hn, hts, .slice adh hts.length cph, .slice adb lvs.length cpb, lvs⟩ = none) := by
            have h := unhide HJ
            rw [List.take_of_length_le (by omega)] at h
            show _ = _
            unfold loopC
            simp only
            have : lvs.find? (loopL f hn) = none := by
              rw [List.find?_eq_none]
              intro y hy hh
              rw [List.any_eq_false] at h
              exact h y hy hh
            rw [this]
            rfl
          have HNx := hide (unhide HNn (unhide HE))
          go_wp2
          go_roundg (cs.length - (k + 1))
          case measure => have := unhide HG; omega
          case rel => exact ⟨k + 1, by go_num, by omega, rfl, HNx, HK⟩
    · have HE : Hid (R = none) := by
        have h := unhide HC
        rw [List.take_of_length_le (by omega)] at h
        show _ = _
        rw [← unhide HRR]
        unfold loopO
        rw [List.findSome?_eq_none_iff]
        exact h
      go_wp2
      go_ret2
      rw [HE.out]
      exact ⟨rfl, unhide HK⟩

end Go.Proofs.YtoihbhenbmffcaaGreatDoor
