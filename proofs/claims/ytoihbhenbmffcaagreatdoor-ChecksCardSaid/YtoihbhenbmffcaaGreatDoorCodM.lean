import Derived.Test.YtoihbhenbmffcaaGreatDoorPlA
import Derived.Test.YtoihbhenbmffcaaGreatDoorCodL
set_option linter.unusedVariables false
set_option linter.unusedSimpArgs false

namespace Go.Proofs.YtoihbhenbmffcaaGreatDoor
open Go.RowKit

theorem Tryz.info189 : (Tryz.prog.info? 189).map (fun i => (i.zero, i.size, i.bytes)) = some (some (.agg #[.int .i64 0, .string ⟨#[]⟩, .slice none 0 0, .slice none 0 0]), 4, 72) := by kernel_rfl

theorem kindR_ne1 (r : Int) : kindR r ≠ 1 := by
  unfold kindR
  split
  · simp
  · split
    · simp
    · split
      · simp
      · split <;> simp

theorem tokAt_ok (s : ByteArray) (j : Nat) (h : j < s.size) : (tokAt s j).1.kind ≠ 1 ∧ (tokAt s j).1.place = j ∧ (tokAt s j).1.text.size ≤ s.size + 4 := by
  unfold tokAt
  split
  · have := runTo_le lowerB s j (by omega)
    refine ⟨by simp, rfl, ?_⟩
    simp only [size_extract this]; omega
  · split
    · have := runTo_le digitB s j (by omega)
      refine ⟨by simp, rfl, ?_⟩
      simp only [size_extract this]; omega
    · split
      · refine ⟨by simp, rfl, ?_⟩
        show 2 ≤ s.size + 4
        omega
      · refine ⟨kindR_ne1 _, rfl, ?_⟩
        have := enc_le ((Utf8.decode s j).1 : Int)
        simp only [newMark]; omega

theorem toks_ok (s : ByteArray) : ∀ (n a : Nat), s.size - a ≤ n → (toks s a).length ≤ s.size - a ∧ ∀ m ∈ toks s a, m.kind ≠ 1 ∧ m.place ≤ s.size ∧ m.text.size ≤ s.size + 4
  | n, a, hn => by
    by_cases h : gapTo s a < s.size
    · have hge := gapTo_ge s a
      have hgt := tokAt_gt s _ h
      obtain ⟨t1, t2, t3⟩ := tokAt_ok s _ h
      rw [toks_step rfl h]
      match n with
      | 0 => omega
      | n + 1 =>
        obtain ⟨i1, i2⟩ := toks_ok s n (tokAt s (gapTo s a)).2 (by omega)
        refine ⟨by simp only [List.length_cons]; omega, fun m hm => ?_⟩
        rcases List.mem_cons.1 hm with rfl | hm
        · exact ⟨t1, by omega, t3⟩
        · exact i2 m hm
    · rw [toks_end h]
      exact ⟨by simp, fun m hm => by simp at hm⟩

theorem fixM_ok (m : Mark) : (fixM m).place = m.place ∧ (fixM m).text = m.text ∧ (m.kind ≠ 1 → (fixM m).kind ≠ 1) := by
  unfold fixM
  split
  · exact ⟨rfl, rfl, fun h => h⟩
  · exact ⟨rfl, rfl, fun _ => by simp⟩

theorem cutR_len (s : ByteArray) : (cutR s).length ≤ s.size + 1 ∧ 0 < (cutR s).length := by
  rw [cutR_marks]
  unfold marksFrom
  have := (toks_ok s _ 0 (Nat.le_refl _)).1
  simp; omega

theorem cutR_each (s : ByteArray) : ∀ m ∈ cutR s, m.place ≤ s.size ∧ m.text.size ≤ s.size + 4 := by
  rw [cutR_marks]
  unfold marksFrom
  intro m hm
  rcases List.mem_append.1 hm with hm | hm
  · obtain ⟨m', hm', rfl⟩ := List.mem_map.1 hm
    obtain ⟨f1, f2, _⟩ := fixM_ok m'
    obtain ⟨_, h2, h3⟩ := (toks_ok s _ 0 (Nat.le_refl _)).2 m' hm'
    rw [f1, f2]
    exact ⟨h2, h3⟩
  · simp at hm
    subst hm
    exact ⟨Nat.le_refl _, Nat.zero_le _⟩

theorem cutR_ok {s : ByteArray} (hs : s.size ≤ 300) : MsOk (cutR s) := by
  refine ⟨fun i h hk => ?_, fun i h => ?_⟩
  · by_cases hq : i + 1 < (cutR s).length
    · exact hq
    · exfalso
      have hl : (cutR s).getLast? = some (endMark s) := by unfold cutR; simp
      have : (cutR s)[i]? = some (endMark s) := by
        rw [List.getLast?_eq_getElem?] at hl
        rw [show i = (cutR s).length - 1 by omega]
        exact hl
      rw [List.getElem?_eq_getElem h] at this
      simp only [Option.some.injEq] at this
      rw [this] at hk
      cases hk
  · have := (cutR_each s _ (List.getElem_mem h)).2
    omega

theorem cutR_place {s : ByteArray} (hs : s.size ≤ 300) (i : Nat) : (markAt (cutR s) i).place ≤ 1000000 := by
  by_cases h : i < (cutR s).length
  · rw [← markAt_eq h]
    have := (cutR_each s _ (List.getElem_mem h)).1
    omega
  · unfold markAt
    rw [List.getD_eq_getElem?_getD, List.getElem?_eq_none (by omega)]
    simp

/-- A clause as it lies in memory. -/
structure PCV where
  hp : Int
  hn : ByteArray
  hts : List CTerm
  hv : Value
  bv : Value
  lvs : List PLV

def PCV.pc (c : PCV) : PC := ⟨c.hp, c.hn, c.hts, c.lvs.map Prod.fst⟩
def pcvCells (c : PCV) : List Value := [.int .i64 c.hp, .string c.hn, c.hv, c.bv]

structure PcvAt (w : World) (base : Nat) (lv : Value) (c : PCV) : Prop where
  at_ : PcAt w base c.hv c.bv c.hts c.lvs
  ap1 : Apart c.hv lv
  ap2 : Apart c.bv lv
  ap3 : ∀ p ∈ c.lvs, Apart p.2 lv

theorem PcvAt.kept {M : List Nat} {w w' : World} {base : Nat} {lv : Value} {c : PCV} (h : PcvAt w base lv c) (k : Kept M w w') (hm : ∀ i, i ∈ M → i < base) : PcvAt w' base lv c :=
  ⟨h.at_.kept k hm, h.ap1, h.ap2, h.ap3⟩

theorem ownsRow_apart {w w' : World} {base : Nat} {e : TypeId} {size : Nat} {v lv : Value} {n : Nat} {xs : List Value} (h : w.ownsRow base e size v n xs) (k : Kept lv.ownBlock.toList w w') (ha : Apart v lv) : w'.ownsRow base e size v n xs :=
  ownsRow_keptOf h k (fun i hi hm => ha i hi (by simpa using hm))

theorem PcvAt.lies {w w' : World} {base : Nat} {lv : Value} {c : PCV} {g n cap H : Nat} (h : PcvAt w base lv c) (k : Kept lv.ownBlock.toList w w') (hg : lv.ownBlock = some g ∨ g = H) (hH : w.heap.size ≤ H) : PcvAt w' base (.slice (some ⟨g, 0, none⟩) n cap) c :=
  ⟨⟨ownsRow_apart h.at_.head k h.ap1, ⟨ownsRow_apart h.at_.body.row k h.ap2, fun p hp => ⟨ownsRow_apart (h.at_.body.each p hp).1 k (h.ap3 p hp), (h.at_.body.each p hp).2⟩⟩⟩,
    Apart.lies h.ap1 h.at_.head hg hH, Apart.lies h.ap2 h.at_.body.row hg hH, fun p hp => Apart.lies (h.ap3 p hp) (h.at_.body.each p hp).1 hg hH⟩

/-- A row that is new beside one that lay there before. -/
theorem apart_row {w wt : World} {e e' : TypeId} {sz sz' n m base : Nat} {v lv : Value} {xs ys : List Value} (hv : wt.ownsRow w.heap.size e sz v n xs) (hl : w.ownsRow base e' sz' lv m ys) : Apart v lv := by
  intro k hk he
  have := (hv.lt k hk).1
  have := (hl.lt k he).2
  omega

structure ProgAt (w : World) (base : Nat) (lv : Value) (cs : List PCV) : Prop where
  row : w.ownsRow base 189 4 lv cs.length (cs.flatMap pcvCells)
  each : ∀ c ∈ cs, PcvAt w base lv c

theorem ProgAt.kept {M : List Nat} {w w' : World} {base : Nat} {lv : Value} {cs : List PCV} (h : ProgAt w base lv cs) (k : Kept M w w') (hm : ∀ i, i ∈ M → i < base) : ProgAt w' base lv cs :=
  ⟨ownsRow_kept h.row k hm, fun c hc => (h.each c hc).kept k hm⟩
theorem ProgAt.base {w : World} {base base' : Nat} {lv : Value} {cs : List PCV} (h : ProgAt w base lv cs) (hb : base' ≤ base) : ProgAt w base' lv cs :=
  ⟨ownsRow_base h.row hb, fun c hc => ⟨(h.each c hc).at_.base hb, (h.each c hc).ap1, (h.each c hc).ap2, (h.each c hc).ap3⟩⟩
theorem ProgAt.nil (w : World) (base : Nat) : ProgAt w base (.slice none 0 0) [] := ⟨World.ownsRow_nil _ _ _ _, fun p hp => by simp at hp⟩

def ProgOut (w : World) (e : Ending) (w' : World) : Except Int (List PC) → Prop
  | .ok cs => ∃ ad cp pcs, e = .returned (.tuple #[.slice ad cs.length cp, .int .i64 0, .bool true]) ∧ pcs.map PCV.pc = cs ∧ ProgAt w' w.heap.size (.slice ad cs.length cp) pcs ∧ Kept [] w w'
  | .error p => e = .returned (.tuple #[.slice none 0 0, .int .i64 p, .bool false]) ∧ Kept [] w w'

set_option maxRecDepth 100000 in
set_option maxHeartbeats 1600000 in
theorem readProgram_any (s : ByteArray) (w : World) (hs : s.size ≤ 300) :
    Calls Tryz.prog 71 #[.string s] w fun e w' => ProgOut w e w' (progM (cutR s) 0 []) := by
  obtain ⟨i0, hi0, hz0, hz1, hz2⟩ := info_parts Tryz.info189
  have HO := hide (cutR_ok hs)
  have HPl := hide (cutR_place hs)
  have hlen := cutR_len s
  have HCut := hide (cut_any s w hs)
  obtain ⟨R, hR⟩ : ∃ R, progM (cutR s) 0 [] = R := ⟨_, rfl⟩
  rw [hR]
  have HRr := hide hR
  clear hR
  generalize cutR s = ms at HO HPl hlen HCut HRr
  have hml : ms.length ≤ 1000 := by omega
  go_enter Tryz.func71, Tryz.ntmps71
  go_wp2_with fail
  refine (unhide HCut).mono ?_
  rintro e w1 ⟨mv, rfl, hrow, k1⟩
  clear HCut
  obtain ⟨mad, mcp, rfl⟩ := row_nil hrow
  have hb0 := Blk.new w1 [.slice mad ms.length mcp, .int .i64 0, .int .i64 0] 203
  have hrow2 := ownsRow_base (World.ownsRow.alloc hrow (.cells [.slice mad ms.length mcp, .int .i64 0, .int .i64 0].toArray 203)) (Nat.zero_le _)
  have hap : (Value.slice mad ms.length mcp).ownBlock ≠ some w1.heap.size := fun e => by have := (hrow.lt _ e).2; omega
  have hR2 : RdIn (w1.alloc (.cells [.slice mad ms.length mcp, .int .i64 0, .int .i64 0].toArray 203)) w1.heap.size (.slice mad ms.length mcp) ms 0 0 := ⟨hb0, hrow2, hap, hlen.2, by omega⟩
  have hK2 := k1.alloc (.cells [.slice mad ms.length mcp, .int .i64 0, .int .i64 0].toArray 203)
  have HR0 := hide hR2
  have HK0 := hide hK2
  have hbs : w.heap.size ≤ w1.heap.size := k1.size
  have hs2 : (w1.alloc (.cells [.slice mad ms.length mcp, .int .i64 0, .int .i64 0].toArray 203)).heap.size = w1.heap.size + 1 := by simp
  clear hb0 hrow2 hap hR2 hK2 hrow k1
  go_wp2
  change Code.wp _ _ _ _ (w1.alloc (.cells [.slice mad ms.length mcp, .int .i64 0, .int .i64 0].toArray 203))
  generalize w1.alloc (.cells [.slice mad ms.length mcp, .int .i64 0, .int .i64 0].toArray 203) = w2 at HR0 HK0 hs2 ⊢
  obtain ⟨b, hbe⟩ : ∃ b, w1.heap.size = b := ⟨_, rfl⟩
  rw [hbe] at HR0 hbs hs2 ⊢
  clear hbe
  obtain ⟨g, cap, hmv, _, _, _, _⟩ := (unhide HR0).cells
  simp only [Value.slice.injEq] at hmv
  obtain ⟨rfl, _, rfl⟩ := hmv
  have HMB : Hid (∀ k, b + 1 ≤ k → (Value.slice (some ⟨g, 0, none⟩) ms.length mcp).ownBlock ≠ some k) := fun k hk e => by have := ((unhide HR0).row.lt k e).2; omega
  go_loopg [2] ms.length (fun gk o wr => ∃ (j : Nat) (acc : List PCV) (ad : Option Addr) (cp : Nat), o = .slice ad acc.length cp ∧ gk = ms.length - j ∧ Hid (progM ms j (acc.map PCV.pc) = R) ∧ Hid (RdIn wr b (.slice (some ⟨g, 0, none⟩) ms.length mcp) ms j 0) ∧ Hid (ProgAt wr (b + 1) (.slice ad acc.length cp) acc) ∧ Hid (Kept [] w wr) ∧ b + 1 ≤ wr.heap.size ∧ acc.length ≤ j)
  case atStart => exact ⟨0, [], none, 0, rfl, rfl, HRr, HR0, ProgAt.nil _ _, HK0, by omega, by simp⟩
  case round =>
    clear HR0 HRr HK0 hs2
    obtain ⟨j, acc, ad, cp, rfl, hgk, HL, HR, HP, HK, hbz, hal⟩ := hrel
    have HG := hide hgk
    clear hgk
    have hjl := (unhide HR).lt
    have hjli : (j : Int) < (ms.length : Int) := by omega
    have hj0 : (0 : Int) ≤ (j : Int) := by omega
    obtain ⟨g', cap', he, b0, b1, _, hc⟩ := (unhide HR).cells
    simp only [Value.slice.injEq, Option.some.injEq, Addr.mk.injEq] at he
    obtain ⟨⟨rfl, _⟩, _, rfl⟩ := he
    obtain ⟨c0, _, _⟩ := hc j hjl
    clear hc
    rw [markAt_eq hjl] at c0
    obtain ⟨kd, hkd⟩ : ∃ kd, (markAt ms j).kind = kd := ⟨_, rfl⟩
    rw [hkd] at c0
    go_wp2_with fail
    go_region_held3 (fun w' => w'.cell? ⟨b, 0, none⟩ = some (.slice (some ⟨g, 0, none⟩) ms.length mcp) ∧ w'.cell? ⟨b, 1, none⟩ = some (.int .i64 j) ∧ w'.cell? ⟨g, j * 3, none⟩ = some (.int .i64 kd)) (go_keep) (fail)
    rename_i hHeldX
    clear hHeldX b0 b1 c0
    cases hk : (kd == 1) with
    | true =>
      have hk2 : (kd != 1) = false := by simp [bne, hk]
      have HF : Hid (R = .ok (acc.map PCV.pc)) := by show _ = _; rw [← unhide HL]; exact progM_end hjl (by rw [hkd]; exact hk)
      clear hk hkd HL
      go_wp2
      go_ret3
      rw [HF.out]
      exact ⟨ad, cp, acc, by simp, rfl, by simpa using ((unhide HP).kept (Kept.refl [] wr).drew (by simp)).base (by omega), (unhide HK).drew⟩
    | false =>
      have hk2 : (kd != 1) = true := by simp [bne, hk]
      have HKd : Hid (((markAt ms j).kind == 1) = false) := by show _ = _; rw [hkd]; exact hk
      clear hk hkd
      go_wp2_with fail
      refine (rclause_any b (.slice (some ⟨g, 0, none⟩) ms.length mcp) ms j 0 _ ((unhide HR).kept0 (Kept.refl [] wr).drew) (unhide HO) (unhide HPl)).mono ?_
      intro e w6 hout
      have hP5 := hide ((unhide HP).kept (Kept.refl [] wr).drew (by simp))
      have hK5 := hide ((unhide HK).drew)
      have hz5 : b + 1 ≤ wr.drew.heap.size := hbz
      clear HR HP HK hbz
      generalize wr.drew = w5 at hout hP5 hK5 hz5
      cases ht : clauseM ms j with
      | error q =>
        rw [ht] at hout
        obtain ⟨n9, hp, hn, ad9, n8, cp9, ad2, n2, cp2, rfl, h6, k6⟩ := hout
        have HF : Hid (R = .error q) := by show _ = _; rw [← unhide HL]; exact progM_error hjl (unhide HKd) ht
        have hK6 := hide ((unhide hK5).trans' k6 (fun i hi => Or.inr (by simp at hi; omega)))
        have d2 := fun o => (h6.blk.alloc o).cell 2
        simp at d2
        clear ht HL HKd h6 k6 hP5 hK5
        simp only [pcCells]
        go_wp2_with fail
        have d2' := d2 (.cells [.int .i64 hp, .string hn, .slice ad9 n8 cp9, .slice ad2 n2 cp2].toArray 189)
        go_region_held3 (fun w' => w'.cell? ⟨b, 2, none⟩ = some (.int .i64 q)) (go_keep) (fail)
        rename_i hHeldY
        clear hHeldY
        go_wp2
        go_ret3
        rw [HF.out]
        exact ⟨rfl, ((unhide hK6).alloc _).drew⟩
      | ok r =>
        obtain ⟨c, n1⟩ := r
        rw [ht] at hout
        have hn1 := clauseM_next ht
        obtain ⟨ad6, cp6, ad7, cp7, lvs, rfl, hmap, hpc, h6, k6⟩ := hout
        have HT := hide (progM_ok (acc := acc.map PCV.pc) hjl (unhide HKd) ht)
        clear ht HKd
        obtain ⟨chp, chn, chts, cbody⟩ := c
        simp only at hmap hpc
        subst hmap
        have hk6s := k6.size
        have hrow6 := ownsRow_kept (unhide hP5).row k6 (by simp)
        have HE6 : Hid (∀ q ∈ acc, PcvAt w6 (b + 1) (.slice ad acc.length cp) q) := fun q hq => ((unhide hP5).each q hq).kept k6 (by simp)
        have HN6 : Hid (PcvAt w6 (b + 1) (.slice ad acc.length cp) ⟨chp, chn, chts, .slice ad6 chts.length cp6, .slice ad7 (lvs.map Prod.fst).length cp7, lvs⟩) := by
          have hpc' := hpc.base (base' := w5.heap.size) (by omega)
          refine ⟨hpc.base (by omega), ?_, ?_, ?_⟩
          · exact apart_row hpc'.head (unhide hP5).row
          · exact apart_row hpc'.body.row (unhide hP5).row
          · exact fun p hp => apart_row (hpc'.body.each p hp).1 (unhide hP5).row
        have HK6 := hide ((unhide hK5).trans' k6 (fun i hi => Or.inr (by simp at hi; omega)))
        have HR6 := hide h6
        have hn1l := h6.lt
        clear hpc h6 k6 hP5 hK5
        generalize hnl : (lvs.map Prod.fst).length = nl at HN6
        have hnew : ((w6.alloc (.cells (pcCells chp chn (.slice ad6 chts.length cp6) (.slice ad7 nl cp7)).toArray 189)).alloc (.cells (pcCells chp chn (.slice ad6 chts.length cp6) (.slice ad7 nl cp7)).toArray 189)).heap[w6.heap.size + 1]? = some (.cells (pcCells chp chn (.slice ad6 chts.length cp6) (.slice ad7 nl cp7)).toArray 189 (0, 0)) := by
          have hh := heap_alloc_new (w6.alloc (.cells (pcCells chp chn (.slice ad6 chts.length cp6) (.slice ad7 nl cp7)).toArray 189)) (.cells (pcCells chp chn (.slice ad6 chts.length cp6) (.slice ad7 nl cp7)).toArray 189)
          rw [show (w6.alloc (.cells (pcCells chp chn (.slice ad6 chts.length cp6) (.slice ad7 nl cp7)).toArray 189)).heap.size = w6.heap.size + 1 from by simp] at hh
          exact hh
        have hown8 := World.ownsRow.alloc (World.ownsRow.alloc hrow6 (.cells (pcCells chp chn (.slice ad6 chts.length cp6) (.slice ad7 nl cp7)).toArray 189)) (.cells (pcCells chp chn (.slice ad6 chts.length cp6) (.slice ad7 nl cp7)).toArray 189)
        have hal2 : acc.length ≤ 1000 := by omega
        have HNl := hide hnl
        clear hnl
        simp only [pcCells]
        go_wp2_with (at_builtin; refine wpList_append_lies _ rfl (.tmp 35) (.tmp 37) _ rfl (b + 1) 189 i0 _ 4 72 Tryz.underlying66 hi0 hz0 hz1 hz2 rfl (by omega) (.slice ad acc.length cp) acc.length (acc.flatMap pcvCells) rfl hown8 ⟨w6.heap.size + 1, 0, none⟩ 1 1 (pcCells chp chn (.slice ad6 chts.length cp6) (.slice ad7 nl cp7)) rfl rfl (World.news_of_block (cs := (pcCells chp chn (.slice ad6 chts.length cp6) (.slice ad7 nl cp7)).toArray) (t := 189) (fr := (0, 0)) hnew) (by simp [Value.oneCell', pcCells]) (by omega) (by unfold maxLen; omega) (by omega) (by simp; omega) (w6.heap.size + 1 + 1) (by simp) ?_; intro g1 cp1 w9 ho1 hg1 ha1 hl1)
        have kr : Kept (Value.slice ad acc.length cp).ownBlock.toList w6 w9 := (((Kept.refl _ w6).alloc _).alloc _).grown hg1 (fun k hk => Or.inl (by simp [hk]))
        have hrw : ∀ i ∈ (Value.slice ad acc.length cp).ownBlock.toList, b + 1 ≤ i := fun i hi => (hrow6.lt i (by simpa using hi)).1
        have hR9 : RdIn w9 b (.slice (some ⟨g, 0, none⟩) ms.length mcp) ms n1 0 := ⟨(unhide HR6).blk.kept kr (fun hm => by have := hrw b hm; omega), ownsRow_keptOf (unhide HR6).row kr (fun i hi hm => by have := hrw i hm; exact absurd hi (unhide HMB i this)), (unhide HR6).ap, (unhide HR6).lt, (unhide HR6).len⟩
        have hK9 : Kept [] w w9 := (unhide HK6).trans' kr (fun i hi => Or.inr (by have := hrw i hi; omega))
        have HIN : Hid (ProgAt w9 (b + 1) (.slice (some ⟨g1, 0, none⟩) (acc.length + 1) cp1) (acc ++ [⟨chp, chn, chts, .slice ad6 chts.length cp6, .slice ad7 nl cp7, lvs⟩])) := by
          refine ⟨by simpa [pcvCells, pcCells] using ho1, ?_⟩
          intro q hq
          rcases List.mem_append.1 hq with hq | hq
          · exact (unhide HE6 q hq).lies kr ha1 (by omega)
          · simp only [List.mem_singleton] at hq
            subst hq
            exact (unhide HN6).lies kr ha1 (by omega)
        have HL2 : Hid (progM ms n1 ((acc ++ [(⟨chp, chn, chts, .slice ad6 chts.length cp6, .slice ad7 nl cp7, lvs⟩ : PCV)]).map PCV.pc) = R) := by
          show _ = _
          rw [← unhide HL, unhide HT]
          simp [PCV.pc]
        have hz9 : b + 1 ≤ w9.heap.size := by have := kr.size; omega
        have HR9 := hide hR9
        have HK9 := hide hK9
        clear kr hrw hR9 hK9 hg1 ha1 hl1 ho1 hnew hown8 hrow6 HE6 HN6 HK6 HR6 HL HT
        go_roundg (ms.length - n1)
        case measure => have := unhide HG; omega
        case rel => exact ⟨n1, acc ++ [⟨chp, chn, chts, .slice ad6 chts.length cp6, .slice ad7 nl cp7, lvs⟩], some ⟨g1, 0, none⟩, cp1, by simp, rfl, HL2, HR9, by simpa using HIN, HK9, hz9, by simp; omega⟩

end Go.Proofs.YtoihbhenbmffcaaGreatDoor
