import Derived.Test.YtoihbhenbmffcaaGreatDoorCodG
set_option linter.unusedVariables false
set_option linter.unusedSimpArgs false

namespace Go.Proofs.YtoihbhenbmffcaaGreatDoor
open Go.RowKit

theorem Tryz.info215 : (Tryz.prog.info? 215).map (fun i => (i.zero, i.size, i.bytes)) = some (some (.agg #[.int .i32 0, .string ⟨#[]⟩]), 2, 24) := by kernel_rfl

def commaB : ByteArray := ⟨#[44]⟩
def closeB : ByteArray := ⟨#[41]⟩

/-- The terms of an atom, from a mark on. -/
def argsM (ms : List Mark) (nx : Nat) (acc : List CTerm) : Except Int (List CTerm × Nat) :=
  if h : nx < ms.length then
    match termM (markAt ms nx) nx with
    | .error p => .error p
    | .ok (t, _) =>
      if seesM (markAt ms (nx + 1)) commaB then argsM ms (nx + 2) (acc ++ [t])
      else if seesM (markAt ms (nx + 1)) closeB then .ok (acc ++ [t], nx + 2)
      else .error (markAt ms (nx + 1)).place
  else .error 0

theorem termM_next {m : Mark} {nx : Nat} {t : CTerm} {n : Nat} (h : termM m nx = .ok (t, n)) : n = nx + 1 := by
  unfold termM at h
  split at h
  · simp only [Except.ok.injEq, Prod.mk.injEq] at h; exact h.2.symm
  · split at h
    · simp only [Except.ok.injEq, Prod.mk.injEq] at h; exact h.2.symm
    · cases h

/-- What reading an atom comes to: its place, its name, its terms, and where the reader then stands. -/
def atomM (ms : List Mark) (nx : Nat) : Except Int ((Nat × ByteArray × List CTerm) × Nat) :=
  if (markAt ms nx).kind == 2 then
    if seesM (markAt ms (nx + 1)) parB then
      match argsM ms (nx + 2) [] with
      | .error p => .error p
      | .ok (ts, n) => .ok (((markAt ms nx).place, (markAt ms nx).text, ts), n)
    else .error (markAt ms (nx + 1)).place
  else .error (markAt ms nx).place

theorem Blk.fill3 {w : World} {N : Nat} {cs : List Value} {t : TypeId} (h : Blk w N cs t) (hl : cs.length = 3) (v0 v1 v2 : Value) : Blk (((w.setCell ⟨N, 0, none⟩ v0).setCell ⟨N, 1, none⟩ v1).setCell ⟨N, 2, none⟩ v2) N [v0, v1, v2] t := by
  have hh := ((h.set 0 v0).set 1 v1).set 2 v2
  have e : ((cs.set 0 v0).set 1 v1).set 2 v2 = [v0, v1, v2] := by
    match cs, hl with
    | [_, _, _], _ => rfl
  rw [e] at hh
  exact hh
theorem RdIn.fill3 {w : World} {b : Nat} {mv : Value} {ms : List Mark} {nx : Nat} {br : Int} (h : RdIn w b mv ms nx br) {N : Nat} (hp : N ≠ b) (hm : mv.ownBlock ≠ some N) (v0 v1 v2 : Value) : RdIn (((w.setCell ⟨N, 0, none⟩ v0).setCell ⟨N, 1, none⟩ v1).setCell ⟨N, 2, none⟩ v2) b mv ms nx br :=
  ((h.other (p := ⟨N, 0, none⟩) hp hm v0).other (p := ⟨N, 1, none⟩) hp hm v1).other (p := ⟨N, 2, none⟩) hp hm v2
theorem Kept.fill3 {M : List Nat} {a w : World} (h : Kept M a w) {N : Nat} (hp : N ∈ M ∨ a.heap.size ≤ N) (v0 v1 v2 : Value) : Kept M a (((w.setCell ⟨N, 0, none⟩ v0).setCell ⟨N, 1, none⟩ v1).setCell ⟨N, 2, none⟩ v2) :=
  ((h.setCell (p := ⟨N, 0, none⟩) hp v0).setCell (p := ⟨N, 1, none⟩) hp v1).setCell (p := ⟨N, 2, none⟩) hp v2

/-- What a call that reads an atom answers. -/
def AtomOut (b : Nat) (mv : Value) (ms : List Mark) (br : Int) (w : World) (e : Ending) (w' : World) : Except Int ((Nat × ByteArray × List CTerm) × Nat) → Prop
  | .ok ((p, s, ts), nx) => ∃ tv base, e = .returned (.tuple #[.agg (catomVal ⟨p, s, tv⟩).toArray, .bool true]) ∧ w.heap.size ≤ base ∧ w'.ownsRow base 215 2 tv ts.length (ts.flatMap ctermVal) ∧ RdIn w' b mv ms nx br ∧ Kept [b] w w'
  | .error p => ∃ nx pl s ad n cp, e = .returned (.tuple #[.agg (catomVal ⟨pl, s, .slice ad n cp⟩).toArray, .bool false]) ∧ RdIn w' b mv ms nx p ∧ Kept [b] w w'

set_option maxRecDepth 100000 in
set_option maxHeartbeats 1600000 in
theorem ratom_any (b : Nat) (mv : Value) (ms : List Mark) (nx : Nat) (br : Int) (w : World) (h : RdIn w b mv ms nx br) (ok : MsOk ms) :
    Calls Tryz.prog 158 #[.pointer (some ⟨b, 0, none⟩)] w fun e w' => AtomOut b mv ms br w e w' (atomM ms nx) := by
  obtain ⟨m, hm⟩ : ∃ m, markAt ms nx = m := ⟨_, rfl⟩
  obtain ⟨i0, hi0, hz0, hz1, hz2⟩ := info_parts Tryz.info215
  have HM := hide hm
  have HO := hide ok
  have hlt0 := h.lt
  have hlt : (nx : Int) < (ms.length : Int) := by omega
  have hnx0 : (0 : Int) ≤ (nx : Int) := by omega
  have hl := h.len
  have hbw := h.blk.lt
  have hmb : ∀ k, mv.ownBlock = some k → k < w.heap.size := fun k hk => (h.row.lt k hk).2
  have h1 := h.kept0 ((Kept.refl [] w).alloc (.cells #[.int .i64 0, .string ⟨#[]⟩, .slice none 0 0] 187))
  have hN2 := Blk.new w [.int .i64 0, .string ⟨#[]⟩, .slice none 0 0] 187
  have hK1 := (Kept.refl [b] w).alloc (.cells [.int .i64 0, .string ⟨#[]⟩, .slice none 0 0].toArray 187)
  clear hm h ok
  go_enter Tryz.func158, Tryz.ntmps158
  go_wp2_with fail
  generalize w.alloc (.cells [.int .i64 0, .string ⟨#[]⟩, .slice none 0 0].toArray 187) = w1 at h1 hN2 hK1 ⊢
  obtain ⟨N2, hN2e⟩ : ∃ N2, w.heap.size = N2 := ⟨_, rfl⟩
  rw [hN2e] at hN2 hbw hmb ⊢
  have HN2 := hide hN2e
  clear hN2e
  have HMB : Hid (∀ k, N2 ≤ k → mv.ownBlock ≠ some k) := fun k hk e => by have := hmb k e; omega
  obtain ⟨g, cap, rfl, b0, b1, b2, hc⟩ := h1.cells
  have hgN : g < N2 := hmb g rfl
  clear hmb
  obtain ⟨c0, c1, c2⟩ := hc nx hlt0
  rw [markAt_eq hlt0, unhide HM] at c0 c1 c2
  clear hc b2
  have n0 := World.new_ne w1 _ b0
  have n1 := World.new_ne w1 _ b1
  have n2 := World.new_ne w1 _ c0
  have n3 := World.new_ne w1 _ c1
  have n4 := World.new_ne w1 _ c2
  have HH := hide h1
  have HB2 := hide hN2
  clear h1 hN2
  go_region_held3 (fun w' => w'.cell? ⟨b, 0, none⟩ = some (.slice (some ⟨g, 0, none⟩) ms.length cap) ∧ w'.cell? ⟨b, 1, none⟩ = some (.int .i64 nx) ∧ w'.cell? ⟨g, nx * 3, none⟩ = some (.int .i64 m.kind) ∧ w'.cell? ⟨g, nx * 3 + 1, none⟩ = some (.int .i64 m.place) ∧ w'.cell? ⟨g, nx * 3 + 2, none⟩ = some (.string m.text)) (go_keep) (fail)
  rename_i hHeldX
  clear hHeldX n0 n1 n2 n3 n4 b0 b1 c0 c1 c2
  have hN2lt := (unhide HB2).lt
  have h2 := (unhide HH).kept0 (((Kept.refl [] w1).alloc (.cells [.int .i64 m.kind, .int .i64 m.place, .string m.text].toArray 206)).drew)
  have hN4 := (Blk.new w1 [.int .i64 m.kind, .int .i64 m.place, .string m.text] 206).drew
  have hN2' := ((unhide HB2).alloc (.cells [.int .i64 m.kind, .int .i64 m.place, .string m.text].toArray 206)).drew
  have hK2 := (hK1.alloc (.cells [.int .i64 m.kind, .int .i64 m.place, .string m.text].toArray 206)).drew
  clear HH HB2 hK1
  generalize (w1.alloc (.cells [.int .i64 m.kind, .int .i64 m.place, .string m.text].toArray 206)).drew = w2 at h2 hN4 hN2' hK2 ⊢
  generalize w1.heap.size = N4 at hN4 hN2lt ⊢
  have x0 := hN4.cell 0
  have x1 := hN4.cell 1
  have x2 := hN4.cell 2
  have z1 := h2.blk.cell 1
  have zf := h2.blk.frozen 1
  simp at x0 x1 x2 z1
  have HH2 := hide h2
  have HB2 := hide hN2'
  have HB4 := hide hN4
  have HK2 := hide hK2
  clear h2 hN4 hN2' hK2
  cases hk : (m.kind == 2) with
  | false =>
    have hk2 : (m.kind != 2) = true := by simp [bne, hk]
    have HF : Hid (atomM ms nx = .error m.place) := by show _ = _; unfold atomM; rw [unhide HM, hk]; rfl
    clear hk
    go_wp2_with fail
    refine (breakAt_any b (.slice (some ⟨g, 0, none⟩) ms.length cap) ms nx br m.place _ (unhide HH2)).mono ?_
    rintro e w3 ⟨rfl, h3, k3⟩
    have hN3 := (unhide HB2).kept k3 (by simp; omega)
    have HK3 := hide ((unhide HK2).trans k3)
    have c0 := hN3.cell 0
    have c1 := hN3.cell 1
    have c2 := hN3.cell 2
    have nf := hN3.frozen
    simp at c0 c1 c2
    have HB3 := hide hN3
    have HR := hide h3
    clear hN3 h3 k3 x0 x1 x2 z1 zf HH2 HB2 HB4 HK2
    go_wp2
    rw [HF.out]
    have hfin := (unhide HB3).fill3 rfl (.int .i64 0) (.string ⟨#[]⟩) (.slice none 0 0)
    refine bodyPost_ret (res_cell_tmp (P := Tryz.prog) (fn := Tryz.f158) (p := 2) (u := 3) rfl rfl hfin Tryz.underlying187 rfl (by kernel_rfl)) rfl ?_
    refine ⟨nx, 0, ByteArray.empty, none, 0, 0, rfl, ?_, ?_⟩
    · exact (unhide HR).fill3 (by omega) (unhide HMB N2 (by omega)) _ _ _
    · have := unhide HN2
      exact (unhide HK3).fill3 (by right; omega) _ _ _
  | true =>
    have hk2 : (m.kind != 2) = false := by simp [bne, hk]
    have hnx : nx + 1 < ms.length := by
      refine (unhide HO).ends nx hlt0 ?_
      rw [markAt_eq hlt0, unhide HM]
      have : m.kind = 2 := by simpa using hk
      rw [this]; decide
    have HK := hide hk
    clear hk
    go_wp2_with fail
    have k3 : Kept [b] w2 (w2.setCell ⟨b, 1, none⟩ (.int .i64 ((nx : Int) + 1))) := (Kept.refl [b] w2).setCell (by simp) _
    have h3 : RdIn (w2.setCell ⟨b, 1, none⟩ (.int .i64 ((nx : Int) + 1))) b (.slice (some ⟨g, 0, none⟩) ms.length cap) ms (nx + 1) br := (unhide HH2).kept (nx' := nx + 1) (br' := br) k3 ((unhide HH2).blk.set 1 _) hnx
    have hB3 := hide ((unhide HB2).kept k3 (by simp; omega))
    have hM3 := hide ((unhide HB4).kept k3 (by simp; omega))
    have hK3 := hide ((unhide HK2).trans k3)
    clear x0 x1 x2 z1 zf HH2 HB2 HB4 HK2 k3
    generalize w2.setCell ⟨b, 1, none⟩ (.int .i64 ((nx : Int) + 1)) = w3 at h3 hB3 hM3 hK3 ⊢
    refine (want_any b (.slice (some ⟨g, 0, none⟩) ms.length cap) ms (nx + 1) br parB _ h3 (markAt ms (nx + 1)) (markAt_eq h3.lt) ((unhide HO).seen h3.lt parB)).mono ?_
    rintro e w4 ⟨rfl, h4, k4⟩
    clear h3
    have hB4 := hide ((unhide hB3).kept k4 (by simp; omega))
    have hM4 := hide ((unhide hM3).kept k4 (by simp; omega))
    have hK4 := hide ((unhide hK3).trans k4)
    clear hB3 hM3 hK3 k4
    cases hs : seesM (markAt ms (nx + 1)) parB with
    | false =>
      rw [hs] at h4
      simp only [Bool.false_eq_true, if_false] at h4
      have HF : Hid (atomM ms nx = .error (markAt ms (nx + 1)).place) := by show _ = _; unfold atomM; rw [unhide HM, unhide HK, hs]; rfl
      have c0 := (unhide hB4).cell 0
      have c1 := (unhide hB4).cell 1
      have c2 := (unhide hB4).cell 2
      have nf := (unhide hB4).frozen
      simp at c0 c1 c2
      have HR := hide h4
      clear h4 hs hM4
      go_wp2
      rw [HF.out]
      have hfin := (unhide hB4).fill3 rfl (.int .i64 0) (.string ⟨#[]⟩) (.slice none 0 0)
      refine bodyPost_ret (res_cell_tmp (P := Tryz.prog) (fn := Tryz.f158) (p := 2) (u := 3) rfl rfl hfin Tryz.underlying187 rfl (by kernel_rfl)) rfl ?_
      refine ⟨nx + 1, 0, ByteArray.empty, none, 0, 0, rfl, ?_, ?_⟩
      · exact (unhide HR).fill3 (by omega) (unhide HMB N2 (by omega)) _ _ _
      · have := unhide HN2
        exact (unhide hK4).fill3 (by right; omega) _ _ _
    | true =>
      rw [hs] at h4
      simp only [if_true] at h4
      have HS := hide hs
      have x1 := (unhide hM4).cell 1
      have x2 := (unhide hM4).cell 2
      simp at x1 x2
      have HR := hide h4
      clear h4 hs
      go_wp2
      have HFa : Hid (∀ r, argsM ms (nx + 2) [] = r → atomM ms nx = (match r with | .error p => .error p | .ok (ts, n) => .ok ((m.place, m.text, ts), n))) := by
        intro r hr
        unfold atomM
        rw [unhide HM, unhide HK, unhide HS, hr]
        rfl
      have hA5 := hide (Blk.new w4 [.int .i64 m.place, .string m.text, .slice none 0 0] 187)
      have hB5 := hide ((unhide hB4).alloc (.cells [.int .i64 m.place, .string m.text, .slice none 0 0].toArray 187))
      have hR5 := hide ((unhide HR).kept0 ((Kept.refl [] w4).alloc (.cells [.int .i64 m.place, .string m.text, .slice none 0 0].toArray 187)))
      have hK5 := hide ((unhide hK4).alloc (.cells [.int .i64 m.place, .string m.text, .slice none 0 0].toArray 187))
      have hs5 : (w4.alloc (.cells [.int .i64 m.place, .string m.text, .slice none 0 0].toArray 187)).heap.size = w4.heap.size + 1 := by simp
      have hN4A := (unhide hM4).lt
      clear x1 x2 hM4 hB4 hK4 HR HS HK HM
      change Code.wp _ _ _ _ (w4.alloc (.cells [.int .i64 m.place, .string m.text, .slice none 0 0].toArray 187))
      generalize w4.alloc (.cells [.int .i64 m.place, .string m.text, .slice none 0 0].toArray 187) = w5 at hA5 hB5 hR5 hK5 hs5 ⊢
      obtain ⟨A, hAe⟩ : ∃ A, w4.heap.size = A := ⟨_, rfl⟩
      rw [hAe] at hA5 hs5 hN4A ⊢
      clear hAe
      go_loopg [] (ms.length - (nx + 2)) (fun gk wr => ∃ (j : Nat) (acc : List CTerm) (ad : Option Addr) (cp : Nat), gk = ms.length - j ∧ Hid (argsM ms j acc = argsM ms (nx + 2) []) ∧ Hid (RdIn wr b (.slice (some ⟨g, 0, none⟩) ms.length cap) ms j br) ∧ Hid (Blk wr N2 [.int .i64 0, .string ⟨#[]⟩, .slice none 0 0] 187) ∧ Hid (Blk wr A [.int .i64 m.place, .string m.text, .slice ad acc.length cp] 187) ∧ wr.ownsRow (A + 1) 215 2 (.slice ad acc.length cp) acc.length (acc.flatMap ctermVal) ∧ Hid (Kept [b] w wr) ∧ A + 1 ≤ wr.heap.size ∧ acc.length ≤ j)
      case atStart => exact ⟨nx + 2, [], none, 0, rfl, rfl, hR5, hB5, hA5, World.ownsRow_nil _ _ _ _, hK5, by omega, by simp⟩
      case round =>
        clear hA5 hB5 hR5 hK5 hs5
        obtain ⟨j, acc, ad, cp, hgk, HL, HR, HB, HA, hown, hK, hz, hal⟩ := hrel
        have HG := hide hgk
        clear hgk
        have hjl := (unhide HR).lt
        go_wp2_with fail
        refine (rterm_any b (.slice (some ⟨g, 0, none⟩) ms.length cap) ms j br _ (unhide HR) (unhide HO) (markAt ms j) (markAt_eq hjl)).mono ?_
        intro e w6 hout
        cases ht : termM (markAt ms j) j with
        | error q =>
          rw [ht] at hout
          obtain ⟨n9, rfl, h6, k6⟩ := hout
          have HF : Hid (atomM ms nx = .error q) := (unhide HFa) (.error q) (by rw [← unhide HL]; unfold argsM; rw [dif_pos hjl, ht])
          have hB6 := (unhide HB).kept k6 (by simp; omega)
          have hK6 := hide ((unhide hK).trans k6)
          clear k6 ht HR HB HA hK HL hown
          have c0 := hB6.cell 0
          have c1 := hB6.cell 1
          have c2 := hB6.cell 2
          have nf := hB6.frozen
          have d0 := fun o => (hB6.alloc o).cell 0
          have d1 := fun o => (hB6.alloc o).cell 1
          have d2 := fun o => (hB6.alloc o).cell 2
          have df := fun o => (hB6.alloc o).frozen
          simp at c0 c1 c2 d0 d1 d2
          have hlt6 := hB6.lt
          have hb6 := h6.blk.lt
          have q1 : ¬ N2 = w6.heap.size := by omega
          have q2 : ¬ w6.heap.size = N2 := by omega
          have HR6 := hide h6
          have HB6 := hide hB6
          clear h6 hB6
          simp only [ctermVal, noCTerm]
          go_wp2
          rw [HF.out]
          have hfin := ((unhide HB6).fill3 rfl (.int .i64 0) (.string ⟨#[]⟩) (.slice none 0 0)).alloc (.cells #[.int .i32 0, .string ByteArray.empty] 215)
          refine bodyPost_ret (res_cell_tmp (P := Tryz.prog) (fn := Tryz.f158) (p := 2) (u := 3) rfl rfl hfin Tryz.underlying187 rfl (by kernel_rfl)) rfl ?_
          refine ⟨n9, 0, ByteArray.empty, none, 0, 0, rfl, ?_, ?_⟩
          · exact ((unhide HR6).fill3 (by omega) (unhide HMB N2 (by omega)) _ _ _).kept0 ((Kept.refl [] _).alloc _)
          · have := unhide HN2
            exact ((unhide hK6).fill3 (by right; omega) _ _ _).alloc _
        | ok r =>
          obtain ⟨t, n1⟩ := r
          rw [ht] at hout
          have hn1 := termM_next ht
          subst hn1
          obtain ⟨rfl, h6, k6⟩ := hout
          have hB6 := hide ((unhide HB).kept k6 (by simp; omega))
          have hA6 := hide ((unhide HA).kept k6 (by simp; omega))
          have hK6 := hide ((unhide hK).trans k6)
          have hown6 := ownsRow_keptOf hown k6 (fun i hi hm => by simp at hm; subst hm; have := (hown.lt _ hi).1; omega)
          have hz6 : A + 1 ≤ w6.heap.size := Nat.le_trans hz k6.size
          have HT := hide ht
          clear k6 ht HR HB HA hK hown hz
          have a2 := (unhide hA6).cell 2
          have af := (unhide hA6).frozen
          have d2 := fun o => ((unhide hA6).alloc o).cell 2
          have df := fun o => ((unhide hA6).alloc o).frozen
          simp at a2 d2
          have hlt6 := (unhide hA6).lt
          have q1 : ¬ A = w6.heap.size := by omega
          have q2 : ¬ w6.heap.size = A := by omega
          have HR6 := hide h6
          clear h6
          have hnew : ((w6.alloc (.cells (ctermVal t).toArray 215)).alloc (.cells (ctermVal t).toArray 215)).heap[w6.heap.size + 1]? = some (.cells (ctermVal t).toArray 215 (0, 0)) := by
            have hh := heap_alloc_new (w6.alloc (.cells (ctermVal t).toArray 215)) (.cells (ctermVal t).toArray 215)
            rw [show (w6.alloc (.cells (ctermVal t).toArray 215)).heap.size = w6.heap.size + 1 from by simp] at hh
            exact hh
          have hown8 := World.ownsRow.alloc (World.ownsRow.alloc hown6 (.cells (ctermVal t).toArray 215)) (.cells (ctermVal t).toArray 215)
          have hal2 : acc.length ≤ 1000 := by omega
          have HGR : Hid (∀ w9, ((w6.alloc (.cells (ctermVal t).toArray 215)).alloc (.cells (ctermVal t).toArray 215)).grownBy w9 (Value.slice ad acc.length cp).ownBlock → Kept (Value.slice ad acc.length cp).ownBlock.toList w6 w9) := by
            intro w9 hg
            exact (((Kept.refl _ w6).alloc _).alloc _).grown hg (fun k hk => Or.inl (by simp [hk]))
          have HRW : Hid (∀ i ∈ (Value.slice ad acc.length cp).ownBlock.toList, A + 1 ≤ i) := fun i hi => (hown6.lt i (by simpa using hi)).1
          have HAC : Hid (∀ w9, ((w6.alloc (.cells (ctermVal t).toArray 215)).alloc (.cells (ctermVal t).toArray 215)).grownBy w9 (Value.slice ad acc.length cp).ownBlock → w9.cell? ⟨A, 2, none⟩ = some (.slice ad acc.length cp) ∧ w9.frozen? ⟨A, 2, none⟩ = false) := by
            intro w9 hg
            have hb := (unhide hA6).kept (unhide HGR w9 hg) (fun hm => by have := unhide HRW A hm; omega)
            exact ⟨hb.cell 2, hb.frozen 2⟩
          simp only [ctermVal]
          go_wp2_with (at_builtin; refine wpList_append_lies _ rfl (.tmp 51) (.tmp 53) _ rfl (A + 1) 215 i0 _ 2 24 Tryz.underlying185 hi0 hz0 hz1 hz2 rfl (by omega) (.slice ad acc.length cp) acc.length (acc.flatMap ctermVal) rfl hown8 ⟨w6.heap.size + 1, 0, none⟩ 1 1 (ctermVal t) rfl rfl (World.news_of_block (cs := (ctermVal t).toArray) (t := 215) (fr := (0, 0)) hnew) (by simp [Value.oneCell', ctermVal]) (by omega) (by unfold maxLen; omega) (by omega) (by simp; omega) (w6.heap.size + 1 + 1) (by simp) ?_; intro g1 cp1 w9 ho1 hg1 ha1 hl1; have hc9 := (unhide HAC w9 hg1).1; have hf9 := (unhide HAC w9 hg1).2)
          have kr := unhide HGR w9 hg1
          have hrw := unhide HRW
          have hN2w := unhide HN2
          have hg1A : A + 1 ≤ g1 := (ho1.lt g1 rfl).1
          have hR9 : RdIn w9 b (.slice (some ⟨g, 0, none⟩) ms.length cap) ms (j + 1) br := ⟨(unhide HR6).blk.kept kr (fun hm => by have := hrw b hm; omega), ownsRow_keptOf (unhide HR6).row kr (fun i hi hm => by have := hrw i hm; simp [Value.ownBlock] at hi; omega), (unhide HR6).ap, (unhide HR6).lt, (unhide HR6).len⟩
          have hR10 := hide (hR9.other (p := ⟨A, 2, none⟩) (by simp; omega) (unhide HMB A (by omega)) (.slice (some ⟨g1, 0, none⟩) (acc.length + 1) cp1))
          have hB10 := hide (((unhide hB6).kept kr (fun hm => by have := hrw N2 hm; omega)).set_other ⟨A, 2, none⟩ (by simp; omega) (.slice (some ⟨g1, 0, none⟩) (acc.length + 1) cp1))
          have hA10 : Hid (Blk (w9.setCell ⟨A, 2, none⟩ (.slice (some ⟨g1, 0, none⟩) (acc.length + 1) cp1)) A [.int .i64 m.place, .string m.text, .slice (some ⟨g1, 0, none⟩) (acc.length + 1) cp1] 187) := ((unhide hA6).kept kr (fun hm => by have := hrw A hm; omega)).set 2 _
          have hK9 : Kept [b] w w9 := (unhide hK6).trans' kr (fun i hi => Or.inr (by have := hrw i hi; omega))
          have hK10 := hide (hK9.setCell (p := ⟨A, 2, none⟩) (by right; simp; omega) (.slice (some ⟨g1, 0, none⟩) (acc.length + 1) cp1))
          have hown10 := ownsRow_set ho1 (p := ⟨A, 2, none⟩) (by simp [Value.ownBlock]; omega) (.slice (some ⟨g1, 0, none⟩) (acc.length + 1) cp1)
          have hz10 : A + 1 ≤ (w9.setCell ⟨A, 2, none⟩ (.slice (some ⟨g1, 0, none⟩) (acc.length + 1) cp1)).heap.size := by have := kr.size; simp; omega
          clear kr hrw hR9 hK9 hg1 ha1 hl1 ho1 hc9 hf9 HGR HRW HAC hnew hown8 hown6 hA6 hB6 hK6 HR6 a2 d2 af df q1 q2 hlt6 hz6
          generalize w9.setCell ⟨A, 2, none⟩ (.slice (some ⟨g1, 0, none⟩) (acc.length + 1) cp1) = w10 at hR10 hB10 hA10 hK10 hown10 hz10 ⊢
          have hj1 := (unhide hR10).lt
          refine (take_any b (.slice (some ⟨g, 0, none⟩) ms.length cap) ms (j + 1) br commaB _ (unhide hR10) (markAt ms (j + 1)) (markAt_eq hj1) ((unhide HO).seen hj1 commaB)).mono ?_
          rintro e w11 ⟨rfl, h11, k11⟩
          have hB11 := hide ((unhide hB10).kept k11 (by simp; omega))
          have hA11 := hide ((unhide hA10).kept k11 (by simp; omega))
          have hK11 := hide ((unhide hK10).trans k11)
          have hown11 := ownsRow_keptOf hown10 k11 (fun i hi hm => by simp at hm; subst hm; have := (hown10.lt _ hi).1; omega)
          have hz11 : A + 1 ≤ w11.heap.size := Nat.le_trans hz10 k11.size
          clear k11 hR10 hB10 hA10 hK10 hown10 hz10
          cases hs : seesM (markAt ms (j + 1)) commaB with
          | true =>
            rw [hs] at h11
            simp only [if_true] at h11
            have HL2 : Hid (argsM ms (j + 2) (acc ++ [t]) = argsM ms (nx + 2) []) := by
              have hh := unhide HL
              conv at hh => lhs; unfold argsM
              rw [dif_pos hjl, unhide HT] at hh
              simp only [hs, if_true] at hh
              exact hh
            have HR11 := hide h11
            clear h11 hs HL HT
            go_wp2_with fail
            go_roundg (ms.length - (j + 2))
            case measure => have := unhide HG; omega
            case rel => exact ⟨j + 2, acc ++ [t], some ⟨g1, 0, none⟩, cp1, rfl, HL2, HR11, hB11, by simpa using hA11, by simpa using hown11, hK11, hz11, by simp; omega⟩
          | false =>
            rw [hs] at h11
            simp only [Bool.false_eq_true, if_false] at h11
            have HS := hide hs
            have HR11 := hide h11
            clear h11 hs
            have HAr : Hid (argsM ms (nx + 2) [] = if seesM (markAt ms (j + 1)) closeB then .ok (acc ++ [t], j + 2) else .error (markAt ms (j + 1)).place) := by
              have hh := unhide HL
              conv at hh => lhs; unfold argsM
              rw [dif_pos hjl, unhide HT] at hh
              simp only [unhide HS, Bool.false_eq_true, if_false] at hh
              exact hh.symm
            have HWd := hide (want_any b (.slice (some ⟨g, 0, none⟩) ms.length cap) ms (j + 1) br closeB _ ((unhide HR11).kept0 (Kept.refl [] w11).drew) (markAt ms (j + 1)) (markAt_eq hj1) ((unhide HO).seen hj1 closeB))
            have e0 := (unhide hA11).cell 0
            have e1 := (unhide hA11).cell 1
            have e2 := (unhide hA11).cell 2
            simp at e0 e1 e2
            have q1 : ¬ A = N2 := by omega
            have q2 : ¬ N2 = A := by omega
            have HC : Hid (∀ w12, Kept [b] w11.drew w12 → Blk w12 N2 [.int .i64 0, .string ⟨#[]⟩, .slice none 0 0] 187 ∧ Blk w12 A [.int .i64 m.place, .string m.text, .slice (some ⟨g1, 0, none⟩) (acc.length + 1) cp1] 187) := fun w12 k => ⟨(unhide hB11).drew.kept k (by simp; omega), (unhide hA11).drew.kept k (by simp; omega)⟩
            clear HL HT HS HR11
            go_wp2_with fail
            go_region_held3 (fun w' => w'.cell? ⟨A, 0, none⟩ = some (.int .i64 m.place) ∧ w'.cell? ⟨A, 1, none⟩ = some (.string m.text) ∧ w'.cell? ⟨A, 2, none⟩ = some (.slice (some ⟨g1, 0, none⟩) (acc.length + 1) cp1)) (go_keep) ((go_at_call 163; refine (unhide HWd).mono ?_; rintro e w12 ⟨rfl, h12, k12⟩; have hc12 := unhide HC w12 k12; have f0 := hc12.2.cell 0; have f1 := hc12.2.cell 1; have f2 := hc12.2.cell 2; have p0 := hc12.1.cell 0; have p1 := hc12.1.cell 1; have p2 := hc12.1.cell 2; have pf := hc12.1.frozen; simp at f0 f1 f2 p0 p1 p2; have H12 := hide (And.intro h12 (And.intro k12 hc12)); clear h12 k12 hc12))
            rename_i hHeldY
            clear hHeldY
            go_wp2
            obtain ⟨h12, k12, hc12, _⟩ := unhide H12
            have hfin := hc12.fill3 rfl (.int .i64 m.place) (.string m.text) (.slice (some ⟨g1, 0, none⟩) (acc.length + 1) cp1)
            have hK12 : Kept [b] w w12 := (unhide hK11).drew.trans k12
            refine bodyPost_ret (res_cell_tmp (P := Tryz.prog) (fn := Tryz.f158) (p := 2) (u := 3) rfl rfl hfin Tryz.underlying187 rfl (by kernel_rfl)) rfl ?_
            cases hcl : seesM (markAt ms (j + 1)) closeB with
            | true =>
              rw [hcl] at h12
              have hA := unhide HAr
              rw [hcl] at hA
              simp only [if_true] at h12 hA
              rw [unhide HFa _ hA]
              have hown12 := ownsRow_keptOf (ownsRow_drew hown11) k12 (fun i hi hm => by simp at hm; subst hm; have := (hown11.lt _ hi).1; omega)
              have hne : (Value.slice (some ⟨g1, 0, none⟩) (acc.length + 1) cp1).ownBlock ≠ some N2 := by simp [Value.ownBlock]; omega
              refine ⟨.slice (some ⟨g1, 0, none⟩) (acc.length + 1) cp1, A + 1, rfl, by omega, ?_, ?_, ?_⟩
              · have ho := ownsRow_set (ownsRow_set (ownsRow_set hown12 (p := ⟨N2, 0, none⟩) hne (.int .i64 m.place)) (p := ⟨N2, 1, none⟩) hne (.string m.text)) (p := ⟨N2, 2, none⟩) hne (.slice (some ⟨g1, 0, none⟩) (acc.length + 1) cp1)
                simpa using ho
              · exact h12.fill3 (by omega) (unhide HMB N2 (by omega)) _ _ _
              · exact hK12.fill3 (by right; omega) _ _ _
            | false =>
              rw [hcl] at h12
              have hA := unhide HAr
              rw [hcl] at hA
              simp only [Bool.false_eq_true, if_false] at h12 hA
              rw [unhide HFa _ hA]
              refine ⟨j + 1, m.place, m.text, some ⟨g1, 0, none⟩, acc.length + 1, cp1, rfl, ?_, ?_⟩
              · exact h12.fill3 (by omega) (unhide HMB N2 (by omega)) _ _ _
              · exact hK12.fill3 (by right; omega) _ _ _

end Go.Proofs.YtoihbhenbmffcaaGreatDoor
