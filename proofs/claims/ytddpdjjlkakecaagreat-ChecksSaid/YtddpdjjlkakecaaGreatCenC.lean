import Derived.Test.YtddpdjjlkakecaaGreatCenB
set_option linter.unusedVariables false
set_option linter.unusedSimpArgs false

namespace Go.Proofs.YtddpdjjlkakecaaGreat
open Go.RowKit

theorem Tryz.info162 : (Tryz.prog.info? 162).map (fun i => (i.zero, i.size, i.bytes)) = some (some (.agg #[.string ⟨#[]⟩, .int .i64 0]), 2, 24) := by kernel_rfl

/-- New arities. -/
theorem CenIn.arsGrown {w w' : World} {b : Nat} {n : Int} {nv tv av : Value} {names things : List ByteArray} {ars : List (ByteArray × Nat)} (h : CenIn w b n nv tv av names things ars) {av' : Value} {ars' : List (ByteArray × Nat)}
    (hk : Kept av.ownBlock.toList w w') (ho : w'.ownsRow (b + 1) 162 2 av' ars'.length (ars'.flatMap arCell)) (hn : ∀ q, av'.ownBlock = some q → av.ownBlock = some q ∨ w.heap.size ≤ q) :
    CenIn (w'.setCell ⟨b, 3, none⟩ av') b n nv tv av' names things ars' ∧ w'.cell? ⟨b, 3, none⟩ = some av ∧ w'.frozen? ⟨b, 3, none⟩ = false := by
  have hne : ∀ {w : World} {e : TypeId} {sz : Nat} {v : Value} {k : Nat} {xs : List Value}, w.ownsRow (b + 1) e sz v k xs → v.ownBlock ≠ some b := fun h e => by have := (h.lt b e).1; omega
  have hb : Blk w' b [.int .i64 n, nv, tv, av] 128 := h.blk.kept hk (fun hm => hne h.ra (by simpa using hm))
  have hn1 := ownsRow_keptOf h.rn hk (fun i hi hm => h.ana i hi (by simpa using hm))
  have ht := ownsRow_keptOf h.rt hk (fun i hi hm => h.ata i hi (by simpa using hm))
  exact ⟨⟨hb.set 3 _, ownsRow_set hn1 (p := ⟨b, 3, none⟩) (hne hn1) _, ownsRow_set ht (p := ⟨b, 3, none⟩) (hne ht) _, ownsRow_set ho (p := ⟨b, 3, none⟩) (hne ho) _, h.ant, (new_apart h.rn h.ana.symm hn).symm, (new_apart h.rt h.ata.symm hn).symm, h.rin, h.rit⟩, hb.cell 3, hb.frozen 3⟩

/-- The arities, taken in up to the first atom that has another one. -/
def arF : List CAtom → List (ByteArray × Nat) → List (ByteArray × Nat) × Option Int
  | [], ars => (ars, none)
  | a :: l, ars => match arFind ars a.name with
    | none => arF l (ars ++ [(a.name, lenOf a.tv)])
    | some p => if p.2 = lenOf a.tv then arF l ars else (ars, some a.place)

theorem arFind_name {ars : List (ByteArray × Nat)} {x : ByteArray} {p : ByteArray × Nat} (h : arFind ars x = some p) : (p.1.toList == x.toList) = true := by
  unfold arFind at h
  have := List.find?_some h
  exact this

set_option maxRecDepth 100000 in
set_option maxHeartbeats 1600000 in
theorem findOtherArity_any (b : Nat) (n : Int) (nv tv av : Value) (names things : List ByteArray) (ars : List (ByteArray × Nat)) (c : PCV) (w : World) (h : CenIn w b n nv tv av names things ars) (hc : PcIn w b c) (hlen : c.lvs.length ≤ 1000) (hal : ars.length ≤ 800000) (htl : ∀ a ∈ atomsV c, lenOf a.tv ≤ 1000) :
    Calls Tryz.prog 56 #[.pointer (some ⟨b, 0, none⟩), .agg (pcvCells c).toArray] w fun e w' => e = .returned (foundOut (arF (atomsV c) ars).2) ∧ ∃ av', CenIn w' b n nv tv av' names things (arF (atomsV c) ars).1 ∧ (arF (atomsV c) ars).1.length ≤ ars.length + 1001 ∧ Kept (b :: av.ownBlock.toList) w w' := by
  obtain ⟨i0, hi0, hz0, hz1, hz2⟩ := info_parts Tryz.info162
  have hbw := h.blk.lt
  obtain ⟨aad, acp, rfl⟩ := row_nil h.ra
  obtain ⟨M, hMe⟩ : ∃ M, b :: (Value.slice aad ars.length acp).ownBlock.toList = M := ⟨_, rfl⟩
  rw [hMe]
  have HMb : Hid (b ∈ M ∧ (∀ i, i ∈ (Value.slice aad ars.length acp).ownBlock.toList → i ∈ M)) := by
    rw [← hMe]
    exact ⟨by simp, fun i hi => by simp only [List.mem_cons]; exact Or.inr hi⟩
  clear hMe
  have hAt := hide (atoms_any c (w.alloc (.cells (pcvCells c).toArray 123)) ((hc.low (Low.of ((Kept.refl [] w).alloc _) (by omega) (by simp))).at_) hlen)
  have HForm := hide (atomsV_form hc.at_)
  have HTl := hide htl
  have hAl : (atomsV c).length ≤ 1001 := by
    have := bodyAtoms_len c.lvs
    simp [atomsV]; omega
  obtain ⟨RA, RO, hRR⟩ : ∃ RA RO, arF (atomsV c) ars = (RA, RO) := ⟨_, _, rfl⟩
  rw [hRR]
  have HRR := hide hRR
  clear hRR htl
  have hat := hc.at_
  clear hc
  obtain ⟨hp, hn', hts, hv, bv, lvs⟩ := c
  simp only at hat hlen
  obtain ⟨adh, cph, rfl⟩ := row_nil hat.head
  obtain ⟨adb, cpb, rfl⟩ := row_nil hat.body.row
  clear hat
  generalize atomsV ⟨hp, hn', hts, .slice adh hts.length cph, .slice adb lvs.length cpb, lvs⟩ = aT at hAt HForm HTl hAl HRR
  simp only [pcvCells] at hAt ⊢
  have H0 := hide h
  clear h
  go_enter Tryz.func56, Tryz.ntmps56
  go_wp2_with fail
  refine (unhide hAt).mono ?_
  rintro e w2 ⟨ad2, cp2, rfl, hown, k2⟩
  have hK2 : Kept [] w w2 := ((Kept.refl [] w).alloc _).trans k2
  have HC2 := hide ((unhide H0).kept hK2)
  have HL2 := hide (hK2.mono (N := M) (by simp))
  have HO := hide (ownsRow_base hown (show w.heap.size ≤ _ by simp))
  have hs2 : w.heap.size + 1 ≤ w2.heap.size := by have := k2.size; simpa using this
  have HA0 : Hid (∀ q, (Value.slice aad ars.length acp).ownBlock = some q → q < w.heap.size) := fun q hq => ((unhide H0).ra.lt q hq).2
  clear hAt hown k2 hK2 H0
  go_wp2
  go_loopg [14] aT.length (fun gk i wr => ∃ (k : Nat) (rs : List (ByteArray × Nat)) (ad4 : Option Addr) (cp4 : Nat), i = .int .i64 k ∧ k ≤ aT.length ∧ gk = aT.length - k ∧ rs.length ≤ ars.length + k ∧ Hid (CenIn wr b n nv tv (.slice ad4 rs.length cp4) names things rs) ∧ Hid (arF (aT.drop k) rs = (RA, RO)) ∧ Hid (Kept M w wr) ∧ Hid (wr.ownsRow w.heap.size 120 3 (.slice ad2 aT.length cp2) aT.length (aT.flatMap catomVal)) ∧ Hid (∀ q, (Value.slice ad4 rs.length cp4).ownBlock = some q → (Value.slice aad ars.length acp).ownBlock = some q ∨ w2.heap.size ≤ q) ∧ w2.heap.size ≤ wr.heap.size)
  case atStart => exact ⟨0, ars, aad, acp, rfl, by omega, rfl, by omega, HC2, HRR, HL2, HO, fun q hq => Or.inl hq, by omega⟩
  case round =>
    clear HC2 HL2 HRR
    obtain ⟨k, rs, ad4, cp4, rfl, hk, hgk, hrl, HC, HF, HL, HR, HNw, hsr⟩ := hrel
    have HG := hide hgk
    clear hgk
    by_cases hlt : k < aT.length
    · obtain ⟨g, cap, he, d0, d1, d2⟩ := atom_cells (unhide HR) k hlt
      simp only [Value.slice.injEq] at he
      obtain ⟨rfl, _, rfl⟩ := he
      obtain ⟨adt, nt, cpt, htv⟩ := unhide HForm aT[k] (List.getElem_mem hlt)
      have hnt := unhide HTl aT[k] (List.getElem_mem hlt)
      have HF2 : Hid (arF (aT[k] :: aT.drop (k + 1)) rs = (RA, RO)) := by
        have h := unhide HF
        rw [List.drop_eq_getElem_cons hlt] at h
        exact h
      obtain ⟨⟨ap, an, atv⟩, hak⟩ : ∃ x, aT[k] = x := ⟨_, rfl⟩
      rw [hak] at d0 d1 d2 htv hnt HF2
      simp only at d0 d1 d2 htv
      subst htv
      simp only [lenOf] at hnt
      clear hak HF
      have hwa : b < wr.heap.size := (unhide HC).blk.lt
      have kA : Kept [] wr ((wr.alloc (.cells [.int .i64 ap, .string an, .slice adt nt cpt].toArray 120)).alloc (.cells [.string an, .int .i64 nt].toArray 162)) := (((Kept.refl [] wr).alloc _).alloc _)
      have HCa := hide ((unhide HC).kept kA)
      have HTa := hide ((Blk.new wr [.int .i64 ap, .string an, .slice adt nt cpt] 120).alloc (.cells [.string an, .int .i64 nt].toArray 162))
      have HOa : Hid (Blk ((wr.alloc (.cells [.int .i64 ap, .string an, .slice adt nt cpt].toArray 120)).alloc (.cells [.string an, .int .i64 nt].toArray 162)) (wr.heap.size + 1) [.string an, .int .i64 nt] 162) := by
        have hh := Blk.new (wr.alloc (.cells [.int .i64 ap, .string an, .slice adt nt cpt].toArray 120)) [.string an, .int .i64 nt] 162
        rw [show (wr.alloc (.cells [.int .i64 ap, .string an, .slice adt nt cpt].toArray 120)).heap.size = wr.heap.size + 1 from by simp] at hh
        exact hh
      have HArit := hide (arityOf_any b n nv tv (.slice ad4 rs.length cp4) names things rs an _ (unhide HCa) (by omega))
      have HLa := hide ((unhide HL).trans' kA (by simp))
      have HRa := hide (ownsRow_kept (unhide HR) kA (by simp))
      have hsa : wr.heap.size + 2 ≤ ((wr.alloc (.cells [.int .i64 ap, .string an, .slice adt nt cpt].toArray 120)).alloc (.cells [.string an, .int .i64 nt].toArray 162)).heap.size := by simp
      clear kA
      go_wp2_with fail
      refine (unhide HArit).mono ?_
      rintro e w5 ⟨rfl, k5⟩
      have HC5 := hide ((unhide HCa).kept k5)
      have HT5 := hide ((unhide HTa).kept k5 (by simp))
      have HO5 := hide ((unhide HOa).kept k5 (by simp))
      have hb5 : b ≤ ((wr.alloc (.cells [.int .i64 ap, .string an, .slice adt nt cpt].toArray 120)).alloc (.cells [.string an, .int .i64 nt].toArray 162)).heap.size := by omega
      have HL5 := hide ((unhide HLa).trans' k5 (by simp))
      have HR5 := hide (ownsRow_kept (unhide HRa) k5 (by simp))
      have hs5 : wr.heap.size + 2 ≤ w5.heap.size := by have := k5.size; omega
      clear HCa HTa HOa HArit HLa HRa k5 hb5 hsa d0 d1 d2 HC HL HR
      cases hfn : arFind rs an with
      | some p =>
        have HNm := hide (arFind_name hfn)
        have HF3 : Hid ((if p.2 = nt then arF (aT.drop (k + 1)) rs else (rs, some ap)) = (RA, RO)) := by
          have h := unhide HF2
          rw [arF] at h
          simp only [hfn, lenOf] at h
          exact h
        have KK := (Kept.refl [] w5).alloc (.cells [.string p.1, .int .i64 p.2].toArray 162)
        have HC6 := hide ((unhide HC5).kept KK)
        have HL6 := hide ((unhide HL5).trans' KK (by simp))
        have HR6 := hide (ownsRow_kept (unhide HR5) KK (by simp))
        have hs6 : w2.heap.size ≤ (w5.alloc (.cells [.string p.1, .int .i64 p.2].toArray 162)).heap.size := by simp; omega
        have t0 := ((unhide HT5).alloc (.cells [.string p.1, .int .i64 p.2].toArray 162)).cell 0
        have o0 := ((unhide HO5).alloc (.cells [.string p.1, .int .i64 p.2].toArray 162)).cell 0
        have o1 := ((unhide HO5).alloc (.cells [.string p.1, .int .i64 p.2].toArray 162)).cell 1
        simp at t0 o0 o1
        clear hfn HF2 KK HC5 HT5 HO5 HL5 HR5
        simp only [arOut]
        have hnm : (p.1.toList == an.toList) = true := unhide HNm
        by_cases heq : p.2 = nt
        · have hei : ((p.2 : Int) == (nt : Int)) = true := by simp [heq]
          have HF4 : Hid (arF (aT.drop (k + 1)) rs = (RA, RO)) := by
            have h := unhide HF3
            rw [if_pos heq] at h
            exact h
          clear HF3 heq
          go_wp2
          go_roundg (aT.length - (k + 1))
          case measure => have := unhide HG; omega
          case rel => exact ⟨k + 1, rs, ad4, cp4, by go_num, by omega, rfl, by omega, HC6, HF4, HL6, HR6, HNw, hs6⟩
        · have hei : ((p.2 : Int) == (nt : Int)) = false := by rw [beq_eq_false_iff_ne]; omega
          have HF4 : Hid (RA = rs ∧ RO = some ap) := by
            have h := unhide HF3
            rw [if_neg heq] at h
            simp only [Prod.mk.injEq] at h
            exact ⟨h.1.symm, h.2.symm⟩
          clear HF3
          go_wp2
          go_ret2
          obtain ⟨rfl, rfl⟩ := unhide HF4
          exact ⟨rfl, _, unhide HC6, by omega, unhide HL6⟩
      | none =>
        have HF3 : Hid (arF (aT.drop (k + 1)) (rs ++ [(an, nt)]) = (RA, RO)) := by
          have h := unhide HF2
          rw [arF] at h
          simp only [hfn, lenOf] at h
          exact h
        have KK := (Kept.refl [] w5).alloc (.cells [.string ⟨#[]⟩, .int .i64 0].toArray 162)
        have HC6 := (unhide HC5).kept KK
        have HL6 := (unhide HL5).trans' KK (by simp)
        have HR6 := ownsRow_kept (unhide HR5) KK (by simp)
        have hs6 : wr.heap.size + 3 ≤ (w5.alloc (.cells [.string ⟨#[]⟩, .int .i64 0].toArray 162)).heap.size := by simp; omega
        have HO6 := (unhide HO5).alloc (.cells [.string ⟨#[]⟩, .int .i64 0].toArray 162)
        clear hfn HF2 KK HC5 HT5 HO5 HL5 HR5
        simp only [arOut]
        go_wp2_with fail
        change Code.wp _ _ _ _ (w5.alloc (.cells [.string ⟨#[]⟩, .int .i64 0].toArray 162))
        generalize w5.alloc (.cells [.string ⟨#[]⟩, .int .i64 0].toArray 162) = w6 at HC6 HL6 HR6 hs6 HO6 ⊢
        generalize hS6 : w5.heap.size = S6
        have hS6' : wr.heap.size + 2 ≤ S6 := by omega
        generalize hO7 : wr.heap.size + 1 = O7 at HO6 ⊢
        have c3 := HC6.blk.cell 3
        have c3a := fun o => (HC6.blk.alloc o).cell 3
        have o0 := HO6.cell 0
        have o1 := HO6.cell 1
        simp at c3 o0 o1 c3a
        have HG6 : Hid (∀ w8 w9 : World, (∀ k : Nat, w8.heap[k]? = w6.heap[k]?) → w8.heap.size = w6.heap.size → w8.os = w6.os → w8.tape = w6.tape → w8.output = w6.output → (w8.alloc (.cells [.string an, .int .i64 nt].toArray 162)).grownBy w9 (Value.slice ad4 rs.length cp4).ownBlock → Kept (Value.slice ad4 rs.length cp4).ownBlock.toList w6 w9) := by
          intro w8 w9 e1 e2 e3 e4 e5 hg
          have k8 : Kept (Value.slice ad4 rs.length cp4).ownBlock.toList w6 w8 := ⟨e3, e4, e5, by omega, fun k _ _ => e1 k⟩
          exact (k8.alloc _).grown hg (fun k hk => Or.inl (by rw [Option.mem_toList]; exact hk))
        have HC7 := hide HC6
        have HL7 := hide HL6
        have HR7 := hide HR6
        have hb6 : b + 1 ≤ w6.heap.size := by omega
        have hra := HC6.ra
        have hrl2 : rs.length ≤ 900000 := by omega
        clear HC6 HL6 HR6 HO6
        go_region_law
          (refine step_append_lies _ (by rfl) _ _ _ (by rfl) (b + 1) 162 i0 _ 2 24 Tryz.underlying126 hi0 hz0 hz1 hz2 rfl (by omega) (.slice ad4 rs.length cp4) rs.length (rs.flatMap arCell) (by rfl) (World.ownsRow.alloc (ownsRow_drew hra) _) ⟨w6.heap.size, 0, none⟩ 1 1 [.string an, .int .i64 nt] (by rfl) (by rfl) (World.news_of_block (cs := [Value.string an, Value.int .i64 nt].toArray) (t := 162) (fr := (0, 0)) (heap_alloc_new w6.drew _)) (by simp [Value.oneCell']) (by omega) (by unfold maxLen; omega) (by omega) (by simp; omega) (w6.heap.size + 1) (by simp) ?_; intro gg cap w9 hown9 hgrow hat9 hlt9; have hkg := unhide HG6 w6.drew w9 (fun _ => rfl) rfl rfl rfl rfl hgrow; have hst := (unhide HC7).arsGrown (av' := .slice (some ⟨gg, 0, none⟩) (rs.length + 1) cap) (ars' := rs ++ [(an, nt)]) hkg (by simpa [arCell] using hown9) (fun q hq => by simp only [Value.ownBlock, Option.some.injEq] at hq; subst hq; rcases hat9 with h | h; exact Or.inl h; exact Or.inr (by omega)); have ec := hst.2.1; have ef := hst.2.2; have HST := hide (And.intro hst.1 (And.intro hkg hat9)); clear hst hkg hat9 hgrow hown9 hlt9)
        all_goals
          obtain ⟨hcen, hkg, hat9⟩ := unhide HST
          have HC9 := hide hcen
          have HL9 := hide (((unhide HL7).trans' hkg (fun i hi => by
            rcases unhide HNw i (by simpa using hi) with h1 | h1
            · exact Or.inl ((unhide HMb).2 i (by simpa using h1))
            · exact Or.inr (by omega))).setCell (p := ⟨b, 3, none⟩) (Or.inl (unhide HMb).1) (.slice (some ⟨gg, 0, none⟩) (rs.length + 1) cap))
          have hr9 := ownsRow_keptOf (unhide HR7) hkg (fun i hi hm => by
            have h1 := ((unhide HO).lt i hi)
            rcases (unhide HNw) i (by simpa using hm) with h2 | h2
            · have := unhide HA0 i h2
              omega
            · omega)
          have HR9 := hide (ownsRow_set hr9 (p := ⟨b, 3, none⟩) (fun e => by have := (hr9.lt _ e).1; simp at this; omega) (.slice (some ⟨gg, 0, none⟩) (rs.length + 1) cap))
          have HN9 : Hid (∀ q, (Value.slice (some ⟨gg, 0, none⟩) (rs ++ [(an, nt)]).length cap).ownBlock = some q → (Value.slice aad ars.length acp).ownBlock = some q ∨ w2.heap.size ≤ q) := by
            intro q hq
            simp only [Value.ownBlock, Option.some.injEq] at hq
            subst hq
            rcases hat9 with h | h
            · exact unhide HNw _ h
            · exact Or.inr (by omega)
          have hs9 : w2.heap.size ≤ (w9.setCell ⟨b, 3, none⟩ (.slice (some ⟨gg, 0, none⟩) (rs.length + 1) cap)).heap.size := by have := hkg.size; simp; omega
          clear hcen hkg hat9 HST hr9 ec ef
          go_wp2_with fail
          go_roundg (aT.length - (k + 1))
          case measure => have := unhide HG; omega
          case rel => exact ⟨k + 1, rs ++ [(an, nt)], some ⟨gg, 0, none⟩, cap, by go_num, by omega, rfl, by simp; omega, by simpa using HC9, HF3, HL9, HR9, HN9, hs9⟩
    · have HE : Hid (RA = rs ∧ RO = none) := by
        have h := unhide HF
        rw [List.drop_eq_nil_of_le (by omega)] at h
        simp only [arF, Prod.mk.injEq] at h
        exact ⟨h.1.symm, h.2.symm⟩
      go_wp2
      go_ret2
      obtain ⟨rfl, rfl⟩ := unhide HE
      exact ⟨rfl, _, unhide HC, by omega, unhide HL⟩

end Go.Proofs.YtddpdjjlkakecaaGreat
