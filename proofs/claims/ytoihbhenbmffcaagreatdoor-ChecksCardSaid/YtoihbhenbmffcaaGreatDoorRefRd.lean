import Derived.Test.YtoihbhenbmffcaaGreatDoorRefZ
import Derived.Test.YtoihbhenbmffcaaGreatDoorRefPa
set_option linter.unusedVariables false
set_option linter.unusedSimpArgs false

namespace Go.Proofs.YtoihbhenbmffcaaGreatDoor
open Go.RowKit

theorem Tryz.info82 : (Tryz.prog.info? 82).map (fun i => (i.zero, i.size, i.bytes)) = some (some (.agg #[.string ⟨#[]⟩, .slice none 0 0, .int .i64 0, .slice none 0 0, .int .i64 0]), 5, 80) := by kernel_rfl

def RCV.erase (c : RCV) : RClause := ⟨c.head, c.bl.map Prod.fst, c.at_⟩

/-- A clause in memory, from a block on, apart from the row that grows. -/
structure CvAt (w : World) (base : Nat) (lv : Value) (c : RCV) : Prop where
  args : w.ownsRow base 93 2 c.hv c.head.args.length (c.head.args.flatMap termVal)
  body : w.ownsRow base 95 9 c.bv c.bl.length (c.bl.flatMap litvCells)
  lits : ∀ p ∈ c.bl, LitIn w base p
  ap1 : Apart c.hv lv
  ap2 : Apart c.bv lv
  ap3 : ∀ p ∈ c.bl, Apart p.2 lv

theorem CvAt.cvIn {w : World} {base : Nat} {lv : Value} {c : RCV} (h : CvAt w base lv c) : CvIn w c :=
  ⟨ownsRow_base h.args (Nat.zero_le _), ownsRow_base h.body (Nat.zero_le _), fun p hp => ownsRow_base (h.lits p hp) (Nat.zero_le _)⟩

theorem CvAt.kept {M : List Nat} {w w' : World} {base : Nat} {lv : Value} {c : RCV} (h : CvAt w base lv c) (k : Kept M w w') (hm : ∀ i, i ∈ M → i < base) : CvAt w' base lv c :=
  ⟨ownsRow_kept h.args k hm, ownsRow_kept h.body k hm, fun p hp => (h.lits p hp).kept k hm, h.ap1, h.ap2, h.ap3⟩

theorem ownsRow_grown {w w' : World} {base : Nat} {e : TypeId} {size : Nat} {v lv : Value} {n : Nat} {xs : List Value} (h : w.ownsRow base e size v n xs) (k : w.grownBy w' lv.ownBlock) (ha : Apart v lv) : w'.ownsRow base e size v n xs :=
  h.kept k (by
    cases hv : v.ownBlock with
    | none => exact Or.inl rfl
    | some k => exact Or.inr (fun e => ha k hv e.symm))

theorem CvAt.grown {w w' : World} {base : Nat} {lv : Value} {c : RCV} {g n cap H : Nat} (h : CvAt w base lv c) (k : w.grownBy w' lv.ownBlock) (hg : lv.ownBlock = some g ∨ g = H) (hH : w.heap.size ≤ H) : CvAt w' base (.slice (some ⟨g, 0, none⟩) n cap) c :=
  ⟨ownsRow_grown h.args k h.ap1, ownsRow_grown h.body k h.ap2, fun p hp => ownsRow_grown (h.lits p hp) k (h.ap3 p hp), Apart.lies h.ap1 h.args hg hH, Apart.lies h.ap2 h.body hg hH, fun p hp => Apart.lies (h.ap3 p hp) (h.lits p hp) hg hH⟩

theorem apart_of {w wt : World} {base0 : Nat} {e e' : TypeId} {sz sz' n m base : Nat} {v lv : Value} {xs ys : List Value} (hv : wt.ownsRow w.heap.size e sz v n xs) (hl : w.ownsRow base e' sz' lv m ys) (_ : base0 = base0) : Apart v lv := by
  intro k hk he
  have := (hv.lt k hk).1
  have := (hl.lt k he).2
  omega

/-- What Read tells: the error and its place. -/
def ReadIs (s : ByteArray) (e at_ : Int) : Prop :=
  if 300 < s.size then e = 1 ∧ at_ = 0
  else if (clausesR s (gapTo s 0)).2.2 then e = 2 ∧ at_ = (clausesR s (gapTo s 0)).2.1
  else ∃ cs : List RCV, cs.map RCV.erase = (clausesR s (gapTo s 0)).1 ∧ (e, at_) = soundP cs

theorem atomsOf_len (cs : List RCV) (N : Nat) (h : ∀ c ∈ cs, c.bl.length ≤ N) : (atomsOf cs).length ≤ cs.length * N := by
  unfold atomsOf
  induction cs with
  | nil => simp
  | cons c cs ih =>
    have h1 := ih (fun c' hc' => h c' (by simp [hc']))
    have h2 := h c (by simp)
    have h3 := List.length_filter_le isA c.bl
    simp only [List.flatMap_cons, List.length_append, List.length_map, List.length_cons]
    rw [Nat.add_mul]
    omega

theorem fits_of {s : ByteArray} (hs : s.size ≤ 300) {cs : List RCV} (hlen : cs.length ≤ 300) (hl : ∀ c ∈ cs, LenC s c.erase) (hg : ∀ c ∈ cs, GoodC s c.erase) : Fits cs := by
  have hb : ∀ c ∈ cs, c.bl.length ≤ 301 := fun c hc => by have := (hl c hc).body; simp only [RCV.erase, List.length_map] at this; omega
  refine ⟨by omega, fun c hc => by have := hb c hc; omega, fun c hc => by have := (hl c hc).head; simp only [RCV.erase] at this; omega, fun c hc p hp => ?_, ?_, fun c hc => ⟨?_, fun p hp => ?_⟩⟩
  · have := (hl c hc).lits p.1 (by simp only [RCV.erase]; exact List.mem_map_of_mem hp)
    omega
  · have := atomsOf_len cs 301 hb
    have : cs.length * 301 ≤ 300 * 301 := Nat.mul_le_mul_right _ hlen
    omega
  · intro t ht hv
    have := (hg c hc).head t ht hv
    omega
  · have hgl := (hg c hc).body p.1 (by simp only [RCV.erase]; exact List.mem_map_of_mem hp)
    intro t ht hv
    unfold litTerms at ht
    cases ha : isA p with
    | true =>
      rw [ha] at ht
      have := hgl.atom t (by simpa using ht) hv
      omega
    | false =>
      rw [ha] at ht
      simp only [Bool.false_eq_true, if_false, List.mem_cons, List.not_mem_nil, or_false] at ht
      rcases ht with rfl | rfl
      · have := hgl.left ha hv; omega
      · have := hgl.right ha hv; omega

end Go.Proofs.YtoihbhenbmffcaaGreatDoor

namespace Go.Proofs.YtoihbhenbmffcaaGreatDoor
open Go.RowKit

theorem soundC_pos {cs : List RCV} {i : Nat} {c : RCV} {r : Int × Int} (h : soundC cs i c = some r) : r.1 ≠ 0 := by
  unfold soundC at h
  repeat (split at h; · first | cases h; done | (simp only [Option.some.injEq] at h; subst h; simp))
  all_goals first | cases h; done | (simp only [Option.some.injEq] at h; subst h; simp) | skip

theorem soundL_pos {cs : List RCV} : ∀ (l : List RCV) (i : Nat) {r : Int × Int}, soundL cs i l = some r → r.1 ≠ 0
  | [], _, _, h => by simp [soundL] at h
  | c :: l, i, r, h => by
    rw [soundL] at h
    split at h
    · rename_i r' hr
      simp only [Option.some.injEq] at h
      subst h
      exact soundC_pos hr
    · exact soundL_pos l (i + 1) h

theorem soundP_zero {cs : List RCV} (h : (soundP cs).1 = 0) : soundP cs = (0, 0) := by
  unfold soundP at h ⊢
  split
  · rename_i r hr
    rw [hr] at h
    exact absurd h (soundL_pos _ _ hr)
  · rename_i hr
    rw [hr] at h
    simp only at h
    split
    · rename_i r hr2
      rw [hr2] at h
      obtain ⟨l1, c, l2, _, hc, _⟩ := List.findSome?_eq_some_iff.1 hr2
      unfold strataC at hc
      cases hf : c.bl.find? (strataL cs c) with
      | none => rw [hf] at hc; simp at hc
      | some p => rw [hf] at hc; simp only [Option.map_some, Option.some.injEq] at hc; rw [← hc] at h; simp at h
    · rfl

/-- Where the loop over the clauses stands. -/
structure ReadAt (s : ByteArray) (acc : List RCV) (a : Nat) (bd : Bool) (R : List RClause × Nat × Bool) : Prop where
  rest : (acc.map RCV.erase ++ (clausesB s a bd).1, (clausesB s a bd).2) = R
  len : acc.length ≤ a + 1
  len2 : bd = false → acc.length ≤ a
  lens : ∀ c ∈ acc, LenC s c.erase
  good : bd = false → ∀ c ∈ acc, GoodC s c.erase

theorem ReadAt.step {s : ByteArray} {acc : List RCV} {a a' : Nat} {bd : Bool} {R : List RClause × Nat × Bool} {c : RCV} (h : ReadAt s acc a false R) (ha : a < s.size) (hc : clauseR s a = (c.erase, a', bd)) :
    gapB s a' bd ≤ s.size ∧ 2 * (s.size - gapB s a' bd) + (if bd then 0 else 1) < 2 * (s.size - a) + 1 ∧ ReadAt s (acc ++ [c]) (gapB s a' bd) bd R := by
  have h1 := clauseR_le s a (by omega)
  have h2 := gapB_ge s a' bd
  have h3 := clauseR_len s a (by omega)
  have hge : a ≤ a' := by
    have h4 := gapTo_ge s a
    have h5 := atomR_ge s (gapTo s a) false
    have h6 := restR_ge s (atomR s (gapTo s a) false).2.1 (atomR s (gapTo s a) false).2.2
    have h7 := isTo_ge s (restR s (atomR s (gapTo s a) false).2.1 (atomR s (gapTo s a) false).2.2).2.1 (restR s (atomR s (gapTo s a) false).2.1 (atomR s (gapTo s a) false).2.2).2.2 46
    have e : a' = (clauseR s a).2.1 := by rw [hc]
    rw [e]
    show a ≤ isTo s _ _ 46
    omega
  have hgt : bd = false → a < a' := fun hb => by
    have := clauseR_gt (s := s) (at_ := a) (by rw [hc]; exact hb)
    rw [hc] at this; exact this
  have hgd : bd = false → GoodC s c.erase := fun hb => by
    have := clauseR_good (s := s) (at_ := a) (by rw [hc]; exact hb) (by omega)
    rw [hc] at this; exact this
  rw [hc] at h1 h3
  simp only at h1 h3
  have h8 := gapB_le s a' bd h1
  have hl := h.len2 rfl
  refine ⟨h8, ?_, ⟨?_, ?_, ?_, ?_, ?_⟩⟩
  · cases bd with
    | true => simp; omega
    | false => have := hgt rfl; simp; omega
  · have hr := h.rest
    unfold clausesB at hr
    simp only [Bool.false_eq_true, if_false] at hr
    rw [clausesR_step ha hc] at hr
    rw [← hr]
    simp
  · simp; omega
  · intro hb; have := hgt hb; simp; omega
  · intro x hx
    rcases List.mem_append.1 hx with hx | hx
    · exact h.lens x hx
    · simp only [List.mem_singleton] at hx; subst hx; exact h3
  · intro hb x hx
    rcases List.mem_append.1 hx with hx | hx
    · exact h.good rfl x hx
    · simp only [List.mem_singleton] at hx; subst hx; exact hgd hb

set_option maxRecDepth 100000 in
set_option maxHeartbeats 3200000 in
theorem read_any (s : ByteArray) (w : World) (hs0 : s.size ≤ 9223372036854775807) :
    Calls Tryz.prog 15 #[.string s] w fun e w' => ∃ (pv : Value) (er at_ : Int), e = .returned (.tuple #[pv, .int .i64 er, .int .i64 at_]) ∧ ReadIs s er at_ ∧ Kept [] w w' := by
  by_cases hbig : 300 < s.size
  · have HI : Hid (ReadIs s 1 0) := by show ReadIs _ _ _; unfold ReadIs; rw [if_pos hbig]; exact ⟨rfl, rfl⟩
    go_enter Tryz.func15, Tryz.ntmps15
    go_wp2
    go_ret3
    exact ⟨_, 1, 0, rfl, HI.out, Kept.refl _ _⟩
  · have hs : s.size ≤ 300 := by omega
    have hs6 : s.size ≤ 1000000 := by omega
    obtain ⟨i0, hi0, hz0, hz1, hz2⟩ := info_parts Tryz.info82
    obtain ⟨j, hj⟩ : ∃ j, gapTo s 0 = j := ⟨_, rfl⟩
    have hjs : j ≤ s.size := by have := gapTo_le s 0 (Nat.zero_le _); omega
    obtain ⟨CL, a9, b9, hCL⟩ : ∃ CL a9 b9, clausesR s j = (CL, a9, b9) := ⟨_, _, _, rfl⟩
    have HI : Hid (∀ er at_ : Int, (if b9 then er = 2 ∧ at_ = (a9 : Int) else ∃ cs : List RCV, cs.map RCV.erase = CL ∧ (er, at_) = soundP cs) → ReadIs s er at_) := by
      intro er at_ h
      unfold ReadIs
      rw [if_neg hbig, hj, hCL]
      exact h
    have HJ : Hid (gapB s 0 false = j ∧ clausesR s j = (CL, a9, b9)) := ⟨hj, hCL⟩
    clear hj hCL hbig hs0
    go_enter Tryz.func15, Tryz.ntmps15
    go_wp2_with fail
    have hBr0 : Blk ((w.alloc (.cells #[.string s, .int .i64 0, .bool false] 73)).alloc (.cells #[.slice none 0 0] 76)) w.heap.size (scan s 0 false) 73 := (Blk.new w (scan s 0 false) 73).alloc _
    have hBp0 : Blk ((w.alloc (.cells #[.string s, .int .i64 0, .bool false] 73)).alloc (.cells #[.slice none 0 0] 76)) (w.heap.size + 1) [.slice none 0 0] 76 := by
      have h := Blk.new (w.alloc (.cells #[.string s, .int .i64 0, .bool false] 73)) [.slice none 0 0] 76
      rw [World.size_alloc] at h; exact h
    refine (gap_any w.heap.size s 0 false _ hs6 (Nat.zero_le _) hBr0).mono ?_
    rintro e w2 ⟨rfl, hBr, hK2⟩
    rw [HJ.out.1] at hBr
    have hBp := hBp0.kept hK2 (by simp)
    have hKw : Kept [] w w2 := (((Kept.refl [] w).alloc _).alloc _).trans' hK2 (by simp)
    clear hBr0 hBp0 hK2
    go_wp2_with fail
    go_loopg [] (2 * (s.size - j) + 1) (fun gk wr => ∃ (a : Nat) (bd : Bool) (acc : List RCV) (lv : Value), a ≤ s.size ∧ gk = 2 * (s.size - a) + (if bd then 0 else 1) ∧ Hid (ReadAt s acc a bd (CL, a9, b9)) ∧ Blk wr w.heap.size (scan s a bd) 73 ∧ Blk wr (w.heap.size + 1) [lv] 76 ∧
      wr.ownsRow (w.heap.size + 2) 82 5 lv acc.length (acc.flatMap cvCells) ∧ Hid (∀ c ∈ acc, CvAt wr (w.heap.size + 2) lv c) ∧ Kept [] w wr)
    case atStart =>
      refine ⟨j, false, [], .slice none 0 0, hjs, by simp, ⟨?_, by simp, by simp, by simp, by simp⟩, hBr, hBp, World.ownsRow_nil _ _ _ _, fun c hc => by simp at hc, hKw⟩
      unfold clausesB
      simp [HJ.out.2]
    case round =>
      clear hBr hBp hKw
      obtain ⟨a, bd, acc, lv, ha, hk, HA, hBr, hBp, hown, HIN, hK⟩ := hrel
      have HK := hide hk
      clear hk
      obtain ⟨adl, capl, rfl⟩ := row_nil hown
      have hrl := hBr.lt
      have hpl := hBp.lt
      have c0 := hBr.cell 0
      have c1 := hBr.cell 1
      have c2 := hBr.cell 2
      have p0 := hBp.cell 0
      have pf := hBp.frozen 0
      simp [scan] at c0 c1 c2 p0
      cases bd with
      | true =>
        have HR2 : Hid ((acc.map RCV.erase, a, true) = (CL, a9, b9)) := by have h := HA.out.rest; show _ = _; simpa [clausesB] using h
        go_wp2_with fail
        go_quiet (fail)
        go_wp2_with fail
        go_ret3
        have h2 := HR2.out
        simp only [Prod.mk.injEq] at h2
        exact ⟨_, 2, a, rfl, HI.out 2 a (by rw [← h2.2.2, ← h2.2.1]; exact ⟨rfl, rfl⟩), hK.drewN _⟩
      | false =>
        by_cases hlt : a < s.size
        · have hlt' : (a : Int) < (s.size : Int) := by omega
          obtain ⟨cl, a', bd', hcl⟩ : ∃ cl a' bd', clauseR s a = (cl, a', bd') := ⟨_, _, _, rfl⟩
          have ha' : a' ≤ s.size := by have := clauseR_le s a ha; rw [hcl] at this; exact this
          have hal : acc.length ≤ a := HA.out.len2 rfl
          have HCL := hide hcl
          clear hcl
          go_wp2_with fail
          go_region_law
            (first
              | (go_simp; go_at_call 44; refine (clause_any w.heap.size s a _ hs6 ha (by first | exact hBr | exact hBr.drew)).mono ?_; rintro e wt ⟨hv, bv, bl, rfl, hH, hbl, hBo, hLi, hbt, hKt⟩; rw [unhide HCL] at hH hbl hbt ⊢; obtain ⟨adh, caph, rfl⟩ := row_nil hH; obtain ⟨adb, capb, rfl⟩ := row_nil hBo; have hBp1 := hBp.drew.kept hKt (by simp); have pc := hBp1.cell 0; have pff := hBp1.frozen 0; have pca := fun o => (hBp1.alloc o).cell 0; simp at pc pca; simp only [clauseVal])
              | (refine step_append_lies _ (by rfl) _ _ _ (by rfl) (w.heap.size + 2) 82 i0 _ 5 80 Tryz.underlying74 hi0 hz0 hz1 hz2 rfl (by omega) (.slice adl acc.length capl) acc.length (acc.flatMap cvCells) (by rfl) ((ownsRow_kept (ownsRow_drew hown) hKt (by simp)).alloc _) ⟨wt.heap.size, 0, none⟩ 1 1 (clauseVal cl (.slice adh cl.head.args.length caph) (.slice adb bl.length capb)) (by rfl) (by rfl) (World.news_of_block (cs := (clauseVal cl (.slice adh cl.head.args.length caph) (.slice adb bl.length capb)).toArray) (t := 82) (fr := (0, 0)) (heap_alloc_new wt _)) (by simp [Value.oneCell', clauseVal]) (by omega) (by unfold maxLen; omega) (by omega) (by simp; have := hKt.size; simp at this; omega) (wt.heap.size + 1) (by simp) ?_; intro gg cap w5 hown5 hgrow hat5 hlt5; have hBp5 := (hBp1.alloc _).grown hgrow (ownsRow_new hown (w.heap.size + 1) (by omega)); have pc5 := hBp5.cell 0; have pf5 := hBp5.frozen 0; simp at pc5))
          all_goals
            have hszt := hKt.size
            have hgg := (hown5.lt gg rfl).1
            have hce : RCV.erase ⟨cl.head, .slice adh cl.head.args.length caph, .slice adb bl.length capb, bl, cl.at_⟩ = cl := by
              unfold RCV.erase; simp only [hbl]
            obtain ⟨cv, hcv⟩ : ∃ cv : RCV, cv = ⟨cl.head, .slice adh cl.head.args.length caph, .slice adb bl.length capb, bl, cl.at_⟩ := ⟨_, rfl⟩
            rw [← hcv] at hce
            have hcells : clauseVal cl (.slice adh cl.head.args.length caph) (.slice adb bl.length capb) = cvCells cv := by rw [hcv]; rfl
            have HST := hide (HA.out.step hlt (by rw [unhide HCL, hce]))
            have hAt : CvAt wt (w.heap.size + 2) (.slice adl acc.length capl) cv := by
              have hb2 : w.heap.size + 2 ≤ wr.heap.size := by omega
              have e1 : Apart (.slice adh cl.head.args.length caph) (.slice adl acc.length capl) := fun k hk he => by
                have h1 : wr.heap.size ≤ k := (hH.lt k hk).1
                have h2 := (hown.lt k he).2
                omega
              have e2 : Apart (.slice adb bl.length capb) (.slice adl acc.length capl) := fun k hk he => by
                have h1 : wr.heap.size ≤ k := (hBo.lt k hk).1
                have h2 := (hown.lt k he).2
                omega
              have e3 : ∀ p ∈ bl, Apart p.2 (.slice adl acc.length capl) := fun p hp k hk he => by
                have h1 : wr.heap.size ≤ k := (World.ownsRow.lt (hLi p hp) k hk).1
                have h2 := (hown.lt k he).2
                omega
              rw [hcv]
              exact ⟨ownsRow_base hH hb2, ownsRow_base hBo hb2, fun p hp => ownsRow_base (hLi p hp) hb2, e1, e2, e3⟩
            have HIN5 : Hid (∀ c ∈ acc ++ [cv], CvAt (w5.setCell ⟨w.heap.size + 1, 0, none⟩ (.slice (some ⟨gg, 0, none⟩) (acc.length + 1) cap)) (w.heap.size + 2) (.slice (some ⟨gg, 0, none⟩) (acc.length + 1) cap) c) := by
              intro c hc
              have h0 : CvAt wt (w.heap.size + 2) (.slice adl acc.length capl) c := by
                rcases List.mem_append.1 hc with hc | hc
                · exact ((HIN.out c hc).kept (w' := wr.drew) (M := []) (Kept.refl [] wr).drew (by simp)).kept hKt (by simp)
                · simp only [List.mem_singleton] at hc; subst hc; exact hAt
              have h1 : ∀ o, CvAt (wt.alloc o) (w.heap.size + 2) (.slice adl acc.length capl) c := fun o => h0.kept ((Kept.refl [] wt).alloc o) (by simp)
              have h2 := CvAt.grown (n := acc.length + 1) (cap := cap) (h1 _) hgrow hat5 (by simp)
              exact h2.kept ((Kept.refl [w.heap.size + 1] w5).setCell (p := ⟨w.heap.size + 1, 0, none⟩) (by simp) _) (by simp)
            have hb5 := ((hbt.alloc _).grown hgrow (ownsRow_new hown w.heap.size (by omega))).set_other ⟨w.heap.size + 1, 0, none⟩ (by simp) (.slice (some ⟨gg, 0, none⟩) (acc.length + 1) cap)
            have hBp5' := hBp5.set 0 (.slice (some ⟨gg, 0, none⟩) (acc.length + 1) cap)
            have hK5' := (((hK.drew.trans' hKt (by simp)).alloc _).grown hgrow (fun k hk => Or.inr (by have := (hown.lt k hk).1; omega))).setCell (p := ⟨w.heap.size + 1, 0, none⟩) (by simp) (.slice (some ⟨gg, 0, none⟩) (acc.length + 1) cap)
            have hown5' := ownsRow_set hown5 (p := ⟨w.heap.size + 1, 0, none⟩) (by simp [Value.ownBlock]; omega) (.slice (some ⟨gg, 0, none⟩) (acc.length + 1) cap)
            rw [hcells] at hown5'
            have HKg := HK
            clear hown5 hBp5 pc5 pf5 hgrow hat5 hlt5 hBp1 pc pff pca hH hBo hLi hbt hKt hAt hown hBr hBp hK HIN c0 c1 c2 p0 pf hcells hcv hbl
            go_wp2_with fail
            refine (gap_any w.heap.size s a' bd' _ hs6 ha' hb5).mono ?_
            rintro e w6 ⟨rfl, hb6, hK6⟩
            have hBp6 := hBp5'.kept hK6 (by simp)
            have hown6 := ownsRow_kept hown5' hK6 (by simp)
            have HIN6 : Hid (∀ c ∈ acc ++ [cv], CvAt w6 (w.heap.size + 2) (.slice (some ⟨gg, 0, none⟩) (acc.length + 1) cap) c) := fun c hc => (HIN5.out c hc).kept hK6 (by simp)
            have hK6' := hK5'.trans' hK6 (by simp)
            clear hb5 hBp5' hK5' hown5' HIN5 hK6
            go_wp2_with fail
            go_roundg (2 * (s.size - gapB s a' bd') + (if bd' then 0 else 1))
            case measure => have h1 := (unhide HST).2.1; have h2 := unhide HKg; simp at h2; omega
            case rel =>
              obtain ⟨t1, _, t3⟩ := unhide HST
              refine ⟨gapB s a' bd', bd', acc ++ [cv], .slice (some ⟨gg, 0, none⟩) (acc.length + 1) cap, t1, rfl, t3, hb6, hBp6, ?_, HIN6, hK6'⟩
              simpa using hown6
        · have HR2 : Hid ((acc.map RCV.erase, a, false) = (CL, a9, b9)) := by have h := HA.out.rest; show _ = _; simpa [clausesB, clausesR_end hlt] using h
          have hd : decide ((a : Int) < (s.size : Int)) = false := by simp; omega
          have hRows : RowsIn wr (.slice adl acc.length capl) acc := ⟨ownsRow_base hown (Nat.zero_le _), fun c hc => (HIN.out c hc).cvIn⟩
          have hFits : Fits acc := fits_of hs (by have := HA.out.len2 rfl; omega) HA.out.lens (HA.out.good rfl)
          obtain ⟨SP, hSP⟩ : ∃ SP, soundP acc = SP := ⟨_, rfl⟩
          have HSP := hide hSP
          have T := sound_any (w.heap.size + 1) _ acc wr hBp hRows hFits
          rw [hSP] at T
          have HT := hide T
          clear T hSP hRows hFits
          go_wp2_with fail
          refine (unhide HT).mono ?_
          rintro e w3 ⟨rfl, hK3⟩
          have hK3' := hK.trans hK3
          clear HT hK3 hK c0 c1 c2 p0 pf hBr hBp hown
          have h2 := HR2.out
          simp only [Prod.mk.injEq] at h2
          obtain ⟨se, sa⟩ := SP
          simp only
          by_cases hz : se = 0
          · have HZ : Hid (ReadIs s 0 0) := HI.out 0 0 (by rw [← h2.2.2]; exact ⟨acc, h2.1, by rw [soundP_zero (by rw [unhide HSP]; exact hz)]⟩)
            have hne : (se != 0) = false := by simp [hz]
            clear h2 hz
            go_wp2_with fail
            go_ret3
            exact ⟨_, 0, 0, rfl, HZ.out, hK3'⟩
          · have HZ : Hid (ReadIs s se sa) := HI.out se sa (by rw [← h2.2.2]; exact ⟨acc, h2.1, (unhide HSP).symm⟩)
            have hne : (se != 0) = true := by simp [hz]
            clear h2 hz
            go_wp2_with fail
            go_ret3
            exact ⟨_, se, sa, rfl, HZ.out, hK3'⟩

end Go.Proofs.YtoihbhenbmffcaaGreatDoor
