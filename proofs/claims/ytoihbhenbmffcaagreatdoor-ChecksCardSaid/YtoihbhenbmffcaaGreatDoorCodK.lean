import Derived.Test.YtoihbhenbmffcaaGreatDoorCodJ
import Derived.Test.YtoihbhenbmffcaaGreatDoorApp
set_option linter.unusedVariables false
set_option linter.unusedSimpArgs false

namespace Go.Proofs.YtoihbhenbmffcaaGreatDoor
open Go.RowKit

theorem Tryz.info217 : (Tryz.prog.info? 217).map (fun i => (i.zero, i.size, i.bytes)) = some (some (.agg #[.int .i64 0, .int .i64 0, .int .i64 0, .string ⟨#[]⟩, .slice none 0 0, .int .i32 0, .string ⟨#[]⟩, .int .i32 0, .string ⟨#[]⟩]), 9, 112) := by kernel_rfl

/-- A literal as it was read, of either kind. -/
structure PL where
  place : Int
  sort : Int
  ap : Int
  an : ByteArray
  ts : List CTerm
  l : CTerm
  r : CTerm

def plOf : PLit → PL
  | .inl (pl, so, p, s, ts) => ⟨pl, so, p, s, ts, noCTerm, noCTerm⟩
  | .inr c => ⟨c.place, c.sort, 0, ByteArray.empty, [], c.left, c.right⟩

/-- .. with the value of its atom's terms. -/
abbrev PLV := PL × Value
def plvCells (p : PLV) : List Value := [.int .i64 p.1.place, .int .i64 p.1.sort, .int .i64 p.1.ap, .string p.1.an, p.2, .int .i32 p.1.l.v, .string p.1.l.s, .int .i32 p.1.r.v, .string p.1.r.s]
def PlIn (w : World) (base : Nat) (p : PLV) : Prop := w.ownsRow base 215 2 p.2 p.1.ts.length (p.1.ts.flatMap ctermVal)

theorem PlIn.keptOf {M : List Nat} {w w' : World} {base : Nat} {p : PLV} (h : PlIn w base p) (k : Kept M w w') (hm : ∀ i, p.2.ownBlock = some i → i ∉ M) : PlIn w' base p := ownsRow_keptOf h k hm
theorem PlIn.kept {M : List Nat} {w w' : World} {base : Nat} {p : PLV} (h : PlIn w base p) (k : Kept M w w') (hm : ∀ i, i ∈ M → i < base) : PlIn w' base p := ownsRow_kept h k hm

theorem LitOut.uni {b : Nat} {mv : Value} {ms : List Mark} {br : Int} {w w' : World} {e : Ending} {nx n : Nat} {l : PLit} (ht : litM ms nx = .ok (l, n)) (h : LitOut b mv ms br w e w' (.ok (l, n))) :
    ∃ ad cp, e = .returned (.tuple #[.agg (plvCells (plOf l, .slice ad (plOf l).ts.length cp)).toArray, .bool true]) ∧ PlIn w' w.heap.size (plOf l, .slice ad (plOf l).ts.length cp) ∧ RdIn w' b mv ms n br ∧ Kept [b] w w' := by
  cases l with
  | inl a =>
    obtain ⟨pl, so, p, s, ts⟩ := a
    obtain ⟨tv, base, rfl, hb, ho, hr, hk⟩ := h
    obtain ⟨ad, cp, rfl⟩ := row_nil ho
    exact ⟨ad, cp, rfl, ownsRow_base ho hb, hr, hk⟩
  | inr c =>
    have hc : cmpM ms nx = .ok (c, n) := by
      unfold litM at ht
      split at ht
      · split at ht <;> simp at ht
      · split at ht
        · split at ht <;> simp at ht
        · split at ht
          · simp at ht
          · rename_i hq
            simp only [Except.ok.injEq, Prod.mk.injEq, Sum.inr.injEq] at ht
            rw [hq]; simp [ht]
    have ha := cmpM_atom hc
    obtain ⟨cp, cs, ca, cl, cr⟩ := c
    simp only at ha
    subst ha
    obtain ⟨rfl, hr, hk⟩ := h
    exact ⟨none, 0, rfl, World.ownsRow_nil _ _ _ _, hr, hk⟩

theorem argsM_next {ms : List Mark} : ∀ (k nx : Nat) (acc : List CTerm) {ts : List CTerm} {n : Nat}, ms.length - nx ≤ k → argsM ms nx acc = .ok (ts, n) → nx < n
  | k, nx, acc, ts, n, hk, h => by
    unfold argsM at h
    split at h
    · rename_i hlt
      split at h
      · cases h
      · split at h
        · match k with
          | 0 => omega
          | k + 1 => have := argsM_next k (nx + 2) _ (by omega) h; omega
        · split at h
          · simp only [Except.ok.injEq, Prod.mk.injEq] at h; omega
          · cases h
    · cases h

theorem atomM_next {ms : List Mark} {nx : Nat} {a : Nat × ByteArray × List CTerm} {n : Nat} (h : atomM ms nx = .ok (a, n)) : nx < n := by
  unfold atomM at h
  split at h
  · split at h
    · split at h
      · cases h
      · rename_i h2
        simp only [Except.ok.injEq, Prod.mk.injEq] at h
        have := argsM_next _ _ _ (Nat.le_refl _) h2
        omega
    · cases h
  · cases h

theorem cmpM_next {ms : List Mark} {nx : Nat} {l : CLit} {n : Nat} (h : cmpM ms nx = .ok (l, n)) : nx < n := by
  unfold cmpM at h
  split at h
  · cases h
  · rename_i h1
    have q1 := termM_next h1
    split at h
    · cases h
    · split at h
      · cases h
      · rename_i h2
        have q2 := termM_next h2
        simp only [Except.ok.injEq, Prod.mk.injEq] at h
        omega

theorem litM_next {ms : List Mark} {nx : Nat} {l : PLit} {n : Nat} (h : litM ms nx = .ok (l, n)) : nx < n := by
  unfold litM at h
  split at h
  · split at h
    · cases h
    · rename_i h1
      have := atomM_next h1
      simp only [Except.ok.injEq, Prod.mk.injEq] at h
      omega
  · split at h
    · split at h
      · cases h
      · rename_i h1
        have := atomM_next h1
        simp only [Except.ok.injEq, Prod.mk.injEq] at h
        omega
    · split at h
      · cases h
      · rename_i h1
        have := cmpM_next h1
        simp only [Except.ok.injEq, Prod.mk.injEq] at h
        omega

/-- The literals of a body, from a mark on. -/
def bodyM (ms : List Mark) (nx : Nat) (acc : List PL) : Except Int (List PL × Nat) :=
  if _h : nx < ms.length then
    match litM ms nx with
    | .error p => .error p
    | .ok (l, n) =>
      if _h2 : nx < n then
        if seesM (markAt ms n) commaB then bodyM ms (n + 1) (acc ++ [plOf l]) else .ok (acc ++ [plOf l], n)
      else .error 0
  else .error 0

theorem bodyM_error {ms : List Mark} {nx : Nat} {acc : List PL} {p : Int} (h : nx < ms.length) (hl : litM ms nx = .error p) : bodyM ms nx acc = .error p := by
  unfold bodyM; simp [h, hl]

theorem bodyM_ok {ms : List Mark} {nx : Nat} {acc : List PL} {l : PLit} {n : Nat} (h : nx < ms.length) (hl : litM ms nx = .ok (l, n)) :
    bodyM ms nx acc = if seesM (markAt ms n) commaB then bodyM ms (n + 1) (acc ++ [plOf l]) else .ok (acc ++ [plOf l], n) := by
  have h2 := litM_next hl
  conv => lhs; unfold bodyM
  simp [h, hl, h2]

/-- A body as it lies: the row of its literals; each one's terms. -/
structure BodyAt (w : World) (base : Nat) (v : Value) (ls : List PLV) : Prop where
  row : w.ownsRow base 217 9 v ls.length (ls.flatMap plvCells)
  each : ∀ p ∈ ls, PlIn w base p ∧ Apart p.2 v

theorem BodyAt.kept {M : List Nat} {w w' : World} {base : Nat} {v : Value} {ls : List PLV} (h : BodyAt w base v ls) (k : Kept M w w') (hm : ∀ i, i ∈ M → i < base) : BodyAt w' base v ls :=
  ⟨ownsRow_kept h.row k hm, fun p hp => ⟨(h.each p hp).1.kept k hm, (h.each p hp).2⟩⟩
theorem BodyAt.base {w : World} {base base' : Nat} {v : Value} {ls : List PLV} (h : BodyAt w base v ls) (hb : base' ≤ base) : BodyAt w base' v ls :=
  ⟨ownsRow_base h.row hb, fun p hp => ⟨ownsRow_base (h.each p hp).1 hb, (h.each p hp).2⟩⟩
theorem BodyAt.nil (w : World) (base : Nat) : BodyAt w base (.slice none 0 0) [] := ⟨World.ownsRow_nil _ _ _ _, fun p hp => by simp at hp⟩

def BodyOut (b : Nat) (mv : Value) (ms : List Mark) (br : Int) (w : World) (e : Ending) (w' : World) : Except Int (List PL × Nat) → Prop
  | .ok (ls, nx) => ∃ ad cp lvs, e = .returned (.tuple #[.slice ad ls.length cp, .bool true]) ∧ lvs.map Prod.fst = ls ∧ BodyAt w' w.heap.size (.slice ad ls.length cp) lvs ∧ RdIn w' b mv ms nx br ∧ Kept [b] w w'
  | .error p => ∃ nx, e = .returned (.tuple #[.slice none 0 0, .bool false]) ∧ RdIn w' b mv ms nx p ∧ Kept [b] w w'

set_option maxRecDepth 100000 in
set_option maxHeartbeats 1600000 in
theorem rbody_any (b : Nat) (mv : Value) (ms : List Mark) (nx : Nat) (br : Int) (w : World) (h : RdIn w b mv ms nx br) (ok : MsOk ms) :
    Calls Tryz.prog 133 #[.pointer (some ⟨b, 0, none⟩)] w fun e w' => BodyOut b mv ms br w e w' (bodyM ms nx []) := by
  obtain ⟨i0, hi0, hz0, hz1, hz2⟩ := info_parts Tryz.info217
  obtain ⟨R, hR⟩ : ∃ R, bodyM ms nx [] = R := ⟨_, rfl⟩
  rw [hR]
  have HRr := hide hR
  have HO := hide ok
  have hbw := h.blk.lt
  have hml := h.len
  have HMB : Hid (∀ k, w.heap.size ≤ k → mv.ownBlock ≠ some k) := fun k hk e => by have := (h.row.lt k e).2; omega
  have h0 := hide h
  clear hR ok h
  go_enter Tryz.func133, Tryz.ntmps133
  go_wp2_with fail
  go_loopg [4] (ms.length - nx) (fun gk o wr => ∃ (j : Nat) (acc : List PLV) (ad : Option Addr) (cp : Nat), o = .slice ad acc.length cp ∧ gk = ms.length - j ∧ Hid (bodyM ms j (acc.map Prod.fst) = R) ∧ Hid (RdIn wr b mv ms j br) ∧ Hid (BodyAt wr w.heap.size (.slice ad acc.length cp) acc) ∧ Hid (Kept [b] w wr) ∧ acc.length ≤ j)
  case atStart => exact ⟨nx, [], none, 0, rfl, rfl, HRr, h0, BodyAt.nil _ _, Kept.refl _ _, by simp⟩
  case round =>
    clear h0 HRr
    obtain ⟨j, acc, ad, cp, rfl, hgk, HL, HR, HB, hK, hal⟩ := hrel
    have HG := hide hgk
    clear hgk
    have hjl := (unhide HR).lt
    have hKs := (unhide hK).size
    go_wp2_with fail
    refine (rlit_any b mv ms j br _ (unhide HR) (unhide HO)).mono ?_
    intro e w6 hout
    cases ht : litM ms j with
    | error q =>
      rw [ht] at hout
      obtain ⟨n9, l, ⟨ad9, n8, cp9, htv⟩, rfl, h6, k6⟩ := hout
      have HF : Hid (R = .error q) := by show _ = _; rw [← unhide HL]; exact bodyM_error hjl ht
      have hK6 := hide ((unhide hK).trans k6)
      have HR6 := hide h6
      clear k6 ht HR HB hK HL h6
      obtain ⟨lp, ls, ⟨la, lan, ltv⟩, ll, lr⟩ := l
      simp only at htv
      subst htv
      simp only [clitCells]
      go_wp2
      go_ret2
      rw [HF.out]
      exact ⟨n9, rfl, (unhide HR6).kept0 ((Kept.refl [] _).alloc _), (unhide hK6).alloc _⟩
    | ok r =>
      obtain ⟨t, n1⟩ := r
      rw [ht] at hout
      have hn1 := litM_next ht
      obtain ⟨ad6, cp6, rfl, hp6, h6, k6⟩ := hout.uni ht
      have HT := hide (bodyM_ok (acc := acc.map Prod.fst) hjl ht)
      clear hout ht
      generalize plOf t = p at hp6 HT ⊢
      clear t
      have hk6s := k6.size
      have hrow6 := ownsRow_kept (unhide HB).row k6 (by simp; omega)
      have HB6 : Hid (∀ q ∈ acc, PlIn w6 w.heap.size q ∧ Apart q.2 (.slice ad acc.length cp)) := fun q hq => ⟨((unhide HB).each q hq).1.kept k6 (by simp; omega), ((unhide HB).each q hq).2⟩
      have HAP : Hid (Apart (.slice ad6 p.ts.length cp6) (.slice ad acc.length cp)) := fun k hk he => by
        have := (hp6.lt k hk).1
        have := ((unhide HB).row.lt k he).2
        omega
      have HP6 := hide hp6
      have hK6 := hide ((unhide hK).trans k6)
      have HR6 := hide h6
      have hn1l := h6.lt
      clear hp6 h6 k6 HB hK HR
      have hnew : ((w6.alloc (.cells (plvCells (p, .slice ad6 p.ts.length cp6)).toArray 217)).alloc (.cells (plvCells (p, .slice ad6 p.ts.length cp6)).toArray 217)).heap[w6.heap.size + 1]? = some (.cells (plvCells (p, .slice ad6 p.ts.length cp6)).toArray 217 (0, 0)) := by
        have hh := heap_alloc_new (w6.alloc (.cells (plvCells (p, .slice ad6 p.ts.length cp6)).toArray 217)) (.cells (plvCells (p, .slice ad6 p.ts.length cp6)).toArray 217)
        rw [show (w6.alloc (.cells (plvCells (p, .slice ad6 p.ts.length cp6)).toArray 217)).heap.size = w6.heap.size + 1 from by simp] at hh
        exact hh
      have hown8 := World.ownsRow.alloc (World.ownsRow.alloc hrow6 (.cells (plvCells (p, .slice ad6 p.ts.length cp6)).toArray 217)) (.cells (plvCells (p, .slice ad6 p.ts.length cp6)).toArray 217)
      have hal2 : acc.length ≤ 1000 := by omega
      simp only [plvCells]
      go_wp2_with (at_builtin; refine wpList_append_lies _ rfl (.tmp 14) (.tmp 16) _ rfl w.heap.size 217 i0 _ 9 112 Tryz.underlying97 hi0 hz0 hz1 hz2 rfl (by omega) (.slice ad acc.length cp) acc.length (acc.flatMap plvCells) rfl hown8 ⟨w6.heap.size + 1, 0, none⟩ 1 1 (plvCells (p, .slice ad6 p.ts.length cp6)) rfl rfl (World.news_of_block (cs := (plvCells (p, .slice ad6 p.ts.length cp6)).toArray) (t := 217) (fr := (0, 0)) hnew) (by simp [Value.oneCell', plvCells]) (by omega) (by unfold maxLen; omega) (by omega) (by simp; omega) (w6.heap.size + 1 + 1) (by simp) ?_; intro g1 cp1 w9 ho1 hg1 ha1 hl1)
      have kr : Kept (Value.slice ad acc.length cp).ownBlock.toList w6 w9 := (((Kept.refl _ w6).alloc _).alloc _).grown hg1 (fun k hk => Or.inl (by simp [hk]))
      have hrw : ∀ i ∈ (Value.slice ad acc.length cp).ownBlock.toList, w.heap.size ≤ i := fun i hi => (hrow6.lt i (by simpa using hi)).1
      have hmb6 : mv.ownBlock ≠ none → ∀ k, mv.ownBlock = some k → k < w.heap.size := fun _ k hk => by
        by_cases hq : k < w.heap.size
        · exact hq
        · exact absurd hk (unhide HMB k (by omega))
      have hR9 : RdIn w9 b mv ms n1 br := ⟨(unhide HR6).blk.kept kr (fun hm => by have := hrw b hm; omega), ownsRow_keptOf (unhide HR6).row kr (fun i hi hm => by have := hrw i hm; exact absurd hi (unhide HMB i this)), (unhide HR6).ap, (unhide HR6).lt, (unhide HR6).len⟩
      have hK9 : Kept [b] w w9 := (unhide hK6).trans' kr (fun i hi => Or.inr (by have := hrw i hi; omega))
      have hs9 : w.heap.size ≤ w9.heap.size := hK9.size
      have HIN : Hid (BodyAt w9 w.heap.size (.slice (some ⟨g1, 0, none⟩) (acc.length + 1) cp1) (acc ++ [(p, .slice ad6 p.ts.length cp6)])) := by
        refine ⟨by simpa using ho1, ?_⟩
        intro q hq
        rcases List.mem_append.1 hq with hq | hq
        · obtain ⟨h1, h2⟩ := unhide HB6 q hq
          exact ⟨h1.keptOf kr (fun i hi hm => h2 i hi (by simpa using hm)), Apart.lies h2 h1 ha1 (by omega)⟩
        · simp only [List.mem_singleton] at hq
          subst hq
          have h1 : PlIn w6 w.heap.size (p, .slice ad6 p.ts.length cp6) := ownsRow_base (unhide HP6) (by omega)
          exact ⟨h1.keptOf kr (fun i hi hm => unhide HAP i hi (by simpa using hm)), Apart.lies (unhide HAP) h1 ha1 (by omega)⟩
      have HR9 := hide hR9
      have HK9 := hide hK9
      have hg1w : w.heap.size ≤ g1 := (ho1.lt g1 rfl).1
      clear kr hrw hmb6 hR9 hK9 hg1 ha1 hl1 ho1 hnew hown8 hrow6 HB6 HAP HP6 hK6 HR6
      refine (take_any b mv ms n1 br commaB _ (unhide HR9) (markAt ms n1) (markAt_eq hn1l) ((unhide HO).seen hn1l commaB)).mono ?_
      rintro e w11 ⟨rfl, h11, k11⟩
      have HB11 := hide ((unhide HIN).kept k11 (by simp; omega))
      have hK11 := hide ((unhide HK9).trans k11)
      clear k11 HIN HK9 HR9
      cases hs : seesM (markAt ms n1) commaB with
      | true =>
        rw [hs] at h11
        simp only [if_true] at h11
        have HL2 : Hid (bodyM ms (n1 + 1) ((acc ++ [(p, (.slice ad6 p.ts.length cp6 : Value))]).map Prod.fst) = R) := by
          show _ = _
          rw [← unhide HL, unhide HT, hs]
          simp
        have HR11 := hide h11
        clear h11 hs HL HT
        go_wp2_with fail
        go_roundg (ms.length - (n1 + 1))
        case measure => have := unhide HG; omega
        case rel => exact ⟨n1 + 1, acc ++ [(p, .slice ad6 p.ts.length cp6)], some ⟨g1, 0, none⟩, cp1, by simp, rfl, HL2, HR11, by simpa using HB11, hK11, by simp; omega⟩
      | false =>
        rw [hs] at h11
        simp only [Bool.false_eq_true, if_false] at h11
        have HF : Hid (R = .ok (acc.map Prod.fst ++ [p], n1)) := by
          show _ = _
          rw [← unhide HL, unhide HT, hs]
          simp
        have HR11 := hide h11
        clear h11 hs HL HT
        go_wp2
        go_ret2
        rw [HF.out]
        exact ⟨some ⟨g1, 0, none⟩, cp1, acc ++ [(p, .slice ad6 p.ts.length cp6)], by simp, by simp, by simpa using (unhide HB11), unhide HR11, unhide hK11⟩

end Go.Proofs.YtoihbhenbmffcaaGreatDoor
