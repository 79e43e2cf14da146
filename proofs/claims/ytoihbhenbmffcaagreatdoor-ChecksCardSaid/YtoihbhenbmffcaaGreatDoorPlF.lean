import Derived.Test.YtoihbhenbmffcaaGreatDoorPlD
import Derived.Test.YtoihbhenbmffcaaGreatDoorRefX
set_option linter.unusedVariables false
set_option linter.unusedSimpArgs false

namespace Go.Proofs.YtoihbhenbmffcaaGreatDoor
open Go.RowKit

def LeansR (cs : List RCV) (x y : ByteArray) : Prop := ∀ S : ByteArray → Prop, S x → (∀ r ∈ cs, S r.head.name → ∀ z ∈ namesR r, S z) → S y

theorem leans_iff {pcs : List PCV} {rcs : List RCV} (h : F2 Cor pcs rcs) (x y : ByteArray) : LeansOn pcs x y ↔ LeansR rcs x y := by
  constructor
  · intro hl S hx hc
    refine hl S hx (fun c hcm hs z hz => ?_)
    obtain ⟨r, hr, hcr⟩ := h.mem1 c hcm
    rw [hcr.names] at hz
    rw [hcr.hn] at hs
    exact hc r hr hs z hz
  · intro hl S hx hc
    refine hl S hx (fun r hrm hs z hz => ?_)
    obtain ⟨c, hcm, hcr⟩ := h.mem r hrm
    rw [← hcr.names] at hz
    rw [← hcr.hn] at hs
    exact hc c hcm hs z hz

theorem eq_of_list {a b : ByteArray} (h : (a.toList == b.toList) = true) : a = b := (ordS.eqv a b).1 h

theorem nameL_fold_mem (y : ByteArray) : ∀ (bl : List RLitV) (l : List ByteArray), y ∈ bl.foldl nameL l ↔ y ∈ l ∨ y ∈ (bl.filter isA).map fun q => q.1.A.name
  | [], l => by simp
  | q :: bl, l => by
    rw [List.foldl_cons, nameL_fold_mem y bl, List.filter_cons]
    unfold nameL
    cases hq : isA q with
    | false => simp only [Bool.false_eq_true, if_false]
    | true =>
      simp only [if_true, nameT_mem, List.map_cons, List.mem_cons]
      constructor
      · rintro ((h | h) | h)
        · exact Or.inr (Or.inl h)
        · exact Or.inl h
        · exact Or.inr (Or.inr h)
      · rintro (h | h | h)
        · exact Or.inl (Or.inr h)
        · exact Or.inl (Or.inl h)
        · exact Or.inr h

theorem stepP_mem (x y : ByteArray) : ∀ (cs : List RCV) (l : List ByteArray), y ∈ stepP cs l x ↔ y ∈ l ∨ ∃ r ∈ cs, r.head.name = x ∧ y ∈ (r.bl.filter isA).map fun q => q.1.A.name
  | [], l => by simp [stepP]
  | r :: cs, l => by
    have ih := stepP_mem x y cs (stepC x l r)
    unfold stepP at ih ⊢
    rw [List.foldl_cons, ih]
    unfold stepC
    cases hr : (r.head.name.toList == x.toList) with
    | true =>
      have he := eq_of_list hr
      simp only [if_true, nameL_fold_mem]
      constructor
      · rintro ((h | h) | ⟨r', h1, h2⟩)
        · exact Or.inl h
        · exact Or.inr ⟨r, by simp, he, h⟩
        · exact Or.inr ⟨r', by simp [h1], h2⟩
      · rintro (h | ⟨r', h1, h2, h3⟩)
        · exact Or.inl (Or.inl h)
        · rcases List.mem_cons.1 h1 with rfl | h1
          · exact Or.inl (Or.inr h3)
          · exact Or.inr ⟨r', h1, h2, h3⟩
    | false =>
      have hne : r.head.name ≠ x := fun e => by rw [e] at hr; simp at hr
      simp only [Bool.false_eq_true, if_false]
      constructor
      · rintro (h | ⟨r', h1, h2⟩)
        · exact Or.inl h
        · exact Or.inr ⟨r', by simp [h1], h2⟩
      · rintro (h | ⟨r', h1, h2, h3⟩)
        · exact Or.inl h
        · rcases List.mem_cons.1 h1 with rfl | h1
          · exact absurd h2 hne
          · exact Or.inr ⟨r', h1, h2, h3⟩

theorem grows_fold {cs : List RCV} {c : RCV} (hc : c ∈ cs) {l : List ByteArray} : ∀ (bl : List RLitV) (l2 : List ByteArray), (∀ q ∈ bl, q ∈ c.bl) → Grows cs l l2 → Grows cs l (bl.foldl nameL l2)
  | [], l2, _, h => h
  | q :: bl, l2, hs, h => by
    rw [List.foldl_cons]
    exact grows_fold hc bl _ (fun q' hq' => hs q' (by simp [hq'])) (h.nameL hc (hs q (by simp)))

theorem grows_step {cs : List RCV} {l : List ByteArray} (x : ByteArray) : ∀ (cs' : List RCV) (l2 : List ByteArray), (∀ c ∈ cs', c ∈ cs) → Grows cs l l2 → Grows cs l (stepP cs' l2 x)
  | [], l2, _, h => h
  | c :: cs', l2, hs, h => by
    unfold stepP
    rw [List.foldl_cons]
    refine grows_step x cs' _ (fun c' hc' => hs c' (by simp [hc'])) ?_
    unfold stepC
    split
    · exact grows_fold (hs c (by simp)) c.bl _ (fun q hq => hq) h
    · exact h

theorem reachF_iff {cs : List RCV} {frm to : ByteArray} : ∀ (f : Nat) (l : List ByteArray) (n : Nat), 2 + (atomsOf cs).length ≤ f + n → Bd cs l → n ≤ l.length → (∀ i (h : i < l.length), i < n → l[i] ≠ to) →
    (∀ i (h : i < l.length), i < n → ∀ r ∈ cs, r.head.name = l[i] → ∀ y ∈ (r.bl.filter isA).map (fun q => q.1.A.name), y ∈ l) → frm ∈ l → (∀ y ∈ l, LeansR cs frm y) → (reachF f cs to l n = true ↔ LeansR cs frm to)
  | 0, l, n, hf, hb, hn, _, _, _, _ => by
    unfold Bd at hb
    omega
  | f + 1, l, n, hf, hb, hn, hno, hcl, hfr, hso => by
    rw [reachF]
    by_cases hlt : n < l.length
    · rw [dif_pos hlt]
      cases he : (l[n].toList == to.toList) with
      | true =>
        have := eq_of_list he
        simp only [if_true, true_iff]
        rw [← this]
        exact hso _ (List.getElem_mem hlt)
      | false =>
        simp only [Bool.false_eq_true, if_false]
        have hg : Grows cs l (stepP cs l l[n]) := grows_step l[n] cs l (fun c hc => hc) ⟨⟨[], by simp⟩, hb⟩
        have hne : l[n] ≠ to := fun e => by rw [e] at he; simp at he
        have hlen := hg.len.1
        refine reachF_iff f (stepP cs l l[n]) (n + 1) (by omega) hg.bd (by omega) ?_ ?_ ((stepP_mem _ _ _ _).2 (Or.inl hfr)) ?_
        · intro i hi hin
          obtain ⟨_, e⟩ := hg.at (show i < l.length by omega)
          rw [e]
          rcases Nat.lt_or_eq_of_le (show i ≤ n by omega) with h1 | h1
          · exact hno i (by omega) h1
          · subst h1; exact hne
        · intro i hi hin r hr hrn y hy
          obtain ⟨_, e⟩ := hg.at (show i < l.length by omega)
          rw [e] at hrn
          rw [stepP_mem]
          rcases Nat.lt_or_eq_of_le (show i ≤ n by omega) with h1 | h1
          · exact Or.inl (hcl i (by omega) h1 r hr hrn y hy)
          · subst h1; exact Or.inr ⟨r, hr, hrn, hy⟩
        · intro y hy
          rcases (stepP_mem _ _ _ _).1 hy with h1 | ⟨r, hr, hrn, h2⟩
          · exact hso y h1
          · intro S hS hC
            have hln := hso _ (List.getElem_mem hlt) S hS hC
            rw [← hrn] at hln
            exact hC r hr hln y (by unfold namesR; exact List.mem_cons_of_mem _ h2)
    · rw [dif_neg hlt]
      simp only [Bool.false_eq_true, false_iff]
      intro hl
      have hin : to ∈ l := hl (fun z => z ∈ l) hfr (fun r hr hrn z hz => by
        obtain ⟨i, hi, e⟩ := List.getElem_of_mem hrn
        unfold namesR at hz
        rcases List.mem_cons.1 hz with rfl | hz
        · exact hrn
        · exact hcl i hi (by omega) r hr e.symm z hz)
      obtain ⟨i, hi, e⟩ := List.getElem_of_mem hin
      exact hno i hi (by omega) e

theorem reachP_iff (cs : List RCV) (frm to : ByteArray) : reachP cs frm to = true ↔ LeansR cs frm to := by
  unfold reachP
  refine reachF_iff _ [frm] 0 (by omega) ?_ (by simp) (fun i h hi => by omega) (fun i h hi => by omega) (by simp) (fun y hy S hS _ => by simp at hy; subst hy; exact hS)
  unfold Bd missing
  have := List.countP_le_length (p := fun x => !hasB [frm] x) (l := atomsOf cs)
  simp only [List.length_cons, List.length_nil]
  omega

/-- What the reader makes. -/
structure GoodPL (l : PL) : Prop where
  some : hasAtomB l = true → 0 < l.ts.length
  le : l.ts.length ≤ 151
  plain : hasAtomB l = false → l.ts = []

theorem argsM_good {ms : List Mark} : ∀ (k nx : Nat) (acc : List CTerm) {ts : List CTerm} {n : Nat}, ms.length - nx ≤ k → argsM ms nx acc = .ok (ts, n) → 0 < ts.length ∧ ts.length ≤ acc.length + (ms.length - nx + 1) / 2
  | k, nx, acc, ts, n, hk, h => by
    unfold argsM at h
    split at h
    · rename_i hlt
      split at h
      · cases h
      · split at h
        · match k with
          | 0 => omega
          | k + 1 =>
            have := argsM_good k (nx + 2) _ (by omega) h
            simp only [List.length_append, List.length_cons, List.length_nil] at this
            omega
        · split at h
          · simp only [Except.ok.injEq, Prod.mk.injEq] at h
            rw [← h.1]
            simp only [List.length_append, List.length_cons, List.length_nil]
            omega
          · cases h
    · cases h

theorem atomM_good {ms : List Mark} (hm : ms.length ≤ 301) {nx : Nat} {p : Nat} {s : ByteArray} {ts : List CTerm} {n : Nat} (h : atomM ms nx = .ok ((p, s, ts), n)) : 0 < ts.length ∧ ts.length ≤ 151 := by
  unfold atomM at h
  split at h
  · split at h
    · split at h
      · cases h
      · rename_i h2
        simp only [Except.ok.injEq, Prod.mk.injEq] at h
        have := argsM_good _ _ _ (Nat.le_refl _) h2
        rw [← h.1.2.2]
        simp only [List.length_nil] at this
        omega
    · cases h
  · cases h

theorem litM_good {ms : List Mark} (hm : ms.length ≤ 301) {nx : Nat} {l : PLit} {n : Nat} (h : litM ms nx = .ok (l, n)) : GoodPL (plOf l) := by
  unfold litM at h
  split at h
  · split at h
    · cases h
    · rename_i a n' h1
      obtain ⟨p, s, ts⟩ := a
      have := atomM_good hm h1
      simp only [Except.ok.injEq, Prod.mk.injEq] at h
      rw [← h.1]
      exact ⟨fun _ => this.1, this.2, fun hh => by simp [plOf, hasAtomB] at hh⟩
  · split at h
    · split at h
      · cases h
      · rename_i a n' h1
        obtain ⟨p, s, ts⟩ := a
        have := atomM_good hm h1
        simp only [Except.ok.injEq, Prod.mk.injEq] at h
        rw [← h.1]
        exact ⟨fun _ => this.1, this.2, fun hh => by simp [plOf, hasAtomB] at hh⟩
    · split at h
      · cases h
      · rename_i c n' h1
        simp only [Except.ok.injEq, Prod.mk.injEq] at h
        rw [← h.1]
        have hso : c.sort = 2 ∨ c.sort = 3 ∨ c.sort = 4 := by
          unfold cmpM at h1
          split at h1
          · cases h1
          · split at h1
            · cases h1
            · rename_i so hso
              split at h1
              · cases h1
              · simp only [Except.ok.injEq, Prod.mk.injEq] at h1
                rw [← h1.1]
                unfold sortM at hso
                split at hso
                · simp only [Option.some.injEq] at hso; exact Or.inl hso.symm
                · split at hso
                  · simp only [Option.some.injEq] at hso; exact Or.inr (Or.inl hso.symm)
                  · split at hso
                    · simp only [Option.some.injEq] at hso; exact Or.inr (Or.inr hso.symm)
                    · cases hso
        refine ⟨fun hh => ?_, by simp [plOf], fun _ => rfl⟩
        exfalso
        unfold hasAtomB plOf at hh
        simp only at hh
        rcases hso with e | e | e <;> simp [e] at hh

theorem bodyM_good {ms : List Mark} (hm : ms.length ≤ 301) : ∀ (k nx : Nat) (acc : List PL) {ls : List PL} {n : Nat}, ms.length - nx ≤ k → (∀ l ∈ acc, GoodPL l) → bodyM ms nx acc = .ok (ls, n) → (∀ l ∈ ls, GoodPL l) ∧ ls.length ≤ acc.length + (ms.length - nx + 1) / 2
  | k, nx, acc, ls, n, hk, ha, h => by
    by_cases hlt : nx < ms.length
    · cases hl : litM ms nx with
      | error p => rw [bodyM_error hlt hl] at h; cases h
      | ok r =>
        obtain ⟨l, n1⟩ := r
        have h1 := litM_next hl
        have hg := litM_good hm hl
        have ha2 : ∀ x ∈ acc ++ [plOf l], GoodPL x := by
          intro x hx
          rcases List.mem_append.1 hx with hx | hx
          · exact ha x hx
          · simp only [List.mem_singleton] at hx; subst hx; exact hg
        rw [bodyM_ok hlt hl] at h
        split at h
        · match k with
          | 0 => omega
          | k + 1 =>
            have := bodyM_good hm k (n1 + 1) _ (by omega) ha2 h
            simp only [List.length_append, List.length_cons, List.length_nil] at this
            exact ⟨this.1, by omega⟩
        · simp only [Except.ok.injEq, Prod.mk.injEq] at h
          rw [← h.1]
          refine ⟨ha2, ?_⟩
          simp only [List.length_append, List.length_cons, List.length_nil]
          omega
    · unfold bodyM at h
      rw [dif_neg hlt] at h
      cases h

structure GoodPC (c : PC) : Prop where
  head : 0 < c.hts.length ∧ c.hts.length ≤ 151
  body : c.body.length ≤ 151
  lits : ∀ l ∈ c.body, GoodPL l

theorem dotM_eq {ms : List Mark} {n m : Nat} {c c' : PC} (h : dotM ms n c = .ok (c', m)) : c' = c := by
  unfold dotM at h
  split at h
  · simp only [Except.ok.injEq, Prod.mk.injEq] at h; exact h.1.symm
  · cases h

theorem clauseM_good {ms : List Mark} (hm : ms.length ≤ 301) {nx n : Nat} {c : PC} (h : clauseM ms nx = .ok (c, n)) : GoodPC c := by
  unfold clauseM at h
  split at h
  · cases h
  · rename_i p s ts n1 h1
    have hg := atomM_good hm h1
    split at h
    · cases h
    · split at h
      · split at h
        · cases h
        · rename_i ls n2 h2
          have hb := bodyM_good hm _ _ _ (Nat.le_refl _) (by simp) h2
          rw [dotM_eq h]
          simp only [List.length_nil] at hb
          exact ⟨hg, by simp only; omega, hb.1⟩
      · rw [dotM_eq h]
        exact ⟨hg, by simp, by simp⟩

theorem progM_good {ms : List Mark} (hm : ms.length ≤ 301) : ∀ (k nx : Nat) (acc : List PC) {cs : List PC}, ms.length - nx ≤ k → (∀ c ∈ acc, GoodPC c) → progM ms nx acc = .ok cs → (∀ c ∈ cs, GoodPC c) ∧ cs.length ≤ acc.length + (ms.length - nx)
  | k, nx, acc, cs, hk, ha, h => by
    by_cases hlt : nx < ms.length
    · cases he : ((markAt ms nx).kind == 1) with
      | true =>
        rw [progM_end hlt he] at h
        simp only [Except.ok.injEq] at h
        rw [← h]
        exact ⟨ha, by omega⟩
      | false =>
        cases hc : clauseM ms nx with
        | error p => rw [progM_error hlt he hc] at h; cases h
        | ok r =>
          obtain ⟨c, n⟩ := r
          have h1 := clauseM_next hc
          rw [progM_ok hlt he hc] at h
          have ha2 : ∀ x ∈ acc ++ [c], GoodPC x := by
            intro x hx
            rcases List.mem_append.1 hx with hx | hx
            · exact ha x hx
            · simp only [List.mem_singleton] at hx; subst hx; exact clauseM_good hm hc
          match k with
          | 0 => omega
          | k + 1 =>
            have := progM_good hm k n _ (by omega) ha2 h
            simp only [List.length_append, List.length_cons, List.length_nil] at this
            exact ⟨this.1, by omega⟩
    · unfold progM at h
      rw [dif_neg hlt] at h
      cases h

theorem flat_le {α β : Type} (f : α → List β) (N : Nat) : ∀ l : List α, (∀ a ∈ l, (f a).length ≤ N) → (l.flatMap f).length ≤ l.length * N
  | [], _ => by simp
  | a :: l, h => by
    have h1 := flat_le f N l (fun x hx => h x (by simp [hx]))
    have h2 := h a (by simp)
    rw [List.flatMap_cons, List.length_append, List.length_cons, Nat.add_mul]
    omega

theorem good_fit {c : PCV} (h : GoodPC c.pc) : Fit c ∧ (namesV c).length ≤ 152 := by
  have hl : c.lvs.length ≤ 151 := by have := h.body; simpa [PCV.pc] using this
  have hg : ∀ p ∈ c.lvs, GoodPL p.1 := fun p hp => h.lits p.1 (by simp only [PCV.pc]; exact List.mem_map.2 ⟨p, hp, rfl⟩)
  have hh : 0 < c.hts.length ∧ c.hts.length ≤ 151 := h.head
  refine ⟨⟨⟨⟨hh.1, by omega⟩, by omega, fun p hp => ⟨(hg p hp).some, by have := (hg p hp).le; omega⟩⟩, ?_⟩, ?_⟩
  · have hb : (bodyTerms c.lvs).length ≤ c.lvs.length * 151 := flat_le _ 151 _ (fun p hp => by
      unfold termsL
      split
      · exact (hg p hp).le
      · simp)
    have : c.lvs.length * 151 ≤ 151 * 151 := Nat.mul_le_mul_right _ hl
    unfold termsV
    rw [List.length_append]
    omega
  · unfold namesV bodyNames
    have := List.length_filter_le (fun p => hasAtomB p.1) c.lvs
    simp only [List.length_cons, List.length_map]
    omega

end Go.Proofs.YtoihbhenbmffcaaGreatDoor
