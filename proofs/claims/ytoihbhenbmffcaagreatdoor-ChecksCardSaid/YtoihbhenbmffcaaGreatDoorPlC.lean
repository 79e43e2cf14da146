import Derived.Test.YtoihbhenbmffcaaGreatDoorPlB
import Derived.Test.YtoihbhenbmffcaaGreatDoorRefPa
set_option linter.unusedVariables false
set_option linter.unusedSimpArgs false

namespace Go.Proofs.YtoihbhenbmffcaaGreatDoor
open Go.RowKit

/-- Where a word stands, and where none does. -/
theorem word_eq {s : ByteArray} {ms : List Mark} {nx a j : Nat} (h : At s ms nx a) (ha : a ≤ s.size) (hj : gapTo s a = j) :
    (((markAt ms nx).kind == 2) = true ∧ ∃ a', wordR s j false = ((markAt ms nx).text, a', false) ∧ At s ms (nx + 1) a' ∧ a' ≤ s.size) ∨
    (((markAt ms nx).kind == 2) = false ∧ wordR s j false = (ByteArray.empty, j, true)) := by
  have hjj : gapTo s j = j := by rw [← hj]; exact gapTo_idem s a
  rw [h.head]
  by_cases hlt : j < s.size
  · have hnext := h.next hj hlt
    cases hl : lowerB s[j] with
    | true =>
      obtain ⟨e1, e2⟩ := head_word hj hlt hl
      rw [e2] at hnext
      have hgt : j < runTo lowerB s j := by rw [runTo_yes _ _ _ hlt hl]; have := runTo_ge lowerB s (j + 1); omega
      have hle2 := runTo_le lowerB s j (by omega)
      rw [e1]
      by_cases hq : runTo lowerB s j - j ≤ 4
      · left
        refine ⟨by simp [hq], _, wordR_ok hjj rfl (by omega), hnext, hle2⟩
      · right
        exact ⟨by simp [hq], wordR_bad hjj rfl (by omega)⟩
    | false =>
      right
      refine ⟨?_, wordR_bad hjj (runTo_no _ _ _ hlt hl) (Or.inl rfl)⟩
      have hl' : ¬ (97 ≤ s[j].toNat ∧ s[j].toNat ≤ 122) := fun h => by rw [(lowerB_iff _).2 h] at hl; cases hl
      by_cases hhi : s[j].toNat < 128
      · cases hd : digitB s[j] with
        | true =>
          rw [(head_digits hj hlt hl hd).1]
          by_cases hq : 3 < runTo digitB s j - j ∨ (s[j] = 48 ∧ 1 < runTo digitB s j - j) <;> simp [hq]
        | false =>
          by_cases hcd : s[j] = 58 ∧ atB s (j + 1) 45 = true
          · rw [(head_cd hj hlt hcd.1 hcd.2).1]; rfl
          · rw [(head_one hj hlt hl hd hcd hhi).1]
            simp only [beq_eq_false_iff_ne, ne_eq, kindR_lower]
            omega
      · rw [(head_high hj hlt (by omega)).1]; rfl
  · right
    rw [head_end (by omega)]
    exact ⟨rfl, wordR_bad hjj (runTo_end _ _ _ hlt) (Or.inl rfl)⟩

theorem isTo_bad (s : ByteArray) (a : Nat) (c : UInt8) : isTo s a true c = a := by simp [isTo, gapB]
theorem isTo_yes {s : ByteArray} {a : Nat} {c : UInt8} (h : atB s (gapTo s a) c = true) : isTo s a false c = gapTo s a + 1 := by simp [isTo, gapB, h]
theorem isTo_no {s : ByteArray} {a : Nat} {c : UInt8} (h : atB s (gapTo s a) c = false) : isTo s a false c = gapTo s a := by simp [isTo, gapB, h]
theorem mustTo_bad (s : ByteArray) (a : Nat) (c : UInt8) : mustTo s a true c = (a, true) := by simp [mustTo, isTo_bad]
theorem mustTo_yes {s : ByteArray} {a : Nat} {c : UInt8} (h : atB s (gapTo s a) c = true) : mustTo s a false c = (gapTo s a + 1, false) := by simp [mustTo, isTo_yes h, gapB, h]
theorem mustTo_no {s : ByteArray} {a : Nat} {c : UInt8} (h : atB s (gapTo s a) c = false) : mustTo s a false c = (gapTo s a, true) := by simp [mustTo, isTo_no h, gapB, h]

theorem args_eq {s : ByteArray} {ms : List Mark} : ∀ (k nx a : Nat) (acc : List CTerm), ms.length - nx ≤ k → At s ms nx a → a ≤ s.size →
    Agree (fun ts (L : List RTerm) => ts = acc ++ L.map ct) s ms (argsM ms nx acc) ((argsR s a).1, mustTo s (argsR s a).2.1 (argsR s a).2.2 41)
  | k, nx, a, acc, hk, h, ha => by
    have hlt := h.lt
    have ht := term_eq h ha
    obtain ⟨t', a1, bd, hR⟩ : ∃ t' a1 bd, termR s a false = (t', a1, bd) := ⟨_, _, _, rfl⟩
    rw [hR] at ht
    unfold argsM
    rw [dif_pos hlt]
    cases hM : termM (markAt ms nx) nx with
    | error p =>
      rw [hM] at ht
      obtain ⟨rfl, rfl⟩ := ht
      rw [argsR_last hR (by simp)]
      simp only [isTo_bad, mustTo_bad]
      exact ⟨rfl, rfl⟩
    | ok r =>
      obtain ⟨t, n1⟩ := r
      rw [hM] at ht
      have hn1 := termM_next hM
      subst hn1
      obtain ⟨rfl, rfl, h1, ha1⟩ := ht
      simp only
      have e44 := sees_head (s := s) (a := a1) (c := 44) (by simp [signs])
      have e41 := sees_head (s := s) (a := a1) (c := 41) (by simp [signs])
      rw [h1.head, show commaB = ⟨#[44]⟩ from rfl, show closeB = ⟨#[41]⟩ from rfl, e44, e41]
      cases hc : atB s (gapTo s a1) 44 with
      | true =>
        obtain ⟨_, e⟩ := argsR_more hR ha (by simp [gapB, hc])
        rw [isTo_yes hc] at e
        obtain ⟨h2, ha2⟩ := h1.take (by simp [signs]) hc
        rw [e]
        simp only [if_true]
        match k with
        | 0 => omega
        | k + 1 =>
          have ih := args_eq k (nx + 2) (gapTo s a1 + 1) (acc ++ [ct t']) (by omega) h2 ha2
          revert ih
          generalize argsM ms (nx + 2) (acc ++ [ct t']) = X
          intro ih
          match X, ih with
          | .ok (ts, n), ih => exact ⟨ih.1, by rw [ih.2.1]; simp, ih.2.2⟩
          | .error p, ih => exact ih
      | false =>
        rw [argsR_last hR (by simp [gapB, hc])]
        simp only [Bool.false_eq_true, if_false, isTo_no hc]
        have hgg : gapTo s (gapTo s a1) = gapTo s a1 := gapTo_idem s a1
        cases hcl : atB s (gapTo s a1) 41 with
        | true =>
          obtain ⟨h2, ha2⟩ := h1.take (by simp [signs]) hcl
          rw [mustTo_yes (by rw [hgg]; exact hcl), hgg]
          simp only [if_true]
          exact ⟨rfl, rfl, h2, ha2⟩
        | false =>
          rw [mustTo_no (by rw [hgg]; exact hcl), hgg, head_place ha1]
          simp only [Bool.false_eq_true, if_false]
          exact ⟨rfl, rfl⟩

theorem atom_eq {s : ByteArray} {ms : List Mark} {nx a : Nat} (h : At s ms nx a) (ha : a ≤ s.size) :
    Agree (fun x (A : RAtom) => x = (A.at_, A.name, A.args.map ct)) s ms (atomM ms nx) (atomR s a false) := by
  have hgp : gapB s a false = gapTo s a := rfl
  have hpl : (markAt ms nx).place = gapTo s a := by rw [h.head, head_place ha]
  unfold atomM atomR
  simp only [hgp]
  rcases word_eq h ha rfl with ⟨hk, a', hw, h1, ha1⟩ | ⟨hk, hw⟩
  · rw [hw, hk]
    simp only [if_true]
    have e40 := sees_head (s := s) (a := a') (c := 40) (by simp [signs])
    rw [h1.head, show parB = ⟨#[40]⟩ from rfl, e40]
    cases hc : atB s (gapTo s a') 40 with
    | true =>
      obtain ⟨h2, ha2⟩ := h1.take (by simp [signs]) hc
      rw [mustTo_yes hc]
      simp only [if_true, argsB, Bool.false_eq_true, if_false]
      have ih := args_eq _ (nx + 2) (gapTo s a' + 1) [] (Nat.le_refl _) h2 ha2
      revert ih
      generalize argsM ms (nx + 2) [] = X
      intro ih
      match X, ih with
      | .ok (ts, n), ih => exact ⟨ih.1, by rw [ih.2.1, hpl]; simp, ih.2.2⟩
      | .error p, ih => exact ih
    | false =>
      rw [mustTo_no hc, head_place ha1]
      simp only [Bool.false_eq_true, if_false, argsB, if_true, mustTo_bad]
      exact ⟨rfl, rfl⟩
  · rw [hw, hk, hpl]
    simp only [Bool.false_eq_true, if_false, mustTo_bad, argsB, if_true]
    exact ⟨rfl, rfl⟩

def sortR (k : UInt8) : Int := if k = 97 then 0 else if k = 33 then 1 else if k = 61 then 2 else if k = 35 then 3 else 4
def plR (x : RLit) : PL := ⟨x.at_, sortR x.kind, x.A.at_, x.A.name, x.A.args.map ct, ct x.L, ct x.R⟩

theorem ct_no : ct noTerm = noCTerm := rfl

theorem cmp_eq {s : ByteArray} {ms : List Mark} {nx a j : Nat} (h : At s ms nx j) (ha : j ≤ s.size) (hj : gapTo s j = j) :
    Agree (fun x (y : RLit) => plOf (.inr x) = plR y ∧ x.atom = noCAtom) s ms (cmpM ms nx) (cmpR s j (gapB s (termR s j false).2.1 (termR s j false).2.2) (termR s j false).1 (termR s j false).2.2) := by
  have hpl : (markAt ms nx).place = j := by rw [h.head, head_place ha, hj]
  have ht := term_eq h ha
  obtain ⟨t', a1, bd, hR⟩ : ∃ t' a1 bd, termR s j false = (t', a1, bd) := ⟨_, _, _, rfl⟩
  rw [hR] at ht
  rw [hR]
  unfold cmpM cmpR
  cases hM : termM (markAt ms nx) nx with
  | error p =>
    rw [hM] at ht
    obtain ⟨rfl, rfl⟩ := ht
    simp only [Bool.not_true, Bool.false_and, Bool.false_eq_true, if_false, gapB_true]
    exact ⟨rfl, rfl⟩
  | ok r =>
    obtain ⟨t, n1⟩ := r
    rw [hM] at ht
    have hn1 := termM_next hM
    subst hn1
    obtain ⟨rfl, rfl, h1, ha1⟩ := ht
    simp only
    have e61 := sees_head (s := s) (a := a1) (c := 61) (by simp [signs])
    have e35 := sees_head (s := s) (a := a1) (c := 35) (by simp [signs])
    have e60 := sees_head (s := s) (a := a1) (c := 60) (by simp [signs])
    have hg1 : gapB s a1 false = gapTo s a1 := rfl
    rw [h1.head, hg1]
    unfold sortM
    rw [show eqB = ⟨#[61]⟩ from rfl, show neB = ⟨#[35]⟩ from rfl, show ltB = ⟨#[60]⟩ from rfl, e61, e35, e60]
    have fin : ∀ (c : UInt8) (so : Int), c ∈ signs → sortR c = so → atB s (gapTo s a1) c = true → byteAt s (gapTo s a1) = c ∧
        Agree (fun x (y : RLit) => plOf (.inr x) = plR y ∧ x.atom = noCAtom) s ms
          (match termM (markAt ms (nx + 1 + 1)) (nx + 1 + 1) with | .error p => .error p | .ok (r, n2) => .ok (⟨(markAt ms nx).place, so, noCAtom, ct t', r⟩, n2))
          (⟨c, noAtom, t', (termR s (gapTo s a1 + 1) false).1, j⟩, (termR s (gapTo s a1 + 1) false).2) := by
      intro c so hc hso hat
      have hlt := atB_lt hat
      refine ⟨by rw [byteAt_lt hlt]; simpa [atB, hlt] using hat, ?_⟩
      obtain ⟨h2, ha2⟩ := h1.take hc hat
      have ht2 := term_eq h2 ha2
      obtain ⟨t2, a2, bd2, hR2⟩ : ∃ t2 a2 bd2, termR s (gapTo s a1 + 1) false = (t2, a2, bd2) := ⟨_, _, _, rfl⟩
      rw [hR2] at ht2
      rw [hR2]
      cases hM2 : termM (markAt ms (nx + 1 + 1)) (nx + 1 + 1) with
      | error p =>
        rw [hM2] at ht2
        obtain ⟨rfl, rfl⟩ := ht2
        exact ⟨rfl, rfl⟩
      | ok r =>
        obtain ⟨t3, n3⟩ := r
        rw [hM2] at ht2
        have hn3 := termM_next hM2
        subst hn3
        obtain ⟨rfl, rfl, h3, ha3⟩ := ht2
        refine ⟨rfl, ⟨?_, rfl⟩, h3, ha3⟩
        simp [plOf, plR, hso, hpl, noAtom]
    cases h61 : atB s (gapTo s a1) 61 with
    | true =>
      obtain ⟨hb, hA⟩ := fin 61 2 (by simp [signs]) rfl h61
      rw [hb]
      simp only [if_true, Bool.not_false, Bool.true_or, Bool.and_self]
      exact hA
    | false =>
      cases h35 : atB s (gapTo s a1) 35 with
      | true =>
        obtain ⟨hb, hA⟩ := fin 35 3 (by simp [signs]) rfl h35
        rw [hb]
        simp only [if_true, Bool.not_false, Bool.true_or, Bool.or_true, Bool.and_self, Bool.false_eq_true, if_false]
        exact hA
      | false =>
        cases h60 : atB s (gapTo s a1) 60 with
        | true =>
          obtain ⟨hb, hA⟩ := fin 60 4 (by simp [signs]) rfl h60
          rw [hb]
          simp only [if_true, Bool.not_false, Bool.or_true, Bool.and_self, Bool.false_eq_true, if_false]
          exact hA
        | false =>
          simp only [Bool.or_self, Bool.and_false, Bool.false_eq_true, if_false, head_place ha1]
          exact ⟨rfl, rfl⟩

theorem lit_eq {s : ByteArray} {ms : List Mark} {nx a : Nat} (h : At s ms nx a) (ha : a ≤ s.size) :
    Agree (fun x (y : RLit) => plOf x = plR y) s ms (litM ms nx) (litR s a) := by
  obtain ⟨j, hj⟩ : ∃ j, gapTo s a = j := ⟨_, rfl⟩
  have hjj : gapTo s j = j := by rw [← hj]; exact gapTo_idem s a
  have hjs : j ≤ s.size := by rw [← hj]; exact gapTo_le s a ha
  have hg : At s ms nx j := by rw [← hj]; exact h.gap
  have hpl : (markAt ms nx).place = j := by rw [h.head, head_place ha, hj]
  unfold litM litR
  simp only [hj]
  have e33 := sees_head (s := s) (a := a) (c := 33) (by simp [signs])
  rw [h.head, show bangB = ⟨#[33]⟩ from rfl, e33, hj, ← h.head, hpl]
  cases h33 : atB s j 33 with
  | true =>
    obtain ⟨h2, ha2⟩ := hg.take (c := 33) (by simp [signs]) (by rw [hjj]; exact h33)
    rw [hjj] at h2 ha2
    simp only [if_true]
    have ih := atom_eq h2 ha2
    obtain ⟨A, a2, bd2, hA⟩ : ∃ A a2 bd2, atomR s (j + 1) false = (A, a2, bd2) := ⟨_, _, _, rfl⟩
    rw [hA] at ih ⊢
    revert ih
    generalize atomM ms (nx + 1) = X
    intro ih
    match X, ih with
    | .ok ((p, n, ts), m), ih =>
      obtain ⟨i1, i2, i3⟩ := ih
      refine ⟨i1, ?_, i3⟩
      simp only [Prod.mk.injEq] at i2
      obtain ⟨rfl, rfl, rfl⟩ := i2
      simp [plOf, plR, sortR, ct_no]
    | .error p, ih => exact ih
  | false =>
    simp only [Bool.false_eq_true, if_false]
    have hsa : seesAtomM ms nx = (lowerAt s j && openB s j) := by
      unfold seesAtomM
      have hlt := h.lt
      have em : ms[nx]? = some (markAt ms nx) := by
        unfold markAt
        rw [List.getD_eq_getElem?_getD, List.getElem?_eq_getElem hlt]
        rfl
      rw [em]
      rcases word_eq hg hjs hjj with ⟨hk, a', hw, h1, ha1⟩ | ⟨hk, hw⟩
      · have hlt1 := h1.lt
        have em1 : ms[nx + 1]? = some (markAt ms (nx + 1)) := by
          unfold markAt
          rw [List.getD_eq_getElem?_getD, List.getElem?_eq_getElem hlt1]
          rfl
        have e40 := sees_head (s := s) (a := a') (c := 40) (by simp [signs])
        have hlow : lowerAt s j = true := by
          unfold lowerAt
          by_cases hjl : j < s.size
          · rw [dif_pos hjl]
            cases hl : lowerB s[j] with
            | true => rfl
            | false => rw [wordR_bad hjj (runTo_no _ _ _ hjl hl) (Or.inl rfl)] at hw; simp at hw
          · rw [wordR_bad hjj (runTo_end _ _ _ hjl) (Or.inl rfl)] at hw
            simp at hw
        unfold openB
        rw [em1, hw, hlow]
        simp only [hk, Bool.true_and, Bool.not_false]
        rw [h1.head, show parB = ⟨#[40]⟩ from rfl, e40]
        rfl
      · unfold openB
        rw [hw]
        simp only [Bool.not_true, Bool.false_and, Bool.and_false]
        split
        · rename_i m m' e1 e2
          simp only [Option.some.injEq] at e1
          rw [← e1, hk, Bool.false_and]
        · rfl
    rw [hsa]
    cases hop : (lowerAt s j && openB s j) with
    | true =>
      simp only [if_true]
      have ih := atom_eq hg hjs
      obtain ⟨A, a2, bd2, hA⟩ : ∃ A a2 bd2, atomR s j false = (A, a2, bd2) := ⟨_, _, _, rfl⟩
      rw [hA] at ih ⊢
      revert ih
      generalize atomM ms nx = X
      intro ih
      match X, ih with
      | .ok ((p, n, ts), m), ih =>
        obtain ⟨i1, i2, i3⟩ := ih
        refine ⟨i1, ?_, i3⟩
        simp only [Prod.mk.injEq] at i2
        obtain ⟨rfl, rfl, rfl⟩ := i2
        simp [plOf, plR, sortR, ct_no]
      | .error p, ih => exact ih
    | false =>
      simp only [Bool.false_eq_true, if_false]
      have ih := cmp_eq (a := a) hg hjs hjj
      revert ih
      generalize cmpM ms nx = X
      intro ih
      match X, ih with
      | .ok (c, m), ih => exact ⟨ih.1, ih.2.1.1, ih.2.2⟩
      | .error p, ih => exact ih

theorem body_eq {s : ByteArray} {ms : List Mark} : ∀ (k nx a : Nat) (acc : List PL), ms.length - nx ≤ k → At s ms nx a → a ≤ s.size →
    Agree (fun ls (L : List RLit) => ls = acc ++ L.map plR) s ms (bodyM ms nx acc) (bodyR s a)
  | k, nx, a, acc, hk, h, ha => by
    have hlt := h.lt
    have ht := lit_eq h ha
    obtain ⟨t', a1, bd, hR⟩ : ∃ t' a1 bd, litR s a = (t', a1, bd) := ⟨_, _, _, rfl⟩
    rw [hR] at ht
    cases hM : litM ms nx with
    | error p =>
      rw [hM] at ht
      obtain ⟨rfl, rfl⟩ := ht
      rw [bodyR_last hR (by simp), bodyM_error hlt hM, isTo_bad]
      exact ⟨rfl, rfl⟩
    | ok r =>
      obtain ⟨t, n1⟩ := r
      rw [hM] at ht
      have hn1 := litM_next hM
      obtain ⟨rfl, hpl, h1, ha1⟩ := ht
      have hpl' : plOf t = plR t' := hpl
      have e44 := sees_head (s := s) (a := a1) (c := 44) (by simp [signs])
      rw [bodyM_ok hlt hM, h1.head, show commaB = ⟨#[44]⟩ from rfl, e44, hpl']
      cases hc : atB s (gapTo s a1) 44 with
      | true =>
        obtain ⟨_, e⟩ := bodyR_more hR ha (by simp [gapB, hc])
        rw [isTo_yes hc] at e
        obtain ⟨h2, ha2⟩ := h1.take (by simp [signs]) hc
        rw [e]
        simp only [if_true]
        match k with
        | 0 => omega
        | k + 1 =>
          have ih := body_eq k (n1 + 1) (gapTo s a1 + 1) (acc ++ [plR t']) (by omega) h2 ha2
          revert ih
          generalize bodyM ms (n1 + 1) (acc ++ [plR t']) = X
          intro ih
          match X, ih with
          | .ok (ts, n), ih => exact ⟨ih.1, by rw [ih.2.1]; simp, ih.2.2⟩
          | .error p, ih => exact ih
      | false =>
        rw [bodyR_last hR (by simp [gapB, hc]), isTo_no hc]
        simp only [Bool.false_eq_true, if_false]
        exact ⟨rfl, by simp, h1.gap, gapTo_le s a1 ha1⟩

def pcR (c : RClause) : PC := ⟨c.head.at_, c.head.name, c.head.args.map ct, c.body.map plR⟩

theorem dot_eq {s : ByteArray} {ms : List Mark} {n a : Nat} {c : PC} {C : RClause} (h : At s ms n a) (ha : a ≤ s.size) (hc : c = pcR C ∧ C.at_ = C.head.at_) :
    Agree (fun x (y : RClause) => x = pcR y ∧ y.at_ = y.head.at_) s ms (dotM ms n c) (C, mustTo s a false 46) := by
  have e46 := sees_head (s := s) (a := a) (c := 46) (by simp [signs])
  unfold dotM
  rw [h.head, show dotB = ⟨#[46]⟩ from rfl, e46, head_place ha]
  cases hd : atB s (gapTo s a) 46 with
  | true =>
    obtain ⟨h2, ha2⟩ := h.take (by simp [signs]) hd
    rw [mustTo_yes hd]
    exact ⟨rfl, hc, h2, ha2⟩
  | false =>
    rw [mustTo_no hd]
    exact ⟨rfl, rfl⟩

theorem col_eq (s : ByteArray) (a : Nat) : seesM (headMark s a) colB = (atB s (gapTo s a) 58 && !(atB s (gapTo s a + 1) 45)) ∧ seesM (headMark s a) cdB = (atB s (gapTo s a) 58 && atB s (gapTo s a + 1) 45) := by
  obtain ⟨j, hj⟩ : ∃ j, gapTo s a = j := ⟨_, rfl⟩
  rw [hj]
  unfold seesM
  by_cases h : j < s.size
  · have hat : atB s j 58 = (s[j] == 58) := by simp [atB, h]
    rw [hat]
    by_cases hcd : s[j] = 58 ∧ atB s (j + 1) 45 = true
    · rw [(head_cd hj h hcd.1 hcd.2).1, hcd.1, hcd.2]
      have e1 : (cdB.toList == colB.toList) = false := by
        rw [show cdB.toList = [58, 45] from by rw [ByteArray.toList_eq]; rfl, show colB.toList = [58] from by rw [ByteArray.toList_eq]; rfl]
        rfl
      have e2 : (cdB.toList == cdB.toList) = true := by simp
      constructor
      · rw [e1]; rfl
      · rw [e2]; rfl
    · have hk5 : ∀ x : UInt8, ((⟨#[x]⟩ : ByteArray).toList == cdB.toList) = false := by
        intro x
        rw [show cdB.toList = [58, 45] from by rw [ByteArray.toList_eq]; rfl, show (⟨#[x]⟩ : ByteArray).toList = [x] from by rw [ByteArray.toList_eq]]
        simp
      by_cases hhi : s[j].toNat < 128
      · cases hl : lowerB s[j] with
        | true =>
          have : s[j] ≠ 58 := fun e => by rw [e] at hl; cases hl
          rw [(head_word hj h hl).1]
          by_cases hq : runTo lowerB s j - j ≤ 4 <;> simp [hq, this]
        | false =>
          cases hd : digitB s[j] with
          | true =>
            have : s[j] ≠ 58 := fun e => by rw [e] at hd; cases hd
            rw [(head_digits hj h hl hd).1]
            by_cases hq : 3 < runTo digitB s j - j ∨ (s[j] = 48 ∧ 1 < runTo digitB s j - j) <;> simp [hq, this]
          | false =>
            rw [(head_one hj h hl hd hcd hhi).1]
            rw [show colB = ⟨#[58]⟩ from rfl]
            simp only [ba_single, hk5, Bool.and_false]
            cases he : (s[j] == 58) with
            | false => simp
            | true =>
              have e58 : s[j] = 58 := by simpa using he
              have e45 : atB s (j + 1) 45 = false := by
                cases hq : atB s (j + 1) 45 with
                | false => rfl
                | true => exact absurd ⟨e58, hq⟩ hcd
              rw [e58, e45]
              exact ⟨rfl, rfl⟩
      · have := head_high hj h (by omega)
        have hne : (s[j] == 58) = false := by
          simp only [beq_eq_false_iff_ne, ne_eq]
          intro e
          rw [e] at hhi
          simp at hhi
        rw [this.1, hne]
        exact ⟨rfl, rfl⟩
  · rw [head_end (by omega)]
    simp [endMark, atB, h]

theorem clause_eq {s : ByteArray} {ms : List Mark} {nx a : Nat} (h : At s ms nx a) (ha : a ≤ s.size) :
    Agree (fun x (y : RClause) => x = pcR y ∧ y.at_ = y.head.at_) s ms (clauseM ms nx) (clauseR s a) := by
  have hg := h.gap
  have hgs := gapTo_le s a ha
  have hgg : gapTo s (gapTo s a) = gapTo s a := gapTo_idem s a
  have ht := atom_eq hg hgs
  obtain ⟨A, a1, bd, hR⟩ : ∃ A a1 bd, atomR s (gapTo s a) false = (A, a1, bd) := ⟨_, _, _, rfl⟩
  have hat : A.at_ = gapTo s a := by
    have : (atomR s (gapTo s a) false).1.at_ = gapTo s a := by
      unfold atomR
      simp only
      show gapTo s (gapTo s a) = gapTo s a
      exact hgg
    rw [hR] at this
    exact this
  rw [hR] at ht
  unfold clauseM clauseR
  simp only [hR]
  cases hM : atomM ms nx with
  | error p =>
    rw [hM] at ht
    obtain ⟨rfl, rfl⟩ := ht
    simp only [restR, Bool.not_true, Bool.false_and, Bool.false_eq_true, if_false, isTo_bad, mustTo_bad]
    exact ⟨rfl, rfl⟩
  | ok r =>
    obtain ⟨⟨p, n, ts⟩, m⟩ := r
    rw [hM] at ht
    obtain ⟨rfl, hx, h1, ha1⟩ := ht
    simp only [Prod.mk.injEq] at hx
    obtain ⟨rfl, rfl, rfl⟩ := hx
    obtain ⟨c1, c2⟩ := col_eq s a1
    have hg1 : gapB s a1 false = gapTo s a1 := rfl
    simp only
    rw [h1.head, c1, c2]
    unfold restR
    rw [hg1]
    cases h58 : atB s (gapTo s a1) 58 with
    | false =>
      simp only [Bool.false_and, Bool.false_eq_true, if_false, Bool.and_false, isTo_no h58]
      have := dot_eq (c := ⟨A.at_, A.name, A.args.map ct, []⟩) (C := ⟨A, [], gapTo s a⟩) h1.gap (gapTo_le s a1 ha1) ⟨rfl, hat.symm⟩
      exact this
    | true =>
      simp only [Bool.not_false, Bool.true_and, if_true, isTo_yes h58]
      cases h45 : atB s (gapTo s a1 + 1) 45 with
      | false =>
        simp only [Bool.not_false, if_true, Bool.false_eq_true, if_false, mustTo_bad, head_place ha1]
        exact ⟨rfl, by simp⟩
      | true =>
        simp only [Bool.not_true, if_true, Bool.false_eq_true, if_false]
        have hlt := atB_lt h58
        have e58 : s[gapTo s a1] = 58 := by simpa [atB, hlt] using h58
        have hn := h1.next rfl hlt
        rw [(head_cd (a := a1) rfl hlt e58 h45).2] at hn
        have hlt2 := atB_lt h45
        have hb := body_eq _ (m + 1) (gapTo s a1 + 2) [] (Nat.le_refl _) hn (by omega)
        obtain ⟨L, a3, bd3, hR3⟩ : ∃ L a3 bd3, bodyR s (gapTo s a1 + 2) = (L, a3, bd3) := ⟨_, _, _, rfl⟩
        rw [hR3] at hb
        have hR3' : bodyR s (gapTo s a1 + 1 + 1) = (L, a3, bd3) := hR3
        rw [hR3']
        cases hM3 : bodyM ms (m + 1) [] with
        | error p =>
          rw [hM3] at hb
          obtain ⟨rfl, rfl⟩ := hb
          simp only [mustTo_bad]
          exact ⟨rfl, rfl⟩
        | ok r =>
          obtain ⟨ls, n3⟩ := r
          rw [hM3] at hb
          obtain ⟨rfl, hls, h3, ha3⟩ := hb
          simp only [List.nil_append] at hls
          subst hls
          exact dot_eq (c := ⟨A.at_, A.name, A.args.map ct, L.map plR⟩) (C := ⟨A, L, gapTo s a⟩) h3 ha3 ⟨rfl, hat.symm⟩

/-- The two readings of a program. -/
theorem prog_eq {s : ByteArray} {ms : List Mark} : ∀ (k nx a : Nat) (acc : List PC), ms.length - nx ≤ k → At s ms nx a → a ≤ s.size → gapTo s a = a →
    match progM ms nx acc with
    | .ok cs => (clausesR s a).2.2 = false ∧ cs = acc ++ (clausesR s a).1.map pcR ∧ (∀ c ∈ (clausesR s a).1, c.at_ = c.head.at_)
    | .error p => (clausesR s a).2.2 = true ∧ p = ((clausesR s a).2.1 : Int)
  | k, nx, a, acc, hk, h, ha, hg => by
    have hlt := h.lt
    by_cases has : a < s.size
    · have hkd : ((markAt ms nx).kind == 1) = false := by
        rw [h.head]
        have hj := hg
        by_cases hhi : s[a].toNat < 128
        · cases hl : lowerB s[a] with
          | true =>
            rw [(head_word hj has hl).1]
            by_cases hq : runTo lowerB s a - a ≤ 4 <;> simp [hq]
          | false =>
            cases hd : digitB s[a] with
            | true =>
              rw [(head_digits hj has hl hd).1]
              by_cases hq : 3 < runTo digitB s a - a ∨ (s[a] = 48 ∧ 1 < runTo digitB s a - a) <;> simp [hq]
            | false =>
              by_cases hcd : s[a] = 58 ∧ atB s (a + 1) 45 = true
              · rw [(head_cd hj has hcd.1 hcd.2).1]; rfl
              · rw [(head_one hj has hl hd hcd hhi).1]
                simp only [beq_eq_false_iff_ne, ne_eq]
                have hl' : ¬ (97 ≤ s[a].toNat ∧ s[a].toNat ≤ 122) := fun h => by rw [(lowerB_iff _).2 h] at hl; cases hl
                have hd' : ¬ (48 ≤ s[a].toNat ∧ s[a].toNat ≤ 57) := fun h => by rw [(digitB_iff _).2 h] at hd; cases hd
                rcases mem_sign hl' hd' with e | e | e <;> simp [e]
        · rw [(head_high hj has (by omega)).1]; rfl
      have hc := clause_eq h ha
      obtain ⟨C, a1, bd, hR⟩ : ∃ C a1 bd, clauseR s a = (C, a1, bd) := ⟨_, _, _, rfl⟩
      rw [hR] at hc
      rw [clausesR_step has hR]
      cases hM : clauseM ms nx with
      | error p =>
        rw [hM] at hc
        obtain ⟨rfl, rfl⟩ := hc
        rw [progM_error hlt hkd hM]
        simp only [clausesB, if_true, gapB_true]
        exact ⟨trivial, trivial⟩
      | ok r =>
        obtain ⟨c, n⟩ := r
        have hnx := clauseM_next hM
        rw [hM] at hc
        obtain ⟨rfl, ⟨rfl, hat⟩, h1, ha1⟩ := hc
        rw [progM_ok hlt hkd hM]
        simp only [clausesB, Bool.false_eq_true, if_false]
        have hgb : gapB s a1 false = gapTo s a1 := rfl
        rw [hgb]
        match k with
        | 0 => omega
        | k + 1 =>
          have ih := prog_eq k n (gapTo s a1) (acc ++ [pcR C]) (by omega) h1.gap (gapTo_le s a1 ha1) (gapTo_idem s a1)
          revert ih
          generalize progM ms n (acc ++ [pcR C]) = X
          intro ih
          match X, ih with
          | .ok cs, ih =>
            refine ⟨ih.1, by rw [ih.2.1]; simp, ?_⟩
            intro c hc
            rcases List.mem_cons.1 hc with rfl | hc
            · exact hat
            · exact ih.2.2 c hc
          | .error p, ih => exact ih
    · have hkd : ((markAt ms nx).kind == 1) = true := by rw [h.head, head_end (by omega)]; rfl
      rw [progM_end hlt hkd, clausesR_end has]
      simp

end Go.Proofs.YtoihbhenbmffcaaGreatDoor
