import Derived.Test.YtddpdjjlkakecaaGreatInsI
set_option linter.unusedVariables false
set_option linter.unusedSimpArgs false

namespace Go.Proofs.YtddpdjjlkakecaaGreat
open Go.RowKit

def Xof (a b : List Int) (t : Nat) : List Int := if t = 0 then a else b
def upd (p : Nat → Nat) (t v : Nat) : Nat → Nat := fun i => if i = t then v else p i
def geN (s : Int) (l : List Int) : Nat := l.countP fun y => decide (s ≤ y)

theorem geN_le {s s' : Int} (h : s ≤ s') : ∀ l : List Int, geN s' l ≤ geN s l
  | [] => Nat.le_refl _
  | x :: l => by
    have ih := geN_le h l
    unfold geN at *
    rw [List.countP_cons, List.countP_cons]
    by_cases h1 : s' ≤ x
    · have : s ≤ x := by omega
      simp [h1, this]; omega
    · simp [h1]; omega

theorem geN_lt {s s' : Int} (h : s < s') : ∀ l : List Int, s ∈ l → geN s' l < geN s l
  | [], hs => by simp at hs
  | x :: l, hs => by
    have hle := geN_le (Int.le_of_lt h) l
    rcases List.mem_cons.1 hs with rfl | hs
    · unfold geN at *
      rw [List.countP_cons, List.countP_cons]
      have h1 : ¬ s' ≤ s := by omega
      simp [h1]; omega
    · have ih := geN_lt h l hs
      unfold geN at *
      rw [List.countP_cons, List.countP_cons]
      by_cases h1 : s' ≤ x
      · have : s ≤ x := by omega
        simp [h1, this]; omega
      · simp [h1]; omega

/-- Where the taking of turns stands. -/
structure Com (a b : List Int) (t : Nat) (s : Int) (ag : Nat) (p : Nat → Nat) (m : List Int) : Prop where
  t2 : t < 2
  ag1 : ag ≤ 1
  ple : ∀ i, i < 2 → p i ≤ (Xof a b i).length
  below : ∀ i, i < 2 → ∀ j (h : j < (Xof a b i).length), j < p i → (Xof a b i)[j] < s
  has : ag = 1 → s ∈ Xof a b (1 - t)
  src : s ∈ a ∨ s ∈ b
  sound : ∀ y ∈ m, y ∈ a ∧ y ∈ b
  compl : ∀ y, y ∈ a → y ∈ b → y ∈ m ∨ s ≤ y
  len : m.length + (geN s a + geN s b) ≤ a.length + b.length

variable {a b : List Int} {t : Nat} {s : Int} {ag : Nat} {p : Nat → Nat} {m : List Int}

def comM (a b : List Int) (s : Int) (ag : Nat) : Nat := 3 * (geN s a + geN s b) + (2 - ag)

theorem Com.start (ha : 0 < a.length) (hr : Rise ltI a) : Com a b 0 a[0] 0 (fun _ => 0) [] := by
  refine ⟨by omega, by omega, fun i _ => Nat.zero_le _, fun i _ j h hj => by omega, fun h => by omega, Or.inl (List.getElem_mem ha), fun y hy => by simp at hy, fun y h1 h2 => ?_, ?_⟩
  · right
    obtain ⟨j, hj, he⟩ := List.getElem_of_mem h1
    rw [← he]
    by_cases h0 : j = 0
    · subst h0; exact Int.le_refl _
    · have := hr 0 j ha hj (by omega)
      simp [ltI] at this
      omega
  · simp only [List.length_nil, Nat.zero_add]
    have h1 : geN a[0] a ≤ a.length := List.countP_le_length
    have h2 : geN a[0] b ≤ b.length := List.countP_le_length
    omega

theorem Com.index (h : Com a b t s ag p m) {at_ : Nat} (hl : LeapIs ltI (Xof a b t) (p t) s at_) {y : Int} (hy : y ∈ Xof a b t) (hs : s ≤ y) : ∃ j, ∃ hj : j < (Xof a b t).length, at_ ≤ j ∧ (Xof a b t)[j] = y := by
  obtain ⟨j, hj, he⟩ := List.getElem_of_mem hy
  refine ⟨j, hj, ?_, he⟩
  by_cases h1 : j < at_
  · exfalso
    by_cases h2 : j < p t
    · have := h.below t h.t2 j hj h2
      omega
    · have := hl.below j hj (by omega) h1
      simp [ltI] at this
      omega
  · omega

theorem mem_X {y : Int} (hy : y ∈ a) (hy2 : y ∈ b) (t : Nat) : y ∈ Xof a b t := by
  unfold Xof; split <;> assumption

theorem Com.done (h : Com a b t s ag p m) {at_ : Nat} (hl : LeapIs ltI (Xof a b t) (p t) s at_) (he : at_ = (Xof a b t).length) : ∀ y, y ∈ a → y ∈ b → y ∈ m := by
  intro y h1 h2
  rcases h.compl y h1 h2 with h3 | h3
  · exact h3
  · obtain ⟨j, hj, h4, _⟩ := h.index hl (mem_X h1 h2 t) h3
    omega

theorem upd_ple (h : Com a b t s ag p m) {v : Nat} (hv : v ≤ (Xof a b t).length) : ∀ i, i < 2 → upd p t v i ≤ (Xof a b i).length := by
  intro i hi
  unfold upd
  split
  · rename_i e; rw [e]; exact hv
  · exact h.ple i hi

theorem Com.eq1 (h : Com a b t s 0 p m) {at_ : Nat} (hl : LeapIs ltI (Xof a b t) (p t) s at_) (hlt : at_ < (Xof a b t).length) (he : (Xof a b t)[at_] = s) : Com a b (1 - t) s 1 (upd p t at_) m ∧ comM a b s 1 < comM a b s 0 := by
  refine ⟨⟨by omega, by omega, upd_ple h (by omega), ?_, fun _ => ?_, h.src, h.sound, h.compl, h.len⟩, by unfold comM; omega⟩
  · intro i hi j hj hju
    unfold upd at hju
    split at hju
    · rename_i e
      subst e
      by_cases h2 : j < p i
      · exact h.below i h.t2 j hj h2
      · have := hl.below j hj (by omega) hju
        simpa [ltI] using this
    · exact h.below i hi j hj hju
  · have : 1 - (1 - t) = t := by have := h.t2; omega
    rw [this, ← he]
    exact List.getElem_mem hlt

theorem Com.ne (h : Com a b t s ag p m) (hr : Rise ltI (Xof a b t)) {at_ : Nat} (hl : LeapIs ltI (Xof a b t) (p t) s at_) (hlt : at_ < (Xof a b t).length) (he : (Xof a b t)[at_] ≠ s) : Com a b (1 - t) (Xof a b t)[at_] 1 (upd p t at_) m ∧ comM a b (Xof a b t)[at_] 1 < comM a b s ag := by
  have hgt : s < (Xof a b t)[at_] := by
    have := hl.above at_ hlt (Nat.le_refl _)
    simp [ltI] at this
    omega
  have hsrc : (Xof a b t)[at_] ∈ a ∨ (Xof a b t)[at_] ∈ b := by
    have := List.getElem_mem hlt
    unfold Xof at this ⊢
    split at this
    · rename_i e; simp only [e, if_true] ; exact Or.inl this
    · rename_i e; simp only [e, if_false]; exact Or.inr this
  have hN : geN (Xof a b t)[at_] a + geN (Xof a b t)[at_] b < geN s a + geN s b := by
    have l1 := geN_le (Int.le_of_lt hgt) a
    have l2 := geN_le (Int.le_of_lt hgt) b
    rcases h.src with h1 | h1
    · have := geN_lt hgt a h1; omega
    · have := geN_lt hgt b h1; omega
  refine ⟨⟨by omega, by omega, upd_ple h (by omega), ?_, fun _ => ?_, hsrc, h.sound, ?_, by have := h.len; omega⟩, by unfold comM; omega⟩
  · intro i hi j hj hju
    unfold upd at hju
    split at hju
    · rename_i e
      subst e
      have := hr j at_ hj hlt hju
      simpa [ltI] using this
    · have := h.below i hi j hj hju
      omega
  · have : 1 - (1 - t) = t := by have := h.t2; omega
    rw [this]
    exact List.getElem_mem hlt
  · intro y h1 h2
    rcases h.compl y h1 h2 with h3 | h3
    · exact Or.inl h3
    · obtain ⟨j, hj, h4, h5⟩ := h.index hl (mem_X h1 h2 t) h3
      right
      rw [← h5]
      rcases Nat.lt_or_eq_of_le h4 with h6 | h6
      · have := hr at_ j hlt hj h6
        simp [ltI] at this
        omega
      · subst h6; exact Int.le_refl _

theorem Com.both (h : Com a b t s 1 p m) (hr : Rise ltI (Xof a b t)) {at_ : Nat} (hl : LeapIs ltI (Xof a b t) (p t) s at_) (hlt : at_ < (Xof a b t).length) (he : (Xof a b t)[at_] = s) : (s ∈ a ∧ s ∈ b) ∧
    (at_ + 1 = (Xof a b t).length → ∀ y, y ∈ a → y ∈ b → y ∈ m ++ [s]) ∧
    (∀ h2 : at_ + 1 < (Xof a b t).length, Com a b (1 - t) (Xof a b t)[at_ + 1] 0 (upd p t (at_ + 1)) (m ++ [s]) ∧ comM a b (Xof a b t)[at_ + 1] 0 < comM a b s 1) := by
  have hin : s ∈ a ∧ s ∈ b := by
    have h1 := h.has rfl
    have h2 : s ∈ Xof a b t := by rw [← he]; exact List.getElem_mem hlt
    have ht := h.t2
    unfold Xof at h1 h2
    by_cases h0 : t = 0
    · subst h0; simp at h1 h2; exact ⟨h2, h1⟩
    · have : t = 1 := by omega
      subst this; simp at h1 h2; exact ⟨h1, h2⟩
  refine ⟨hin, fun hend y h1 h2 => ?_, fun h2 => ?_⟩
  · rcases h.compl y h1 h2 with h3 | h3
    · exact List.mem_append_left _ h3
    · obtain ⟨j, hj, h4, h5⟩ := h.index hl (mem_X h1 h2 t) h3
      have : j = at_ := by omega
      subst this
      rw [← h5, he]
      simp
  · have hgt : s < (Xof a b t)[at_ + 1] := by
      have := hr at_ (at_ + 1) hlt h2 (by omega)
      rw [he] at this
      simpa [ltI] using this
    have hsrc : (Xof a b t)[at_ + 1] ∈ a ∨ (Xof a b t)[at_ + 1] ∈ b := by
      have := List.getElem_mem h2
      unfold Xof at this ⊢
      split at this
      · rename_i e; simp only [e, if_true] ; exact Or.inl this
      · rename_i e; simp only [e, if_false]; exact Or.inr this
    have hN : geN (Xof a b t)[at_ + 1] a + geN (Xof a b t)[at_ + 1] b < geN s a + geN s b := by
      have l1 := geN_lt hgt a hin.1
      have l2 := geN_lt hgt b hin.2
      omega
    refine ⟨⟨by omega, by omega, upd_ple h (by omega), ?_, fun h => by omega, hsrc, ?_, ?_, by have := h.len; simp; omega⟩, by unfold comM; omega⟩
    · intro i hi j hj hju
      unfold upd at hju
      split at hju
      · rename_i e
        subst e
        have := hr j (at_ + 1) hj h2 hju
        simpa [ltI] using this
      · have := h.below i hi j hj hju
        omega
    · intro y hy
      rcases List.mem_append.1 hy with hy | hy
      · exact h.sound y hy
      · simp only [List.mem_singleton] at hy; subst hy; exact hin
    · intro y h3 h4
      rcases h.compl y h3 h4 with h5 | h5
      · exact Or.inl (List.mem_append_left _ h5)
      · obtain ⟨j, hj, h6, h7⟩ := h.index hl (mem_X h3 h4 t) h5
        rcases Nat.lt_or_eq_of_le h6 with h8 | h8
        · right
          rw [← h7]
          rcases Nat.lt_or_eq_of_le (show at_ + 1 ≤ j from h8) with h9 | h9
          · have := hr (at_ + 1) j h2 hj h9
            simp [ltI] at this
            omega
          · subst h9; exact Int.le_refl _
        · subst h8
          left
          rw [← h7, he]
          simp

end Go.Proofs.YtddpdjjlkakecaaGreat

namespace Go.Proofs.YtddpdjjlkakecaaGreat
open Go.RowKit

theorem upd_set {p : Nat → Nat} {t : Nat} (ht : t < 2) (v : Nat) : [Value.int .i64 (p 0), Value.int .i64 (p 1)].set t (.int .i64 v) = [Value.int .i64 (upd p t v 0), Value.int .i64 (upd p t v 1)] := by
  by_cases h0 : t = 0
  · subst h0; rfl
  · have : t = 1 := by omega
    subst this; rfl

theorem Tryz.info3 : (Tryz.prog.info? 3).map (fun i => (i.zero, i.size, i.bytes)) = some (some (.int .i64 0), 1, 8) := by kernel_rfl

set_option maxRecDepth 100000 in
set_option maxHeartbeats 1600000 in
theorem common_any (L : Nat) (ada adb : Option Addr) (cpa cpb : Nat) (a b : List Int) (ba bb : Nat) (w : World) (hL : Blk w L [.slice ada a.length cpa, .slice adb b.length cpb] 165)
    (ha : w.ownsRow ba 21 1 (.slice ada a.length cpa) a.length (a.flatMap runeCell)) (hb : w.ownsRow bb 21 1 (.slice adb b.length cpb) b.length (b.flatMap runeCell)) (hla : a.length ≤ 900000) (hlb : b.length ≤ 900000) (hra : Rise ltI a) (hrb : Rise ltI b) :
    Calls Tryz.prog 85 #[.slice (some ⟨L, 0, none⟩) 2 2] w fun e w' => ∃ ad n cp, e = .returned (.slice ad n cp) ∧ (0 < n ↔ ∃ y, y ∈ a ∧ y ∈ b) ∧ Kept [] w w' := by
  obtain ⟨i0, hi0, hz0, hz1, hz2⟩ := info_parts Tryz.info21
  have l0 := hL.cell 0
  have l1 := hL.cell 1
  simp at l0 l1
  by_cases h0 : a.length = 0
  · have HN : Hid (0 < 0 ↔ ∃ y, y ∈ a ∧ y ∈ b) := by
      have : a = [] := List.length_eq_zero_iff.1 h0
      subst this
      simp [Hid]
    rw [h0] at l0
    go_enter Tryz.func85, Tryz.ntmps85
    go_wp2
    go_ret
    exact ⟨_, _, _, rfl, unhide HN, Kept.refl _ _⟩
  · have hpos : 0 < a.length := by omega
    have hpi : ((a.length : Int) == 0) = false := by rw [beq_eq_false_iff_ne]; omega
    clear h0
    obtain ⟨g, cap3, he, _, hcell⟩ := row_get ha (by simp [runeCell]) 0 hpos
    simp only [Value.slice.injEq] at he
    obtain ⟨rfl, _, rfl⟩ := he
    have d0 := hcell 0 hpos 0 (by omega)
    simp [runeCell] at d0
    clear hcell
    have HS := hide (Com.start (b := b) hpos hra)
    have HA := hide ha
    have HB := hide hb
    have HL := hide hL
    clear ha hb hL
    obtain ⟨i3, hi3, hy0, hy1, hy2⟩ := info_parts Tryz.info3
    have hmk : ∀ w, (Instr.makeSlice 99 (.int .i64 2) (.int .i64 2)).run Tryz.prog w = .ok (.slice (some ⟨w.heap.size, 0, none⟩) 2 2) (w.alloc (.cells [.int .i64 0, .int .i64 0].toArray 3)) := fun w => by
      have h := run_make (P := Tryz.prog) w 99 3 i3 _ Tryz.underlying99 hi3 hy0 .i64 .i64 2 2 (by omega) (by omega) (by rw [hy2]; omega) (by omega)
      rw [hy1] at h
      rw [show madeCells (Value.int .i64 0).cells (Int.toNat 2 * 1) = #[.int .i64 0, .int .i64 0] from by kernel_rfl] at h
      exact h
    have HP := hide (Blk.new w [.int .i64 0, .int .i64 0] 3)
    have HK0 := hide ((Kept.refl [] w).alloc (.cells [.int .i64 0, .int .i64 0].toArray 3))
    have e0 := ((unhide HL).alloc (.cells [.int .i64 0, .int .i64 0].toArray 3)).cell 0
    have e1 : (w.alloc (.cells [.int .i64 0, .int .i64 0].toArray 3)).cell? ⟨g, 0, none⟩ = some (.int .i32 a[0]) := by
      obtain ⟨g', cap', he, _, hcell⟩ := row_get (ownsRow_kept (unhide HA) (unhide HK0) (by simp)) (by simp [runeCell]) 0 hpos
      simp only [Value.slice.injEq, Option.some.injEq, Addr.mk.injEq] at he
      obtain ⟨⟨rfl, _⟩, _, _⟩ := he
      have d0 := hcell 0 hpos 0 (by omega)
      simpa [runeCell] using d0
    simp at e0
    go_enter Tryz.func85, Tryz.ntmps85
    go_wp2
    change Code.wp _ _ _ _ (w.alloc (.cells [.int .i64 0, .int .i64 0].toArray 3))
    generalize w.alloc (.cells [.int .i64 0, .int .i64 0].toArray 3) = w1 at HP HK0 e0 e1 ⊢
    obtain ⟨P, hPe⟩ : ∃ P, w.heap.size = P := ⟨_, rfl⟩
    rw [hPe] at HP ⊢
    have HLP : Hid (∀ t, t < 2 → ∃ ad cp, ∀ wr, Kept [] w wr → wr.cell? ⟨L, t, none⟩ = some (.slice ad (Xof a b t).length cp) ∧ wr.ownsRow 0 21 1 (.slice ad (Xof a b t).length cp) (Xof a b t).length ((Xof a b t).flatMap runeCell)) := by
      intro t ht
      by_cases h0 : t = 0
      · subst h0
        exact ⟨_, _, fun wr hk => ⟨((unhide HL).kept hk (by simp)).cell 0, ownsRow_base (ownsRow_kept (unhide HA) hk (by simp)) (Nat.zero_le _)⟩⟩
      · have : t = 1 := by omega
        subst this
        exact ⟨_, _, fun wr hk => ⟨((unhide HL).kept hk (by simp)).cell 1, ownsRow_base (ownsRow_kept (unhide HB) hk (by simp)) (Nat.zero_le _)⟩⟩
    have HXl : Hid (∀ t, (Xof a b t).length ≤ 900000 ∧ Rise ltI (Xof a b t)) := by
      intro t
      unfold Xof
      split
      · exact ⟨hla, hra⟩
      · exact ⟨hlb, hrb⟩
    have HFin : Hid (∀ m : List Int, (∀ y ∈ m, y ∈ a ∧ y ∈ b) → (∀ y, y ∈ a → y ∈ b → y ∈ m) → (0 < m.length ↔ ∃ y, y ∈ a ∧ y ∈ b)) := by
      intro m h1 h2
      constructor
      · intro h
        obtain ⟨y, hy⟩ := List.exists_mem_of_length_pos h
        exact ⟨y, h1 y hy⟩
      · rintro ⟨y, h3, h4⟩
        exact List.length_pos_of_mem (h2 y h3 h4)
    clear HA HB HL hra hrb e0 e1 l0 l1 d0 hmk
    have HPe := hide hPe
    clear hPe
    go_loopg [3, 5, 6, 7] (comM a b a[0] 0) (fun gk o sv av tv wr => ∃ (t : Nat) (s : Int) (ag : Nat) (p : Nat → Nat) (m : List Int) (ad3 : Option Addr) (cp3 : Nat), o = .slice ad3 m.length cp3 ∧ sv = .int .i32 s ∧ av = .int .i64 ag ∧ tv = .int .i64 t ∧ t < 2 ∧ ag ≤ 1 ∧ gk = comM a b s ag ∧ Hid (Com a b t s ag p m) ∧ wr.ownsRow (P + 1) 21 1 (.slice ad3 m.length cp3) m.length (m.flatMap runeCell) ∧ Hid (Blk wr P [.int .i64 (p 0), .int .i64 (p 1)] 3) ∧ Hid (Kept [] w wr) ∧ P + 1 ≤ wr.heap.size)
    case atStart => exact ⟨0, a[0], 0, fun _ => 0, [], none, 0, rfl, rfl, rfl, rfl, by omega, by omega, rfl, HS, World.ownsRow_nil _ _ _ _, HP, HK0, by have := (unhide HP).lt; omega⟩
    case round =>
      clear HS HP HK0
      obtain ⟨t, s, ag, p, m, ad3, cp3, rfl, rfl, rfl, rfl, ht, hag, hgk, HC, hown, HP, HK, hPs⟩ := hrel
      have HG := hide hgk
      clear hgk
      obtain ⟨adx, cpx, hall⟩ := unhide HLP t ht
      obtain ⟨c1, hrow⟩ := hall wr (unhide HK)
      have HAll := hide hall
      clear hall
      obtain ⟨hxl, hxr⟩ := unhide HXl t
      have hpt := (unhide HC).ple t ht
      have c2 : wr.cell? ⟨P, t, none⟩ = some (.int .i64 (p t)) := by
        rw [(unhide HP).cell]
        by_cases h0 : t = 0
        · subst h0; rfl
        · have : t = 1 := by omega
          subst this; rfl
      have hPf := (unhide HP).frozen t
      have hti : (t : Int) < 2 := by omega
      have hmod : ((t : Int) + 1) % 2 = ((1 - t : Nat) : Int) := by omega
      have hmod2 : ((t : Int) + 1).tmod 2 = ((1 - t : Nat) : Int) := by rw [Int.tmod_eq_emod_of_nonneg (by omega)]; exact hmod
      have HLeap := hide (leapI_any (.slice adx (Xof a b t).length cpx) (Xof a b t) (p t) s 0 wr hrow (by omega) hpt hxr)
      have HRow := hide hrow
      have HXr := hide hxr
      clear hrow hxr
      go_wp2_with fail
      refine (unhide HLeap).mono ?_
      rintro e w4 ⟨at_, rfl, hat, rfl⟩
      have HAt := hide hat
      have hale := hat.le
      clear HLeap hat
      by_cases hend : at_ = (Xof a b t).length
      · have HD := hide (unhide HFin m (unhide HC).sound ((unhide HC).done (unhide HAt) hend))
        have hei : (at_ : Int) = ((Xof a b t).length : Int) := by omega
        clear HC HAt
        go_wp2
        go_ret
        exact ⟨ad3, m.length, cp3, rfl, unhide HD, unhide HK⟩
      · have hlt : at_ < (Xof a b t).length := by omega
        have hei : ¬ (at_ : Int) = ((Xof a b t).length : Int) := by omega
        obtain ⟨g2, cap2, he2, _, hcell⟩ := row_get (unhide HRow) (by simp [runeCell]) at_ hlt
        simp only [Value.slice.injEq] at he2
        obtain ⟨rfl, _, rfl⟩ := he2
        have cx := hcell at_ hlt 0 (by omega)
        simp [runeCell] at cx
        have HCell := hide hcell
        clear hcell
        have hKw : Hid (Kept [] w (w4.setCell ⟨P, t, none⟩ (.int .i64 at_))) := (unhide HK).setCell (Or.inr (by have := unhide HPe; simp; omega)) _
        have hOw := ownsRow_set hown (p := ⟨P, t, none⟩) (fun e => by have := (hown.lt _ e).1; simp at this; omega) (.int .i64 at_)
        have HP2 : Hid (Blk (w4.setCell ⟨P, t, none⟩ (.int .i64 at_)) P [.int .i64 (upd p t at_ 0), .int .i64 (upd p t at_ 1)] 3) := by
          have hh := (unhide HP).set t (.int .i64 at_)
          rw [upd_set ht at_] at hh
          exact hh
        have hsz : P + 1 ≤ (w4.setCell ⟨P, t, none⟩ (.int .i64 at_)).heap.size := by simp; omega
        cases hq : ((Xof a b t)[at_] == s) with
        | false =>
          have HN := hide ((unhide HC).ne (unhide HXr) (unhide HAt) hlt (by simpa using hq))
          clear HC HAt
          go_wp2
          go_roundg (comM a b (Xof a b t)[at_] 1)
          case measure => rw [unhide HG]; exact (unhide HN).2
          case rel => exact ⟨1 - t, (Xof a b t)[at_], 1, upd p t at_, m, ad3, cp3, rfl, rfl, rfl, by simp, by omega, by omega, rfl, (unhide HN).1, hOw, HP2, hKw, hsz⟩
        | true =>
          have hqe : (Xof a b t)[at_] = s := by simpa using hq
          by_cases h1 : ag = 0
          · subst h1
            have HN := hide ((unhide HC).eq1 (unhide HAt) hlt hqe)
            clear HC HAt hqe
            go_wp2
            go_roundg (comM a b s 1)
            case measure => rw [unhide HG]; exact (unhide HN).2
            case rel => exact ⟨1 - t, s, 1, upd p t at_, m, ad3, cp3, rfl, rfl, by go_num, by simp, by omega, by omega, rfl, (unhide HN).1, hOw, HP2, hKw, hsz⟩
          · have h2 : ag = 1 := by omega
            subst h2
            have hml := (unhide HC).len
            have HN := hide ((unhide HC).both (unhide HXr) (unhide HAt) hlt hqe)
            have HSo := hide (unhide HC).sound
            clear HC HAt hqe hKw hOw HP2 hsz
            have hnew := heap_alloc_new w4 (.cells [Value.int .i32 s].toArray 21)
            have hown8 := World.ownsRow.alloc hown (.cells [Value.int .i32 s].toArray 21)
            have hml2 : m.length ≤ 1800000 := by omega
            have HGr : Hid (∀ w9, (w4.alloc (.cells [Value.int .i32 s].toArray 21)).grownBy w9 (Value.slice ad3 m.length cp3).ownBlock → Kept [] w w9 ∧ Blk w9 P [.int .i64 (p 0), .int .i64 (p 1)] 3 ∧ (∀ j (hj : j < (Xof a b t).length), w9.cell? ⟨g2, j, none⟩ = some (.int .i32 (Xof a b t)[j])) ∧ w9.cell? ⟨L, t, none⟩ = some (.slice (some ⟨g2, 0, none⟩) (Xof a b t).length cpx)) := by
              intro w9 hg
              have hk9 : Kept [] w w9 := ((unhide HK).alloc _).grown hg (fun k hk => Or.inr (by have := (hown.lt k hk).1; have := unhide HPe; omega))
              have hne : ∀ k, k < P + 1 → (Value.slice ad3 m.length cp3).ownBlock ≠ some k := fun k hk e => by have := (hown.lt k e).1; omega
              refine ⟨hk9, ((unhide HP).alloc _).grown hg (hne P (by omega)), ?_, ?_⟩
              · intro j hj
                obtain ⟨g3, cap3, he3, _, hcell3⟩ := row_get (unhide HAll w9 hk9).2 (by simp [runeCell]) j hj
                simp only [Value.slice.injEq, Option.some.injEq, Addr.mk.injEq] at he3
                obtain ⟨⟨rfl, _⟩, _, _⟩ := he3
                have := hcell3 j hj 0 (by omega)
                simpa [runeCell] using this
              · exact (unhide HAll w9 hk9).1
            by_cases hend2 : at_ + 1 = (Xof a b t).length
            · have hei2 : (at_ : Int) + 1 = ((Xof a b t).length : Int) := by omega
              have HD := hide (unhide HFin (m ++ [s]) (fun y hy => by
                rcases List.mem_append.1 hy with hy | hy
                · exact unhide HSo y hy
                · simp only [List.mem_singleton] at hy; subst hy; exact (unhide HN).1) ((unhide HN).2.1 hend2))
              go_wp2_with (at_builtin; refine wpList_append_lies _ rfl (.tmp 65) (.tmp 67) _ rfl (P + 1) 21 i0 _ 1 4 Tryz.underlying165 hi0 hz0 hz1 hz2 rfl (by omega) (.slice ad3 m.length cp3) m.length (m.flatMap runeCell) rfl hown8 ⟨w4.heap.size, 0, none⟩ 1 1 [.int .i32 s] rfl rfl (World.news_of_block (cs := [Value.int .i32 s].toArray) (t := 21) (fr := (0, 0)) hnew) (by simp [Value.oneCell']) (by omega) (by unfold maxLen; omega) (by omega) (by simp; omega) (w4.heap.size + 1) (by simp) ?_; intro g1 cp1 w9 ho1 hg1 ha1 hl1)
              go_ret
              exact ⟨_, _, _, rfl, by simpa using unhide HD, (unhide HGr w9 hg1).1⟩
            · have hlt2 : at_ + 1 < (Xof a b t).length := by omega
              have hei2 : ¬ (at_ : Int) + 1 = ((Xof a b t).length : Int) := by omega
              have HN2 := hide ((unhide HN).2.2 hlt2)
              have HGc : Hid (∀ w9, (w4.alloc (.cells [Value.int .i32 s].toArray 21)).grownBy w9 (Value.slice ad3 m.length cp3).ownBlock → w9.cell? ⟨g2, at_ + 1, none⟩ = some (.int .i32 (Xof a b t)[at_ + 1]) ∧ w9.cell? ⟨P, t, none⟩ = some (.int .i64 (p t)) ∧ w9.frozen? ⟨P, t, none⟩ = false) := by
                intro w9 hg
                have hh := unhide HGr w9 hg
                refine ⟨hh.2.2.1 (at_ + 1) hlt2, ?_, hh.2.1.frozen t⟩
                rw [hh.2.1.cell]
                by_cases h0 : t = 0
                · subst h0; rfl
                · have : t = 1 := by omega
                  subst this; rfl
              go_wp2_with (at_builtin; refine wpList_append_lies _ rfl (.tmp 65) (.tmp 67) _ rfl (P + 1) 21 i0 _ 1 4 Tryz.underlying165 hi0 hz0 hz1 hz2 rfl (by omega) (.slice ad3 m.length cp3) m.length (m.flatMap runeCell) rfl hown8 ⟨w4.heap.size, 0, none⟩ 1 1 [.int .i32 s] rfl rfl (World.news_of_block (cs := [Value.int .i32 s].toArray) (t := 21) (fr := (0, 0)) hnew) (by simp [Value.oneCell']) (by omega) (by unfold maxLen; omega) (by omega) (by simp; omega) (w4.heap.size + 1) (by simp) ?_; intro g1 cp1 w9 ho1 hg1 ha1 hl1; have z1 := (unhide HGc w9 hg1).1; have z2 := (unhide HGc w9 hg1).2.1; have z3 := (unhide HGc w9 hg1).2.2)
              have hh := unhide HGr w9 hg1
              have HP9 : Hid (Blk (w9.setCell ⟨P, t, none⟩ (.int .i64 ((at_ : Int) + 1))) P [.int .i64 (upd p t (at_ + 1) 0), .int .i64 (upd p t (at_ + 1) 1)] 3) := by
                have h3 := hh.2.1.set t (.int .i64 ((at_ + 1 : Nat) : Int))
                rw [upd_set ht (at_ + 1)] at h3
                exact h3
              have hK9 : Hid (Kept [] w (w9.setCell ⟨P, t, none⟩ (.int .i64 ((at_ : Int) + 1)))) := hh.1.setCell (Or.inr (by have := unhide HPe; simp; omega)) _
              have hO9 := ownsRow_set ho1 (p := ⟨P, t, none⟩) (fun e => by have := (ho1.lt _ e).1; simp at this; omega) (.int .i64 ((at_ : Int) + 1))
              have hz9 : P + 1 ≤ (w9.setCell ⟨P, t, none⟩ (.int .i64 ((at_ : Int) + 1))).heap.size := by have := (ho1.lt g1 rfl); simp; omega
              go_roundg (comM a b (Xof a b t)[at_ + 1] 0)
              case measure => rw [unhide HG]; exact (unhide HN2).2
              case rel => exact ⟨1 - t, (Xof a b t)[at_ + 1], 0, upd p t (at_ + 1), m ++ [s], some ⟨g1, 0, none⟩, cp1, by simp, rfl, rfl, by simp, by omega, by omega, rfl, (unhide HN2).1, by simpa [runeCell] using hO9, HP9, hK9, hz9⟩

end Go.Proofs.YtddpdjjlkakecaaGreat
