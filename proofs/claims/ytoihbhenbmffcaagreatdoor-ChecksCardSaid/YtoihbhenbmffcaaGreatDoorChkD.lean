import Derived.Test.YtoihbhenbmffcaaGreatDoorChkA
import Derived.Test.YtoihbhenbmffcaaGreatDoorInsS
import Derived.Test.YtoihbhenbmffcaaGreatDoorInsI
set_option linter.unusedVariables false
set_option linter.unusedSimpArgs false

namespace Go.Proofs.YtoihbhenbmffcaaGreatDoor
open Go.RowKit

def bodyNames (lvs : List PLV) : List ByteArray := (lvs.filter fun p => hasAtomB p.1).map fun p => p.1.an
def namesV (c : PCV) : List ByteArray := c.hn :: bodyNames c.lvs

theorem namesV_eq (c : PCV) : (atomsV c).map CAtom.name = namesV c := by
  simp [atomsV, namesV, bodyAtoms, bodyNames]

/-- Every atom's terms are a slice. -/
theorem atomsV_form {c : PCV} {w : World} (h : PcAt w 0 c.hv c.bv c.hts c.lvs) : ∀ a ∈ atomsV c, ∃ ad n cp, a.tv = .slice ad n cp := by
  intro a ha
  rcases List.mem_cons.1 ha with rfl | ha
  · obtain ⟨ad, cp, e⟩ := row_nil h.head
    exact ⟨_, _, _, e⟩
  · unfold bodyAtoms at ha
    obtain ⟨p, hp, rfl⟩ := List.mem_map.1 ha
    obtain ⟨ad, cp, e⟩ := row_nil (h.body.each p (List.mem_filter.1 hp).1).1
    exact ⟨_, _, _, e⟩

theorem atom_cells {w : World} {base : Nat} {v : Value} {l : List CAtom} (h : w.ownsRow base 187 3 v l.length (l.flatMap catomVal)) (k : Nat) (hk : k < l.length) :
    ∃ g cap, v = .slice (some ⟨g, 0, none⟩) l.length cap ∧ w.cell? ⟨g, k * 3, none⟩ = some (.int .i64 l[k].place) ∧ w.cell? ⟨g, k * 3 + 1, none⟩ = some (.string l[k].name) ∧ w.cell? ⟨g, k * 3 + 2, none⟩ = some l[k].tv := by
  obtain ⟨g, cap, he, _, hcell⟩ := row_get h (fun c _ => catomVal_len c) k hk
  have d0 := hcell k hk 0 (by omega)
  have d1 := hcell k hk 1 (by omega)
  have d2 := hcell k hk 2 (by omega)
  simp [catomVal] at d0 d1 d2
  exact ⟨g, cap, he, d0, d1, d2⟩

/-- What a call that adds strings comes to. -/
structure AddsOut (base : Nat) (lv : Value) (l : List ByteArray) (xs : List ByteArray) (w : World) (l' : List ByteArray) (ad' : Option Addr) (cp' : Nat) (w' : World) : Prop where
  rise : Rise ltS l'
  mem : ∀ y, y ∈ l' ↔ y ∈ xs ∨ y ∈ l
  ge : l.length ≤ l'.length
  le : l'.length ≤ l.length + xs.length
  own : w'.ownsRow base 9 1 (.slice ad' l'.length cp') l'.length (l'.flatMap strCell)
  kept : Kept lv.ownBlock.toList w w'
  new : ∀ k, (Value.slice ad' l'.length cp').ownBlock = some k → lv.ownBlock = some k ∨ w.heap.size ≤ k

set_option maxRecDepth 100000 in
set_option maxHeartbeats 1600000 in
theorem addNames_any (c : PCV) (ad : Option Addr) (cap : Nat) (l : List ByteArray) (base : Nat) (w : World) (h : PcAt w 0 c.hv c.bv c.hts c.lvs) (hlen : c.lvs.length ≤ 1000)
    (hl : w.ownsRow base 9 1 (.slice ad l.length cap) l.length (l.flatMap strCell)) (hll : l.length ≤ 900000) (hr : Rise ltS l) (hbase : base ≤ w.heap.size) :
    Calls Tryz.prog 164 #[.slice ad l.length cap, .agg (pcvCells c).toArray] w fun e w' => ∃ l' ad' cp', e = .returned (.slice ad' l'.length cp') ∧ AddsOut base (.slice ad l.length cap) l (namesV c) w l' ad' cp' w' := by
  have hAt := hide (atoms_any c (w.alloc (.cells (pcvCells c).toArray 189)) (h.kept ((Kept.refl [] w).alloc _) (by simp)) hlen)
  have HForm := hide (atomsV_form h)
  have HNm := hide (namesV_eq c)
  have HAl : Hid ((atomsV c).length ≤ 1001) := by
    show _ ≤ _
    have := bodyAtoms_len c.lvs
    simp [atomsV]; omega
  obtain ⟨hp, hn, hts, hv, bv, lvs⟩ := c
  simp only at h
  obtain ⟨adh, cph, rfl⟩ := row_nil h.head
  obtain ⟨adb, cpb, rfl⟩ := row_nil h.body.row
  generalize atomsV ⟨hp, hn, hts, .slice adh hts.length cph, .slice adb lvs.length cpb, lvs⟩ = aT at hAt HForm HNm HAl
  generalize namesV ⟨hp, hn, hts, .slice adh hts.length cph, .slice adb lvs.length cpb, lvs⟩ = ns at HNm ⊢
  have HL := hide hl
  have HRi := hide hr
  clear h hl hr
  simp only [pcvCells] at hAt ⊢
  go_enter Tryz.func164, Tryz.ntmps164
  go_wp2_with fail
  refine (unhide hAt).mono ?_
  rintro e w2 ⟨ad2, cp2, rfl, hown, k2⟩
  have hK2 : Hid (Kept [] w w2) := ((Kept.refl [] w).alloc _).trans k2
  have hs2 : w.heap.size + 1 ≤ w2.heap.size := by have := k2.size; simpa using this
  have HO := hide (ownsRow_base hown (show w.heap.size ≤ _ by simp))
  clear hAt hown k2
  go_wp2
  go_loopg [0, 10] aT.length (fun gk o i wr => ∃ (k : Nat) (m : List ByteArray) (ad3 : Option Addr) (cp3 : Nat), o = .slice ad3 m.length cp3 ∧ i = .int .i64 k ∧ k ≤ aT.length ∧ gk = aT.length - k ∧ m.length ≤ l.length + k ∧ Hid (AddsOut base (.slice ad l.length cap) l ((aT.take k).map CAtom.name) w m ad3 cp3 wr) ∧ Hid (wr.ownsRow w.heap.size 187 3 (.slice ad2 aT.length cp2) aT.length (aT.flatMap catomVal)) ∧ Hid (∀ q, (Value.slice ad3 m.length cp3).ownBlock = some q → (Value.slice ad l.length cap).ownBlock = some q ∨ w2.heap.size ≤ q) ∧ w2.heap.size ≤ wr.heap.size)
  case atStart => exact ⟨0, l, ad, cap, rfl, rfl, by omega, rfl, by omega, ⟨unhide HRi, fun y => by simp, by omega, by omega, ownsRow_kept (unhide HL) (unhide hK2) (by simp), (unhide hK2).mono (by simp), fun k hk => Or.inl hk⟩, HO, fun q hq => Or.inl hq, by omega⟩
  case round =>
    clear hK2
    obtain ⟨k, m, ad3, cp3, rfl, rfl, hk, hgk, hml, HAd, HO3, HNew, hs3⟩ := hrel
    have HG := hide hgk
    clear hgk
    have hal := unhide HAl
    by_cases hlt : k < aT.length
    · obtain ⟨g, cap3, he, d0, d1, d2⟩ := atom_cells (unhide HO3) k hlt
      simp only [Value.slice.injEq] at he
      obtain ⟨rfl, _, rfl⟩ := he
      obtain ⟨adt, nt, cpt, htv⟩ := unhide HForm aT[k] (List.getElem_mem hlt)
      rw [htv] at d2
      clear htv
      have HAd2 := hide (addS_any ad3 cp3 m aT[k].name base (wr.alloc (.cells [.int .i64 aT[k].place, .string aT[k].name, .slice adt nt cpt].toArray 187)) (World.ownsRow.alloc (unhide HAd).own _) (by omega) (unhide HAd).rise (by simp; omega))
      go_wp2_with fail
      refine (unhide HAd2).mono ?_
      rintro e w4 ⟨m', ad4, cp4, rfl, q1, q2, q3, q4, q5, q6, q7⟩
      have hk4 : Kept (Value.slice ad3 m.length cp3).ownBlock.toList wr w4 := ((Kept.refl _ wr).alloc _).trans q6
      have hs4 : wr.heap.size + 1 ≤ w4.heap.size := by have := q6.size; simpa using this
      have HR4 : Hid (AddsOut base (.slice ad l.length cap) l ((aT.take (k + 1)).map CAtom.name) w m' ad4 cp4 w4) := by
        have hA := unhide HAd
        refine ⟨q1, fun y => ?_, by have := hA.ge; omega, ?_, q5, hA.kept.trans' hk4 (fun i hi => ?_), fun q hq => ?_⟩
        · rw [q2, hA.mem, List.take_succ_eq_append_getElem hlt]
          simp only [List.map_append, List.map_cons, List.map_nil, List.mem_append, List.mem_singleton]
          constructor
          · rintro (h | h | h)
            · exact Or.inl (Or.inr h)
            · exact Or.inl (Or.inl h)
            · exact Or.inr h
          · rintro ((h | h) | h)
            · exact Or.inr (Or.inl h)
            · exact Or.inl h
            · exact Or.inr (Or.inr h)
        · have := hA.le
          simp only [List.length_map, List.length_take] at this ⊢
          omega
        · rcases hA.new i (by simpa using hi) with h | h
          · exact Or.inl (by simp [h])
          · exact Or.inr h
        · rcases q7 q hq with h | h
          · exact hA.new q h
          · exact Or.inr (by have := hA.kept.size; simp at h; omega)
      have HO4 : Hid (w4.ownsRow w.heap.size 187 3 (.slice (some ⟨g, 0, none⟩) aT.length cp2) aT.length (aT.flatMap catomVal)) := by
        refine ownsRow_keptOf (unhide HO3) hk4 (fun i hi hm => ?_)
        have h1 := ((unhide HO).lt i hi)
        rcases unhide HNew i (by simpa using hm) with h | h
        · have := ((unhide HL).lt i h).2
          omega
        · omega
      have HNew4 : Hid (∀ q, (Value.slice ad4 m'.length cp4).ownBlock = some q → (Value.slice ad l.length cap).ownBlock = some q ∨ w2.heap.size ≤ q) := by
        intro q hq
        rcases q7 q hq with h | h
        · exact unhide HNew q h
        · exact Or.inr (by simp at h; omega)
      clear HAd2 q1 q2 q3 q5 q6 q7 hk4 HAd HO3 HNew d0 d1 d2
      go_wp2
      go_roundg (aT.length - (k + 1))
      case measure => have := unhide HG; omega
      case rel => exact ⟨k + 1, m', ad4, cp4, rfl, by go_num, by omega, rfl, by omega, HR4, HO4, HNew4, by omega⟩
    · have HE : Hid (AddsOut base (.slice ad l.length cap) l ns w m ad3 cp3 wr) := by
        have h := unhide HAd
        rw [List.take_of_length_le (by omega), unhide HNm] at h
        exact h
      go_wp2
      go_ret
      exact ⟨m, ad3, cp3, rfl, unhide HE⟩

end Go.Proofs.YtoihbhenbmffcaaGreatDoor
