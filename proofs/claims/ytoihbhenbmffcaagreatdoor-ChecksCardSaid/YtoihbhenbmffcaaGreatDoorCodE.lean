import Derived.Test.YtoihbhenbmffcaaGreatDoorCodC
import Derived.Test.YtoihbhenbmffcaaGreatDoorThg
set_option linter.unusedVariables false
set_option linter.unusedSimpArgs false

namespace Go.Proofs.YtoihbhenbmffcaaGreatDoor
open Go.RowKit

/-- A term of the program's: its variable (0: none), its text. -/
structure CTerm where
  v : Int
  s : ByteArray

def ctermVal (t : CTerm) : List Value := [.int .i32 t.v, .string t.s]
def noCTerm : CTerm := ⟨0, ByteArray.empty⟩

set_option maxRecDepth 100000 in
set_option maxHeartbeats 1600000 in
theorem rterm_thing (b : Nat) (mv : Value) (ms : List Mark) (nx : Nat) (br : Int) (w : World) (h : RdIn w b mv ms nx br) (m : Mark) (hm : ms[nx]'h.lt = m) (e2 : (m.kind == 2) = true ∨ (m.kind == 2) = false ∧ (m.kind == 3) = true) (hn : nx + 1 < ms.length) :
    Calls Tryz.prog 193 #[.pointer (some ⟨b, 0, none⟩)] w fun e w' => e = .returned (.tuple #[.agg (ctermVal ⟨0, thingB m.text⟩).toArray, .bool true]) ∧ RdIn w' b mv ms (nx + 1) br ∧ Kept [b] w w' := by
  have HN := hide hn
  clear hn
  have HM : Hid (∀ h : nx < ms.length, ms[nx] = m) := fun _ => hm
  have hlt0 := h.lt
  have hlt : (nx : Int) < (ms.length : Int) := by omega
  have hnx0 : (0 : Int) ≤ (nx : Int) := by omega
  have hl := h.len
  have hbw := h.blk.lt
  have hmb : ∀ k, mv.ownBlock = some k → k < w.heap.size := fun k hk => (h.row.lt k hk).2
  have h1 := h.kept0 ((Kept.refl [] w).alloc (.cells #[.int .i32 0, .string ⟨#[]⟩] 215))
  have hN2 := Blk.new w [.int .i32 0, .string ⟨#[]⟩] 215
  have hK1 := (Kept.refl [b] w).alloc (.cells [.int .i32 0, .string ⟨#[]⟩].toArray 215)
  clear hm h
  go_enter Tryz.func193, Tryz.ntmps193
  go_wp2_with fail
  generalize w.alloc (.cells [.int .i32 0, .string ⟨#[]⟩].toArray 215) = w1 at h1 hN2 hK1 ⊢
  obtain ⟨N2, hN2e⟩ : ∃ N2, w.heap.size = N2 := ⟨_, rfl⟩
  rw [hN2e] at hN2 hbw hmb ⊢
  have HN2 := hide hN2e
  clear hN2e
  obtain ⟨g, cap, rfl, b0, b1, b2, hc⟩ := h1.cells
  have hgN : g < N2 := hmb g rfl
  clear hmb
  obtain ⟨c0, c1, c2⟩ := hc nx hlt0
  rw [(unhide HM) hlt0] at c0 c1 c2
  clear hc b2
  have n0 := World.new_ne w1 _ b0
  have n1 := World.new_ne w1 _ b1
  have n2 := World.new_ne w1 _ c0
  have n3 := World.new_ne w1 _ c1
  have n4 := World.new_ne w1 _ c2
  have HH := hide h1
  have HB2 := hide hN2
  clear h1 hN2
  go_region_held3 (fun w' => w'.cell? ⟨b, 0, none⟩ = some (.slice (some ⟨g, 0, none⟩) ms.length cap) ∧ w'.cell? ⟨b, 1, none⟩ = some (.int .i64 nx) ∧ w'.cell? ⟨g, nx * 3, none⟩ = some (.int .i64 m.kind) ∧ w'.cell? ⟨g, nx * 3 + 1, none⟩ = some (.int .i64 m.place) ∧ w'.cell? ⟨g, nx * 3 + 2, none⟩ = some (.string m.text)) (go_keep) (fail)
  rename_i hHeldX
  clear hHeldX n0 n1 n2 n3 n4 b0 b1 c0 c1 c2
  have hN2lt := (unhide HB2).lt
  have h2 := (unhide HH).kept0 (((Kept.refl [] w1).alloc (.cells [.int .i64 m.kind, .int .i64 m.place, .string m.text].toArray 206)).drew)
  have hN4 := (Blk.new w1 [.int .i64 m.kind, .int .i64 m.place, .string m.text] 206).drew
  have hN2' := ((unhide HB2).alloc (.cells [.int .i64 m.kind, .int .i64 m.place, .string m.text].toArray 206)).drew
  have hK2 := (hK1.alloc (.cells [.int .i64 m.kind, .int .i64 m.place, .string m.text].toArray 206)).drew
  have hs2 : (w1.alloc (.cells [.int .i64 m.kind, .int .i64 m.place, .string m.text].toArray 206)).drew.heap.size = w1.heap.size + 1 := by simp
  clear HH HB2 hK1
  generalize (w1.alloc (.cells [.int .i64 m.kind, .int .i64 m.place, .string m.text].toArray 206)).drew = w2 at h2 hN4 hN2' hK2 hs2 ⊢
  generalize w1.heap.size = N4 at hN4 hN2lt hs2 ⊢
  have x0 := hN4.cell 0
  have x1 := hN4.cell 1
  have x2 := hN4.cell 2
  have y0 := hN2'.cell 0
  have y1 := hN2'.cell 1
  have yf := hN2'.frozen
  have z1 := h2.blk.cell 1
  have zf := h2.blk.frozen 1
  simp at x0 x1 x2 y0 y1 z1
  have hN4lt := hN4.lt
  have hb2lt := h2.blk.lt
  have hN2lt2 := hN2'.lt
  have za := fun o => (h2.blk.alloc o).cell 1
  have zaf := fun o => (h2.blk.alloc o).frozen 1
  have ya0 := fun o => (hN2'.alloc o).cell 0
  have ya1 := fun o => (hN2'.alloc o).cell 1
  have yaf := fun o => (hN2'.alloc o).frozen
  simp at za ya0 ya1
  have q1 : ¬ b = N2 := by omega
  have q2 : ¬ N2 = b := by omega
  have q3 : ¬ b = w2.heap.size := by omega
  have q4 : ¬ w2.heap.size = b := by omega
  have q5 : ¬ N2 = w2.heap.size := by omega
  have q6 : ¬ w2.heap.size = N2 := by omega
  have HH2 := hide h2
  have HB2 := hide hN2'
  clear h2 hN4 hN2'
  have fin : Hid (∀ v0 v1 v2 : Value, v0 = .int .i64 ((nx : Int) + 1) → RdIn ((((w2.alloc (.cells #[.int .i32 0, .string (thingB m.text)] 215)).setCell ⟨b, 1, none⟩ v0).setCell ⟨N2, 0, none⟩ v1).setCell ⟨N2, 1, none⟩ v2) b (.slice (some ⟨g, 0, none⟩) ms.length cap) ms (nx + 1) br) := by
    intro v0 v1 v2 hv
    have k1 : Kept [b] w2 ((((w2.alloc (.cells #[.int .i32 0, .string (thingB m.text)] 215)).setCell ⟨b, 1, none⟩ v0))) := ((Kept.refl [b] w2).alloc _).setCell (by simp) _
    have r1 := (unhide HH2).kept (nx' := nx + 1) (br' := br) k1 (by rw [hv]; exact ((unhide HH2).blk.alloc _).set 1 _) (unhide HN)
    have hne : (Value.slice (some ⟨g, 0, none⟩) ms.length cap).ownBlock ≠ some N2 := by simp [Value.ownBlock]; omega
    exact ⟨(r1.blk.set_other _ (by simp; omega) _).set_other _ (by simp; omega) _, ownsRow_set (ownsRow_set r1.row hne _) hne _, r1.ap, r1.lt, r1.len⟩
  have HTh : Hid (∀ s w, Calls Tryz.prog 217 #[.string s] w fun e w' => e = .returned (.string (thingB s)) ∧ w' = w) := thingOf_any
  rcases e2 with e2 | ⟨e2, e3⟩
  all_goals
    go_wp2_with (go_at_call 217; refine (unhide HTh _ _).mono ?_; rintro e w' ⟨rfl, rfl⟩)
    refine bodyPost_ret (res_cell_tmp rfl rfl (((((unhide HB2).alloc _).set_other ⟨b, 1, none⟩ (by simp; omega) _).set 0 _).set 1 _) Tryz.underlying215 rfl (by kernel_rfl)) rfl ⟨rfl, ?_, ?_⟩
    · exact fin.out _ _ _ rfl
    · refine Kept.setCell (Kept.setCell (Kept.setCell (hK2.alloc _) (by simp) _) (by right; have := unhide HN2; simp; omega) _) (by right; have := unhide HN2; simp; omega) _

set_option maxRecDepth 100000 in
set_option maxHeartbeats 1600000 in
theorem rterm_none (b : Nat) (mv : Value) (ms : List Mark) (nx : Nat) (br : Int) (w : World) (h : RdIn w b mv ms nx br) (m : Mark) (hm : ms[nx]'h.lt = m) (e2 : (m.kind == 2) = false) (e3 : (m.kind == 3) = false) (e4 : (m.kind == 4) = false) :
    Calls Tryz.prog 193 #[.pointer (some ⟨b, 0, none⟩)] w fun e w' => e = .returned (.tuple #[.agg (ctermVal noCTerm).toArray, .bool false]) ∧ RdIn w' b mv ms nx m.place ∧ Kept [b] w w' := by
  have HM : Hid (∀ h : nx < ms.length, ms[nx] = m) := fun _ => hm
  have hlt0 := h.lt
  have hlt : (nx : Int) < (ms.length : Int) := by omega
  have hnx0 : (0 : Int) ≤ (nx : Int) := by omega
  have hl := h.len
  have hbw := h.blk.lt
  have hmb : ∀ k, mv.ownBlock = some k → k < w.heap.size := fun k hk => (h.row.lt k hk).2
  have h1 := h.kept0 ((Kept.refl [] w).alloc (.cells #[.int .i32 0, .string ⟨#[]⟩] 215))
  have hN2 := Blk.new w [.int .i32 0, .string ⟨#[]⟩] 215
  have hK1 := (Kept.refl [b] w).alloc (.cells [.int .i32 0, .string ⟨#[]⟩].toArray 215)
  clear hm h
  go_enter Tryz.func193, Tryz.ntmps193
  go_wp2_with fail
  generalize w.alloc (.cells [.int .i32 0, .string ⟨#[]⟩].toArray 215) = w1 at h1 hN2 hK1 ⊢
  obtain ⟨N2, hN2e⟩ : ∃ N2, w.heap.size = N2 := ⟨_, rfl⟩
  rw [hN2e] at hN2 hbw hmb ⊢
  have HN2 := hide hN2e
  clear hN2e
  obtain ⟨g, cap, rfl, b0, b1, b2, hc⟩ := h1.cells
  have hgN : g < N2 := hmb g rfl
  clear hmb
  obtain ⟨c0, c1, c2⟩ := hc nx hlt0
  rw [(unhide HM) hlt0] at c0 c1 c2
  clear hc b2
  have n0 := World.new_ne w1 _ b0
  have n1 := World.new_ne w1 _ b1
  have n2 := World.new_ne w1 _ c0
  have n3 := World.new_ne w1 _ c1
  have n4 := World.new_ne w1 _ c2
  have HH := hide h1
  have HB2 := hide hN2
  clear h1 hN2
  go_region_held3 (fun w' => w'.cell? ⟨b, 0, none⟩ = some (.slice (some ⟨g, 0, none⟩) ms.length cap) ∧ w'.cell? ⟨b, 1, none⟩ = some (.int .i64 nx) ∧ w'.cell? ⟨g, nx * 3, none⟩ = some (.int .i64 m.kind) ∧ w'.cell? ⟨g, nx * 3 + 1, none⟩ = some (.int .i64 m.place) ∧ w'.cell? ⟨g, nx * 3 + 2, none⟩ = some (.string m.text)) (go_keep) (fail)
  rename_i hHeldX
  clear hHeldX n0 n1 n2 n3 n4 b0 b1 c0 c1 c2
  have hN2lt := (unhide HB2).lt
  have h2 := (unhide HH).kept0 (((Kept.refl [] w1).alloc (.cells [.int .i64 m.kind, .int .i64 m.place, .string m.text].toArray 206)).drew)
  have hN4 := (Blk.new w1 [.int .i64 m.kind, .int .i64 m.place, .string m.text] 206).drew
  have hN2' := ((unhide HB2).alloc (.cells [.int .i64 m.kind, .int .i64 m.place, .string m.text].toArray 206)).drew
  have hK2 := (hK1.alloc (.cells [.int .i64 m.kind, .int .i64 m.place, .string m.text].toArray 206)).drew
  have hs2 : (w1.alloc (.cells [.int .i64 m.kind, .int .i64 m.place, .string m.text].toArray 206)).drew.heap.size = w1.heap.size + 1 := by simp
  clear HH HB2 hK1
  generalize (w1.alloc (.cells [.int .i64 m.kind, .int .i64 m.place, .string m.text].toArray 206)).drew = w2 at h2 hN4 hN2' hK2 hs2 ⊢
  generalize w1.heap.size = N4 at hN4 hN2lt hs2 ⊢
  have x0 := hN4.cell 0
  have x1 := hN4.cell 1
  have x2 := hN4.cell 2
  have y0 := hN2'.cell 0
  have y1 := hN2'.cell 1
  have yf := hN2'.frozen
  have z1 := h2.blk.cell 1
  have zf := h2.blk.frozen 1
  simp at x0 x1 x2 y0 y1 z1
  have hN4lt := hN4.lt
  have hb2lt := h2.blk.lt
  have hN2lt2 := hN2'.lt
  have za := fun o => (h2.blk.alloc o).cell 1
  have zaf := fun o => (h2.blk.alloc o).frozen 1
  have ya0 := fun o => (hN2'.alloc o).cell 0
  have ya1 := fun o => (hN2'.alloc o).cell 1
  have yaf := fun o => (hN2'.alloc o).frozen
  simp at za ya0 ya1
  have q1 : ¬ b = N2 := by omega
  have q2 : ¬ N2 = b := by omega
  have q3 : ¬ b = w2.heap.size := by omega
  have q4 : ¬ w2.heap.size = b := by omega
  have q5 : ¬ N2 = w2.heap.size := by omega
  have q6 : ¬ w2.heap.size = N2 := by omega
  have HH2 := hide h2
  have HB2 := hide hN2'
  clear h2 hN4 hN2'
  go_wp2_with fail
  have h3 := (unhide HH2).kept0 ((Kept.refl [] w2).alloc (.cells #[.int .i32 0, .string ⟨#[]⟩] 215))
  refine (breakAt_any b _ ms nx br m.place _ h3).mono ?_
  rintro e w4 ⟨rfl, h4, hK4⟩
  have hB4 := ((unhide HB2).alloc _).kept hK4 (by simp; omega)
  have hK4' := (hK2.alloc _).trans hK4
  have v0 := hB4.cell 0
  have v1 := hB4.cell 1
  have vf := hB4.frozen
  simp at v0 v1
  have HH4 := hide h4
  clear h3 h4 hK4 x0 x1 x2 y0 y1 yf z1 zf za zaf ya0 ya1 yaf HH2 HB2 hK2
  go_wp2
  refine bodyPost_ret (res_cell_tmp rfl rfl ((hB4.set 0 _).set 1 _) Tryz.underlying215 rfl (by kernel_rfl)) rfl ⟨rfl, ?_, ?_⟩
  · have hne : (Value.slice (some ⟨g, 0, none⟩) ms.length cap).ownBlock ≠ some N2 := by simp [Value.ownBlock]; omega
    have r1 := unhide HH4
    exact ⟨(r1.blk.set_other _ (by simp; omega) _).set_other _ (by simp; omega) _, ownsRow_set (ownsRow_set r1.row hne _) hne _, r1.ap, r1.lt, r1.len⟩
  · refine Kept.setCell (Kept.setCell hK4' (by right; have := unhide HN2; simp; omega) _) (by right; have := unhide HN2; simp; omega) _

end Go.Proofs.YtoihbhenbmffcaaGreatDoor

namespace Go.Proofs.YtoihbhenbmffcaaGreatDoor
open Go.RowKit

/-- The last letter of a text, from a place on; v where there is none. -/
def lastRune (s : ByteArray) (pos : Nat) (v : Int) : Int :=
  if h : pos < s.size ∧ 1 ≤ (Utf8.decode s pos).2 then have _h1 : pos < s.size := h.1; have _h2 := h.2; lastRune s (pos + (Utf8.decode s pos).2) (Utf8.decode s pos).1 else v

theorem lastRune_step {s : ByteArray} {pos : Nat} (v : Int) (h : pos < s.size) : lastRune s pos v = lastRune s (pos + (Utf8.decode s pos).2) (Utf8.decode s pos).1 := by
  conv => lhs; rw [lastRune]
  rw [dif_pos ⟨h, decode_ge s pos h⟩]
theorem lastRune_end {s : ByteArray} {pos : Nat} (v : Int) (h : ¬ pos < s.size) : lastRune s pos v = v := by
  rw [lastRune, dif_neg (by omega)]

set_option maxRecDepth 100000 in
set_option maxHeartbeats 1600000 in
theorem rterm_var (b : Nat) (mv : Value) (ms : List Mark) (nx : Nat) (br : Int) (w : World) (h : RdIn w b mv ms nx br) (m : Mark) (hm : ms[nx]'h.lt = m) (e2 : (m.kind == 2) = false) (e3 : (m.kind == 3) = false) (e4 : (m.kind == 4) = true) (hn : nx + 1 < ms.length) (hts : m.text.size ≤ 2000) :
    Calls Tryz.prog 193 #[.pointer (some ⟨b, 0, none⟩)] w fun e w' => e = .returned (.tuple #[.agg (ctermVal ⟨lastRune m.text 0 0, ByteArray.empty⟩).toArray, .bool true]) ∧ RdIn w' b mv ms (nx + 1) br ∧ Kept [b] w w' := by
  have HN := hide hn
  clear hn
  have HM : Hid (∀ h : nx < ms.length, ms[nx] = m) := fun _ => hm
  have hlt0 := h.lt
  have hlt : (nx : Int) < (ms.length : Int) := by omega
  have hnx0 : (0 : Int) ≤ (nx : Int) := by omega
  have hl := h.len
  have hbw := h.blk.lt
  have hmb : ∀ k, mv.ownBlock = some k → k < w.heap.size := fun k hk => (h.row.lt k hk).2
  have h1 := h.kept0 ((Kept.refl [] w).alloc (.cells #[.int .i32 0, .string ⟨#[]⟩] 215))
  have hN2 := Blk.new w [.int .i32 0, .string ⟨#[]⟩] 215
  have hK1 := (Kept.refl [b] w).alloc (.cells [.int .i32 0, .string ⟨#[]⟩].toArray 215)
  clear hm h
  go_enter Tryz.func193, Tryz.ntmps193
  go_wp2_with fail
  generalize w.alloc (.cells [.int .i32 0, .string ⟨#[]⟩].toArray 215) = w1 at h1 hN2 hK1 ⊢
  obtain ⟨N2, hN2e⟩ : ∃ N2, w.heap.size = N2 := ⟨_, rfl⟩
  rw [hN2e] at hN2 hbw hmb ⊢
  have HN2 := hide hN2e
  clear hN2e
  obtain ⟨g, cap, rfl, b0, b1, b2, hc⟩ := h1.cells
  have hgN : g < N2 := hmb g rfl
  clear hmb
  obtain ⟨c0, c1, c2⟩ := hc nx hlt0
  rw [(unhide HM) hlt0] at c0 c1 c2
  clear hc b2
  have n0 := World.new_ne w1 _ b0
  have n1 := World.new_ne w1 _ b1
  have n2 := World.new_ne w1 _ c0
  have n3 := World.new_ne w1 _ c1
  have n4 := World.new_ne w1 _ c2
  have HH := hide h1
  have HB2 := hide hN2
  clear h1 hN2
  go_region_held3 (fun w' => w'.cell? ⟨b, 0, none⟩ = some (.slice (some ⟨g, 0, none⟩) ms.length cap) ∧ w'.cell? ⟨b, 1, none⟩ = some (.int .i64 nx) ∧ w'.cell? ⟨g, nx * 3, none⟩ = some (.int .i64 m.kind) ∧ w'.cell? ⟨g, nx * 3 + 1, none⟩ = some (.int .i64 m.place) ∧ w'.cell? ⟨g, nx * 3 + 2, none⟩ = some (.string m.text)) (go_keep) (fail)
  rename_i hHeldX
  clear hHeldX n0 n1 n2 n3 n4 b0 b1 c0 c1 c2
  have hN2lt := (unhide HB2).lt
  have h2 := (unhide HH).kept0 (((Kept.refl [] w1).alloc (.cells [.int .i64 m.kind, .int .i64 m.place, .string m.text].toArray 206)).drew)
  have hN4 := (Blk.new w1 [.int .i64 m.kind, .int .i64 m.place, .string m.text] 206).drew
  have hN2' := ((unhide HB2).alloc (.cells [.int .i64 m.kind, .int .i64 m.place, .string m.text].toArray 206)).drew
  have hK2 := (hK1.alloc (.cells [.int .i64 m.kind, .int .i64 m.place, .string m.text].toArray 206)).drew
  have hs2 : (w1.alloc (.cells [.int .i64 m.kind, .int .i64 m.place, .string m.text].toArray 206)).drew.heap.size = w1.heap.size + 1 := by simp
  clear HH HB2 hK1
  generalize (w1.alloc (.cells [.int .i64 m.kind, .int .i64 m.place, .string m.text].toArray 206)).drew = w2 at h2 hN4 hN2' hK2 hs2 ⊢
  generalize w1.heap.size = N4 at hN4 hN2lt hs2 ⊢
  have x0 := hN4.cell 0
  have x1 := hN4.cell 1
  have x2 := hN4.cell 2
  have y0 := hN2'.cell 0
  have y1 := hN2'.cell 1
  have yf := hN2'.frozen
  have z1 := h2.blk.cell 1
  have zf := h2.blk.frozen 1
  simp at x0 x1 x2 y0 y1 z1
  have hN4lt := hN4.lt
  have hb2lt := h2.blk.lt
  have hN2lt2 := hN2'.lt
  have za := fun o => (h2.blk.alloc o).cell 1
  have zaf := fun o => (h2.blk.alloc o).frozen 1
  have ya0 := fun o => (hN2'.alloc o).cell 0
  have ya1 := fun o => (hN2'.alloc o).cell 1
  have yaf := fun o => (hN2'.alloc o).frozen
  simp at za ya0 ya1
  have q1 : ¬ b = N2 := by omega
  have q2 : ¬ N2 = b := by omega
  have q3 : ¬ b = w2.heap.size := by omega
  have q4 : ¬ w2.heap.size = b := by omega
  have q5 : ¬ N2 = w2.heap.size := by omega
  have q6 : ¬ w2.heap.size = N2 := by omega
  have HH2 := hide h2
  have HB2 := hide hN2'
  clear h2 hN4 hN2'
  go_wp2
  have hs3 : (w2.alloc (.cells #[.int .i32 0, .string ⟨#[]⟩] 215)).heap.size = N4 + 1 + 1 := by simp [hs2]
  have hK3 : Kept [b] w ((w2.alloc (.cells #[.int .i32 0, .string ⟨#[]⟩] 215)).iter m.text 0) := (hK2.alloc _).alloc _
  have h3 : RdIn ((w2.alloc (.cells #[.int .i32 0, .string ⟨#[]⟩] 215)).iter m.text 0) b (.slice (some ⟨g, 0, none⟩) ms.length cap) ms nx br := (unhide HH2).kept0 (((Kept.refl [] w2).alloc _).alloc _)
  have hB3 : Blk ((w2.alloc (.cells #[.int .i32 0, .string ⟨#[]⟩] 215)).iter m.text 0) N2 [.int .i32 0, .string ⟨#[]⟩] 215 := ((unhide HB2).alloc _).alloc _
  have hT3 : Blk ((w2.alloc (.cells #[.int .i32 0, .string ⟨#[]⟩] 215)).iter m.text 0) (N4 + 1) [.int .i32 0, .string ⟨#[]⟩] 215 := by rw [← hs2]; exact (Blk.new w2 [.int .i32 0, .string ⟨#[]⟩] 215).alloc _
  have hI3 := World.iter_heap (w2.alloc (.cells #[.int .i32 0, .string ⟨#[]⟩] 215)) m.text 0
  rw [hs3] at hI3
  have hz3 : N4 + 1 + 1 < ((w2.alloc (.cells #[.int .i32 0, .string ⟨#[]⟩] 215)).iter m.text 0).heap.size := by simp [World.iter, hs2]
  have hNw : w.heap.size ≤ N2 := by have := unhide HN2; omega
  clear x0 x1 x2 y0 y1 yf z1 zf za zaf ya0 ya1 yaf HH2 HB2 hK2 hs3 q1 q2 q3 q4 q5 q6 hN4lt hb2lt hN2lt2 hs2
  generalize (w2.alloc (.cells #[.int .i32 0, .string ⟨#[]⟩] 215)).iter m.text 0 = w3 at hK3 h3 hB3 hT3 hI3 hz3 ⊢
  go_loopg [] m.text.size (fun gk wr => ∃ (pos : Nat) (v : Int), gk = m.text.size - pos ∧ pos ≤ m.text.size + 4 ∧ Hid (lastRune m.text pos v = lastRune m.text 0 0) ∧ Hid (wr.heap[N4 + 1 + 1]? = some (.stringIter m.text pos)) ∧ Hid (RdIn wr b (.slice (some ⟨g, 0, none⟩) ms.length cap) ms nx br) ∧ Hid (Blk wr N2 [.int .i32 0, .string ⟨#[]⟩] 215) ∧ Hid (Blk wr (N4 + 1) [.int .i32 v, .string ⟨#[]⟩] 215) ∧ Kept [b] w wr ∧ N4 + 1 + 1 < wr.heap.size)
  case atStart => exact ⟨0, 0, by simp, by omega, rfl, hI3, h3, hB3, hT3, hK3, hz3⟩
  case round =>
    clear hI3 h3 hB3 hT3 hK3 hz3
    obtain ⟨pos, v, hgk, hp4, HL, HI, HR, HB, HT, hK, hz⟩ := hrel
    have HG := hide hgk
    clear hgk
    by_cases hlt : pos < m.text.size
    · obtain ⟨rn, wd, hdec⟩ : ∃ rn wd, Utf8.decode m.text pos = (rn, wd) := ⟨_, _, rfl⟩
      have hwd4 : wd ≤ 4 := by have := decode_4 m.text pos; rw [hdec] at this; exact this
      have hwd : 1 ≤ wd := by have := decode_ge m.text pos hlt; rw [hdec] at this; exact this
      have hnx : ∀ ty, (Instr.next (.pointer (some ⟨N4 + 1 + 1, 0, none⟩)) true ty).run Tryz.prog wr = .ok (.tuple #[.bool true, .int .i64 pos, .int .i32 rn]) (setIter wr (N4 + 1 + 1) m.text (pos + wd)) := by
        intro ty; have h := next_any (P := Tryz.prog) (unhide HI) ty hlt; rw [hdec] at h; exact h
      have HI2 := hide (setIter_at (w := wr) (N := N4 + 1 + 1) (s := m.text) (pos := pos + wd) hz)
      have hb2 := (unhide HB).kept (setIter_kept wr (N4 + 1 + 1) m.text (pos + wd)) (by simp; omega)
      have ht2 := (unhide HT).kept (setIter_kept wr (N4 + 1 + 1) m.text (pos + wd)) (by simp)
      have hne : (Value.slice (some ⟨g, 0, none⟩) ms.length cap).ownBlock ≠ some (N4 + 1 + 1) := by simp [Value.ownBlock]; omega
      have hR2 : RdIn (setIter wr (N4 + 1 + 1) m.text (pos + wd)) b (.slice (some ⟨g, 0, none⟩) ms.length cap) ms nx br :=
        ⟨(unhide HR).blk.kept (setIter_kept wr (N4 + 1 + 1) m.text (pos + wd)) (by simp; omega), ownsRow_keptOf (unhide HR).row (setIter_kept wr (N4 + 1 + 1) m.text (pos + wd)) (fun i hi hm => by simp at hm; subst hm; exact hne hi), (unhide HR).ap, (unhide HR).lt, (unhide HR).len⟩
      have hK2 : Kept [b] w (setIter wr (N4 + 1 + 1) m.text (pos + wd)) := hK.trans' (setIter_kept wr (N4 + 1 + 1) m.text (pos + wd)) (by intro i hi; right; simp at hi; omega)
      have hz2 : N4 + 1 + 1 < (setIter wr (N4 + 1 + 1) m.text (pos + wd)).heap.size := by rw [setIter_size]; exact hz
      have HL2 : Hid (lastRune m.text (pos + wd) rn = lastRune m.text 0 0) := by
        have h := HL.out; rw [lastRune_step v hlt, hdec] at h; exact h
      clear hdec HI HR HB HT HL hK hz
      generalize setIter wr (N4 + 1 + 1) m.text (pos + wd) = w4 at hnx HI2 hb2 ht2 hR2 hK2 hz2
      have v0 := ht2.cell 0
      have vf := ht2.frozen 0
      simp at v0
      have HB2 := hide hb2
      have HT2 := hide ht2
      have HR2 := hide hR2
      clear hb2 ht2 hR2
      go_wp2_with fail
      go_roundg (m.text.size - (pos + wd))
      case measure => have := unhide HG; omega
      case rel =>
        refine ⟨pos + wd, rn, rfl, by omega, HL2, ?_, ?_, (unhide HB2).set_other _ (by simp; omega) _, (unhide HT2).set 0 _, hK2.setCell (by right; simp; omega) _, by simpa using hz2⟩
        · show _ = _
          rw [Below.heap_setCell _ _ _ _ (by simp)]
          exact unhide HI2
        · have r1 := unhide HR2
          have hne2 : (Value.slice (some ⟨g, 0, none⟩) ms.length cap).ownBlock ≠ some (N4 + 1) := by simp [Value.ownBlock]; omega
          exact ⟨r1.blk.set_other _ (by simp; omega) _, ownsRow_set r1.row hne2 _, r1.ap, r1.lt, r1.len⟩
    · have hnx : ∀ ty, (Instr.next (.pointer (some ⟨N4 + 1 + 1, 0, none⟩)) true ty).run Tryz.prog wr = .ok (.tuple #[.bool false]) wr := fun ty => next_end (P := Tryz.prog) (unhide HI) ty hlt
      have HV : Hid (v = lastRune m.text 0 0) := by have h := HL.out; rwa [lastRune_end v hlt] at h
      have z1 := (unhide HR).blk.cell 1
      have zf := (unhide HR).blk.frozen 1
      have y0 := (unhide HB).cell 0
      have y1 := (unhide HB).cell 1
      have yf := (unhide HB).frozen
      have x0 := (unhide HT).cell 0
      have x1 := (unhide HT).cell 1
      simp at z1 y0 y1 x0 x1
      have q1 : ¬ b = N2 := by omega
      have q2 : ¬ N2 = b := by omega
      have q3 : ¬ b = N4 + 1 := by omega
      have q4 : ¬ N4 + 1 = b := by omega
      have q5 : ¬ N2 = N4 + 1 := by omega
      have q6 : ¬ N4 + 1 = N2 := by omega
      clear HL HI
      go_wp2
      have hR := unhide HR
      have k1 : Kept [b] wr (wr.setCell ⟨b, 1, none⟩ (.int .i64 ((nx : Int) + 1))) := (Kept.refl [b] wr).setCell (by simp) _
      have r1 := hR.kept (nx' := nx + 1) (br' := br) k1 (hR.blk.set 1 _) (unhide HN)
      have hne : (Value.slice (some ⟨g, 0, none⟩) ms.length cap).ownBlock ≠ some N2 := by simp [Value.ownBlock]; omega
      refine bodyPost_ret (res_cell_tmp rfl rfl ((((unhide HB).set_other ⟨b, 1, none⟩ (by simp; omega) _).set 0 _).set 1 _) Tryz.underlying215 rfl (by kernel_rfl)) rfl ⟨?_, ?_, ?_⟩
      · rw [← HV.out]; rfl
      · exact ⟨(r1.blk.set_other _ (by simp; omega) _).set_other _ (by simp; omega) _, ownsRow_set (ownsRow_set r1.row hne _) hne _, r1.ap, r1.lt, r1.len⟩
      · exact ((hK.trans k1).setCell (by right; simp; omega) _).setCell (by right; simp; omega) _

end Go.Proofs.YtoihbhenbmffcaaGreatDoor
