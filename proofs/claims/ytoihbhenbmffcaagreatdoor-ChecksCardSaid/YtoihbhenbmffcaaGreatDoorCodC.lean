import Derived.Test.YtoihbhenbmffcaaGreatDoorCodA
import Derived.Deep.RegionHeld3
set_option linter.unusedVariables false
set_option linter.unusedSimpArgs false

namespace Go.Proofs.YtoihbhenbmffcaaGreatDoor
open Go.RowKit

/-- A world whose block N is an iterator over s, moved on. -/
def setIter (w : World) (N : Nat) (s : ByteArray) (pos : Nat) : World := { w with heap := w.heap.setIfInBounds N (.stringIter s pos) }

theorem setIter_at {w : World} {N : Nat} {s : ByteArray} {pos : Nat} (h : N < w.heap.size) : (setIter w N s pos).heap[N]? = some (.stringIter s pos) := by
  simp [setIter, h]
theorem setIter_other {w : World} {N k : Nat} {s : ByteArray} {pos : Nat} (h : k ≠ N) : (setIter w N s pos).heap[k]? = w.heap[k]? := by
  have h' : ¬ N = k := fun e => h e.symm
  simp [setIter, Array.getElem?_setIfInBounds, h']
theorem setIter_size (w : World) (N : Nat) (s : ByteArray) (pos : Nat) : (setIter w N s pos).heap.size = w.heap.size := by simp [setIter]
theorem setIter_kept (w : World) (N : Nat) (s : ByteArray) (pos : Nat) : Kept [N] w (setIter w N s pos) :=
  ⟨rfl, rfl, rfl, by rw [setIter_size]; exact Nat.le_refl _, fun k _ hk => setIter_other (by simpa using hk)⟩

theorem next_any {P : Program} {w : World} {N : Nat} {s : ByteArray} {pos : Nat} (hN : w.heap[N]? = some (.stringIter s pos)) (ty : TypeId) (h : pos < s.size) :
    (Instr.next (.pointer (some ⟨N, 0, none⟩)) true ty).run P w = .ok (.tuple #[.bool true, .int .i64 pos, .int .i32 (Utf8.decode s pos).1]) (setIter w N s (pos + (Utf8.decode s pos).2)) := by
  simp only [Instr.next, getObj, setObj, Sem.run_bind, Sem.run, hN, Result.andThen, h, if_true]
  simp [goInt, setIter]

theorem next_end {P : Program} {w : World} {N : Nat} {s : ByteArray} {pos : Nat} (hN : w.heap[N]? = some (.stringIter s pos)) (ty : TypeId) (h : ¬ pos < s.size) :
    (Instr.next (.pointer (some ⟨N, 0, none⟩)) true ty).run P w = .ok (.tuple #[.bool false]) w := by
  simp [Instr.next, getObj, Sem.run, hN, h]

theorem decode_ge (s : ByteArray) (pos : Nat) (h : pos < s.size) : 1 ≤ (Utf8.decode s pos).2 := by
  by_cases ha : (s[pos]'h).toNat < 128
  · rw [decode_ascii s pos h ha]; exact Nat.le_refl _
  · exact (decode_high s pos h (by omega)).2

theorem decode_4 (s : ByteArray) (pos : Nat) : (Utf8.decode s pos).2 ≤ 4 := by
  unfold Utf8.decode
  simp only
  repeat' split
  all_goals simp

theorem enc_pos (r : Int) : 0 < (Utf8.encode r).size := by
  unfold Utf8.encode
  simp only
  generalize (if Utf8.valid r = true then r.toNat else Utf8.runeError) = c
  repeat' split
  all_goals simp [ByteArray.size]

/-- The marks of a text, from a place on. -/
def cutFrom (s : ByteArray) (pos : Nat) (ms : List Mark) : List Mark :=
  if h : pos < s.size ∧ 1 ≤ (Utf8.decode s pos).2 then have _h1 : pos < s.size := h.1; have _h2 := h.2; cutFrom s (pos + (Utf8.decode s pos).2) (layR ms pos (Utf8.decode s pos).1) else ms

theorem cutFrom_step {s : ByteArray} {pos : Nat} (ms : List Mark) (h : pos < s.size) : cutFrom s pos ms = cutFrom s (pos + (Utf8.decode s pos).2) (layR ms pos (Utf8.decode s pos).1) := by
  conv => lhs; rw [cutFrom]
  rw [dif_pos ⟨h, decode_ge s pos h⟩]
theorem cutFrom_end {s : ByteArray} {pos : Nat} (ms : List Mark) (h : ¬ pos < s.size) : cutFrom s pos ms = ms := by
  rw [cutFrom, dif_neg (by omega)]

def fixM (m : Mark) : Mark := if wholeB m then m else { m with kind := 0 }
def endMark (s : ByteArray) : Mark := ⟨1, s.size, ByteArray.empty⟩
def cutR (s : ByteArray) : List Mark := (cutFrom s 0 []).map fixM ++ [endMark s]

/-- What the marks of a text are bounded by. -/
structure MarksOk (s : ByteArray) (pos : Nat) (ms : List Mark) : Prop where
  len : ms.length ≤ pos
  each : ∀ m ∈ ms, m.place < pos ∧ 0 < m.text.size ∧ m.text.size ≤ 4 * pos

theorem MarksOk.lay {s : ByteArray} {pos pos' : Nat} {ms : List Mark} {r : Int} (h : MarksOk s pos ms) (hp : pos < pos') : MarksOk s pos' (layR ms pos r) := by
  have henc := enc_le r
  have hencp := enc_pos r
  have old : ∀ m ∈ ms, m.place < pos' ∧ 0 < m.text.size ∧ m.text.size ≤ 4 * pos' := fun m hm => by have := h.each m hm; omega
  have hl := h.len
  unfold layR
  split
  · exact ⟨by omega, old⟩
  · split
    · rename_i m hm
      have hmm := List.mem_of_getLast? hm
      have he := h.each m hmm
      split
      · refine ⟨?_, fun x hx => ?_⟩
        · have : ms ≠ [] := by intro e; rw [e] at hm; simp at hm
          have : 0 < ms.length := List.length_pos_iff.2 this
          simp; omega
        · rcases List.mem_append.1 hx with hx | hx
          · exact old x (List.dropLast_subset ms hx)
          · simp only [List.mem_singleton] at hx
            subst hx
            simp only [ByteArray.size_append]
            omega
      · refine ⟨by simp; omega, fun x hx => ?_⟩
        rcases List.mem_append.1 hx with hx | hx
        · exact old x hx
        · simp only [List.mem_singleton] at hx
          subst hx
          simp only [newMark]
          omega
    · refine ⟨by simp; omega, fun x hx => ?_⟩
      rcases List.mem_append.1 hx with hx | hx
      · exact old x hx
      · simp only [List.mem_singleton] at hx
        subst hx
        simp only [newMark]
        omega

/-- The marks, as far as they have been looked at. -/
def fixTo (T : List Mark) (k : Nat) : List Mark := (T.take k).map fixM ++ T.drop k

theorem fixTo_len (T : List Mark) (k : Nat) (hk : k ≤ T.length) : (fixTo T k).length = T.length := by simp [fixTo]; omega
theorem fixTo_split {T : List Mark} {k : Nat} (hk : k < T.length) : fixTo T k = (T.take k).map fixM ++ T[k] :: T.drop (k + 1) := by
  unfold fixTo; rw [List.drop_eq_getElem_cons hk]
theorem fixTo_next {T : List Mark} {k : Nat} (hk : k < T.length) : fixTo T (k + 1) = (T.take k).map fixM ++ fixM T[k] :: T.drop (k + 1) := by
  unfold fixTo; rw [List.take_succ_eq_append_getElem hk, List.map_append, List.append_assoc]; rfl

theorem flat_set0 (pre post : List Mark) (m : Mark) (n : Nat) (hn : pre.length = n) : ((pre ++ m :: post).flatMap markVal).set (n * 3) (.int .i64 0) = (pre ++ { m with kind := 0 } :: post).flatMap markVal := by
  subst hn
  have hl : (pre.flatMap markVal).length = pre.length * 3 := by
    induction pre with
    | nil => rfl
    | cons a l ih => rw [List.flatMap_cons, List.length_append, ih, markVal_len, List.length_cons]; omega
  simp only [List.flatMap_append, List.flatMap_cons]
  rw [List.set_append_right _ _ (by omega), hl]
  simp [markVal]

set_option maxRecDepth 100000 in
set_option maxHeartbeats 1600000 in
theorem cut_any (s : ByteArray) (w : World) (hs : s.size ≤ 300) :
    Calls Tryz.prog 114 #[.string s] w fun e w' => ∃ v, e = .returned v ∧ w'.ownsRow (w.heap.size + 1) 206 3 v (cutR s).length ((cutR s).flatMap markVal) ∧ Kept [] w w' := by
  obtain ⟨i0, hi0, hz0, hz1, hz2⟩ := info_parts Tryz.info206
  have hnot : ∀ (x : Bool) (w : World), (Op.unary .not (.bool x)).run Tryz.prog w = .ok (.bool (!x)) w := fun _ _ => rfl
  go_enter Tryz.func114, Tryz.ntmps114
  go_wp2
  obtain ⟨T, hT⟩ : ∃ T, cutFrom s 0 [] = T := ⟨_, rfl⟩
  have HT := hide hT
  clear hT
  go_loopg [3] s.size (fun gk o wr => ∃ (pos : Nat) (ms : List Mark), gk = s.size - pos ∧ pos ≤ s.size + 4 ∧ Hid (cutFrom s pos ms = T ∧ MarksOk s pos ms) ∧ wr.heap[w.heap.size]? = some (.stringIter s pos) ∧ wr.ownsRow (w.heap.size + 1) 206 3 o ms.length (ms.flatMap markVal) ∧ Kept [] w wr ∧ w.heap.size + 1 ≤ wr.heap.size)
  case atStart =>
    exact ⟨0, [], by simp, by omega, ⟨unhide HT, ⟨by simp, by simp⟩⟩, World.iter_heap w s 0, World.ownsRow_nil _ _ _ _, (Kept.refl _ _).alloc _, by simp [World.iter]⟩
  case round =>
    obtain ⟨pos, ms, hgk, hp4, HM, hit, hown, hK, hsz⟩ := hrel
    have HG := hide hgk
    have HIT := hide hit
    clear hgk hit
    obtain ⟨ad, cap, rfl⟩ := row_nil hown
    by_cases hlt : pos < s.size
    · obtain ⟨rn, wd, hdec⟩ : ∃ rn wd, Utf8.decode s pos = (rn, wd) := ⟨_, _, rfl⟩
      have hwd4 : wd ≤ 4 := by have := decode_4 s pos; rw [hdec] at this; exact this
      have hwd : 1 ≤ wd := by have := decode_ge s pos hlt; rw [hdec] at this; exact this
      have hnx : ∀ ty, (Instr.next (.pointer (some ⟨w.heap.size, 0, none⟩)) true ty).run Tryz.prog wr = .ok (.tuple #[.bool true, .int .i64 pos, .int .i32 rn]) (setIter wr w.heap.size s (pos + wd)) := by
        intro ty; have h := next_any (P := Tryz.prog) (unhide HIT) ty hlt; rw [hdec] at h; exact h
      have hown2 := ownsRow_kept hown (setIter_kept wr w.heap.size s (pos + wd)) (by simp)
      have hit2 := hide (setIter_at (w := wr) (N := w.heap.size) (s := s) (pos := pos + wd) (by omega))
      have hsz2 : w.heap.size + 1 ≤ (setIter wr w.heap.size s (pos + wd)).heap.size := by rw [setIter_size]; exact hsz
      have hK2 : Kept [] w (setIter wr w.heap.size s (pos + wd)) := hK.trans' (setIter_kept wr w.heap.size s (pos + wd)) (by simp)
      have HL : Hid (cutFrom s (pos + wd) (layR ms pos rn) = T ∧ MarksOk s (pos + wd) (layR ms pos rn)) := by
        refine ⟨?_, HM.out.2.lay (by omega)⟩
        have h := HM.out.1; rw [cutFrom_step ms hlt, hdec] at h; exact h
      have hml : ms.length ≤ 1000000 := by have := HM.out.2.len; omega
      have HMB : Hid (∀ m ∈ ms, m.place ≤ 1000000 ∧ m.text.size ≤ 1000000) := fun m hm => by have := HM.out.2.each m hm; omega
      clear hdec hown hK HIT
      generalize setIter wr w.heap.size s (pos + wd) = w2 at hnx hown2 hit2 hsz2 hK2
      go_wp2_with fail
      clear hnx
      refine (lay_any _ ms pos rn (w.heap.size + 1) _ hsz2 hown2 hml (by omega) (unhide HMB)).mono ?_
      rintro e w3 ⟨v3, rfl, hown3, hBe⟩
      have hit3 := hide ((hBe.block w.heap.size (by omega)).trans (unhide hit2))
      have hK3 : Kept [] w w3 := ⟨hBe.os.trans hK2.os, hBe.tape.trans hK2.tape, hBe.output.trans hK2.output, Nat.le_trans hK2.size hBe.size, fun k hk _ => (hBe.block k (by omega)).trans (hK2.block k hk (by simp))⟩
      have hsz3 : w.heap.size + 1 ≤ w3.heap.size := Nat.le_trans hsz2 hBe.size
      clear hBe hK2 hit2 hown2 hsz2
      go_wp2_with fail
      go_roundg (s.size - (pos + wd))
      case measure => have := unhide HG; omega
      case rel => exact ⟨pos + wd, layR ms pos rn, rfl, by omega, HL, unhide hit3, hown3, hK3, hsz3⟩
    · have hnx : ∀ ty, (Instr.next (.pointer (some ⟨w.heap.size, 0, none⟩)) true ty).run Tryz.prog wr = .ok (.tuple #[.bool false]) wr := fun ty => next_end (P := Tryz.prog) (unhide HIT) ty hlt
      have HTm : Hid (ms = T ∧ MarksOk s pos ms) := ⟨by have h := HM.out.1; rwa [cutFrom_end ms hlt] at h, HM.out.2⟩
      clear HIT HM
      have e1 := HTm.out.1
      have HB : Hid (∀ m ∈ T, m.text.size ≤ 1000000 ∧ 0 < m.text.size) := fun m hm => by have := HTm.out.2.each m (by rw [e1]; exact hm); omega
      have hTl : T.length ≤ 400 := by have := HTm.out.2.len; rw [e1] at this; omega
      rw [e1] at hown ⊢
      clear HTm e1
      have HC : Hid (cutR s = T.map fixM ++ [endMark s]) := by show _ = _; unfold cutR; rw [unhide HT]
      clear HT HG
      go_wp2
      clear hnx
      go_loopw [19] (fun i wq => ∃ k : Nat, i = .int .i64 k ∧ k ≤ T.length ∧ wq.ownsRow (w.heap.size + 1) 206 3 (.slice ad T.length cap) T.length ((fixTo T k).flatMap markVal) ∧ Kept [] w wq ∧ w.heap.size + 1 ≤ wq.heap.size) (fun i _ => T.length - (intOf i).toNat)
      case atStart => exact ⟨0, rfl, Nat.zero_le _, by simpa [fixTo] using hown, hK, hsz⟩
      case round =>
        clear hown hK hsz
        obtain ⟨k, rfl, hk, hown, hK, hsz⟩ := hrel
        by_cases hlk : k < T.length
        · have hown' : wr.ownsRow (w.heap.size + 1) 206 3 (.slice ad T.length cap) (fixTo T k).length ((fixTo T k).flatMap markVal) := by rw [fixTo_len T k hk]; exact hown
          obtain ⟨g, cap', he, hc, hcell⟩ := row_get hown' (fun c _ => markVal_len c) k (by rw [fixTo_len T k hk]; exact hlk)
          simp only [Value.slice.injEq] at he
          obtain ⟨rfl, hxx, rfl⟩ := he
          clear hxx
          obtain ⟨m, hm⟩ : ∃ m, T[k] = m := ⟨_, rfl⟩
          have hget : ∀ h, (fixTo T k)[k]'h = m := by
            intro h
            have e : (fixTo T k)[k]? = some m := by
              have hl : ((T.take k).map fixM).length = k := by simp; omega
              rw [fixTo_split hlk, List.getElem?_append_right (by omega), hl, Nat.sub_self, hm]
              rfl
            rw [List.getElem?_eq_getElem h] at e
            exact Option.some.inj e
          have c0 := hcell k (by rw [fixTo_len T k hk]; exact hlk) 0 (by omega)
          have c1 := hcell k (by rw [fixTo_len T k hk]; exact hlk) 1 (by omega)
          have c2 := hcell k (by rw [fixTo_len T k hk]; exact hlk) 2 (by omega)
          rw [hget] at c0 c1 c2
          simp [markVal] at c0 c1 c2
          have hmb := HB.out m (by rw [← hm]; exact List.getElem_mem hlk)
          have W := isWhole_any m wr hmb.1 (fun _ => hmb.2)
          simp only [markVal] at W
          have HW := hide W
          have HS : Hid (fixTo T k = (T.take k).map fixM ++ m :: T.drop (k + 1) ∧ fixTo T (k + 1) = (T.take k).map fixM ++ fixM m :: T.drop (k + 1)) := ⟨by rw [fixTo_split hlk, hm], by rw [fixTo_next hlk, hm]⟩
          clear hcell hget hown' W hm hc
          go_wp2_with fail
          refine (unhide HW).mono ?_
          rintro e w1 ⟨rfl, hK1⟩
          have hown1 := ownsRow_kept hown hK1 (by simp)
          have hK1' := hK.trans hK1
          have hsz1 : w.heap.size + 1 ≤ w1.heap.size := Nat.le_trans hsz hK1.size
          cases hwh : wholeB m with
          | true =>
            have HN : Hid (fixTo T (k + 1) = fixTo T k) := by show _ = _; rw [HS.out.1, HS.out.2]; simp [fixM, hwh]
            clear HS HW hK1 c0 c1 c2 hown hK hsz
            go_wp2
            go_roundw
            case rel => exact ⟨k + 1, by go_num, by omega, by rw [HN.out]; exact hown1, hK1', hsz1⟩
            case measure => simp [intOf]; omega
          | false =>
            have hgl := hown1.lt g rfl
            have c0' : w1.cell? ⟨g, k * 3, none⟩ = some (.int .i64 m.kind) := by
              rw [World.cell?_of_block (w := wr) (hK1.block g (hown.lt g rfl).2 (by simp))]; exact c0
            have hfr := ownsRow_frozen hown1 (k * 3)
            have HN : Hid (((fixTo T k).flatMap markVal).set (k * 3) (.int .i64 0) = (fixTo T (k + 1)).flatMap markVal) := by
              show _ = _
              rw [HS.out.1, HS.out.2, flat_set0 _ _ _ k (by simp; omega)]
              simp [fixM, hwh]
            clear HS HW hK1 c0 c1 c2 hown hK hsz
            go_wp2
            go_roundw
            case rel =>
              refine ⟨k + 1, by go_num, by omega, ?_, hK1'.setCell (Or.inr (by have := hgl.1; simp; omega)) _, by simpa using hsz1⟩
              rw [← HN.out]
              exact ownsRow_setAt hown1 (k * 3) _
            case measure => simp [intOf]; omega
        · have hke : k = T.length := by omega
          have hown2 : wr.ownsRow (w.heap.size + 1) 206 3 (.slice ad T.length cap) T.length ((T.map fixM).flatMap markVal) := by
            have e : fixTo T k = T.map fixM := by unfold fixTo; rw [List.take_of_length_le (by omega), List.drop_eq_nil_of_le (by omega), List.append_nil]
            rw [e] at hown; exact hown
          clear hke hown
          go_wp2_with (at_builtin; refine wpList_append_lies _ rfl (.tmp 33) (.tmp 37) _ rfl (w.heap.size + 1) 206 i0 _ 3 32 Tryz.underlying200 hi0 hz0 hz1 hz2 rfl (by omega) (.slice ad T.length cap) T.length ((T.map fixM).flatMap markVal) rfl (World.ownsRow.alloc hown2 _) ⟨wr.heap.size, 0, none⟩ 1 1 (markVal (endMark s)) rfl rfl (World.news_of_block (cs := (markVal (endMark s)).toArray) (t := 206) (fr := (0, 0)) (heap_alloc_new wr _)) (by simp [Value.oneCell', markVal]) (by omega) (by unfold maxLen; omega) (by omega) (by simp; omega) (wr.heap.size + 1) (by simp) ?_; intro g1 cp1 w3 ho1 hg1 ha1 hl1)
          have hKn : Kept [] w w3 := (hK.alloc _).grown hg1 (fun q hq => Or.inr (by have := (hown2.lt q hq).1; omega))
          clear hg1 ha1 hl1
          go_wp2
          go_ret
          rw [HC.out]
          refine ⟨_, rfl, ?_, hKn⟩
          simpa using ho1

end Go.Proofs.YtoihbhenbmffcaaGreatDoor

namespace Go.Proofs.YtoihbhenbmffcaaGreatDoor
open Go.RowKit

/-- A reader of the program's: its block, the marks, where it stands. -/
structure RdIn (w : World) (b : Nat) (mv : Value) (ms : List Mark) (nx : Nat) (br : Int) : Prop where
  blk : Blk w b [mv, .int .i64 nx, .int .i64 br] 203
  row : w.ownsRow 0 206 3 mv ms.length (ms.flatMap markVal)
  ap : mv.ownBlock ≠ some b
  lt : nx < ms.length
  len : ms.length ≤ 1000

theorem RdIn.kept {w w' : World} {b : Nat} {mv : Value} {ms : List Mark} {nx nx' : Nat} {br br' : Int} (h : RdIn w b mv ms nx br) (k : Kept [b] w w') (hb : Blk w' b [mv, .int .i64 nx', .int .i64 br'] 203) (hl : nx' < ms.length) : RdIn w' b mv ms nx' br' :=
  ⟨hb, ownsRow_keptOf h.row k (fun i hi hm => by simp at hm; subst hm; exact h.ap hi), h.ap, hl, h.len⟩

theorem RdIn.kept0 {w w' : World} {b : Nat} {mv : Value} {ms : List Mark} {nx : Nat} {br : Int} (h : RdIn w b mv ms nx br) (k : Kept [] w w') : RdIn w' b mv ms nx br :=
  ⟨h.blk.kept k (by simp), ownsRow_kept h.row k (by simp), h.ap, h.lt, h.len⟩

theorem RdIn.cells {w : World} {b : Nat} {mv : Value} {ms : List Mark} {nx : Nat} {br : Int} (h : RdIn w b mv ms nx br) : ∃ g cap, mv = .slice (some ⟨g, 0, none⟩) ms.length cap ∧ w.cell? ⟨b, 0, none⟩ = some mv ∧ w.cell? ⟨b, 1, none⟩ = some (.int .i64 nx) ∧ w.cell? ⟨b, 2, none⟩ = some (.int .i64 br) ∧
    ∀ j (hj : j < ms.length), w.cell? ⟨g, j * 3, none⟩ = some (.int .i64 ms[j].kind) ∧ w.cell? ⟨g, j * 3 + 1, none⟩ = some (.int .i64 ms[j].place) ∧ w.cell? ⟨g, j * 3 + 2, none⟩ = some (.string ms[j].text) := by
  obtain ⟨g, cap, he, _, hc⟩ := row_get h.row (fun c _ => markVal_len c) nx h.lt
  refine ⟨g, cap, he, h.blk.cell 0, h.blk.cell 1, h.blk.cell 2, fun j hj => ?_⟩
  have c0 := hc j hj 0 (by omega)
  have c1 := hc j hj 1 (by omega)
  have c2 := hc j hj 2 (by omega)
  simp [markVal] at c0 c1 c2
  exact ⟨c0, c1, c2⟩

set_option maxHeartbeats 800000 in
theorem here_any (b : Nat) (mv : Value) (ms : List Mark) (nx : Nat) (br : Int) (w : World) (h : RdIn w b mv ms nx br) (m : Mark) (hm : ms[nx]'h.lt = m) :
    Calls Tryz.prog 161 #[.pointer (some ⟨b, 0, none⟩)] w fun e w' => e = .returned (.int .i64 m.place) ∧ Kept [] w w' := by
  obtain ⟨g, cap, rfl, b0, b1, _, hc⟩ := h.cells
  obtain ⟨c0, c1, c2⟩ := hc nx h.lt
  rw [hm] at c1
  have hlt : (nx : Int) < (ms.length : Int) := by have := h.lt; omega
  clear c0 c2 hc hm h
  go_enter Tryz.func161, Tryz.ntmps161
  go_wp2
  go_quiet (fail)
  go_wp2
  go_ret
  exact ⟨rfl, (Kept.refl _ _).drewN _⟩

theorem breakAt_any (b : Nat) (mv : Value) (ms : List Mark) (nx : Nat) (br p : Int) (w : World) (h : RdIn w b mv ms nx br) :
    Calls Tryz.prog 160 #[.pointer (some ⟨b, 0, none⟩), .int .i64 p] w fun e w' => e = .returned (.bool false) ∧ RdIn w' b mv ms nx p ∧ Kept [b] w w' := by
  have c2 := h.blk.cell 2
  have f2 := h.blk.frozen 2
  simp at c2
  have HR := h
  have HH : Hid (RdIn w b mv ms nx br) := h
  clear h HR
  go_enter Tryz.func160, Tryz.ntmps160
  go_wp2
  go_ret
  have hk : Kept [b] w (w.setCell ⟨b, 2, none⟩ (.int .i64 p)) := (Kept.refl _ _).setCell (by simp) _
  exact ⟨rfl, HH.out.kept hk (HH.out.blk.set 2 _) HH.out.lt, hk⟩

def seesM (m : Mark) (t : ByteArray) : Bool := m.kind == 5 && (m.text.toList == t.toList)

set_option maxRecDepth 100000 in
set_option maxHeartbeats 800000 in
theorem rsees_any (b : Nat) (mv : Value) (ms : List Mark) (nx : Nat) (br : Int) (t : ByteArray) (w : World) (h : RdIn w b mv ms nx br) (m : Mark) (hm : ms[nx]'h.lt = m) :
    Calls Tryz.prog 159 #[.pointer (some ⟨b, 0, none⟩), .string t] w fun e w' => e = .returned (.bool (seesM m t)) ∧ Kept [] w w' := by
  obtain ⟨g, cap, rfl, b0, b1, _, hc⟩ := h.cells
  obtain ⟨c0, c1, c2⟩ := hc nx h.lt
  rw [hm] at c0 c1 c2
  have hlt : (nx : Int) < (ms.length : Int) := by have := h.lt; omega
  have hnx0 : (0 : Int) ≤ (nx : Int) := by omega
  clear hc hm h
  have n0 := World.new_ne w _ b0
  have n1 := World.new_ne w _ b1
  have n2 := World.new_ne w _ c0
  have n3 := World.new_ne w _ c1
  have n4 := World.new_ne w _ c2
  go_enter Tryz.func159, Tryz.ntmps159
  go_wp2_with fail
  go_region_held3 (fun w' => w'.cell? ⟨b, 0, none⟩ = some (.slice (some ⟨g, 0, none⟩) ms.length cap) ∧ w'.cell? ⟨b, 1, none⟩ = some (.int .i64 nx) ∧ w'.cell? ⟨g, nx * 3, none⟩ = some (.int .i64 m.kind) ∧ w'.cell? ⟨g, nx * 3 + 1, none⟩ = some (.int .i64 m.place) ∧ w'.cell? ⟨g, nx * 3 + 2, none⟩ = some (.string m.text)) (go_keep) (fail)
  cases hk : (m.kind == 5) with
  | true =>
    have HF : Hid (seesM m t = (m.text.toList == t.toList)) := by show _ = _; simp [seesM, hk]
    go_wp2
    all_goals
      go_ret
      refine ⟨ret_bool ?_, ?_⟩
      · rw [HF.out]
      · repeat (first | refine Kept.drew ?_ | refine Kept.setCell ?_ (by simp) _ | refine Kept.alloc ?_ _ | refine Kept.drewN ?_ _)
        exact Kept.refl _ _
  | false =>
    have HF : Hid (seesM m t = false) := by show _ = _; simp [seesM, hk]
    go_wp2
    all_goals
      go_ret
      refine ⟨ret_bool ?_, ?_⟩
      · rw [HF.out]
      · repeat (first | refine Kept.drew ?_ | refine Kept.setCell ?_ (by simp) _ | refine Kept.alloc ?_ _ | refine Kept.drewN ?_ _)
        exact Kept.refl _ _

/-- Where a reader stands behind 'take'. -/
def takeTo (ms : List Mark) (nx : Nat) (t : ByteArray) : Nat := if h : nx < ms.length then (if seesM ms[nx] t then nx + 1 else nx) else nx

set_option maxHeartbeats 800000 in
theorem take_any (b : Nat) (mv : Value) (ms : List Mark) (nx : Nat) (br : Int) (t : ByteArray) (w : World) (h : RdIn w b mv ms nx br) (m : Mark) (hm : ms[nx]'h.lt = m) (hnext : seesM m t = true → nx + 1 < ms.length) :
    Calls Tryz.prog 162 #[.pointer (some ⟨b, 0, none⟩), .string t] w fun e w' => e = .returned (.bool (seesM m t)) ∧ RdIn w' b mv ms (if seesM m t then nx + 1 else nx) br ∧ Kept [b] w w' := by
  have HS := hide (rsees_any b mv ms nx br t w h m hm)
  have HH := hide h
  have hl := h.len
  have hlt := h.lt
  clear hm h
  have hnot : ∀ (x : Bool) (w : World), (Op.unary .not (.bool x)).run Tryz.prog w = .ok (.bool (!x)) w := fun _ _ => rfl
  cases hs : seesM m t with
  | true =>
    have hn1 := hide (hnext hs)
    rw [hs] at HS
    clear hs hnext
    simp only [if_true]
    go_enter Tryz.func162, Tryz.ntmps162
    go_wp2_with fail
    refine (unhide HS).mono ?_
    rintro e w1 ⟨rfl, hK1⟩
    have h1 := (unhide HH).kept0 hK1
    have HH1 := hide h1
    have c1 := h1.blk.cell 1
    have f1 := h1.blk.frozen 1
    simp at c1
    have hK1' := hK1.mono (N := [b]) (by simp)
    clear h1 hK1 HS HH
    go_wp2
    go_ret
    have hk : Kept [b] w1 (w1.setCell ⟨b, 1, none⟩ (.int .i64 ((nx : Int) + 1))) := (Kept.refl _ _).setCell (by simp) _
    exact ⟨rfl, (unhide HH1).kept hk ((unhide HH1).blk.set 1 _) (unhide hn1), hK1'.trans hk⟩
  | false =>
    rw [hs] at HS
    clear hs hnext
    simp only [Bool.false_eq_true, if_false]
    go_enter Tryz.func162, Tryz.ntmps162
    go_wp2_with fail
    refine (unhide HS).mono ?_
    rintro e w1 ⟨rfl, hK1⟩
    have HH1 := hide ((unhide HH).kept0 hK1)
    have hK1' := hK1.mono (N := [b]) (by simp)
    clear hK1 HS HH
    go_wp2
    go_ret
    exact ⟨rfl, unhide HH1, hK1'⟩

set_option maxHeartbeats 800000 in
theorem want_any (b : Nat) (mv : Value) (ms : List Mark) (nx : Nat) (br : Int) (t : ByteArray) (w : World) (h : RdIn w b mv ms nx br) (m : Mark) (hm : ms[nx]'h.lt = m) (hnext : seesM m t = true → nx + 1 < ms.length) :
    Calls Tryz.prog 163 #[.pointer (some ⟨b, 0, none⟩), .string t] w fun e w' => e = .returned (.bool (seesM m t)) ∧ RdIn w' b mv ms (if seesM m t then nx + 1 else nx) (if seesM m t then br else m.place) ∧ Kept [b] w w' := by
  have HT := hide (take_any b mv ms nx br t w h m hm hnext)
  have HM : Hid (∀ h : nx < ms.length, ms[nx] = m) := fun _ => hm
  clear hm hnext h
  cases hs : seesM m t with
  | true =>
    rw [hs] at HT
    have HS := hide hs
    clear hs
    go_enter Tryz.func163, Tryz.ntmps163
    go_wp2_with fail
    refine (unhide HT).mono ?_
    rintro e w1 ⟨rfl, h1, hK1⟩
    have HH := hide h1
    clear h1
    go_wp2
    go_ret
    exact ⟨rfl, unhide HH, hK1⟩
  | false =>
    rw [hs] at HT
    clear hs
    go_enter Tryz.func163, Tryz.ntmps163
    go_wp2_with fail
    refine (unhide HT).mono ?_
    rintro e w1 ⟨rfl, h1, hK1⟩
    simp only [Bool.false_eq_true, if_false] at h1 ⊢
    go_wp2_with fail
    refine (here_any b mv ms nx br _ h1 m ((unhide HM) _)).mono ?_
    rintro e w2 ⟨rfl, hK2⟩
    have h2 := h1.kept0 hK2
    go_wp2_with fail
    refine (breakAt_any b mv ms nx br m.place _ h2).mono ?_
    rintro e w3 ⟨rfl, h3, hK3⟩
    have HH := hide h3
    have hK3' := (hK1.trans (hK2.mono (by simp))).trans hK3
    clear h1 h2 h3
    go_wp2
    go_ret
    exact ⟨rfl, unhide HH, hK3'⟩

end Go.Proofs.YtoihbhenbmffcaaGreatDoor
