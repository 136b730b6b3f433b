/-
  The document's own small functions of slots: Right, number, take, Sectors; a super and a hard state as the document's.
  Conditions: named in each theorem.
-/
import Derived.Test.YtdoombcihobejaaL8
namespace Go.Proofs.Ytdoombcihobejaa
open Go.RowKit Vi Sl
set_option linter.unusedVariables false
set_option linter.unusedSimpArgs false
theorem Try.ru7 : (Try.prog.info? 32).map (·.size) = some 7 := by kernel_rfl
theorem Try.rd3 : (Try.prog.info? 36).map (·.size) = some 3 := by kernel_rfl
theorem ru_cells {w : World} {g : Nat} {s : Su} (h : w.heap[g]? = some (.cells s.c 32 (0, 0))) :
    w.cell? ⟨g, 0, none⟩ = some (.int .i64 s.v) ∧ w.cell? ⟨g, 1, none⟩ = some (.int .i64 s.sn) ∧ w.cell? ⟨g, 2, none⟩ = some (.int .i64 s.lg) ∧ w.cell? ⟨g, 3, none⟩ = some (.int .i64 s.ar) ∧ w.cell? ⟨g, 4, none⟩ = some (.int .i64 s.hf) ∧ w.cell? ⟨g, 5, none⟩ = some (.int .i64 s.gl) ∧ w.cell? ⟨g, 6, none⟩ = some (.int .i64 s.sp) :=
  ⟨cell_of_row w g 0 _ 32 (0, 0) h, cell_of_row w g 1 _ 32 (0, 0) h, cell_of_row w g 2 _ 32 (0, 0) h, cell_of_row w g 3 _ 32 (0, 0) h, cell_of_row w g 4 _ 32 (0, 0) h, cell_of_row w g 5 _ 32 (0, 0) h, cell_of_row w g 6 _ 32 (0, 0) h⟩
theorem rh_cells {w : World} {g : Nat} {h : Hd} (hh : w.heap[g]? = some (.cells h.c 36 (0, 0))) :
    w.cell? ⟨g, 0, none⟩ = some (.int .u64 h.tm) ∧ w.cell? ⟨g, 1, none⟩ = some (.int .i64 h.vo) ∧ w.cell? ⟨g, 2, none⟩ = some (.int .u64 h.cm) :=
  ⟨cell_of_row w g 0 _ 36 (0, 0) hh, cell_of_row w g 1 _ 36 (0, 0) hh, cell_of_row w g 2 _ 36 (0, 0) hh⟩
set_option maxHeartbeats 800000 in
set_option maxRecDepth 100000 in
theorem ref_any (s : Su) (w : World) : Calls Try.prog 12 #[s.val] w fun e w' => e = .returned s.val ∧ Below w.heap.size w w' := by
  unfold Su.val Su.c
  go_enter Try.func12, Try.ntmps12
  go_wp2
  refine bodyPost_ret (v := .agg s.c) (results_cell_row Try.results12 _ _ (w.heap.size + 1) 32 _ (0, 0) _ rfl (heap_alloc2_new w _ _) Try.underlying32 rfl Try.ru7) rfl ⟨rfl, ((Below.refl _ _).alloc (Nat.le_refl _) _).alloc (by simp) _⟩
set_option maxHeartbeats 800000 in
set_option maxRecDepth 100000 in
theorem refHard_any (s : Hd) (w : World) : Calls Try.prog 15 #[s.val] w fun e w' => e = .returned s.val ∧ Below w.heap.size w w' := by
  unfold Hd.val Hd.c
  go_enter Try.func15, Try.ntmps15
  go_wp2
  refine bodyPost_ret (v := .agg s.c) (results_cell_row Try.results15 _ _ (w.heap.size + 1) 36 _ (0, 0) _ rfl (heap_alloc2_new w _ _) Try.underlying36 rfl Try.rd3) rfl ⟨rfl, ((Below.refl _ _).alloc (Nat.le_refl _) _).alloc (by simp) _⟩
theorem number_ref (v : Int) (n k : Nat) (w : World) (hn : n < 18446744073709551616) : Calls Try.prog 36 #[.int .i64 v, .int .u64 n, .int .i64 k] w fun e w' => e = .returned (.string (num v n k)) ∧ Below w.heap.size w w' := by
  have K1 := Lib.hid (rfixed_any n k w hn)
  have K2 := Lib.hid (rput_any n w hn)
  have HN : Hid (num v n k = if v = 1 then fxB n k else putB n) := rfl
  by_cases h1 : v = 1
  · subst h1
    go_enter Try.func36, Try.ntmps36
    go_wp2_with fail
    refine K1.out.mono ?_
    rintro e w1 ⟨rfl, b1⟩
    go_wp2
    go_ret
    exact ⟨rfl, b1⟩
  · have he : (v == 1) = false := by simpa using h1
    have hx : Hid (num v n k = putB n) := by show _ = _; rw [HN.out, if_neg h1]
    have H1 := Lib.hid h1
    clear h1 HN
    go_enter Try.func36, Try.ntmps36
    go_wp2_with fail
    refine K2.out.mono ?_
    rintro e w1 ⟨rfl, b1⟩
    go_wp2
    go_ret
    exact ⟨by rw [hx.out]; rfl, b1⟩
theorem take_ref (v : Int) (R : Nat) (u : ByteArray) (k : Nat) (W : World) (h : ∃ bad, Rd 113 R u bad W ∧ Sane u bad) (hu : u.size ≤ 281474976710656) :
    Calls Try.prog 45 #[.pointer (some ⟨R, 0, none⟩), .int .i64 v, .int .i64 k] W fun e w' => e = .returned (.int .u64 (takV v u k)) ∧ (∃ bad, Rd 113 R (takT v u k) bad w' ∧ Sane (takT v u k) bad) ∧ W.grownBy w' (some R) := by
  obtain ⟨bad, h, hs⟩ := h
  have K1 := Lib.hid (rfixedr_any R u bad k W h hs hu)
  have K2 := Lib.hid (rvar_any R u bad W h hu)
  have S1 := Lib.hid (sane_fix u bad k hs)
  have S2 := Lib.hid (sane_var u bad hs)
  clear h hs
  unfold rdp at *
  by_cases h1 : v = 1
  · subst h1
    go_enter Try.func45, Try.ntmps45
    go_wp2_with fail
    refine K1.out.mono ?_
    rintro e w1 ⟨rfl, h1, h2⟩
    go_wp2
    go_ret
    exact ⟨rfl, ⟨_, h1, S1.out⟩, h2⟩
  · have he : (v == 1) = false := by simpa using h1
    have hx : Hid (takV v u k = varV u) := by show _ = _; unfold takV; rw [if_neg h1]
    have hy : Hid (takT v u k = varT u) := by show _ = _; unfold takT; rw [if_neg h1]
    have H1 := Lib.hid h1
    clear h1
    go_enter Try.func45, Try.ntmps45
    go_wp2_with fail
    refine K2.out.mono ?_
    rintro e w1 ⟨rfl, h1, h2⟩
    go_wp2
    go_ret
    exact ⟨by rw [hx.out]; rfl, ⟨_, by rw [hy.out]; exact h1, by rw [hy.out]; exact S2.out⟩, h2⟩
set_option maxHeartbeats 2000000 in
set_option maxRecDepth 100000 in
theorem rright_any (s : Su) (w : World) : Calls Try.prog 34 #[s.val] w fun e w' => e = .returned (.bool (rgt s)) ∧ Below w.heap.size w w' := by
  have hI : Hid (∀ b : Bool, (b = true ↔ (1 ≤ s.v ∧ s.v ≤ 2) ∧ (1 ≤ s.sn ∧ s.sn ≤ 1000) ∧ (1 ≤ s.lg ∧ s.lg ≤ 1000) ∧ (0 ≤ s.ar ∧ s.ar ≤ 1) ∧ (0 ≤ s.hf ∧ s.hf ≤ 1) ∧ (0 ≤ s.gl ∧ s.gl ≤ 2) ∧ (0 ≤ s.sp ∧ s.sp ≤ 9) ∧ (s.gl ≠ 0 ∨ s.sp = 0)) → b = rgt s) := fun b h => by
    rw [Bool.eq_iff_iff, rgt_iff]; exact h
  have HB : Hid (Below w.heap.size w (w.alloc (.cells s.c 32))) := (Below.refl _ _).alloc (Nat.le_refl _) _
  unfold Su.val Su.c at *
  go_enter Try.func34, Try.ntmps34
  go_wp2
  all_goals
    go_ret
    refine ⟨congrArg (fun b => Ending.returned (Value.bool b)) (hI.out _ ?_), (Below.refl _ _).alloc (Nat.le_refl _) _⟩
    simp only [Bool.or_eq_true, Bool.and_eq_true, decide_eq_true_eq, beq_iff_eq, Bool.false_eq_true, true_iff, false_iff]
    omega
set_option maxHeartbeats 800000 in
set_option maxRecDepth 100000 in
theorem rsectors_any (s : Su) (w : World) : Calls Try.prog 22 #[s.val] w fun e w' => e = .returned (.int .i64 (sec s)) ∧ Below w.heap.size w w' := by
  have hc : (w.alloc (.cells s.c 32)).heap[w.heap.size]? = some (.cells s.c 32 (0, 0)) := heap_alloc_new w _
  have hb : Below w.heap.size w (w.alloc (.cells s.c 32)) := (Below.refl _ _).alloc (Nat.le_refl _) _
  obtain ⟨W, hW⟩ : ∃ W, W = w.alloc (.cells s.c 32) := ⟨_, rfl⟩
  rw [← hW] at hb hc
  have HK := Lib.hid (fun (W : World) => rright_any s W)
  have HI := Lib.hid (rgt_iff s)
  have HS : Hid (sec s = if rgt s then 4 + 2 * (s.sn + s.lg) else 0) := rfl
  obtain ⟨r, hr⟩ : ∃ r, r = rgt s := ⟨_, rfl⟩
  rw [← hr] at HK HS HI
  have HC := Lib.hid hc
  have HW := Lib.hid hW
  have HB := Lib.hid hb
  clear hr hb hW hc
  unfold Su.val Su.c at *
  go_enter Try.func22, Try.ntmps22
  go_wp2_with fail
  rw [← HW.out]
  refine (HK.out _).mono ?_
  rintro e w1 ⟨rfl, b1⟩
  have HB1 := Lib.hid (HB.out.trans (b1.mono HB.out.size))
  cases r with
  | false =>
    have hs : Hid (sec s = 0) := HS.out
    go_wp2
    go_ret
    exact ⟨by rw [hs.out]; rfl, HB1.out⟩
  | true =>
    have hs : Hid (sec s = 4 + 2 * (s.sn + s.lg)) := HS.out
    obtain ⟨_, h2, h3, _⟩ := HI.out.1 rfl
    have hc1 : w1.heap[w.heap.size]? = some (.cells s.c 32 (0, 0)) := (b1.block _ (Array.getElem?_eq_some_iff.1 HC.out).1).trans HC.out
    obtain ⟨c0, c1, c2, c3, c4, c5, c6⟩ := ru_cells hc1
    clear HC HW HB b1 hc1
    go_wp2
    go_ret
    exact ⟨by rw [hs.out]; rfl, HB1.out⟩
end Go.Proofs.Ytdoombcihobejaa
