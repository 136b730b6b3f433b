/-
  The chapter's examples are so.
  Conditions: none.
-/
import Derived.Test.YtiikgfcfceldmaaEmp
import Derived.Test.YtiikgfcfceldmaaPutE
namespace Go.Proofs.Ytiikgfcfceldmaa
open Go.RowKit
set_option linter.unusedVariables false
set_option linter.unusedSimpArgs false

theorem new2 (u : ByteArray) (w : World) : Calls Try.prog 13 #[.string u] w fun q w' => q = .returned (.pointer (some ⟨w.heap.size, 0, none⟩)) ∧ Rd 73 w.heap.size u false w' ∧ Below w.heap.size w w' ∧ w'.heap.size = w.heap.size + 1 := by
  refine (new_any u w).mono ?_
  rintro q w' ⟨h1, rfl⟩
  exact ⟨h1, Rd.new w 73 u false, (Below.refl _ _).alloc (Nat.le_refl _) _, by simp⟩
theorem rnew2 (u : ByteArray) (w : World) : Calls Try.prog 14 #[.string u] w fun q w' => q = .returned (.pointer (some ⟨w.heap.size, 0, none⟩)) ∧ Rd 39 w.heap.size u false w' ∧ Below w.heap.size w w' ∧ w'.heap.size = w.heap.size + 1 := by
  refine (rnew_any u w).mono ?_
  rintro q w' ⟨h1, rfl⟩
  exact ⟨h1, Rd.new w 39 u false, (Below.refl _ _).alloc (Nat.le_refl _) _, by simp⟩
theorem ok2 (g : Nat) (T : ByteArray) (f : Bool) (w : World) (h : Rd 73 g T f w) : Calls Try.prog 17 #[.pointer (some ⟨g, 0, none⟩)] w fun q w' => q = .returned (.bool (!f)) ∧ w = w' := ok_any g T f w h
theorem left2 (g : Nat) (T : ByteArray) (f : Bool) (w : World) (h : Rd 73 g T f w) : Calls Try.prog 18 #[.pointer (some ⟨g, 0, none⟩)] w fun q w' => q = .returned (.int .i64 T.size) ∧ w = w' := left_any g T f w h

set_option maxHeartbeats 2000000 in
set_option maxRecDepth 100000 in
theorem getMsg_nil (w : World) : Calls Try.prog 22 #[.string ⟨#[]⟩] w fun q w' => q = .returned (.tuple #[mv mzz, .bool false]) ∧ Below w.heap.size w w' := by
  obtain ⟨W0, hW0⟩ : ∃ W0, W0 = w.alloc (Obj.cells (mc mzz) 44) := ⟨_, rfl⟩
  have k0 : W0.heap[w.heap.size]? = some (.cells (mc mzz) 44 (0, 0)) := by rw [hW0]; exact heap_alloc_new w _
  have b0 : Below w.heap.size w W0 := by rw [hW0]; exact (Below.refl _ _).alloc (Nat.le_refl _) _
  have s0 : W0.heap.size = w.heap.size + 1 := by rw [hW0]; simp
  have KN := Lib.hid (new2 ⟨#[]⟩ W0)
  have HW0 := Lib.hid hW0
  have HK0 := Lib.hid k0
  have HB0 := Lib.hid b0
  have HS0 := Lib.hid s0
  clear hW0 k0 b0 s0
  go_enter Try.func22, Try.ntmps22
  go_wp2_with (first
    | (go_at_call 13; rw [← HW0.out]; (with_reducible refine KN.out.mono ?_); rintro q w1 ⟨rfl, R1, b1, s1⟩; have HR1 := Lib.hid R1; have HK1 : Hid (w1.heap[w.heap.size]? = some (.cells (mc mzz) 44 (0, 0))) := (b1.block _ (by have := HS0.out; omega)).trans HK0.out; have HB1 : Hid (Below w.heap.size w w1) := HB0.out.trans (b1.mono HB0.out.size); clear R1 b1 s1)
    | (go_at_call 48; (with_reducible refine (readMsg_nil _ _ _ HR1.out).mono ?_); rintro q w2 ⟨rfl, R2, g2⟩; have HR2 : Hid (Rd 73 W0.heap.size ⟨#[]⟩ true (w2.alloc (.cells (mc mzz) 44))) := R2.below ((Below.refl _ _).alloc (Nat.le_refl _) _) R2.lt; have HK2 : Hid ((w2.alloc (.cells (mc mzz) 44)).heap[w.heap.size]? = some (.cells (mc mzz) 44 (0, 0))) := (Lib.alloc_old w2 _ _ (by have := g2.size; have := (Array.getElem?_eq_some_iff.1 HK1.out).1; omega)).trans ((g2.block _ (Array.getElem?_eq_some_iff.1 HK1.out).1 (by have := HS0.out; (simp; try omega))).trans HK1.out); have HB2 : Hid (Below w.heap.size w (w2.alloc (.cells (mc mzz) 44))) := (below_grownBy HB1.out g2 HB1.out.size (by have := HS0.out; omega)).alloc (Nat.le_trans HB1.out.size g2.size) _; have z0 : (w2.alloc (.cells (mc mzz) 44)).cell? ⟨w.heap.size, 0, none⟩ = some (.int .i64 0) := cell_of_row _ _ 0 _ 44 (0, 0) HK2.out; have z1 : (w2.alloc (.cells (mc mzz) 44)).cell? ⟨w.heap.size, 1, none⟩ = some (.int .i64 0) := cell_of_row _ _ 1 _ 44 (0, 0) HK2.out; have z2 : (w2.alloc (.cells (mc mzz) 44)).cell? ⟨w.heap.size, 2, none⟩ = some (.int .i64 0) := cell_of_row _ _ 2 _ 44 (0, 0) HK2.out; have z3 : (w2.alloc (.cells (mc mzz) 44)).cell? ⟨w.heap.size, 3, none⟩ = some (.int .u64 0) := cell_of_row _ _ 3 _ 44 (0, 0) HK2.out; have z4 : (w2.alloc (.cells (mc mzz) 44)).cell? ⟨w.heap.size, 4, none⟩ = some (.int .u64 0) := cell_of_row _ _ 4 _ 44 (0, 0) HK2.out; have z5 : (w2.alloc (.cells (mc mzz) 44)).cell? ⟨w.heap.size, 5, none⟩ = some (.int .u64 0) := cell_of_row _ _ 5 _ 44 (0, 0) HK2.out; have z6 : (w2.alloc (.cells (mc mzz) 44)).cell? ⟨w.heap.size, 6, none⟩ = some (.int .u64 0) := cell_of_row _ _ 6 _ 44 (0, 0) HK2.out; have z7 : (w2.alloc (.cells (mc mzz) 44)).cell? ⟨w.heap.size, 7, none⟩ = some (.int .u64 0) := cell_of_row _ _ 7 _ 44 (0, 0) HK2.out; have z8 : (w2.alloc (.cells (mc mzz) 44)).cell? ⟨w.heap.size, 8, none⟩ = some (.bool false) := cell_of_row _ _ 8 _ 44 (0, 0) HK2.out; have z9 : (w2.alloc (.cells (mc mzz) 44)).cell? ⟨w.heap.size, 9, none⟩ = some (.slice none 0 0) := cell_of_row _ _ 9 _ 44 (0, 0) HK2.out; have z10 : (w2.alloc (.cells (mc mzz) 44)).cell? ⟨w.heap.size, 10, none⟩ = some (.string ⟨#[]⟩) := cell_of_row _ _ 10 _ 44 (0, 0) HK2.out; have fz : ∀ i, (w2.alloc (.cells (mc mzz) 44)).frozen? ⟨w.heap.size, i, none⟩ = false := fun i => Md.of HK2.out; clear R2 g2)
    | (go_at_call 17; (with_reducible refine (ok2 _ _ _ _ HR2.out).mono ?_); rintro q w3 ⟨rfl, rfl⟩))
  obtain ⟨W2, hW2⟩ : ∃ W2, W2 = w2.alloc (Obj.cells (mc mzz) 44) := ⟨_, rfl⟩
  rw [← hW2] at HK2 HB2
  obtain ⟨WF, hWF⟩ : ∃ WF, WF = (((((((((((W2.setCell ⟨w.heap.size, 0, none⟩ (.int .i64 0)).setCell ⟨w.heap.size, 1, none⟩ (.int .i64 0)).setCell ⟨w.heap.size, 2, none⟩ (.int .i64 0)).setCell ⟨w.heap.size, 3, none⟩ (.int .u64 0)).setCell ⟨w.heap.size, 4, none⟩ (.int .u64 0)).setCell ⟨w.heap.size, 5, none⟩ (.int .u64 0)).setCell ⟨w.heap.size, 6, none⟩ (.int .u64 0)).setCell ⟨w.heap.size, 7, none⟩ (.int .u64 0)).setCell ⟨w.heap.size, 8, none⟩ (.bool false)).setCell ⟨w.heap.size, 9, none⟩ (.slice none 0 0)).setCell ⟨w.heap.size, 10, none⟩ (.string ⟨#[]⟩)) := ⟨_, rfl⟩
  rw [hW2] at hWF
  rw [← hWF]
  rw [← hW2] at hWF
  have hblk : WF.heap[w.heap.size]? = some (.cells (mc mzz) 44 (0, 0)) := by rw [hWF]; exact store_allm mzz HK2.out
  have f0 : WF.cell? ⟨w.heap.size, 0, none⟩ = some (.int .i64 0) := cell_of_row WF _ 0 _ 44 (0, 0) hblk
  have f1 : WF.cell? ⟨w.heap.size, 1, none⟩ = some (.int .i64 0) := cell_of_row WF _ 1 _ 44 (0, 0) hblk
  have f2 : WF.cell? ⟨w.heap.size, 2, none⟩ = some (.int .i64 0) := cell_of_row WF _ 2 _ 44 (0, 0) hblk
  have f3 : WF.cell? ⟨w.heap.size, 3, none⟩ = some (.int .u64 0) := cell_of_row WF _ 3 _ 44 (0, 0) hblk
  have f4 : WF.cell? ⟨w.heap.size, 4, none⟩ = some (.int .u64 0) := cell_of_row WF _ 4 _ 44 (0, 0) hblk
  have f5 : WF.cell? ⟨w.heap.size, 5, none⟩ = some (.int .u64 0) := cell_of_row WF _ 5 _ 44 (0, 0) hblk
  have f6 : WF.cell? ⟨w.heap.size, 6, none⟩ = some (.int .u64 0) := cell_of_row WF _ 6 _ 44 (0, 0) hblk
  have f7 : WF.cell? ⟨w.heap.size, 7, none⟩ = some (.int .u64 0) := cell_of_row WF _ 7 _ 44 (0, 0) hblk
  have f8 : WF.cell? ⟨w.heap.size, 8, none⟩ = some (.bool false) := cell_of_row WF _ 8 _ 44 (0, 0) hblk
  have f9 : WF.cell? ⟨w.heap.size, 9, none⟩ = some (.slice none 0 0) := cell_of_row WF _ 9 _ 44 (0, 0) hblk
  have f10 : WF.cell? ⟨w.heap.size, 10, none⟩ = some (.string ⟨#[]⟩) := cell_of_row WF _ 10 _ 44 (0, 0) hblk
  exact bodyPost_ret (v := .tuple #[mv mzz, .bool false]) (by simp [results, Try.results22, go_sem, f0, f1, f2, f3, f4, f5, f6, f7, f8, f9, f10]) rfl ⟨rfl, by rw [hWF]; exact below_allm mzz HB2.out (Nat.le_refl _)⟩

abbrev x1 : En := ⟨1, 2, 0, 0, 0, 0, 0, 0, 0, ⟨#[]⟩, ⟨#[]⟩⟩
abbrev x2 : En := ⟨1, 1, 11, 1, 0, 0, 0, 0, 0, ⟨#[]⟩, ⟨#[]⟩⟩
theorem x1_ok : x1.Ok := by constructor <;> decide
theorem x2_ok : x2.Ok := by constructor <;> decide
theorem x1_may : mayB x1 = true := by decide +kernel
theorem x2_may : mayB x2 = false := by decide +kernel
theorem x1_put : putS x1 = ⟨#[0, 0, 0, 0, 0, 0, 0, 0, 1, 0, 0, 0, 0, 0, 0, 0, 2, 0, 0, 0, 0, 0, 0, 0, 0, 0, 0, 0, 0, 0, 0, 0, 0, 0, 0, 0, 0, 0, 0, 0, 0, 0, 0, 0, 0, 0, 0, 0, 0, 0, 0, 0, 0, 0, 0, 0, 0, 0, 0, 0, 0, 0, 0, 0, 0, 0, 0, 0, 0, 0, 0, 0, 0, 0, 0, 0, 0, 0, 0, 0, 0, 0, 0, 0, 0, 0, 0, 0, 0, 0, 0, 0, 0, 0, 0, 0, 0, 0, 0, 0, 0, 0, 0, 0, 0, 0, 0, 0, 0, 0]⟩ := by decide +kernel
theorem x2_put : putS x2 = ⟨#[]⟩ := by unfold putS; rw [x2_may]; rfl

set_option maxHeartbeats 2000000 in
set_option maxRecDepth 100000 in
theorem examples_any (w : World) : Calls Try.prog 8 #[] w fun q w' => q = .returned (.bool true) ∧ Below w.heap.size w w' := by
  have K1 : Hid (∀ W, Calls Try.prog 9 #[ev x1] W fun q w' => q = .returned (.tuple #[.string ⟨#[0, 0, 0, 0, 0, 0, 0, 0, 1, 0, 0, 0, 0, 0, 0, 0, 2, 0, 0, 0, 0, 0, 0, 0, 0, 0, 0, 0, 0, 0, 0, 0, 0, 0, 0, 0, 0, 0, 0, 0, 0, 0, 0, 0, 0, 0, 0, 0, 0, 0, 0, 0, 0, 0, 0, 0, 0, 0, 0, 0, 0, 0, 0, 0, 0, 0, 0, 0, 0, 0, 0, 0, 0, 0, 0, 0, 0, 0, 0, 0, 0, 0, 0, 0, 0, 0, 0, 0, 0, 0, 0, 0, 0, 0, 0, 0, 0, 0, 0, 0, 0, 0, 0, 0, 0, 0, 0, 0, 0, 0]⟩, .bool true]) ∧ Below W.heap.size W w') := fun W => (put_any x1 W x1_ok).mono fun q w' ⟨h1, h2⟩ => ⟨by rw [h1, x1_put, x1_may], h2⟩
  have K2 : Hid (∀ W, Calls Try.prog 9 #[ev x2] W fun q w' => q = .returned (.tuple #[.string ⟨#[]⟩, .bool false]) ∧ Below W.heap.size W w') := fun W => (put_any x2 W x2_ok).mono fun q w' ⟨h1, h2⟩ => ⟨by rw [h1, x2_put, x2_may], h2⟩
  have K3 := Lib.hid (fun (W : World) => getMsg_nil W)
  go_enter Try.func8, Try.ntmps8
  go_wp2_with (first
    | (go_at_call 9; (with_reducible refine (K1.out _).mono ?_); rintro q w1 ⟨rfl, b1⟩; have HB1 := Lib.hid b1; clear b1)
    | (go_at_call 9; (with_reducible refine (K2.out _).mono ?_); rintro q w2 ⟨rfl, b2⟩; have HB2 : Hid (Below w.heap.size w w2) := HB1.out.trans (b2.mono HB1.out.size); clear b2)
    | (go_at_call 22; (with_reducible refine (K3.out _).mono ?_); rintro q w3 ⟨rfl, b3⟩; have HB3 : Hid (Below w.heap.size w w3) := HB2.out.trans (b3.mono HB2.out.size); clear b3))
  go_ret
  exact ⟨rfl, HB3.out.alloc HB3.out.size _⟩
end Go.Proofs.Ytiikgfcfceldmaa
