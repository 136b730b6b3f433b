/-
  GetMsg of a text without a byte.
  Conditions: none.
-/
import Derived.Test.YtmalcldpihpfpaaGreatMFl
import Derived.Test.YtmalcldpihpfpaaGreatTf2
import Derived.Test.YtmalcldpihpfpaaGreatNState
namespace Go.Proofs.YtmalcldpihpfpaaGreat
open Go.RowKit
open Vi
set_option linter.unusedVariables false
set_option linter.unusedSimpArgs false

theorem heap_wrm (w : World) (g k : Nat) (E : Ms) (h : k ≠ g) : (wrm w g E).heap[k]? = w.heap[k]? := by
  have hs : ∀ (w : World) (i : Nat) (u : Value), (w.setCell ⟨g, i, none⟩ u).heap[k]? = w.heap[k]? := fun w i u => Below.heap_setCell w _ _ k (by simp; omega)
  unfold wrm
  rw [hs, hs, hs, hs, hs, hs, hs, hs, hs, hs, hs]
theorem gb_wrm {w0 w : World} {g r : Nat} (E : Ms) (h : w0.grownBy w (some g)) (hr : w0.heap.size ≤ r) : w0.grownBy (wrm w r E) (some g) :=
  gb_set (gb_set (gb_set (gb_set (gb_set (gb_set (gb_set (gb_set (gb_set (gb_set (gb_set h hr) hr) hr) hr) hr) hr) hr) hr) hr) hr) hr
theorem var0 : varV ⟨#[]⟩ = 0 ∧ varT ⟨#[]⟩ = ⟨#[]⟩ ∧ varO ⟨#[]⟩ = false := by decide +kernel

set_option maxHeartbeats 4000000 in
set_option maxRecDepth 100000 in
theorem takeM_nil (b g : Nat) (w : World) (h : Rd 74 g ⟨#[]⟩ false w) :
    Calls Tryz.prog 45 #[.slice (some ⟨b, 0, none⟩) 12 12, .pointer (some ⟨g, 0, none⟩)] w fun e w' => e = .returned (mv mzz) ∧ Rd 74 g ⟨#[]⟩ true w' ∧ w.grownBy w' (some g) := by
  have hlt := h.lt
  obtain ⟨W1, hW1⟩ : ∃ W1, W1 = w.alloc (Obj.cells (mc mzz) 44) := ⟨_, rfl⟩
  have b1 : Below w.heap.size w W1 := by rw [hW1]; exact (Below.refl _ _).alloc (Nat.le_refl _) _
  have z1 : W1.heap.size = w.heap.size + 1 := by rw [hW1]; simp
  have r1 : W1.heap[w.heap.size]? = some (.cells (mc mzz) 44 (0, 0)) := by rw [hW1]; exact heap_alloc_new w _
  obtain ⟨W2, hW2⟩ : ∃ W2, W2 = W1.alloc (Obj.cells (mc mzz) 44) := ⟨_, rfl⟩
  have b2 : Below w.heap.size w W2 := by rw [hW2]; exact b1.alloc b1.size _
  have r2 : W2.heap[w.heap.size]? = some (.cells (mc mzz) 44 (0, 0)) := by rw [hW2]; exact blk_al _ r1
  have r3 : W2.heap[w.heap.size + 1]? = some (.cells (mc mzz) 44 (0, 0)) := by rw [hW2, ← z1]; exact heap_alloc_new W1 _
  have hr2 : Rd 74 g ⟨#[]⟩ false W2 := h.below b2 hlt
  have KV := var_any g ⟨#[]⟩ false W2 hr2 (Nat.zero_le _)
  rw [var0.1, var0.2.1, var0.2.2] at KV
  unfold rdp at KV
  have K98 := Lib.hid KV
  have HW : Hid (W2 = (w.alloc (Obj.cells (mc mzz) 44)).alloc (Obj.cells (mc mzz) 44)) := by show _ = _; rw [hW2, hW1]
  have HZ := Lib.hid z1
  have HB2 := Lib.hid b2
  have HR2 := Lib.hid r2
  have HR3 := Lib.hid r3
  have HLT := Lib.hid hlt
  clear h hW1 b1 z1 r1 hW2 b2 r2 r3 hr2 KV hlt
  go_enter Tryz.func45, Tryz.ntmps45
  go_wp2_with fail
  rw [← HW.out]
  clear HW
  obtain ⟨H0, hH0⟩ : ∃ H0, H0 = w.heap.size := ⟨_, rfl⟩
  have HH := Lib.hid hH0
  rw [← hH0] at HR2 HR3
  try rw [← hH0]
  clear hH0
  go_loopw [6] (fun l wr => l = .int .u64 0 ∧ wr = W2) (fun _ _ => 0)
  case atStart => exact ⟨rfl, rfl⟩
  case round =>
    obtain ⟨rfl, rfl⟩ := hrel
    go_wp2_with fail
    refine K98.out.mono ?_
    rintro e w3 ⟨rfl, R3, g3⟩
    have hlt := HLT.out
    have hh := HH.out
    have k0 : w3.heap[H0]? = some (.cells (mc mzz) 44 (0, 0)) := (g3.block _ (Array.getElem?_eq_some_iff.1 HR2.out).1 (by simp; omega)).trans HR2.out
    have k1 : w3.heap[H0 + 1]? = some (.cells (mc mzz) 44 (0, 0)) := (g3.block _ (Array.getElem?_eq_some_iff.1 HR3.out).1 (by simp; omega)).trans HR3.out
    have hg : w.grownBy w3 (some g) := ⟨g3.os.trans HB2.out.os, g3.tape.trans HB2.out.tape, g3.output.trans HB2.out.output, Nat.le_trans HB2.out.size g3.size, fun i hi hne => (g3.block i (Nat.lt_of_lt_of_le hi HB2.out.size) hne).trans (HB2.out.block i hi)⟩
    have x0 : w3.cell? ⟨H0, 0, none⟩ = some (.int .i64 0) := cell_of_row w3 _ 0 _ 44 (0, 0) k0
    have x1 : w3.cell? ⟨H0, 1, none⟩ = some (.int .i64 0) := cell_of_row w3 _ 1 _ 44 (0, 0) k0
    have x2 : w3.cell? ⟨H0, 2, none⟩ = some (.int .i64 0) := cell_of_row w3 _ 2 _ 44 (0, 0) k0
    have x3 : w3.cell? ⟨H0, 3, none⟩ = some (.int .u64 0) := cell_of_row w3 _ 3 _ 44 (0, 0) k0
    have x4 : w3.cell? ⟨H0, 4, none⟩ = some (.int .u64 0) := cell_of_row w3 _ 4 _ 44 (0, 0) k0
    have x5 : w3.cell? ⟨H0, 5, none⟩ = some (.int .u64 0) := cell_of_row w3 _ 5 _ 44 (0, 0) k0
    have x6 : w3.cell? ⟨H0, 6, none⟩ = some (.int .u64 0) := cell_of_row w3 _ 6 _ 44 (0, 0) k0
    have x7 : w3.cell? ⟨H0, 7, none⟩ = some (.int .u64 0) := cell_of_row w3 _ 7 _ 44 (0, 0) k0
    have x8 : w3.cell? ⟨H0, 8, none⟩ = some (.bool false) := cell_of_row w3 _ 8 _ 44 (0, 0) k0
    have x9 : w3.cell? ⟨H0, 9, none⟩ = some (.slice none 0 0) := cell_of_row w3 _ 9 _ 44 (0, 0) k0
    have x10 : w3.cell? ⟨H0, 10, none⟩ = some (.string ⟨#[]⟩) := cell_of_row w3 _ 10 _ 44 (0, 0) k0
    have y0 : w3.cell? ⟨H0 + 1, 0, none⟩ = some (.int .i64 0) := cell_of_row w3 _ 0 _ 44 (0, 0) k1
    have y1 : w3.cell? ⟨H0 + 1, 1, none⟩ = some (.int .i64 0) := cell_of_row w3 _ 1 _ 44 (0, 0) k1
    have y2 : w3.cell? ⟨H0 + 1, 2, none⟩ = some (.int .i64 0) := cell_of_row w3 _ 2 _ 44 (0, 0) k1
    have y3 : w3.cell? ⟨H0 + 1, 3, none⟩ = some (.int .u64 0) := cell_of_row w3 _ 3 _ 44 (0, 0) k1
    have y4 : w3.cell? ⟨H0 + 1, 4, none⟩ = some (.int .u64 0) := cell_of_row w3 _ 4 _ 44 (0, 0) k1
    have y5 : w3.cell? ⟨H0 + 1, 5, none⟩ = some (.int .u64 0) := cell_of_row w3 _ 5 _ 44 (0, 0) k1
    have y6 : w3.cell? ⟨H0 + 1, 6, none⟩ = some (.int .u64 0) := cell_of_row w3 _ 6 _ 44 (0, 0) k1
    have y7 : w3.cell? ⟨H0 + 1, 7, none⟩ = some (.int .u64 0) := cell_of_row w3 _ 7 _ 44 (0, 0) k1
    have y8 : w3.cell? ⟨H0 + 1, 8, none⟩ = some (.bool false) := cell_of_row w3 _ 8 _ 44 (0, 0) k1
    have y9 : w3.cell? ⟨H0 + 1, 9, none⟩ = some (.slice none 0 0) := cell_of_row w3 _ 9 _ 44 (0, 0) k1
    have y10 : w3.cell? ⟨H0 + 1, 10, none⟩ = some (.string ⟨#[]⟩) := cell_of_row w3 _ 10 _ 44 (0, 0) k1
    have fz : ∀ i, w3.frozen? ⟨H0, i, none⟩ = false := fun i => Lib.frozen_of_heap k0 i
    have hblk := store_allm mzz k0
    obtain ⟨WF, hWF⟩ : ∃ WF, WF = wrm w3 H0 mzz := ⟨_, rfl⟩
    rw [← hWF] at hblk
    have HRF : Hid (Rd 74 g ⟨#[]⟩ true WF) := by show Rd _ _ _ _ _; rw [hWF]; exact (heap_wrm w3 H0 g mzz (by omega)).trans R3
    have HGF : Hid (w.grownBy WF (some g)) := by show World.grownBy _ _ _; rw [hWF]; exact gb_wrm mzz hg (by omega)
    have HWF := Lib.hid hWF
    have HBK := Lib.hid hblk
    clear hWF hblk k0 k1 hg R3 g3 hlt hh
    go_wp2
    have hWF2 := HWF.out
    unfold wrm at hWF2
    rw [← hWF2]
    clear hWF2
    have f0 : WF.cell? ⟨H0, 0, none⟩ = some (.int .i64 0) := cell_of_row WF _ 0 _ 44 (0, 0) HBK.out
    have f1 : WF.cell? ⟨H0, 1, none⟩ = some (.int .i64 0) := cell_of_row WF _ 1 _ 44 (0, 0) HBK.out
    have f2 : WF.cell? ⟨H0, 2, none⟩ = some (.int .i64 0) := cell_of_row WF _ 2 _ 44 (0, 0) HBK.out
    have f3 : WF.cell? ⟨H0, 3, none⟩ = some (.int .u64 0) := cell_of_row WF _ 3 _ 44 (0, 0) HBK.out
    have f4 : WF.cell? ⟨H0, 4, none⟩ = some (.int .u64 0) := cell_of_row WF _ 4 _ 44 (0, 0) HBK.out
    have f5 : WF.cell? ⟨H0, 5, none⟩ = some (.int .u64 0) := cell_of_row WF _ 5 _ 44 (0, 0) HBK.out
    have f6 : WF.cell? ⟨H0, 6, none⟩ = some (.int .u64 0) := cell_of_row WF _ 6 _ 44 (0, 0) HBK.out
    have f7 : WF.cell? ⟨H0, 7, none⟩ = some (.int .u64 0) := cell_of_row WF _ 7 _ 44 (0, 0) HBK.out
    have f8 : WF.cell? ⟨H0, 8, none⟩ = some (.bool false) := cell_of_row WF _ 8 _ 44 (0, 0) HBK.out
    have f9 : WF.cell? ⟨H0, 9, none⟩ = some (.slice none 0 0) := cell_of_row WF _ 9 _ 44 (0, 0) HBK.out
    have f10 : WF.cell? ⟨H0, 10, none⟩ = some (.string ⟨#[]⟩) := cell_of_row WF _ 10 _ 44 (0, 0) HBK.out
    exact bodyPost_ret (v := mv mzz) (by simp [results, Tryz.results45, go_sem, f0, f1, f2, f3, f4, f5, f6, f7, f8, f9, f10]) rfl ⟨rfl, HRF.out, HGF.out⟩

set_option maxHeartbeats 4000000 in
set_option maxRecDepth 100000 in
theorem getM_nil (w : World) : Calls Tryz.prog 23 #[.string ⟨#[]⟩] w fun e w' => e = .returned (.tuple #[mv mzz, .bool false]) ∧ Below w.heap.size w w' := by
  obtain ⟨W0, hW0⟩ : ∃ W0, W0 = w.alloc (Obj.cells (mc mzz) 44) := ⟨_, rfl⟩
  have b0 : Below w.heap.size w W0 := by rw [hW0]; exact (Below.refl _ _).alloc (Nat.le_refl _) _
  have k0 : W0.heap[w.heap.size]? = some (.cells (mc mzz) 44 (0, 0)) := by rw [hW0]; exact heap_alloc_new w _
  have z0 : W0.heap.size = w.heap.size + 1 := by rw [hW0]; simp
  obtain ⟨W1, hW1⟩ : ∃ W1, W1 = W0.alloc (.cells #[.string ⟨#[]⟩, .bool false] 74) := ⟨_, rfl⟩
  have b1 : Below w.heap.size w W1 := by rw [hW1]; exact b0.alloc b0.size _
  have k1 : W1.heap[w.heap.size]? = some (.cells (mc mzz) 44 (0, 0)) := by rw [hW1]; exact blk_al _ k0
  have r1 : Rd 74 (w.heap.size + 1) ⟨#[]⟩ false W1 := by rw [hW1, ← z0]; exact Rd.new W0 74 ⟨#[]⟩ false
  have K14 : Hid (Calls Tryz.prog 14 #[.string ⟨#[]⟩] W0 fun e w' => e = .returned (.pointer (some ⟨w.heap.size + 1, 0, none⟩)) ∧ w' = W1) := by
    show Calls _ _ _ _ _
    have h := new_any ⟨#[]⟩ W0
    unfold rdp at h
    rw [z0, ← hW1] at h
    exact h
  have K42 := Lib.hid (mfields_any2 W1)
  have KT := Lib.hid (fun (b : Nat) (W : World) (h : Rd 74 (w.heap.size + 1) ⟨#[]⟩ false W) => takeM_nil b (w.heap.size + 1) W h)
  have HW := Lib.hid hW0
  have HB1 := Lib.hid b1
  have HK1 := Lib.hid k1
  have HR1 := Lib.hid r1
  obtain ⟨H0, hH0⟩ : ∃ H0, H0 = w.heap.size := ⟨_, rfl⟩
  have HH := Lib.hid hH0
  rw [← hH0] at HK1 HR1 KT K14
  clear hW0 b0 k0 z0 hW1 b1 k1 r1
  go_enter Tryz.func23, Tryz.ntmps23
  go_wp2_with fail
  rw [← HW.out]
  try rw [← hH0]
  clear hH0 HW
  refine K14.out.mono ?_
  rintro e w1 ⟨rfl, rfl⟩
  go_wp2_with fail
  refine K42.out.mono ?_
  rintro e w2 ⟨b, rfl, _, bb⟩
  have HR2 : Hid (Rd 74 (H0 + 1) ⟨#[]⟩ false w2) := HR1.out.below bb HR1.out.lt
  have HK2 : Hid (w2.heap[H0]? = some (.cells (mc mzz) 44 (0, 0))) := (bb.block _ (Array.getElem?_eq_some_iff.1 HK1.out).1).trans HK1.out
  have HB2 : Hid (Below w.heap.size w w2) := HB1.out.trans (bb.mono HB1.out.size)
  clear bb
  go_wp2_with fail
  refine (KT.out b w2 HR2.out).mono ?_
  rintro e w3 ⟨rfl, R3, g3⟩
  have HK3 : Hid (w3.heap[H0]? = some (.cells (mc mzz) 44 (0, 0))) := (g3.block _ (Array.getElem?_eq_some_iff.1 HK2.out).1 (by simp)).trans HK2.out
  have HB3 : Hid (Below w.heap.size w w3) := below_grownBy HB2.out g3 HB2.out.size (by rw [HH.out]; omega)
  obtain ⟨W4, hW4⟩ : ∃ W4, W4 = w3.alloc (Obj.cells (mc mzz) 44) := ⟨_, rfl⟩
  have b4 : Below w3.heap.size w3 W4 := by rw [hW4]; exact (Below.refl _ _).alloc (Nat.le_refl _) _
  have HR4 : Hid (Rd 74 (H0 + 1) ⟨#[]⟩ true W4) := R3.below b4 R3.lt
  have k4 : W4.heap[H0]? = some (.cells (mc mzz) 44 (0, 0)) := (b4.block _ (Array.getElem?_eq_some_iff.1 HK3.out).1).trans HK3.out
  have HB4 : Hid (Below w.heap.size w W4) := HB3.out.trans (b4.mono HB3.out.size)
  have HW4 := Lib.hid hW4
  have KO := Lib.hid (ok_any (H0 + 1) ⟨#[]⟩ true W4 HR4.out)
  have KO2 : Hid (Calls Tryz.prog 18 #[.pointer (some ⟨H0 + 1, 0, none⟩)] W4 fun e w' => e = .returned (.bool false) ∧ w' = W4) := KO.out.mono (by rintro e w' ⟨rfl, rfl⟩; exact ⟨rfl, rfl⟩)
  have x0 : W4.cell? ⟨H0, 0, none⟩ = some (.int .i64 0) := cell_of_row W4 _ 0 _ 44 (0, 0) k4
  have x1 : W4.cell? ⟨H0, 1, none⟩ = some (.int .i64 0) := cell_of_row W4 _ 1 _ 44 (0, 0) k4
  have x2 : W4.cell? ⟨H0, 2, none⟩ = some (.int .i64 0) := cell_of_row W4 _ 2 _ 44 (0, 0) k4
  have x3 : W4.cell? ⟨H0, 3, none⟩ = some (.int .u64 0) := cell_of_row W4 _ 3 _ 44 (0, 0) k4
  have x4 : W4.cell? ⟨H0, 4, none⟩ = some (.int .u64 0) := cell_of_row W4 _ 4 _ 44 (0, 0) k4
  have x5 : W4.cell? ⟨H0, 5, none⟩ = some (.int .u64 0) := cell_of_row W4 _ 5 _ 44 (0, 0) k4
  have x6 : W4.cell? ⟨H0, 6, none⟩ = some (.int .u64 0) := cell_of_row W4 _ 6 _ 44 (0, 0) k4
  have x7 : W4.cell? ⟨H0, 7, none⟩ = some (.int .u64 0) := cell_of_row W4 _ 7 _ 44 (0, 0) k4
  have x8 : W4.cell? ⟨H0, 8, none⟩ = some (.bool false) := cell_of_row W4 _ 8 _ 44 (0, 0) k4
  have x9 : W4.cell? ⟨H0, 9, none⟩ = some (.slice none 0 0) := cell_of_row W4 _ 9 _ 44 (0, 0) k4
  have x10 : W4.cell? ⟨H0, 10, none⟩ = some (.string ⟨#[]⟩) := cell_of_row W4 _ 10 _ 44 (0, 0) k4
  have fz : ∀ i, W4.frozen? ⟨H0, i, none⟩ = false := fun i => Lib.frozen_of_heap k4 i
  have hblk := store_allm mzz k4
  obtain ⟨WF, hWF⟩ : ∃ WF, WF = wrm W4 H0 mzz := ⟨_, rfl⟩
  rw [← hWF] at hblk
  have HBF : Hid (Below w.heap.size w WF) := by show Below _ _ _; rw [hWF]; exact below_allm mzz HB4.out (by rw [HH.out]; omega)
  have HWF := Lib.hid hWF
  have HBK := Lib.hid hblk
  clear hW4 b4 k4 hWF hblk R3 g3 KO
  go_wp2_with fail
  rw [← HW4.out]
  refine KO2.out.mono ?_
  rintro e w5 ⟨rfl, rfl⟩
  go_wp2
  have hWF2 := HWF.out
  unfold wrm at hWF2
  rw [← hWF2]
  clear hWF2
  have f0 : WF.cell? ⟨H0, 0, none⟩ = some (.int .i64 0) := cell_of_row WF _ 0 _ 44 (0, 0) HBK.out
  have f1 : WF.cell? ⟨H0, 1, none⟩ = some (.int .i64 0) := cell_of_row WF _ 1 _ 44 (0, 0) HBK.out
  have f2 : WF.cell? ⟨H0, 2, none⟩ = some (.int .i64 0) := cell_of_row WF _ 2 _ 44 (0, 0) HBK.out
  have f3 : WF.cell? ⟨H0, 3, none⟩ = some (.int .u64 0) := cell_of_row WF _ 3 _ 44 (0, 0) HBK.out
  have f4 : WF.cell? ⟨H0, 4, none⟩ = some (.int .u64 0) := cell_of_row WF _ 4 _ 44 (0, 0) HBK.out
  have f5 : WF.cell? ⟨H0, 5, none⟩ = some (.int .u64 0) := cell_of_row WF _ 5 _ 44 (0, 0) HBK.out
  have f6 : WF.cell? ⟨H0, 6, none⟩ = some (.int .u64 0) := cell_of_row WF _ 6 _ 44 (0, 0) HBK.out
  have f7 : WF.cell? ⟨H0, 7, none⟩ = some (.int .u64 0) := cell_of_row WF _ 7 _ 44 (0, 0) HBK.out
  have f8 : WF.cell? ⟨H0, 8, none⟩ = some (.bool false) := cell_of_row WF _ 8 _ 44 (0, 0) HBK.out
  have f9 : WF.cell? ⟨H0, 9, none⟩ = some (.slice none 0 0) := cell_of_row WF _ 9 _ 44 (0, 0) HBK.out
  have f10 : WF.cell? ⟨H0, 10, none⟩ = some (.string ⟨#[]⟩) := cell_of_row WF _ 10 _ 44 (0, 0) HBK.out
  exact bodyPost_ret (v := .tuple #[mv mzz, .bool false]) (by simp [results, Tryz.results23, go_sem, f0, f1, f2, f3, f4, f5, f6, f7, f8, f9, f10]) rfl ⟨rfl, HBF.out⟩
end Go.Proofs.YtmalcldpihpfpaaGreat
