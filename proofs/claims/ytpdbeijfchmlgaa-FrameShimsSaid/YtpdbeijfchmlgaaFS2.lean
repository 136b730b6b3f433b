/-
  Shim, the package's and the document's own, of any message.
  Conditions: the numbers are those of their kinds.
-/
import Derived.Test.YtpdbeijfchmlgaaFS
namespace Go.Proofs.Ytpdbeijfchmlgaa
open Go.RowKit
set_option linter.unusedVariables false
set_option linter.unusedSimpArgs false
theorem ents_keep {B : Nat} {A : Option Addr} {n : Nat} {es : List En} {w w' : World} (h : Ents B A n es w) (hk : ∀ a, A = some a → w'.heap[a.block]? = w.heap[a.block]?) (hs : B ≤ w'.heap.size) : Ents w'.heap.size A n es w' := by
  refine ⟨h.len, fun i e he => ?_⟩
  obtain ⟨a, hA, hB, hc⟩ := h.at_ i e he
  refine ⟨a, hA, by omega, fun j hj => ?_⟩
  rw [← hc j hj]
  exact World.cell?_of_block (by rw [block_of_add, block_of_add]; exact hk a hA)
theorem heap_wrm (W : World) (g k : Nat) (M : Ms) (h : k ≠ g) : (wrm W g M).heap[k]? = W.heap[k]? := by
  have hs : ∀ (w : World) (i : Nat) (u : Value), (w.setCell ⟨g, i, none⟩ u).heap[k]? = w.heap[k]? := fun w i u => Below.heap_setCell w _ _ k (by simp; omega)
  unfold wrm
  rw [hs, hs, hs, hs, hs, hs, hs, hs, hs, hs, hs]
set_option maxHeartbeats 2000000 in
set_option maxRecDepth 100000 in
theorem shim_1 (m : Ms) (w : World) (hE : Ents w.heap.size m.A m.n m.es w) (wd : m.Wide) (hr : mrightB m = true) (hl : mlvl m = 1) :
    Calls Try.prog 16 #[mv m] w (Shimd m w) := by
  have hyes : shimO m = true := by unfold shimO; rw [hr, decide_eq_true hl]; rfl
  have h9 : m.kind ≠ 9 := fun h => by have := mlvl9 h; omega
  have h10 : m.kind ≠ 10 := fun h => by have := mlvl10 h; omega
  have hM : shimM m = m := by unfold shimM; rw [hyes, if_neg (by decide), if_neg h9, if_neg h10]
  have hn := mright_n wd hr
  have HYES := Lib.hid hyes
  have HMM := Lib.hid hM
  have KC := Lib.hid (fun (W : World) (h : Ents W.heap.size m.A m.n m.es W) => clone_es m.A m.n m.c m.es W h hn)
  obtain ⟨W0, hW0⟩ : ∃ W0, W0 = (w.alloc (Obj.cells (mc m) 35)).alloc (Obj.cells (mc mzz) 35) := ⟨_, rfl⟩
  have b0 : Below w.heap.size w W0 := by rw [hW0]; exact ((Below.refl _ _).alloc (Nat.le_refl _) _).alloc (by simp) _
  have k0 : W0.heap[w.heap.size]? = some (.cells (mc m) 35 (0, 0)) := by rw [hW0]; exact blk_al _ (heap_alloc_new w _)
  have k1 : W0.heap[w.heap.size + 1]? = some (.cells (mc mzz) 35 (0, 0)) := by rw [hW0]; have h := heap_alloc_new (w.alloc (Obj.cells (mc m) 35)) (Obj.cells (mc mzz) 35); simpa using h
  have hE0 := (hE.below b0).mr b0.size
  have KR := Lib.hid (mright_any m W0 hE0 (wide_n wd) wd.eo)
  have KL := Lib.hid (fun (W : World) (h : Ents W.heap.size m.A m.n m.es W) => mlevel_any m W h (wide_n wd))
  have HW := Lib.hid hW0
  have HE := Lib.hid hE0
  have HEW := Lib.hid hE
  have HB0 := Lib.hid b0
  have HK0 := Lib.hid k0
  have HK1 := Lib.hid k1
  have HWD := Lib.hid wd
  clear hW0 b0 k0 k1 hE0
  rw [hr] at KR
  rw [hl] at KL
  clear hr hyes hM wd hE hl h9 h10 hn
  go_enter Try.func16, Try.ntmps16
  go_upto_region 1 with fail
  rw [← HW.out]
  have HM := HK0
  have HZ := HK1
  have HB := HB0
  clear HK0 HK1 HB0
  have a0 : W0.cell? ⟨w.heap.size, 0, none⟩ = some (.int .i64 m.kind) := cell_of_row W0 _ 0 _ 35 (0, 0) HM.out
  have a1 : W0.cell? ⟨w.heap.size, 1, none⟩ = some (.int .i64 m.frm) := cell_of_row W0 _ 1 _ 35 (0, 0) HM.out
  have a2 : W0.cell? ⟨w.heap.size, 2, none⟩ = some (.int .i64 m.dst) := cell_of_row W0 _ 2 _ 35 (0, 0) HM.out
  have a3 : W0.cell? ⟨w.heap.size, 3, none⟩ = some (.int .u64 m.term) := cell_of_row W0 _ 3 _ 35 (0, 0) HM.out
  have a4 : W0.cell? ⟨w.heap.size, 4, none⟩ = some (.int .u64 m.index) := cell_of_row W0 _ 4 _ 35 (0, 0) HM.out
  have a5 : W0.cell? ⟨w.heap.size, 5, none⟩ = some (.int .u64 m.prev) := cell_of_row W0 _ 5 _ 35 (0, 0) HM.out
  have a6 : W0.cell? ⟨w.heap.size, 6, none⟩ = some (.int .u64 m.commit) := cell_of_row W0 _ 6 _ 35 (0, 0) HM.out
  have a7 : W0.cell? ⟨w.heap.size, 7, none⟩ = some (.int .u64 m.mark) := cell_of_row W0 _ 7 _ 35 (0, 0) HM.out
  have a8 : W0.cell? ⟨w.heap.size, 8, none⟩ = some (.bool m.ok) := cell_of_row W0 _ 8 _ 35 (0, 0) HM.out
  have a9 : W0.cell? ⟨w.heap.size, 9, none⟩ = some (.slice m.A m.n m.c) := cell_of_row W0 _ 9 _ 35 (0, 0) HM.out
  have a10 : W0.cell? ⟨w.heap.size, 10, none⟩ = some (.string m.snap) := cell_of_row W0 _ 10 _ 35 (0, 0) HM.out
  go_wp2_with fail
  refine KR.out.mono ?_
  rintro q w1 ⟨rfl, b⟩
  have HM2 : Hid (w1.heap[w.heap.size]? = some (.cells (mc m) 35 (0, 0))) := (b.block _ (Array.getElem?_eq_some_iff.1 HM.out).1).trans HM.out
  have HZ2 : Hid (w1.heap[w.heap.size + 1]? = some (.cells (mc mzz) 35 (0, 0))) := (b.block _ (Array.getElem?_eq_some_iff.1 HZ.out).1).trans HZ.out
  have HB2 : Hid (Below w.heap.size w w1) := HB.out.trans (b.mono HB.out.size)
  have HE2 : Hid (Ents w1.heap.size m.A m.n m.es w1) := (HE.out.below b).mr b.size
  clear b HB HZ HM HE a0 a1 a2 a3 a4 a5 a6 a7 a8 a9 a10
  have HM := HM2
  have HZ := HZ2
  have HB := HB2
  have HE := HE2
  clear HM2 HZ2 HB2 HE2
  have a0 : w1.cell? ⟨w.heap.size, 0, none⟩ = some (.int .i64 m.kind) := cell_of_row w1 _ 0 _ 35 (0, 0) HM.out
  have a1 : w1.cell? ⟨w.heap.size, 1, none⟩ = some (.int .i64 m.frm) := cell_of_row w1 _ 1 _ 35 (0, 0) HM.out
  have a2 : w1.cell? ⟨w.heap.size, 2, none⟩ = some (.int .i64 m.dst) := cell_of_row w1 _ 2 _ 35 (0, 0) HM.out
  have a3 : w1.cell? ⟨w.heap.size, 3, none⟩ = some (.int .u64 m.term) := cell_of_row w1 _ 3 _ 35 (0, 0) HM.out
  have a4 : w1.cell? ⟨w.heap.size, 4, none⟩ = some (.int .u64 m.index) := cell_of_row w1 _ 4 _ 35 (0, 0) HM.out
  have a5 : w1.cell? ⟨w.heap.size, 5, none⟩ = some (.int .u64 m.prev) := cell_of_row w1 _ 5 _ 35 (0, 0) HM.out
  have a6 : w1.cell? ⟨w.heap.size, 6, none⟩ = some (.int .u64 m.commit) := cell_of_row w1 _ 6 _ 35 (0, 0) HM.out
  have a7 : w1.cell? ⟨w.heap.size, 7, none⟩ = some (.int .u64 m.mark) := cell_of_row w1 _ 7 _ 35 (0, 0) HM.out
  have a8 : w1.cell? ⟨w.heap.size, 8, none⟩ = some (.bool m.ok) := cell_of_row w1 _ 8 _ 35 (0, 0) HM.out
  have a9 : w1.cell? ⟨w.heap.size, 9, none⟩ = some (.slice m.A m.n m.c) := cell_of_row w1 _ 9 _ 35 (0, 0) HM.out
  have a10 : w1.cell? ⟨w.heap.size, 10, none⟩ = some (.string m.snap) := cell_of_row w1 _ 10 _ 35 (0, 0) HM.out
  go_wp2_with fail
  refine (KL.out _ HE.out).mono ?_
  rintro q w2 ⟨rfl, b⟩
  have HM2 : Hid (w2.heap[w.heap.size]? = some (.cells (mc m) 35 (0, 0))) := (b.block _ (Array.getElem?_eq_some_iff.1 HM.out).1).trans HM.out
  have HZ2 : Hid (w2.heap[w.heap.size + 1]? = some (.cells (mc mzz) 35 (0, 0))) := (b.block _ (Array.getElem?_eq_some_iff.1 HZ.out).1).trans HZ.out
  have HB2 : Hid (Below w.heap.size w w2) := HB.out.trans (b.mono HB.out.size)
  have HE2 : Hid (Ents w2.heap.size m.A m.n m.es w2) := (HE.out.below b).mr b.size
  clear b HB HZ HM HE a0 a1 a2 a3 a4 a5 a6 a7 a8 a9 a10
  have HM := HM2
  have HZ := HZ2
  have HB := HB2
  have HE := HE2
  clear HM2 HZ2 HB2 HE2
  have a0 : w2.cell? ⟨w.heap.size, 0, none⟩ = some (.int .i64 m.kind) := cell_of_row w2 _ 0 _ 35 (0, 0) HM.out
  have a1 : w2.cell? ⟨w.heap.size, 1, none⟩ = some (.int .i64 m.frm) := cell_of_row w2 _ 1 _ 35 (0, 0) HM.out
  have a2 : w2.cell? ⟨w.heap.size, 2, none⟩ = some (.int .i64 m.dst) := cell_of_row w2 _ 2 _ 35 (0, 0) HM.out
  have a3 : w2.cell? ⟨w.heap.size, 3, none⟩ = some (.int .u64 m.term) := cell_of_row w2 _ 3 _ 35 (0, 0) HM.out
  have a4 : w2.cell? ⟨w.heap.size, 4, none⟩ = some (.int .u64 m.index) := cell_of_row w2 _ 4 _ 35 (0, 0) HM.out
  have a5 : w2.cell? ⟨w.heap.size, 5, none⟩ = some (.int .u64 m.prev) := cell_of_row w2 _ 5 _ 35 (0, 0) HM.out
  have a6 : w2.cell? ⟨w.heap.size, 6, none⟩ = some (.int .u64 m.commit) := cell_of_row w2 _ 6 _ 35 (0, 0) HM.out
  have a7 : w2.cell? ⟨w.heap.size, 7, none⟩ = some (.int .u64 m.mark) := cell_of_row w2 _ 7 _ 35 (0, 0) HM.out
  have a8 : w2.cell? ⟨w.heap.size, 8, none⟩ = some (.bool m.ok) := cell_of_row w2 _ 8 _ 35 (0, 0) HM.out
  have a9 : w2.cell? ⟨w.heap.size, 9, none⟩ = some (.slice m.A m.n m.c) := cell_of_row w2 _ 9 _ 35 (0, 0) HM.out
  have a10 : w2.cell? ⟨w.heap.size, 10, none⟩ = some (.string m.snap) := cell_of_row w2 _ 10 _ 35 (0, 0) HM.out
  go_wp2_with fail
  refine (KC.out _ HE.out).mono ?_
  rintro q w3 ⟨A', c', rfl, hE3, b, hlo⟩
  have HM3 : Hid (w3.heap[w.heap.size]? = some (.cells (mc m) 35 (0, 0))) := (b.block _ (Array.getElem?_eq_some_iff.1 HM.out).1).trans HM.out
  have HZ3 : Hid (w3.heap[w.heap.size + 1]? = some (.cells (mc mzz) 35 (0, 0))) := (b.block _ (Array.getElem?_eq_some_iff.1 HZ.out).1).trans HZ.out
  have HB3 : Hid (Below w.heap.size w w3) := HB.out.trans (b.mono HB.out.size)
  have HLO : Hid (∀ a', A' = some a' → a'.block ≠ w.heap.size ∧ a'.block ≠ w.heap.size + 1) := fun a' ha => by
    have h1 := hlo a' ha
    have h2 := (Array.getElem?_eq_some_iff.1 HZ.out).1
    omega
  have HE3 := Lib.hid hE3
  obtain ⟨V, hV⟩ : ∃ V, V = w3.setCell ⟨w.heap.size, 9, none⟩ (.slice A' m.n c') := ⟨_, rfl⟩
  have HMV : Hid (V.heap[w.heap.size]? = some (.cells (mc { m with A := A', c := c' }) 35 (0, 0))) := by show _ = _; rw [hV]; exact set_blk HM3.out 9 _
  have HZV : Hid (V.heap[w.heap.size + 1]? = some (.cells (mc mzz) 35 (0, 0))) := by show _ = _; rw [hV]; exact (Below.heap_setCell _ _ _ _ (by simp)).trans HZ3.out
  have HBV : Hid (Below w.heap.size w V) := by show Below _ _ _; rw [hV]; exact HB3.out.setCell (p := ⟨w.heap.size, 9, none⟩) (Nat.le_refl _) _
  have HEV : Hid (Ents V.heap.size A' m.n m.es V) := ents_keep hE3 (fun a ha => by rw [hV]; exact Below.heap_setCell _ _ _ _ (by have := HLO.out a ha; simp; omega)) (by rw [hV]; simp [World.setCell])
  have fa : ∀ i, w3.frozen? ⟨w.heap.size, i, none⟩ = false := fun i => Md.of HM3.out
  have ca : w3.cell? ⟨w.heap.size, 9, none⟩ = some (.slice m.A m.n m.c) := cell_of_row w3 _ 9 _ 35 (0, 0) HM3.out
  have HVV := Lib.hid hV
  clear b hV HB HZ HM hlo hE3 a0 a1 a2 a3 a4 a5 a6 a7 a8 a9 a10
  have HZ := HZV
  have HB := HBV
  clear HZV HBV
  go_upto_region 5 with fail
  rw [← HVV.out]
  clear fa ca
  have a0 : V.cell? ⟨w.heap.size, 0, none⟩ = some (.int .i64 m.kind) := cell_of_row V _ 0 _ 35 (0, 0) HMV.out
  have a1 : V.cell? ⟨w.heap.size, 1, none⟩ = some (.int .i64 m.frm) := cell_of_row V _ 1 _ 35 (0, 0) HMV.out
  have a2 : V.cell? ⟨w.heap.size, 2, none⟩ = some (.int .i64 m.dst) := cell_of_row V _ 2 _ 35 (0, 0) HMV.out
  have a3 : V.cell? ⟨w.heap.size, 3, none⟩ = some (.int .u64 m.term) := cell_of_row V _ 3 _ 35 (0, 0) HMV.out
  have a4 : V.cell? ⟨w.heap.size, 4, none⟩ = some (.int .u64 m.index) := cell_of_row V _ 4 _ 35 (0, 0) HMV.out
  have a5 : V.cell? ⟨w.heap.size, 5, none⟩ = some (.int .u64 m.prev) := cell_of_row V _ 5 _ 35 (0, 0) HMV.out
  have a6 : V.cell? ⟨w.heap.size, 6, none⟩ = some (.int .u64 m.commit) := cell_of_row V _ 6 _ 35 (0, 0) HMV.out
  have a7 : V.cell? ⟨w.heap.size, 7, none⟩ = some (.int .u64 m.mark) := cell_of_row V _ 7 _ 35 (0, 0) HMV.out
  have a8 : V.cell? ⟨w.heap.size, 8, none⟩ = some (.bool m.ok) := cell_of_row V _ 8 _ 35 (0, 0) HMV.out
  have a9 : V.cell? ⟨w.heap.size, 9, none⟩ = some (.slice A' m.n c') := cell_of_row V _ 9 _ 35 (0, 0) HMV.out
  have a10 : V.cell? ⟨w.heap.size, 10, none⟩ = some (.string m.snap) := cell_of_row V _ 10 _ 35 (0, 0) HMV.out
  have z0 : V.cell? ⟨w.heap.size + 1, 0, none⟩ = some (.int .i64 0) := cell_of_row V _ 0 _ 35 (0, 0) HZ.out
  have z1 : V.cell? ⟨w.heap.size + 1, 1, none⟩ = some (.int .i64 0) := cell_of_row V _ 1 _ 35 (0, 0) HZ.out
  have z2 : V.cell? ⟨w.heap.size + 1, 2, none⟩ = some (.int .i64 0) := cell_of_row V _ 2 _ 35 (0, 0) HZ.out
  have z3 : V.cell? ⟨w.heap.size + 1, 3, none⟩ = some (.int .u64 0) := cell_of_row V _ 3 _ 35 (0, 0) HZ.out
  have z4 : V.cell? ⟨w.heap.size + 1, 4, none⟩ = some (.int .u64 0) := cell_of_row V _ 4 _ 35 (0, 0) HZ.out
  have z5 : V.cell? ⟨w.heap.size + 1, 5, none⟩ = some (.int .u64 0) := cell_of_row V _ 5 _ 35 (0, 0) HZ.out
  have z6 : V.cell? ⟨w.heap.size + 1, 6, none⟩ = some (.int .u64 0) := cell_of_row V _ 6 _ 35 (0, 0) HZ.out
  have z7 : V.cell? ⟨w.heap.size + 1, 7, none⟩ = some (.int .u64 0) := cell_of_row V _ 7 _ 35 (0, 0) HZ.out
  have z8 : V.cell? ⟨w.heap.size + 1, 8, none⟩ = some (.bool false) := cell_of_row V _ 8 _ 35 (0, 0) HZ.out
  have z9 : V.cell? ⟨w.heap.size + 1, 9, none⟩ = some (.slice none 0 0) := cell_of_row V _ 9 _ 35 (0, 0) HZ.out
  have z10 : V.cell? ⟨w.heap.size + 1, 10, none⟩ = some (.string ⟨#[]⟩) := cell_of_row V _ 10 _ 35 (0, 0) HZ.out
  have fz : ∀ i, V.frozen? ⟨w.heap.size + 1, i, none⟩ = false := fun i => Md.of HZ.out
  go_wp2
  obtain ⟨WF, hWF⟩ : ∃ WF, WF = wrm V (w.heap.size + 1) ({ m with A := A', c := c' } : Ms) := ⟨_, rfl⟩
  have hblk : WF.heap[w.heap.size + 1]? = some (.cells (mc ({ m with A := A', c := c' } : Ms)) 35 (0, 0)) := by rw [hWF]; exact store_allm ({ m with A := A', c := c' } : Ms) HZ.out
  have hbF : Below w.heap.size w WF := by rw [hWF]; exact below_allm ({ m with A := A', c := c' } : Ms) HB.out (by omega)
  have HEF : Hid (∀ A n es, Ents w.heap.size A n es w → Ents WF.heap.size A n es WF) := fun A n es h => (h.below hbF).mr hbF.size
  have HFB := Lib.hid hbF
  have HWE : Hid (WF = wrm V (w.heap.size + 1) ({ m with A := A', c := c' } : Ms)) := hWF
  unfold wrm at hWF
  rw [← hWF]
  have HWF := Lib.hid hWF
  clear hWF
  have f0 : WF.cell? ⟨w.heap.size + 1, 0, none⟩ = some (.int .i64 m.kind) := cell_of_row WF _ 0 _ 35 (0, 0) hblk
  have f1 : WF.cell? ⟨w.heap.size + 1, 1, none⟩ = some (.int .i64 m.frm) := cell_of_row WF _ 1 _ 35 (0, 0) hblk
  have f2 : WF.cell? ⟨w.heap.size + 1, 2, none⟩ = some (.int .i64 m.dst) := cell_of_row WF _ 2 _ 35 (0, 0) hblk
  have f3 : WF.cell? ⟨w.heap.size + 1, 3, none⟩ = some (.int .u64 m.term) := cell_of_row WF _ 3 _ 35 (0, 0) hblk
  have f4 : WF.cell? ⟨w.heap.size + 1, 4, none⟩ = some (.int .u64 m.index) := cell_of_row WF _ 4 _ 35 (0, 0) hblk
  have f5 : WF.cell? ⟨w.heap.size + 1, 5, none⟩ = some (.int .u64 m.prev) := cell_of_row WF _ 5 _ 35 (0, 0) hblk
  have f6 : WF.cell? ⟨w.heap.size + 1, 6, none⟩ = some (.int .u64 m.commit) := cell_of_row WF _ 6 _ 35 (0, 0) hblk
  have f7 : WF.cell? ⟨w.heap.size + 1, 7, none⟩ = some (.int .u64 m.mark) := cell_of_row WF _ 7 _ 35 (0, 0) hblk
  have f8 : WF.cell? ⟨w.heap.size + 1, 8, none⟩ = some (.bool m.ok) := cell_of_row WF _ 8 _ 35 (0, 0) hblk
  have f9 : WF.cell? ⟨w.heap.size + 1, 9, none⟩ = some (.slice A' m.n c') := cell_of_row WF _ 9 _ 35 (0, 0) hblk
  have f10 : WF.cell? ⟨w.heap.size + 1, 10, none⟩ = some (.string m.snap) := cell_of_row WF _ 10 _ 35 (0, 0) hblk
  exact bodyPost_ret (v := .tuple #[mv ({ m with A := A', c := c' } : Ms), .bool true]) (by simp [results, Try.results16, go_sem, f0, f1, f2, f3, f4, f5, f6, f7, f8, f9, f10]) rfl (shim_end (ents_keep HEV.out (fun a ha => by rw [HWE.out]; exact heap_wrm _ _ _ _ (HLO.out a ha).2) (by rw [HWE.out]; simp [World.setCell])) (by rw [HMM.out]; exact ⟨A', c', rfl⟩) HYES.out.symm HFB.out)
set_option maxHeartbeats 2000000 in
set_option maxRecDepth 100000 in
theorem shim_n (m : Ms) (w : World) (hE : Ents w.heap.size m.A m.n m.es w) (wd : m.Wide) (hr : mrightB m = true) (hl : mlvl m = 2) (h9 : m.kind ≠ 9) (h10 : m.kind ≠ 10) :
    Calls Try.prog 16 #[mv m] w (Shimd m w) := by
  have hno : shimO m = false := by unfold shimO; rw [hl, decide_eq_false h9, decide_eq_false h10]; simp
  have HNO := Lib.hid hno
  obtain ⟨W0, hW0⟩ : ∃ W0, W0 = (w.alloc (Obj.cells (mc m) 35)).alloc (Obj.cells (mc mzz) 35) := ⟨_, rfl⟩
  have b0 : Below w.heap.size w W0 := by rw [hW0]; exact ((Below.refl _ _).alloc (Nat.le_refl _) _).alloc (by simp) _
  have k0 : W0.heap[w.heap.size]? = some (.cells (mc m) 35 (0, 0)) := by rw [hW0]; exact blk_al _ (heap_alloc_new w _)
  have k1 : W0.heap[w.heap.size + 1]? = some (.cells (mc mzz) 35 (0, 0)) := by rw [hW0]; have h := heap_alloc_new (w.alloc (Obj.cells (mc m) 35)) (Obj.cells (mc mzz) 35); simpa using h
  have hE0 := (hE.below b0).mr b0.size
  have KR := Lib.hid (mright_any m W0 hE0 (wide_n wd) wd.eo)
  have KL := Lib.hid (fun (W : World) (h : Ents W.heap.size m.A m.n m.es W) => mlevel_any m W h (wide_n wd))
  have HW := Lib.hid hW0
  have HE := Lib.hid hE0
  have HEW := Lib.hid hE
  have HB0 := Lib.hid b0
  have HK0 := Lib.hid k0
  have HK1 := Lib.hid k1
  have HWD := Lib.hid wd
  clear hW0 b0 k0 k1 hE0
  rw [hr] at KR
  rw [hl] at KL
  clear hr hno wd hE hl
  go_enter Try.func16, Try.ntmps16
  go_upto_region 1 with fail
  rw [← HW.out]
  have HM := HK0
  have HZ := HK1
  have HB := HB0
  clear HK0 HK1 HB0
  have a0 : W0.cell? ⟨w.heap.size, 0, none⟩ = some (.int .i64 m.kind) := cell_of_row W0 _ 0 _ 35 (0, 0) HM.out
  have a1 : W0.cell? ⟨w.heap.size, 1, none⟩ = some (.int .i64 m.frm) := cell_of_row W0 _ 1 _ 35 (0, 0) HM.out
  have a2 : W0.cell? ⟨w.heap.size, 2, none⟩ = some (.int .i64 m.dst) := cell_of_row W0 _ 2 _ 35 (0, 0) HM.out
  have a3 : W0.cell? ⟨w.heap.size, 3, none⟩ = some (.int .u64 m.term) := cell_of_row W0 _ 3 _ 35 (0, 0) HM.out
  have a4 : W0.cell? ⟨w.heap.size, 4, none⟩ = some (.int .u64 m.index) := cell_of_row W0 _ 4 _ 35 (0, 0) HM.out
  have a5 : W0.cell? ⟨w.heap.size, 5, none⟩ = some (.int .u64 m.prev) := cell_of_row W0 _ 5 _ 35 (0, 0) HM.out
  have a6 : W0.cell? ⟨w.heap.size, 6, none⟩ = some (.int .u64 m.commit) := cell_of_row W0 _ 6 _ 35 (0, 0) HM.out
  have a7 : W0.cell? ⟨w.heap.size, 7, none⟩ = some (.int .u64 m.mark) := cell_of_row W0 _ 7 _ 35 (0, 0) HM.out
  have a8 : W0.cell? ⟨w.heap.size, 8, none⟩ = some (.bool m.ok) := cell_of_row W0 _ 8 _ 35 (0, 0) HM.out
  have a9 : W0.cell? ⟨w.heap.size, 9, none⟩ = some (.slice m.A m.n m.c) := cell_of_row W0 _ 9 _ 35 (0, 0) HM.out
  have a10 : W0.cell? ⟨w.heap.size, 10, none⟩ = some (.string m.snap) := cell_of_row W0 _ 10 _ 35 (0, 0) HM.out
  go_wp2_with fail
  refine KR.out.mono ?_
  rintro q w1 ⟨rfl, b⟩
  have HM2 : Hid (w1.heap[w.heap.size]? = some (.cells (mc m) 35 (0, 0))) := (b.block _ (Array.getElem?_eq_some_iff.1 HM.out).1).trans HM.out
  have HZ2 : Hid (w1.heap[w.heap.size + 1]? = some (.cells (mc mzz) 35 (0, 0))) := (b.block _ (Array.getElem?_eq_some_iff.1 HZ.out).1).trans HZ.out
  have HB2 : Hid (Below w.heap.size w w1) := HB.out.trans (b.mono HB.out.size)
  have HE2 : Hid (Ents w1.heap.size m.A m.n m.es w1) := (HE.out.below b).mr b.size
  clear b HB HZ HM HE a0 a1 a2 a3 a4 a5 a6 a7 a8 a9 a10
  have HM := HM2
  have HZ := HZ2
  have HB := HB2
  have HE := HE2
  clear HM2 HZ2 HB2 HE2
  have a0 : w1.cell? ⟨w.heap.size, 0, none⟩ = some (.int .i64 m.kind) := cell_of_row w1 _ 0 _ 35 (0, 0) HM.out
  have a1 : w1.cell? ⟨w.heap.size, 1, none⟩ = some (.int .i64 m.frm) := cell_of_row w1 _ 1 _ 35 (0, 0) HM.out
  have a2 : w1.cell? ⟨w.heap.size, 2, none⟩ = some (.int .i64 m.dst) := cell_of_row w1 _ 2 _ 35 (0, 0) HM.out
  have a3 : w1.cell? ⟨w.heap.size, 3, none⟩ = some (.int .u64 m.term) := cell_of_row w1 _ 3 _ 35 (0, 0) HM.out
  have a4 : w1.cell? ⟨w.heap.size, 4, none⟩ = some (.int .u64 m.index) := cell_of_row w1 _ 4 _ 35 (0, 0) HM.out
  have a5 : w1.cell? ⟨w.heap.size, 5, none⟩ = some (.int .u64 m.prev) := cell_of_row w1 _ 5 _ 35 (0, 0) HM.out
  have a6 : w1.cell? ⟨w.heap.size, 6, none⟩ = some (.int .u64 m.commit) := cell_of_row w1 _ 6 _ 35 (0, 0) HM.out
  have a7 : w1.cell? ⟨w.heap.size, 7, none⟩ = some (.int .u64 m.mark) := cell_of_row w1 _ 7 _ 35 (0, 0) HM.out
  have a8 : w1.cell? ⟨w.heap.size, 8, none⟩ = some (.bool m.ok) := cell_of_row w1 _ 8 _ 35 (0, 0) HM.out
  have a9 : w1.cell? ⟨w.heap.size, 9, none⟩ = some (.slice m.A m.n m.c) := cell_of_row w1 _ 9 _ 35 (0, 0) HM.out
  have a10 : w1.cell? ⟨w.heap.size, 10, none⟩ = some (.string m.snap) := cell_of_row w1 _ 10 _ 35 (0, 0) HM.out
  go_wp2_with fail
  refine (KL.out _ HE.out).mono ?_
  rintro q w2 ⟨rfl, b⟩
  have HM2 : Hid (w2.heap[w.heap.size]? = some (.cells (mc m) 35 (0, 0))) := (b.block _ (Array.getElem?_eq_some_iff.1 HM.out).1).trans HM.out
  have HZ2 : Hid (w2.heap[w.heap.size + 1]? = some (.cells (mc mzz) 35 (0, 0))) := (b.block _ (Array.getElem?_eq_some_iff.1 HZ.out).1).trans HZ.out
  have HB2 : Hid (Below w.heap.size w w2) := HB.out.trans (b.mono HB.out.size)
  have HE2 : Hid (Ents w2.heap.size m.A m.n m.es w2) := (HE.out.below b).mr b.size
  clear b HB HZ HM HE a0 a1 a2 a3 a4 a5 a6 a7 a8 a9 a10
  have HM := HM2
  have HZ := HZ2
  have HB := HB2
  have HE := HE2
  clear HM2 HZ2 HB2 HE2
  have a0 : w2.cell? ⟨w.heap.size, 0, none⟩ = some (.int .i64 m.kind) := cell_of_row w2 _ 0 _ 35 (0, 0) HM.out
  have a1 : w2.cell? ⟨w.heap.size, 1, none⟩ = some (.int .i64 m.frm) := cell_of_row w2 _ 1 _ 35 (0, 0) HM.out
  have a2 : w2.cell? ⟨w.heap.size, 2, none⟩ = some (.int .i64 m.dst) := cell_of_row w2 _ 2 _ 35 (0, 0) HM.out
  have a3 : w2.cell? ⟨w.heap.size, 3, none⟩ = some (.int .u64 m.term) := cell_of_row w2 _ 3 _ 35 (0, 0) HM.out
  have a4 : w2.cell? ⟨w.heap.size, 4, none⟩ = some (.int .u64 m.index) := cell_of_row w2 _ 4 _ 35 (0, 0) HM.out
  have a5 : w2.cell? ⟨w.heap.size, 5, none⟩ = some (.int .u64 m.prev) := cell_of_row w2 _ 5 _ 35 (0, 0) HM.out
  have a6 : w2.cell? ⟨w.heap.size, 6, none⟩ = some (.int .u64 m.commit) := cell_of_row w2 _ 6 _ 35 (0, 0) HM.out
  have a7 : w2.cell? ⟨w.heap.size, 7, none⟩ = some (.int .u64 m.mark) := cell_of_row w2 _ 7 _ 35 (0, 0) HM.out
  have a8 : w2.cell? ⟨w.heap.size, 8, none⟩ = some (.bool m.ok) := cell_of_row w2 _ 8 _ 35 (0, 0) HM.out
  have a9 : w2.cell? ⟨w.heap.size, 9, none⟩ = some (.slice m.A m.n m.c) := cell_of_row w2 _ 9 _ 35 (0, 0) HM.out
  have a10 : w2.cell? ⟨w.heap.size, 10, none⟩ = some (.string m.snap) := cell_of_row w2 _ 10 _ 35 (0, 0) HM.out
  have z0 : w2.cell? ⟨w.heap.size + 1, 0, none⟩ = some (.int .i64 0) := cell_of_row w2 _ 0 _ 35 (0, 0) HZ.out
  have z1 : w2.cell? ⟨w.heap.size + 1, 1, none⟩ = some (.int .i64 0) := cell_of_row w2 _ 1 _ 35 (0, 0) HZ.out
  have z2 : w2.cell? ⟨w.heap.size + 1, 2, none⟩ = some (.int .i64 0) := cell_of_row w2 _ 2 _ 35 (0, 0) HZ.out
  have z3 : w2.cell? ⟨w.heap.size + 1, 3, none⟩ = some (.int .u64 0) := cell_of_row w2 _ 3 _ 35 (0, 0) HZ.out
  have z4 : w2.cell? ⟨w.heap.size + 1, 4, none⟩ = some (.int .u64 0) := cell_of_row w2 _ 4 _ 35 (0, 0) HZ.out
  have z5 : w2.cell? ⟨w.heap.size + 1, 5, none⟩ = some (.int .u64 0) := cell_of_row w2 _ 5 _ 35 (0, 0) HZ.out
  have z6 : w2.cell? ⟨w.heap.size + 1, 6, none⟩ = some (.int .u64 0) := cell_of_row w2 _ 6 _ 35 (0, 0) HZ.out
  have z7 : w2.cell? ⟨w.heap.size + 1, 7, none⟩ = some (.int .u64 0) := cell_of_row w2 _ 7 _ 35 (0, 0) HZ.out
  have z8 : w2.cell? ⟨w.heap.size + 1, 8, none⟩ = some (.bool false) := cell_of_row w2 _ 8 _ 35 (0, 0) HZ.out
  have z9 : w2.cell? ⟨w.heap.size + 1, 9, none⟩ = some (.slice none 0 0) := cell_of_row w2 _ 9 _ 35 (0, 0) HZ.out
  have z10 : w2.cell? ⟨w.heap.size + 1, 10, none⟩ = some (.string ⟨#[]⟩) := cell_of_row w2 _ 10 _ 35 (0, 0) HZ.out
  have fz : ∀ i, w2.frozen? ⟨w.heap.size + 1, i, none⟩ = false := fun i => Md.of HZ.out
  go_wp2
  obtain ⟨WF, hWF⟩ : ∃ WF, WF = wrm w2 (w.heap.size + 1) mzz := ⟨_, rfl⟩
  have hblk : WF.heap[w.heap.size + 1]? = some (.cells (mc mzz) 35 (0, 0)) := by rw [hWF]; exact store_allm mzz HZ.out
  have hbF : Below w.heap.size w WF := by rw [hWF]; exact below_allm mzz HB.out (by omega)
  have HEF : Hid (∀ A n es, Ents w.heap.size A n es w → Ents WF.heap.size A n es WF) := fun A n es h => (h.below hbF).mr hbF.size
  have HFB := Lib.hid hbF
  have HWE : Hid (WF = wrm w2 (w.heap.size + 1) mzz) := hWF
  unfold wrm at hWF
  rw [← hWF]
  have HWF := Lib.hid hWF
  clear hWF
  have f0 : WF.cell? ⟨w.heap.size + 1, 0, none⟩ = some (.int .i64 0) := cell_of_row WF _ 0 _ 35 (0, 0) hblk
  have f1 : WF.cell? ⟨w.heap.size + 1, 1, none⟩ = some (.int .i64 0) := cell_of_row WF _ 1 _ 35 (0, 0) hblk
  have f2 : WF.cell? ⟨w.heap.size + 1, 2, none⟩ = some (.int .i64 0) := cell_of_row WF _ 2 _ 35 (0, 0) hblk
  have f3 : WF.cell? ⟨w.heap.size + 1, 3, none⟩ = some (.int .u64 0) := cell_of_row WF _ 3 _ 35 (0, 0) hblk
  have f4 : WF.cell? ⟨w.heap.size + 1, 4, none⟩ = some (.int .u64 0) := cell_of_row WF _ 4 _ 35 (0, 0) hblk
  have f5 : WF.cell? ⟨w.heap.size + 1, 5, none⟩ = some (.int .u64 0) := cell_of_row WF _ 5 _ 35 (0, 0) hblk
  have f6 : WF.cell? ⟨w.heap.size + 1, 6, none⟩ = some (.int .u64 0) := cell_of_row WF _ 6 _ 35 (0, 0) hblk
  have f7 : WF.cell? ⟨w.heap.size + 1, 7, none⟩ = some (.int .u64 0) := cell_of_row WF _ 7 _ 35 (0, 0) hblk
  have f8 : WF.cell? ⟨w.heap.size + 1, 8, none⟩ = some (.bool false) := cell_of_row WF _ 8 _ 35 (0, 0) hblk
  have f9 : WF.cell? ⟨w.heap.size + 1, 9, none⟩ = some (.slice none 0 0) := cell_of_row WF _ 9 _ 35 (0, 0) hblk
  have f10 : WF.cell? ⟨w.heap.size + 1, 10, none⟩ = some (.string ⟨#[]⟩) := cell_of_row WF _ 10 _ 35 (0, 0) hblk
  exact bodyPost_ret (v := .tuple #[mv mzz, .bool false]) (by simp [results, Try.results16, go_sem, f0, f1, f2, f3, f4, f5, f6, f7, f8, f9, f10]) rfl (shim_end (mzz_ents _ _) (by rw [shimM_no HNO.out]; exact like_refl _) HNO.out.symm HFB.out)
theorem shim_any (m : Ms) (w : World) (hE : Ents w.heap.size m.A m.n m.es w) (wd : m.Wide) : Calls Try.prog 16 #[mv m] w (Shimd m w) := by
  cases hr : mrightB m with
  | false => exact shim_no m w hE wd hr
  | true =>
    by_cases h9 : m.kind = 9
    · exact shim_9 m w hE wd hr h9
    by_cases h10 : m.kind = 10
    · exact shim_10 m w hE wd hr h10
    have h := mlvl_bounds m
    by_cases hl : mlvl m = 1
    · exact shim_1 m w hE wd hr hl
    · exact shim_n m w hE wd hr (by omega) h9 h10
set_option maxHeartbeats 2000000 in
set_option maxRecDepth 100000 in
theorem rshim_no (m : Ms) (w : World) (hE : Ents w.heap.size m.A m.n m.es w) (wd : m.Wide) (hr : mrightB m = false) :
    Calls Try.prog 18 #[mv m] w (Shimd m w) := by
  have hno := shimO_no hr
  have HNO := Lib.hid hno
  obtain ⟨W0, hW0⟩ : ∃ W0, W0 = (w.alloc (Obj.cells (mc m) 35)).alloc (Obj.cells (mc mzz) 35) := ⟨_, rfl⟩
  have b0 : Below w.heap.size w W0 := by rw [hW0]; exact ((Below.refl _ _).alloc (Nat.le_refl _) _).alloc (by simp) _
  have k0 : W0.heap[w.heap.size]? = some (.cells (mc m) 35 (0, 0)) := by rw [hW0]; exact blk_al _ (heap_alloc_new w _)
  have k1 : W0.heap[w.heap.size + 1]? = some (.cells (mc mzz) 35 (0, 0)) := by rw [hW0]; have h := heap_alloc_new (w.alloc (Obj.cells (mc m) 35)) (Obj.cells (mc mzz) 35); simpa using h
  have hE0 := (hE.below b0).mr b0.size
  have KR := Lib.hid (rmright_any m W0 hE0 wd)
  have KL := Lib.hid (fun (W : World) (h : Ents W.heap.size m.A m.n m.es W) => rmlevel_any m W h (wide_n wd))
  have HW := Lib.hid hW0
  have HE := Lib.hid hE0
  have HEW := Lib.hid hE
  have HB0 := Lib.hid b0
  have HK0 := Lib.hid k0
  have HK1 := Lib.hid k1
  have HWD := Lib.hid wd
  clear hW0 b0 k0 k1 hE0
  rw [hr] at KR
  clear hr hno wd hE
  go_enter Try.func18, Try.ntmps18
  go_upto_region 1 with fail
  rw [← HW.out]
  have HM := HK0
  have HZ := HK1
  have HB := HB0
  clear HK0 HK1 HB0
  have a0 : W0.cell? ⟨w.heap.size, 0, none⟩ = some (.int .i64 m.kind) := cell_of_row W0 _ 0 _ 35 (0, 0) HM.out
  have a1 : W0.cell? ⟨w.heap.size, 1, none⟩ = some (.int .i64 m.frm) := cell_of_row W0 _ 1 _ 35 (0, 0) HM.out
  have a2 : W0.cell? ⟨w.heap.size, 2, none⟩ = some (.int .i64 m.dst) := cell_of_row W0 _ 2 _ 35 (0, 0) HM.out
  have a3 : W0.cell? ⟨w.heap.size, 3, none⟩ = some (.int .u64 m.term) := cell_of_row W0 _ 3 _ 35 (0, 0) HM.out
  have a4 : W0.cell? ⟨w.heap.size, 4, none⟩ = some (.int .u64 m.index) := cell_of_row W0 _ 4 _ 35 (0, 0) HM.out
  have a5 : W0.cell? ⟨w.heap.size, 5, none⟩ = some (.int .u64 m.prev) := cell_of_row W0 _ 5 _ 35 (0, 0) HM.out
  have a6 : W0.cell? ⟨w.heap.size, 6, none⟩ = some (.int .u64 m.commit) := cell_of_row W0 _ 6 _ 35 (0, 0) HM.out
  have a7 : W0.cell? ⟨w.heap.size, 7, none⟩ = some (.int .u64 m.mark) := cell_of_row W0 _ 7 _ 35 (0, 0) HM.out
  have a8 : W0.cell? ⟨w.heap.size, 8, none⟩ = some (.bool m.ok) := cell_of_row W0 _ 8 _ 35 (0, 0) HM.out
  have a9 : W0.cell? ⟨w.heap.size, 9, none⟩ = some (.slice m.A m.n m.c) := cell_of_row W0 _ 9 _ 35 (0, 0) HM.out
  have a10 : W0.cell? ⟨w.heap.size, 10, none⟩ = some (.string m.snap) := cell_of_row W0 _ 10 _ 35 (0, 0) HM.out
  go_wp2_with fail
  refine KR.out.mono ?_
  rintro q w1 ⟨rfl, b⟩
  have HM2 : Hid (w1.heap[w.heap.size]? = some (.cells (mc m) 35 (0, 0))) := (b.block _ (Array.getElem?_eq_some_iff.1 HM.out).1).trans HM.out
  have HZ2 : Hid (w1.heap[w.heap.size + 1]? = some (.cells (mc mzz) 35 (0, 0))) := (b.block _ (Array.getElem?_eq_some_iff.1 HZ.out).1).trans HZ.out
  have HB2 : Hid (Below w.heap.size w w1) := HB.out.trans (b.mono HB.out.size)
  have HE2 : Hid (Ents w1.heap.size m.A m.n m.es w1) := (HE.out.below b).mr b.size
  clear b HB HZ HM HE a0 a1 a2 a3 a4 a5 a6 a7 a8 a9 a10
  have HM := HM2
  have HZ := HZ2
  have HB := HB2
  have HE := HE2
  clear HM2 HZ2 HB2 HE2
  have z0 : w1.cell? ⟨w.heap.size + 1, 0, none⟩ = some (.int .i64 0) := cell_of_row w1 _ 0 _ 35 (0, 0) HZ.out
  have z1 : w1.cell? ⟨w.heap.size + 1, 1, none⟩ = some (.int .i64 0) := cell_of_row w1 _ 1 _ 35 (0, 0) HZ.out
  have z2 : w1.cell? ⟨w.heap.size + 1, 2, none⟩ = some (.int .i64 0) := cell_of_row w1 _ 2 _ 35 (0, 0) HZ.out
  have z3 : w1.cell? ⟨w.heap.size + 1, 3, none⟩ = some (.int .u64 0) := cell_of_row w1 _ 3 _ 35 (0, 0) HZ.out
  have z4 : w1.cell? ⟨w.heap.size + 1, 4, none⟩ = some (.int .u64 0) := cell_of_row w1 _ 4 _ 35 (0, 0) HZ.out
  have z5 : w1.cell? ⟨w.heap.size + 1, 5, none⟩ = some (.int .u64 0) := cell_of_row w1 _ 5 _ 35 (0, 0) HZ.out
  have z6 : w1.cell? ⟨w.heap.size + 1, 6, none⟩ = some (.int .u64 0) := cell_of_row w1 _ 6 _ 35 (0, 0) HZ.out
  have z7 : w1.cell? ⟨w.heap.size + 1, 7, none⟩ = some (.int .u64 0) := cell_of_row w1 _ 7 _ 35 (0, 0) HZ.out
  have z8 : w1.cell? ⟨w.heap.size + 1, 8, none⟩ = some (.bool false) := cell_of_row w1 _ 8 _ 35 (0, 0) HZ.out
  have z9 : w1.cell? ⟨w.heap.size + 1, 9, none⟩ = some (.slice none 0 0) := cell_of_row w1 _ 9 _ 35 (0, 0) HZ.out
  have z10 : w1.cell? ⟨w.heap.size + 1, 10, none⟩ = some (.string ⟨#[]⟩) := cell_of_row w1 _ 10 _ 35 (0, 0) HZ.out
  have fz : ∀ i, w1.frozen? ⟨w.heap.size + 1, i, none⟩ = false := fun i => Md.of HZ.out
  go_wp2
  obtain ⟨WF, hWF⟩ : ∃ WF, WF = wrm w1 (w.heap.size + 1) mzz := ⟨_, rfl⟩
  have hblk : WF.heap[w.heap.size + 1]? = some (.cells (mc mzz) 35 (0, 0)) := by rw [hWF]; exact store_allm mzz HZ.out
  have hbF : Below w.heap.size w WF := by rw [hWF]; exact below_allm mzz HB.out (by omega)
  have HEF : Hid (∀ A n es, Ents w.heap.size A n es w → Ents WF.heap.size A n es WF) := fun A n es h => (h.below hbF).mr hbF.size
  have HFB := Lib.hid hbF
  have HWE : Hid (WF = wrm w1 (w.heap.size + 1) mzz) := hWF
  unfold wrm at hWF
  rw [← hWF]
  have HWF := Lib.hid hWF
  clear hWF
  have f0 : WF.cell? ⟨w.heap.size + 1, 0, none⟩ = some (.int .i64 0) := cell_of_row WF _ 0 _ 35 (0, 0) hblk
  have f1 : WF.cell? ⟨w.heap.size + 1, 1, none⟩ = some (.int .i64 0) := cell_of_row WF _ 1 _ 35 (0, 0) hblk
  have f2 : WF.cell? ⟨w.heap.size + 1, 2, none⟩ = some (.int .i64 0) := cell_of_row WF _ 2 _ 35 (0, 0) hblk
  have f3 : WF.cell? ⟨w.heap.size + 1, 3, none⟩ = some (.int .u64 0) := cell_of_row WF _ 3 _ 35 (0, 0) hblk
  have f4 : WF.cell? ⟨w.heap.size + 1, 4, none⟩ = some (.int .u64 0) := cell_of_row WF _ 4 _ 35 (0, 0) hblk
  have f5 : WF.cell? ⟨w.heap.size + 1, 5, none⟩ = some (.int .u64 0) := cell_of_row WF _ 5 _ 35 (0, 0) hblk
  have f6 : WF.cell? ⟨w.heap.size + 1, 6, none⟩ = some (.int .u64 0) := cell_of_row WF _ 6 _ 35 (0, 0) hblk
  have f7 : WF.cell? ⟨w.heap.size + 1, 7, none⟩ = some (.int .u64 0) := cell_of_row WF _ 7 _ 35 (0, 0) hblk
  have f8 : WF.cell? ⟨w.heap.size + 1, 8, none⟩ = some (.bool false) := cell_of_row WF _ 8 _ 35 (0, 0) hblk
  have f9 : WF.cell? ⟨w.heap.size + 1, 9, none⟩ = some (.slice none 0 0) := cell_of_row WF _ 9 _ 35 (0, 0) hblk
  have f10 : WF.cell? ⟨w.heap.size + 1, 10, none⟩ = some (.string ⟨#[]⟩) := cell_of_row WF _ 10 _ 35 (0, 0) hblk
  exact bodyPost_ret (v := .tuple #[mv mzz, .bool false]) (by simp [results, Try.results18, go_sem, f0, f1, f2, f3, f4, f5, f6, f7, f8, f9, f10]) rfl (shim_end (mzz_ents _ _) (by rw [shimM_no HNO.out]; exact like_refl _) HNO.out.symm HFB.out)
set_option maxHeartbeats 2000000 in
set_option maxRecDepth 100000 in
theorem rshim_9 (m : Ms) (w : World) (hE : Ents w.heap.size m.A m.n m.es w) (wd : m.Wide) (hr : mrightB m = true) (hk : m.kind = 9) :
    Calls Try.prog 18 #[mv m] w (Shimd m w) := by
  have hyes : shimO m = true := by unfold shimO; rw [hr, decide_eq_true hk]; simp
  have hM : shimM m = (⟨5, m.frm, m.dst, m.term, 0, 0, 0, m.mark, false, none, 0, 0, [], ⟨#[]⟩⟩ : Ms) := by unfold shimM; rw [hyes, if_neg (by decide)]; rw [if_pos hk]
  have HYES := Lib.hid hyes
  have HMM := Lib.hid hM
  obtain ⟨W0, hW0⟩ : ∃ W0, W0 = (w.alloc (Obj.cells (mc m) 35)).alloc (Obj.cells (mc mzz) 35) := ⟨_, rfl⟩
  have b0 : Below w.heap.size w W0 := by rw [hW0]; exact ((Below.refl _ _).alloc (Nat.le_refl _) _).alloc (by simp) _
  have k0 : W0.heap[w.heap.size]? = some (.cells (mc m) 35 (0, 0)) := by rw [hW0]; exact blk_al _ (heap_alloc_new w _)
  have k1 : W0.heap[w.heap.size + 1]? = some (.cells (mc mzz) 35 (0, 0)) := by rw [hW0]; have h := heap_alloc_new (w.alloc (Obj.cells (mc m) 35)) (Obj.cells (mc mzz) 35); simpa using h
  have hE0 := (hE.below b0).mr b0.size
  have KR := Lib.hid (rmright_any m W0 hE0 wd)
  have KL := Lib.hid (fun (W : World) (h : Ents W.heap.size m.A m.n m.es W) => rmlevel_any m W h (wide_n wd))
  have HW := Lib.hid hW0
  have HE := Lib.hid hE0
  have HEW := Lib.hid hE
  have HB0 := Lib.hid b0
  have HK0 := Lib.hid k0
  have HK1 := Lib.hid k1
  have HWD := Lib.hid wd
  clear hW0 b0 k0 k1 hE0
  rw [hr] at KR
  have HKD := Lib.hid hk
  clear hr hyes hM wd hE hk
  go_enter Try.func18, Try.ntmps18
  go_upto_region 1 with fail
  rw [← HW.out]
  have HM := HK0
  have HZ := HK1
  have HB := HB0
  clear HK0 HK1 HB0
  have a0 : W0.cell? ⟨w.heap.size, 0, none⟩ = some (.int .i64 m.kind) := cell_of_row W0 _ 0 _ 35 (0, 0) HM.out
  have a1 : W0.cell? ⟨w.heap.size, 1, none⟩ = some (.int .i64 m.frm) := cell_of_row W0 _ 1 _ 35 (0, 0) HM.out
  have a2 : W0.cell? ⟨w.heap.size, 2, none⟩ = some (.int .i64 m.dst) := cell_of_row W0 _ 2 _ 35 (0, 0) HM.out
  have a3 : W0.cell? ⟨w.heap.size, 3, none⟩ = some (.int .u64 m.term) := cell_of_row W0 _ 3 _ 35 (0, 0) HM.out
  have a4 : W0.cell? ⟨w.heap.size, 4, none⟩ = some (.int .u64 m.index) := cell_of_row W0 _ 4 _ 35 (0, 0) HM.out
  have a5 : W0.cell? ⟨w.heap.size, 5, none⟩ = some (.int .u64 m.prev) := cell_of_row W0 _ 5 _ 35 (0, 0) HM.out
  have a6 : W0.cell? ⟨w.heap.size, 6, none⟩ = some (.int .u64 m.commit) := cell_of_row W0 _ 6 _ 35 (0, 0) HM.out
  have a7 : W0.cell? ⟨w.heap.size, 7, none⟩ = some (.int .u64 m.mark) := cell_of_row W0 _ 7 _ 35 (0, 0) HM.out
  have a8 : W0.cell? ⟨w.heap.size, 8, none⟩ = some (.bool m.ok) := cell_of_row W0 _ 8 _ 35 (0, 0) HM.out
  have a9 : W0.cell? ⟨w.heap.size, 9, none⟩ = some (.slice m.A m.n m.c) := cell_of_row W0 _ 9 _ 35 (0, 0) HM.out
  have a10 : W0.cell? ⟨w.heap.size, 10, none⟩ = some (.string m.snap) := cell_of_row W0 _ 10 _ 35 (0, 0) HM.out
  go_wp2_with fail
  refine KR.out.mono ?_
  rintro q w1 ⟨rfl, b⟩
  have HM2 : Hid (w1.heap[w.heap.size]? = some (.cells (mc m) 35 (0, 0))) := (b.block _ (Array.getElem?_eq_some_iff.1 HM.out).1).trans HM.out
  have HZ2 : Hid (w1.heap[w.heap.size + 1]? = some (.cells (mc mzz) 35 (0, 0))) := (b.block _ (Array.getElem?_eq_some_iff.1 HZ.out).1).trans HZ.out
  have HB2 : Hid (Below w.heap.size w w1) := HB.out.trans (b.mono HB.out.size)
  have HE2 : Hid (Ents w1.heap.size m.A m.n m.es w1) := (HE.out.below b).mr b.size
  clear b HB HZ HM HE a0 a1 a2 a3 a4 a5 a6 a7 a8 a9 a10
  have HM := HM2
  have HZ := HZ2
  have HB := HB2
  have HE := HE2
  clear HM2 HZ2 HB2 HE2
  have a0 : w1.cell? ⟨w.heap.size, 0, none⟩ = some (.int .i64 9) := by rw [← HKD.out]; exact cell_of_row w1 _ 0 _ 35 (0, 0) HM.out
  have a1 : w1.cell? ⟨w.heap.size, 1, none⟩ = some (.int .i64 m.frm) := cell_of_row w1 _ 1 _ 35 (0, 0) HM.out
  have a2 : w1.cell? ⟨w.heap.size, 2, none⟩ = some (.int .i64 m.dst) := cell_of_row w1 _ 2 _ 35 (0, 0) HM.out
  have a3 : w1.cell? ⟨w.heap.size, 3, none⟩ = some (.int .u64 m.term) := cell_of_row w1 _ 3 _ 35 (0, 0) HM.out
  have a4 : w1.cell? ⟨w.heap.size, 4, none⟩ = some (.int .u64 m.index) := cell_of_row w1 _ 4 _ 35 (0, 0) HM.out
  have a5 : w1.cell? ⟨w.heap.size, 5, none⟩ = some (.int .u64 m.prev) := cell_of_row w1 _ 5 _ 35 (0, 0) HM.out
  have a6 : w1.cell? ⟨w.heap.size, 6, none⟩ = some (.int .u64 m.commit) := cell_of_row w1 _ 6 _ 35 (0, 0) HM.out
  have a7 : w1.cell? ⟨w.heap.size, 7, none⟩ = some (.int .u64 m.mark) := cell_of_row w1 _ 7 _ 35 (0, 0) HM.out
  have a8 : w1.cell? ⟨w.heap.size, 8, none⟩ = some (.bool m.ok) := cell_of_row w1 _ 8 _ 35 (0, 0) HM.out
  have a9 : w1.cell? ⟨w.heap.size, 9, none⟩ = some (.slice m.A m.n m.c) := cell_of_row w1 _ 9 _ 35 (0, 0) HM.out
  have a10 : w1.cell? ⟨w.heap.size, 10, none⟩ = some (.string m.snap) := cell_of_row w1 _ 10 _ 35 (0, 0) HM.out
  have z0 : w1.cell? ⟨w.heap.size + 1, 0, none⟩ = some (.int .i64 0) := cell_of_row w1 _ 0 _ 35 (0, 0) HZ.out
  have z1 : w1.cell? ⟨w.heap.size + 1, 1, none⟩ = some (.int .i64 0) := cell_of_row w1 _ 1 _ 35 (0, 0) HZ.out
  have z2 : w1.cell? ⟨w.heap.size + 1, 2, none⟩ = some (.int .i64 0) := cell_of_row w1 _ 2 _ 35 (0, 0) HZ.out
  have z3 : w1.cell? ⟨w.heap.size + 1, 3, none⟩ = some (.int .u64 0) := cell_of_row w1 _ 3 _ 35 (0, 0) HZ.out
  have z4 : w1.cell? ⟨w.heap.size + 1, 4, none⟩ = some (.int .u64 0) := cell_of_row w1 _ 4 _ 35 (0, 0) HZ.out
  have z5 : w1.cell? ⟨w.heap.size + 1, 5, none⟩ = some (.int .u64 0) := cell_of_row w1 _ 5 _ 35 (0, 0) HZ.out
  have z6 : w1.cell? ⟨w.heap.size + 1, 6, none⟩ = some (.int .u64 0) := cell_of_row w1 _ 6 _ 35 (0, 0) HZ.out
  have z7 : w1.cell? ⟨w.heap.size + 1, 7, none⟩ = some (.int .u64 0) := cell_of_row w1 _ 7 _ 35 (0, 0) HZ.out
  have z8 : w1.cell? ⟨w.heap.size + 1, 8, none⟩ = some (.bool false) := cell_of_row w1 _ 8 _ 35 (0, 0) HZ.out
  have z9 : w1.cell? ⟨w.heap.size + 1, 9, none⟩ = some (.slice none 0 0) := cell_of_row w1 _ 9 _ 35 (0, 0) HZ.out
  have z10 : w1.cell? ⟨w.heap.size + 1, 10, none⟩ = some (.string ⟨#[]⟩) := cell_of_row w1 _ 10 _ 35 (0, 0) HZ.out
  have fz : ∀ i, w1.frozen? ⟨w.heap.size + 1, i, none⟩ = false := fun i => Md.of HZ.out
  go_wp2
  obtain ⟨WF, hWF⟩ : ∃ WF, WF = wrm w1 (w.heap.size + 1) (⟨5, m.frm, m.dst, m.term, 0, 0, 0, m.mark, false, none, 0, 0, [], ⟨#[]⟩⟩ : Ms) := ⟨_, rfl⟩
  have hblk : WF.heap[w.heap.size + 1]? = some (.cells (mc (⟨5, m.frm, m.dst, m.term, 0, 0, 0, m.mark, false, none, 0, 0, [], ⟨#[]⟩⟩ : Ms)) 35 (0, 0)) := by rw [hWF]; exact store_allm (⟨5, m.frm, m.dst, m.term, 0, 0, 0, m.mark, false, none, 0, 0, [], ⟨#[]⟩⟩ : Ms) HZ.out
  have hbF : Below w.heap.size w WF := by rw [hWF]; exact below_allm (⟨5, m.frm, m.dst, m.term, 0, 0, 0, m.mark, false, none, 0, 0, [], ⟨#[]⟩⟩ : Ms) HB.out (by omega)
  have HEF : Hid (∀ A n es, Ents w.heap.size A n es w → Ents WF.heap.size A n es WF) := fun A n es h => (h.below hbF).mr hbF.size
  have HFB := Lib.hid hbF
  have HWE : Hid (WF = wrm w1 (w.heap.size + 1) (⟨5, m.frm, m.dst, m.term, 0, 0, 0, m.mark, false, none, 0, 0, [], ⟨#[]⟩⟩ : Ms)) := hWF
  unfold wrm at hWF
  rw [← hWF]
  have HWF := Lib.hid hWF
  clear hWF
  have f0 : WF.cell? ⟨w.heap.size + 1, 0, none⟩ = some (.int .i64 5) := cell_of_row WF _ 0 _ 35 (0, 0) hblk
  have f1 : WF.cell? ⟨w.heap.size + 1, 1, none⟩ = some (.int .i64 m.frm) := cell_of_row WF _ 1 _ 35 (0, 0) hblk
  have f2 : WF.cell? ⟨w.heap.size + 1, 2, none⟩ = some (.int .i64 m.dst) := cell_of_row WF _ 2 _ 35 (0, 0) hblk
  have f3 : WF.cell? ⟨w.heap.size + 1, 3, none⟩ = some (.int .u64 m.term) := cell_of_row WF _ 3 _ 35 (0, 0) hblk
  have f4 : WF.cell? ⟨w.heap.size + 1, 4, none⟩ = some (.int .u64 0) := cell_of_row WF _ 4 _ 35 (0, 0) hblk
  have f5 : WF.cell? ⟨w.heap.size + 1, 5, none⟩ = some (.int .u64 0) := cell_of_row WF _ 5 _ 35 (0, 0) hblk
  have f6 : WF.cell? ⟨w.heap.size + 1, 6, none⟩ = some (.int .u64 0) := cell_of_row WF _ 6 _ 35 (0, 0) hblk
  have f7 : WF.cell? ⟨w.heap.size + 1, 7, none⟩ = some (.int .u64 m.mark) := cell_of_row WF _ 7 _ 35 (0, 0) hblk
  have f8 : WF.cell? ⟨w.heap.size + 1, 8, none⟩ = some (.bool false) := cell_of_row WF _ 8 _ 35 (0, 0) hblk
  have f9 : WF.cell? ⟨w.heap.size + 1, 9, none⟩ = some (.slice none 0 0) := cell_of_row WF _ 9 _ 35 (0, 0) hblk
  have f10 : WF.cell? ⟨w.heap.size + 1, 10, none⟩ = some (.string ⟨#[]⟩) := cell_of_row WF _ 10 _ 35 (0, 0) hblk
  exact bodyPost_ret (v := .tuple #[mv (⟨5, m.frm, m.dst, m.term, 0, 0, 0, m.mark, false, none, 0, 0, [], ⟨#[]⟩⟩ : Ms), .bool true]) (by simp [results, Try.results18, go_sem, f0, f1, f2, f3, f4, f5, f6, f7, f8, f9, f10]) rfl (shim_end (ents_nil _ _ _) (by rw [HMM.out]; exact like_refl _) HYES.out.symm HFB.out)
set_option maxHeartbeats 2000000 in
set_option maxRecDepth 100000 in
theorem rshim_10 (m : Ms) (w : World) (hE : Ents w.heap.size m.A m.n m.es w) (wd : m.Wide) (hr : mrightB m = true) (hk : m.kind = 10) :
    Calls Try.prog 18 #[mv m] w (Shimd m w) := by
  have hyes : shimO m = true := by unfold shimO; rw [hr, decide_eq_true hk]; simp
  have hM : shimM m = (⟨6, m.frm, m.dst, m.term, 0, 0, 0, m.mark, true, none, 0, 0, [], ⟨#[]⟩⟩ : Ms) := by unfold shimM; rw [hyes, if_neg (by decide)]; rw [if_neg (by omega), if_pos hk]
  have HYES := Lib.hid hyes
  have HMM := Lib.hid hM
  obtain ⟨W0, hW0⟩ : ∃ W0, W0 = (w.alloc (Obj.cells (mc m) 35)).alloc (Obj.cells (mc mzz) 35) := ⟨_, rfl⟩
  have b0 : Below w.heap.size w W0 := by rw [hW0]; exact ((Below.refl _ _).alloc (Nat.le_refl _) _).alloc (by simp) _
  have k0 : W0.heap[w.heap.size]? = some (.cells (mc m) 35 (0, 0)) := by rw [hW0]; exact blk_al _ (heap_alloc_new w _)
  have k1 : W0.heap[w.heap.size + 1]? = some (.cells (mc mzz) 35 (0, 0)) := by rw [hW0]; have h := heap_alloc_new (w.alloc (Obj.cells (mc m) 35)) (Obj.cells (mc mzz) 35); simpa using h
  have hE0 := (hE.below b0).mr b0.size
  have KR := Lib.hid (rmright_any m W0 hE0 wd)
  have KL := Lib.hid (fun (W : World) (h : Ents W.heap.size m.A m.n m.es W) => rmlevel_any m W h (wide_n wd))
  have HW := Lib.hid hW0
  have HE := Lib.hid hE0
  have HEW := Lib.hid hE
  have HB0 := Lib.hid b0
  have HK0 := Lib.hid k0
  have HK1 := Lib.hid k1
  have HWD := Lib.hid wd
  clear hW0 b0 k0 k1 hE0
  rw [hr] at KR
  have HKD := Lib.hid hk
  clear hr hyes hM wd hE hk
  go_enter Try.func18, Try.ntmps18
  go_upto_region 1 with fail
  rw [← HW.out]
  have HM := HK0
  have HZ := HK1
  have HB := HB0
  clear HK0 HK1 HB0
  have a0 : W0.cell? ⟨w.heap.size, 0, none⟩ = some (.int .i64 m.kind) := cell_of_row W0 _ 0 _ 35 (0, 0) HM.out
  have a1 : W0.cell? ⟨w.heap.size, 1, none⟩ = some (.int .i64 m.frm) := cell_of_row W0 _ 1 _ 35 (0, 0) HM.out
  have a2 : W0.cell? ⟨w.heap.size, 2, none⟩ = some (.int .i64 m.dst) := cell_of_row W0 _ 2 _ 35 (0, 0) HM.out
  have a3 : W0.cell? ⟨w.heap.size, 3, none⟩ = some (.int .u64 m.term) := cell_of_row W0 _ 3 _ 35 (0, 0) HM.out
  have a4 : W0.cell? ⟨w.heap.size, 4, none⟩ = some (.int .u64 m.index) := cell_of_row W0 _ 4 _ 35 (0, 0) HM.out
  have a5 : W0.cell? ⟨w.heap.size, 5, none⟩ = some (.int .u64 m.prev) := cell_of_row W0 _ 5 _ 35 (0, 0) HM.out
  have a6 : W0.cell? ⟨w.heap.size, 6, none⟩ = some (.int .u64 m.commit) := cell_of_row W0 _ 6 _ 35 (0, 0) HM.out
  have a7 : W0.cell? ⟨w.heap.size, 7, none⟩ = some (.int .u64 m.mark) := cell_of_row W0 _ 7 _ 35 (0, 0) HM.out
  have a8 : W0.cell? ⟨w.heap.size, 8, none⟩ = some (.bool m.ok) := cell_of_row W0 _ 8 _ 35 (0, 0) HM.out
  have a9 : W0.cell? ⟨w.heap.size, 9, none⟩ = some (.slice m.A m.n m.c) := cell_of_row W0 _ 9 _ 35 (0, 0) HM.out
  have a10 : W0.cell? ⟨w.heap.size, 10, none⟩ = some (.string m.snap) := cell_of_row W0 _ 10 _ 35 (0, 0) HM.out
  go_wp2_with fail
  refine KR.out.mono ?_
  rintro q w1 ⟨rfl, b⟩
  have HM2 : Hid (w1.heap[w.heap.size]? = some (.cells (mc m) 35 (0, 0))) := (b.block _ (Array.getElem?_eq_some_iff.1 HM.out).1).trans HM.out
  have HZ2 : Hid (w1.heap[w.heap.size + 1]? = some (.cells (mc mzz) 35 (0, 0))) := (b.block _ (Array.getElem?_eq_some_iff.1 HZ.out).1).trans HZ.out
  have HB2 : Hid (Below w.heap.size w w1) := HB.out.trans (b.mono HB.out.size)
  have HE2 : Hid (Ents w1.heap.size m.A m.n m.es w1) := (HE.out.below b).mr b.size
  clear b HB HZ HM HE a0 a1 a2 a3 a4 a5 a6 a7 a8 a9 a10
  have HM := HM2
  have HZ := HZ2
  have HB := HB2
  have HE := HE2
  clear HM2 HZ2 HB2 HE2
  have a0 : w1.cell? ⟨w.heap.size, 0, none⟩ = some (.int .i64 10) := by rw [← HKD.out]; exact cell_of_row w1 _ 0 _ 35 (0, 0) HM.out
  have a1 : w1.cell? ⟨w.heap.size, 1, none⟩ = some (.int .i64 m.frm) := cell_of_row w1 _ 1 _ 35 (0, 0) HM.out
  have a2 : w1.cell? ⟨w.heap.size, 2, none⟩ = some (.int .i64 m.dst) := cell_of_row w1 _ 2 _ 35 (0, 0) HM.out
  have a3 : w1.cell? ⟨w.heap.size, 3, none⟩ = some (.int .u64 m.term) := cell_of_row w1 _ 3 _ 35 (0, 0) HM.out
  have a4 : w1.cell? ⟨w.heap.size, 4, none⟩ = some (.int .u64 m.index) := cell_of_row w1 _ 4 _ 35 (0, 0) HM.out
  have a5 : w1.cell? ⟨w.heap.size, 5, none⟩ = some (.int .u64 m.prev) := cell_of_row w1 _ 5 _ 35 (0, 0) HM.out
  have a6 : w1.cell? ⟨w.heap.size, 6, none⟩ = some (.int .u64 m.commit) := cell_of_row w1 _ 6 _ 35 (0, 0) HM.out
  have a7 : w1.cell? ⟨w.heap.size, 7, none⟩ = some (.int .u64 m.mark) := cell_of_row w1 _ 7 _ 35 (0, 0) HM.out
  have a8 : w1.cell? ⟨w.heap.size, 8, none⟩ = some (.bool m.ok) := cell_of_row w1 _ 8 _ 35 (0, 0) HM.out
  have a9 : w1.cell? ⟨w.heap.size, 9, none⟩ = some (.slice m.A m.n m.c) := cell_of_row w1 _ 9 _ 35 (0, 0) HM.out
  have a10 : w1.cell? ⟨w.heap.size, 10, none⟩ = some (.string m.snap) := cell_of_row w1 _ 10 _ 35 (0, 0) HM.out
  have z0 : w1.cell? ⟨w.heap.size + 1, 0, none⟩ = some (.int .i64 0) := cell_of_row w1 _ 0 _ 35 (0, 0) HZ.out
  have z1 : w1.cell? ⟨w.heap.size + 1, 1, none⟩ = some (.int .i64 0) := cell_of_row w1 _ 1 _ 35 (0, 0) HZ.out
  have z2 : w1.cell? ⟨w.heap.size + 1, 2, none⟩ = some (.int .i64 0) := cell_of_row w1 _ 2 _ 35 (0, 0) HZ.out
  have z3 : w1.cell? ⟨w.heap.size + 1, 3, none⟩ = some (.int .u64 0) := cell_of_row w1 _ 3 _ 35 (0, 0) HZ.out
  have z4 : w1.cell? ⟨w.heap.size + 1, 4, none⟩ = some (.int .u64 0) := cell_of_row w1 _ 4 _ 35 (0, 0) HZ.out
  have z5 : w1.cell? ⟨w.heap.size + 1, 5, none⟩ = some (.int .u64 0) := cell_of_row w1 _ 5 _ 35 (0, 0) HZ.out
  have z6 : w1.cell? ⟨w.heap.size + 1, 6, none⟩ = some (.int .u64 0) := cell_of_row w1 _ 6 _ 35 (0, 0) HZ.out
  have z7 : w1.cell? ⟨w.heap.size + 1, 7, none⟩ = some (.int .u64 0) := cell_of_row w1 _ 7 _ 35 (0, 0) HZ.out
  have z8 : w1.cell? ⟨w.heap.size + 1, 8, none⟩ = some (.bool false) := cell_of_row w1 _ 8 _ 35 (0, 0) HZ.out
  have z9 : w1.cell? ⟨w.heap.size + 1, 9, none⟩ = some (.slice none 0 0) := cell_of_row w1 _ 9 _ 35 (0, 0) HZ.out
  have z10 : w1.cell? ⟨w.heap.size + 1, 10, none⟩ = some (.string ⟨#[]⟩) := cell_of_row w1 _ 10 _ 35 (0, 0) HZ.out
  have fz : ∀ i, w1.frozen? ⟨w.heap.size + 1, i, none⟩ = false := fun i => Md.of HZ.out
  go_wp2
  obtain ⟨WF, hWF⟩ : ∃ WF, WF = wrm w1 (w.heap.size + 1) (⟨6, m.frm, m.dst, m.term, 0, 0, 0, m.mark, true, none, 0, 0, [], ⟨#[]⟩⟩ : Ms) := ⟨_, rfl⟩
  have hblk : WF.heap[w.heap.size + 1]? = some (.cells (mc (⟨6, m.frm, m.dst, m.term, 0, 0, 0, m.mark, true, none, 0, 0, [], ⟨#[]⟩⟩ : Ms)) 35 (0, 0)) := by rw [hWF]; exact store_allm (⟨6, m.frm, m.dst, m.term, 0, 0, 0, m.mark, true, none, 0, 0, [], ⟨#[]⟩⟩ : Ms) HZ.out
  have hbF : Below w.heap.size w WF := by rw [hWF]; exact below_allm (⟨6, m.frm, m.dst, m.term, 0, 0, 0, m.mark, true, none, 0, 0, [], ⟨#[]⟩⟩ : Ms) HB.out (by omega)
  have HEF : Hid (∀ A n es, Ents w.heap.size A n es w → Ents WF.heap.size A n es WF) := fun A n es h => (h.below hbF).mr hbF.size
  have HFB := Lib.hid hbF
  have HWE : Hid (WF = wrm w1 (w.heap.size + 1) (⟨6, m.frm, m.dst, m.term, 0, 0, 0, m.mark, true, none, 0, 0, [], ⟨#[]⟩⟩ : Ms)) := hWF
  unfold wrm at hWF
  rw [← hWF]
  have HWF := Lib.hid hWF
  clear hWF
  have f0 : WF.cell? ⟨w.heap.size + 1, 0, none⟩ = some (.int .i64 6) := cell_of_row WF _ 0 _ 35 (0, 0) hblk
  have f1 : WF.cell? ⟨w.heap.size + 1, 1, none⟩ = some (.int .i64 m.frm) := cell_of_row WF _ 1 _ 35 (0, 0) hblk
  have f2 : WF.cell? ⟨w.heap.size + 1, 2, none⟩ = some (.int .i64 m.dst) := cell_of_row WF _ 2 _ 35 (0, 0) hblk
  have f3 : WF.cell? ⟨w.heap.size + 1, 3, none⟩ = some (.int .u64 m.term) := cell_of_row WF _ 3 _ 35 (0, 0) hblk
  have f4 : WF.cell? ⟨w.heap.size + 1, 4, none⟩ = some (.int .u64 0) := cell_of_row WF _ 4 _ 35 (0, 0) hblk
  have f5 : WF.cell? ⟨w.heap.size + 1, 5, none⟩ = some (.int .u64 0) := cell_of_row WF _ 5 _ 35 (0, 0) hblk
  have f6 : WF.cell? ⟨w.heap.size + 1, 6, none⟩ = some (.int .u64 0) := cell_of_row WF _ 6 _ 35 (0, 0) hblk
  have f7 : WF.cell? ⟨w.heap.size + 1, 7, none⟩ = some (.int .u64 m.mark) := cell_of_row WF _ 7 _ 35 (0, 0) hblk
  have f8 : WF.cell? ⟨w.heap.size + 1, 8, none⟩ = some (.bool true) := cell_of_row WF _ 8 _ 35 (0, 0) hblk
  have f9 : WF.cell? ⟨w.heap.size + 1, 9, none⟩ = some (.slice none 0 0) := cell_of_row WF _ 9 _ 35 (0, 0) hblk
  have f10 : WF.cell? ⟨w.heap.size + 1, 10, none⟩ = some (.string ⟨#[]⟩) := cell_of_row WF _ 10 _ 35 (0, 0) hblk
  exact bodyPost_ret (v := .tuple #[mv (⟨6, m.frm, m.dst, m.term, 0, 0, 0, m.mark, true, none, 0, 0, [], ⟨#[]⟩⟩ : Ms), .bool true]) (by simp [results, Try.results18, go_sem, f0, f1, f2, f3, f4, f5, f6, f7, f8, f9, f10]) rfl (shim_end (ents_nil _ _ _) (by rw [HMM.out]; exact like_refl _) HYES.out.symm HFB.out)
set_option maxHeartbeats 2000000 in
set_option maxRecDepth 100000 in
theorem rshim_1 (m : Ms) (w : World) (hE : Ents w.heap.size m.A m.n m.es w) (wd : m.Wide) (hr : mrightB m = true) (hl : mlvl m = 1) :
    Calls Try.prog 18 #[mv m] w (Shimd m w) := by
  have hyes : shimO m = true := by unfold shimO; rw [hr, decide_eq_true hl]; rfl
  have h9 : m.kind ≠ 9 := fun h => by have := mlvl9 h; omega
  have h10 : m.kind ≠ 10 := fun h => by have := mlvl10 h; omega
  have hM : shimM m = m := by unfold shimM; rw [hyes, if_neg (by decide), if_neg h9, if_neg h10]
  have HYES := Lib.hid hyes
  have HMM := Lib.hid hM
  obtain ⟨W0, hW0⟩ : ∃ W0, W0 = (w.alloc (Obj.cells (mc m) 35)).alloc (Obj.cells (mc mzz) 35) := ⟨_, rfl⟩
  have b0 : Below w.heap.size w W0 := by rw [hW0]; exact ((Below.refl _ _).alloc (Nat.le_refl _) _).alloc (by simp) _
  have k0 : W0.heap[w.heap.size]? = some (.cells (mc m) 35 (0, 0)) := by rw [hW0]; exact blk_al _ (heap_alloc_new w _)
  have k1 : W0.heap[w.heap.size + 1]? = some (.cells (mc mzz) 35 (0, 0)) := by rw [hW0]; have h := heap_alloc_new (w.alloc (Obj.cells (mc m) 35)) (Obj.cells (mc mzz) 35); simpa using h
  have hE0 := (hE.below b0).mr b0.size
  have KR := Lib.hid (rmright_any m W0 hE0 wd)
  have KL := Lib.hid (fun (W : World) (h : Ents W.heap.size m.A m.n m.es W) => rmlevel_any m W h (wide_n wd))
  have HW := Lib.hid hW0
  have HE := Lib.hid hE0
  have HEW := Lib.hid hE
  have HB0 := Lib.hid b0
  have HK0 := Lib.hid k0
  have HK1 := Lib.hid k1
  have HWD := Lib.hid wd
  clear hW0 b0 k0 k1 hE0
  rw [hr] at KR
  rw [hl] at KL
  clear hr hyes hM wd hE hl
  go_enter Try.func18, Try.ntmps18
  go_upto_region 1 with fail
  rw [← HW.out]
  have HM := HK0
  have HZ := HK1
  have HB := HB0
  clear HK0 HK1 HB0
  have a0 : W0.cell? ⟨w.heap.size, 0, none⟩ = some (.int .i64 m.kind) := cell_of_row W0 _ 0 _ 35 (0, 0) HM.out
  have a1 : W0.cell? ⟨w.heap.size, 1, none⟩ = some (.int .i64 m.frm) := cell_of_row W0 _ 1 _ 35 (0, 0) HM.out
  have a2 : W0.cell? ⟨w.heap.size, 2, none⟩ = some (.int .i64 m.dst) := cell_of_row W0 _ 2 _ 35 (0, 0) HM.out
  have a3 : W0.cell? ⟨w.heap.size, 3, none⟩ = some (.int .u64 m.term) := cell_of_row W0 _ 3 _ 35 (0, 0) HM.out
  have a4 : W0.cell? ⟨w.heap.size, 4, none⟩ = some (.int .u64 m.index) := cell_of_row W0 _ 4 _ 35 (0, 0) HM.out
  have a5 : W0.cell? ⟨w.heap.size, 5, none⟩ = some (.int .u64 m.prev) := cell_of_row W0 _ 5 _ 35 (0, 0) HM.out
  have a6 : W0.cell? ⟨w.heap.size, 6, none⟩ = some (.int .u64 m.commit) := cell_of_row W0 _ 6 _ 35 (0, 0) HM.out
  have a7 : W0.cell? ⟨w.heap.size, 7, none⟩ = some (.int .u64 m.mark) := cell_of_row W0 _ 7 _ 35 (0, 0) HM.out
  have a8 : W0.cell? ⟨w.heap.size, 8, none⟩ = some (.bool m.ok) := cell_of_row W0 _ 8 _ 35 (0, 0) HM.out
  have a9 : W0.cell? ⟨w.heap.size, 9, none⟩ = some (.slice m.A m.n m.c) := cell_of_row W0 _ 9 _ 35 (0, 0) HM.out
  have a10 : W0.cell? ⟨w.heap.size, 10, none⟩ = some (.string m.snap) := cell_of_row W0 _ 10 _ 35 (0, 0) HM.out
  go_wp2_with fail
  refine KR.out.mono ?_
  rintro q w1 ⟨rfl, b⟩
  have HM2 : Hid (w1.heap[w.heap.size]? = some (.cells (mc m) 35 (0, 0))) := (b.block _ (Array.getElem?_eq_some_iff.1 HM.out).1).trans HM.out
  have HZ2 : Hid (w1.heap[w.heap.size + 1]? = some (.cells (mc mzz) 35 (0, 0))) := (b.block _ (Array.getElem?_eq_some_iff.1 HZ.out).1).trans HZ.out
  have HB2 : Hid (Below w.heap.size w w1) := HB.out.trans (b.mono HB.out.size)
  have HE2 : Hid (Ents w1.heap.size m.A m.n m.es w1) := (HE.out.below b).mr b.size
  clear b HB HZ HM HE a0 a1 a2 a3 a4 a5 a6 a7 a8 a9 a10
  have HM := HM2
  have HZ := HZ2
  have HB := HB2
  have HE := HE2
  clear HM2 HZ2 HB2 HE2
  have a0 : w1.cell? ⟨w.heap.size, 0, none⟩ = some (.int .i64 m.kind) := cell_of_row w1 _ 0 _ 35 (0, 0) HM.out
  have a1 : w1.cell? ⟨w.heap.size, 1, none⟩ = some (.int .i64 m.frm) := cell_of_row w1 _ 1 _ 35 (0, 0) HM.out
  have a2 : w1.cell? ⟨w.heap.size, 2, none⟩ = some (.int .i64 m.dst) := cell_of_row w1 _ 2 _ 35 (0, 0) HM.out
  have a3 : w1.cell? ⟨w.heap.size, 3, none⟩ = some (.int .u64 m.term) := cell_of_row w1 _ 3 _ 35 (0, 0) HM.out
  have a4 : w1.cell? ⟨w.heap.size, 4, none⟩ = some (.int .u64 m.index) := cell_of_row w1 _ 4 _ 35 (0, 0) HM.out
  have a5 : w1.cell? ⟨w.heap.size, 5, none⟩ = some (.int .u64 m.prev) := cell_of_row w1 _ 5 _ 35 (0, 0) HM.out
  have a6 : w1.cell? ⟨w.heap.size, 6, none⟩ = some (.int .u64 m.commit) := cell_of_row w1 _ 6 _ 35 (0, 0) HM.out
  have a7 : w1.cell? ⟨w.heap.size, 7, none⟩ = some (.int .u64 m.mark) := cell_of_row w1 _ 7 _ 35 (0, 0) HM.out
  have a8 : w1.cell? ⟨w.heap.size, 8, none⟩ = some (.bool m.ok) := cell_of_row w1 _ 8 _ 35 (0, 0) HM.out
  have a9 : w1.cell? ⟨w.heap.size, 9, none⟩ = some (.slice m.A m.n m.c) := cell_of_row w1 _ 9 _ 35 (0, 0) HM.out
  have a10 : w1.cell? ⟨w.heap.size, 10, none⟩ = some (.string m.snap) := cell_of_row w1 _ 10 _ 35 (0, 0) HM.out
  go_wp2_with fail
  refine (KL.out _ HE.out).mono ?_
  rintro q w2 ⟨rfl, b⟩
  have HM2 : Hid (w2.heap[w.heap.size]? = some (.cells (mc m) 35 (0, 0))) := (b.block _ (Array.getElem?_eq_some_iff.1 HM.out).1).trans HM.out
  have HZ2 : Hid (w2.heap[w.heap.size + 1]? = some (.cells (mc mzz) 35 (0, 0))) := (b.block _ (Array.getElem?_eq_some_iff.1 HZ.out).1).trans HZ.out
  have HB2 : Hid (Below w.heap.size w w2) := HB.out.trans (b.mono HB.out.size)
  have HE2 : Hid (Ents w2.heap.size m.A m.n m.es w2) := (HE.out.below b).mr b.size
  clear b HB HZ HM HE a0 a1 a2 a3 a4 a5 a6 a7 a8 a9 a10
  have HM := HM2
  have HZ := HZ2
  have HB := HB2
  have HE := HE2
  clear HM2 HZ2 HB2 HE2
  have a0 : w2.cell? ⟨w.heap.size, 0, none⟩ = some (.int .i64 m.kind) := cell_of_row w2 _ 0 _ 35 (0, 0) HM.out
  have a1 : w2.cell? ⟨w.heap.size, 1, none⟩ = some (.int .i64 m.frm) := cell_of_row w2 _ 1 _ 35 (0, 0) HM.out
  have a2 : w2.cell? ⟨w.heap.size, 2, none⟩ = some (.int .i64 m.dst) := cell_of_row w2 _ 2 _ 35 (0, 0) HM.out
  have a3 : w2.cell? ⟨w.heap.size, 3, none⟩ = some (.int .u64 m.term) := cell_of_row w2 _ 3 _ 35 (0, 0) HM.out
  have a4 : w2.cell? ⟨w.heap.size, 4, none⟩ = some (.int .u64 m.index) := cell_of_row w2 _ 4 _ 35 (0, 0) HM.out
  have a5 : w2.cell? ⟨w.heap.size, 5, none⟩ = some (.int .u64 m.prev) := cell_of_row w2 _ 5 _ 35 (0, 0) HM.out
  have a6 : w2.cell? ⟨w.heap.size, 6, none⟩ = some (.int .u64 m.commit) := cell_of_row w2 _ 6 _ 35 (0, 0) HM.out
  have a7 : w2.cell? ⟨w.heap.size, 7, none⟩ = some (.int .u64 m.mark) := cell_of_row w2 _ 7 _ 35 (0, 0) HM.out
  have a8 : w2.cell? ⟨w.heap.size, 8, none⟩ = some (.bool m.ok) := cell_of_row w2 _ 8 _ 35 (0, 0) HM.out
  have a9 : w2.cell? ⟨w.heap.size, 9, none⟩ = some (.slice m.A m.n m.c) := cell_of_row w2 _ 9 _ 35 (0, 0) HM.out
  have a10 : w2.cell? ⟨w.heap.size, 10, none⟩ = some (.string m.snap) := cell_of_row w2 _ 10 _ 35 (0, 0) HM.out
  have z0 : w2.cell? ⟨w.heap.size + 1, 0, none⟩ = some (.int .i64 0) := cell_of_row w2 _ 0 _ 35 (0, 0) HZ.out
  have z1 : w2.cell? ⟨w.heap.size + 1, 1, none⟩ = some (.int .i64 0) := cell_of_row w2 _ 1 _ 35 (0, 0) HZ.out
  have z2 : w2.cell? ⟨w.heap.size + 1, 2, none⟩ = some (.int .i64 0) := cell_of_row w2 _ 2 _ 35 (0, 0) HZ.out
  have z3 : w2.cell? ⟨w.heap.size + 1, 3, none⟩ = some (.int .u64 0) := cell_of_row w2 _ 3 _ 35 (0, 0) HZ.out
  have z4 : w2.cell? ⟨w.heap.size + 1, 4, none⟩ = some (.int .u64 0) := cell_of_row w2 _ 4 _ 35 (0, 0) HZ.out
  have z5 : w2.cell? ⟨w.heap.size + 1, 5, none⟩ = some (.int .u64 0) := cell_of_row w2 _ 5 _ 35 (0, 0) HZ.out
  have z6 : w2.cell? ⟨w.heap.size + 1, 6, none⟩ = some (.int .u64 0) := cell_of_row w2 _ 6 _ 35 (0, 0) HZ.out
  have z7 : w2.cell? ⟨w.heap.size + 1, 7, none⟩ = some (.int .u64 0) := cell_of_row w2 _ 7 _ 35 (0, 0) HZ.out
  have z8 : w2.cell? ⟨w.heap.size + 1, 8, none⟩ = some (.bool false) := cell_of_row w2 _ 8 _ 35 (0, 0) HZ.out
  have z9 : w2.cell? ⟨w.heap.size + 1, 9, none⟩ = some (.slice none 0 0) := cell_of_row w2 _ 9 _ 35 (0, 0) HZ.out
  have z10 : w2.cell? ⟨w.heap.size + 1, 10, none⟩ = some (.string ⟨#[]⟩) := cell_of_row w2 _ 10 _ 35 (0, 0) HZ.out
  have fz : ∀ i, w2.frozen? ⟨w.heap.size + 1, i, none⟩ = false := fun i => Md.of HZ.out
  go_wp2
  obtain ⟨WF, hWF⟩ : ∃ WF, WF = wrm w2 (w.heap.size + 1) m := ⟨_, rfl⟩
  have hblk : WF.heap[w.heap.size + 1]? = some (.cells (mc m) 35 (0, 0)) := by rw [hWF]; exact store_allm m HZ.out
  have hbF : Below w.heap.size w WF := by rw [hWF]; exact below_allm m HB.out (by omega)
  have HEF : Hid (∀ A n es, Ents w.heap.size A n es w → Ents WF.heap.size A n es WF) := fun A n es h => (h.below hbF).mr hbF.size
  have HFB := Lib.hid hbF
  have HWE : Hid (WF = wrm w2 (w.heap.size + 1) m) := hWF
  unfold wrm at hWF
  rw [← hWF]
  have HWF := Lib.hid hWF
  clear hWF
  have f0 : WF.cell? ⟨w.heap.size + 1, 0, none⟩ = some (.int .i64 m.kind) := cell_of_row WF _ 0 _ 35 (0, 0) hblk
  have f1 : WF.cell? ⟨w.heap.size + 1, 1, none⟩ = some (.int .i64 m.frm) := cell_of_row WF _ 1 _ 35 (0, 0) hblk
  have f2 : WF.cell? ⟨w.heap.size + 1, 2, none⟩ = some (.int .i64 m.dst) := cell_of_row WF _ 2 _ 35 (0, 0) hblk
  have f3 : WF.cell? ⟨w.heap.size + 1, 3, none⟩ = some (.int .u64 m.term) := cell_of_row WF _ 3 _ 35 (0, 0) hblk
  have f4 : WF.cell? ⟨w.heap.size + 1, 4, none⟩ = some (.int .u64 m.index) := cell_of_row WF _ 4 _ 35 (0, 0) hblk
  have f5 : WF.cell? ⟨w.heap.size + 1, 5, none⟩ = some (.int .u64 m.prev) := cell_of_row WF _ 5 _ 35 (0, 0) hblk
  have f6 : WF.cell? ⟨w.heap.size + 1, 6, none⟩ = some (.int .u64 m.commit) := cell_of_row WF _ 6 _ 35 (0, 0) hblk
  have f7 : WF.cell? ⟨w.heap.size + 1, 7, none⟩ = some (.int .u64 m.mark) := cell_of_row WF _ 7 _ 35 (0, 0) hblk
  have f8 : WF.cell? ⟨w.heap.size + 1, 8, none⟩ = some (.bool m.ok) := cell_of_row WF _ 8 _ 35 (0, 0) hblk
  have f9 : WF.cell? ⟨w.heap.size + 1, 9, none⟩ = some (.slice m.A m.n m.c) := cell_of_row WF _ 9 _ 35 (0, 0) hblk
  have f10 : WF.cell? ⟨w.heap.size + 1, 10, none⟩ = some (.string m.snap) := cell_of_row WF _ 10 _ 35 (0, 0) hblk
  exact bodyPost_ret (v := .tuple #[mv m, .bool true]) (by simp [results, Try.results18, go_sem, f0, f1, f2, f3, f4, f5, f6, f7, f8, f9, f10]) rfl (shim_end (HEF.out _ _ _ HEW.out) (by rw [HMM.out]; exact like_refl _) HYES.out.symm HFB.out)
set_option maxHeartbeats 2000000 in
set_option maxRecDepth 100000 in
theorem rshim_n (m : Ms) (w : World) (hE : Ents w.heap.size m.A m.n m.es w) (wd : m.Wide) (hr : mrightB m = true) (hl : mlvl m = 2) (h9 : m.kind ≠ 9) (h10 : m.kind ≠ 10) :
    Calls Try.prog 18 #[mv m] w (Shimd m w) := by
  have hno : shimO m = false := by unfold shimO; rw [hl, decide_eq_false h9, decide_eq_false h10]; simp
  have HNO := Lib.hid hno
  obtain ⟨W0, hW0⟩ : ∃ W0, W0 = (w.alloc (Obj.cells (mc m) 35)).alloc (Obj.cells (mc mzz) 35) := ⟨_, rfl⟩
  have b0 : Below w.heap.size w W0 := by rw [hW0]; exact ((Below.refl _ _).alloc (Nat.le_refl _) _).alloc (by simp) _
  have k0 : W0.heap[w.heap.size]? = some (.cells (mc m) 35 (0, 0)) := by rw [hW0]; exact blk_al _ (heap_alloc_new w _)
  have k1 : W0.heap[w.heap.size + 1]? = some (.cells (mc mzz) 35 (0, 0)) := by rw [hW0]; have h := heap_alloc_new (w.alloc (Obj.cells (mc m) 35)) (Obj.cells (mc mzz) 35); simpa using h
  have hE0 := (hE.below b0).mr b0.size
  have KR := Lib.hid (rmright_any m W0 hE0 wd)
  have KL := Lib.hid (fun (W : World) (h : Ents W.heap.size m.A m.n m.es W) => rmlevel_any m W h (wide_n wd))
  have HW := Lib.hid hW0
  have HE := Lib.hid hE0
  have HEW := Lib.hid hE
  have HB0 := Lib.hid b0
  have HK0 := Lib.hid k0
  have HK1 := Lib.hid k1
  have HWD := Lib.hid wd
  clear hW0 b0 k0 k1 hE0
  rw [hr] at KR
  rw [hl] at KL
  clear hr hno wd hE hl
  go_enter Try.func18, Try.ntmps18
  go_upto_region 1 with fail
  rw [← HW.out]
  have HM := HK0
  have HZ := HK1
  have HB := HB0
  clear HK0 HK1 HB0
  have a0 : W0.cell? ⟨w.heap.size, 0, none⟩ = some (.int .i64 m.kind) := cell_of_row W0 _ 0 _ 35 (0, 0) HM.out
  have a1 : W0.cell? ⟨w.heap.size, 1, none⟩ = some (.int .i64 m.frm) := cell_of_row W0 _ 1 _ 35 (0, 0) HM.out
  have a2 : W0.cell? ⟨w.heap.size, 2, none⟩ = some (.int .i64 m.dst) := cell_of_row W0 _ 2 _ 35 (0, 0) HM.out
  have a3 : W0.cell? ⟨w.heap.size, 3, none⟩ = some (.int .u64 m.term) := cell_of_row W0 _ 3 _ 35 (0, 0) HM.out
  have a4 : W0.cell? ⟨w.heap.size, 4, none⟩ = some (.int .u64 m.index) := cell_of_row W0 _ 4 _ 35 (0, 0) HM.out
  have a5 : W0.cell? ⟨w.heap.size, 5, none⟩ = some (.int .u64 m.prev) := cell_of_row W0 _ 5 _ 35 (0, 0) HM.out
  have a6 : W0.cell? ⟨w.heap.size, 6, none⟩ = some (.int .u64 m.commit) := cell_of_row W0 _ 6 _ 35 (0, 0) HM.out
  have a7 : W0.cell? ⟨w.heap.size, 7, none⟩ = some (.int .u64 m.mark) := cell_of_row W0 _ 7 _ 35 (0, 0) HM.out
  have a8 : W0.cell? ⟨w.heap.size, 8, none⟩ = some (.bool m.ok) := cell_of_row W0 _ 8 _ 35 (0, 0) HM.out
  have a9 : W0.cell? ⟨w.heap.size, 9, none⟩ = some (.slice m.A m.n m.c) := cell_of_row W0 _ 9 _ 35 (0, 0) HM.out
  have a10 : W0.cell? ⟨w.heap.size, 10, none⟩ = some (.string m.snap) := cell_of_row W0 _ 10 _ 35 (0, 0) HM.out
  go_wp2_with fail
  refine KR.out.mono ?_
  rintro q w1 ⟨rfl, b⟩
  have HM2 : Hid (w1.heap[w.heap.size]? = some (.cells (mc m) 35 (0, 0))) := (b.block _ (Array.getElem?_eq_some_iff.1 HM.out).1).trans HM.out
  have HZ2 : Hid (w1.heap[w.heap.size + 1]? = some (.cells (mc mzz) 35 (0, 0))) := (b.block _ (Array.getElem?_eq_some_iff.1 HZ.out).1).trans HZ.out
  have HB2 : Hid (Below w.heap.size w w1) := HB.out.trans (b.mono HB.out.size)
  have HE2 : Hid (Ents w1.heap.size m.A m.n m.es w1) := (HE.out.below b).mr b.size
  clear b HB HZ HM HE a0 a1 a2 a3 a4 a5 a6 a7 a8 a9 a10
  have HM := HM2
  have HZ := HZ2
  have HB := HB2
  have HE := HE2
  clear HM2 HZ2 HB2 HE2
  have a0 : w1.cell? ⟨w.heap.size, 0, none⟩ = some (.int .i64 m.kind) := cell_of_row w1 _ 0 _ 35 (0, 0) HM.out
  have a1 : w1.cell? ⟨w.heap.size, 1, none⟩ = some (.int .i64 m.frm) := cell_of_row w1 _ 1 _ 35 (0, 0) HM.out
  have a2 : w1.cell? ⟨w.heap.size, 2, none⟩ = some (.int .i64 m.dst) := cell_of_row w1 _ 2 _ 35 (0, 0) HM.out
  have a3 : w1.cell? ⟨w.heap.size, 3, none⟩ = some (.int .u64 m.term) := cell_of_row w1 _ 3 _ 35 (0, 0) HM.out
  have a4 : w1.cell? ⟨w.heap.size, 4, none⟩ = some (.int .u64 m.index) := cell_of_row w1 _ 4 _ 35 (0, 0) HM.out
  have a5 : w1.cell? ⟨w.heap.size, 5, none⟩ = some (.int .u64 m.prev) := cell_of_row w1 _ 5 _ 35 (0, 0) HM.out
  have a6 : w1.cell? ⟨w.heap.size, 6, none⟩ = some (.int .u64 m.commit) := cell_of_row w1 _ 6 _ 35 (0, 0) HM.out
  have a7 : w1.cell? ⟨w.heap.size, 7, none⟩ = some (.int .u64 m.mark) := cell_of_row w1 _ 7 _ 35 (0, 0) HM.out
  have a8 : w1.cell? ⟨w.heap.size, 8, none⟩ = some (.bool m.ok) := cell_of_row w1 _ 8 _ 35 (0, 0) HM.out
  have a9 : w1.cell? ⟨w.heap.size, 9, none⟩ = some (.slice m.A m.n m.c) := cell_of_row w1 _ 9 _ 35 (0, 0) HM.out
  have a10 : w1.cell? ⟨w.heap.size, 10, none⟩ = some (.string m.snap) := cell_of_row w1 _ 10 _ 35 (0, 0) HM.out
  go_wp2_with fail
  refine (KL.out _ HE.out).mono ?_
  rintro q w2 ⟨rfl, b⟩
  have HM2 : Hid (w2.heap[w.heap.size]? = some (.cells (mc m) 35 (0, 0))) := (b.block _ (Array.getElem?_eq_some_iff.1 HM.out).1).trans HM.out
  have HZ2 : Hid (w2.heap[w.heap.size + 1]? = some (.cells (mc mzz) 35 (0, 0))) := (b.block _ (Array.getElem?_eq_some_iff.1 HZ.out).1).trans HZ.out
  have HB2 : Hid (Below w.heap.size w w2) := HB.out.trans (b.mono HB.out.size)
  have HE2 : Hid (Ents w2.heap.size m.A m.n m.es w2) := (HE.out.below b).mr b.size
  clear b HB HZ HM HE a0 a1 a2 a3 a4 a5 a6 a7 a8 a9 a10
  have HM := HM2
  have HZ := HZ2
  have HB := HB2
  have HE := HE2
  clear HM2 HZ2 HB2 HE2
  have z0 : w2.cell? ⟨w.heap.size + 1, 0, none⟩ = some (.int .i64 0) := cell_of_row w2 _ 0 _ 35 (0, 0) HZ.out
  have z1 : w2.cell? ⟨w.heap.size + 1, 1, none⟩ = some (.int .i64 0) := cell_of_row w2 _ 1 _ 35 (0, 0) HZ.out
  have z2 : w2.cell? ⟨w.heap.size + 1, 2, none⟩ = some (.int .i64 0) := cell_of_row w2 _ 2 _ 35 (0, 0) HZ.out
  have z3 : w2.cell? ⟨w.heap.size + 1, 3, none⟩ = some (.int .u64 0) := cell_of_row w2 _ 3 _ 35 (0, 0) HZ.out
  have z4 : w2.cell? ⟨w.heap.size + 1, 4, none⟩ = some (.int .u64 0) := cell_of_row w2 _ 4 _ 35 (0, 0) HZ.out
  have z5 : w2.cell? ⟨w.heap.size + 1, 5, none⟩ = some (.int .u64 0) := cell_of_row w2 _ 5 _ 35 (0, 0) HZ.out
  have z6 : w2.cell? ⟨w.heap.size + 1, 6, none⟩ = some (.int .u64 0) := cell_of_row w2 _ 6 _ 35 (0, 0) HZ.out
  have z7 : w2.cell? ⟨w.heap.size + 1, 7, none⟩ = some (.int .u64 0) := cell_of_row w2 _ 7 _ 35 (0, 0) HZ.out
  have z8 : w2.cell? ⟨w.heap.size + 1, 8, none⟩ = some (.bool false) := cell_of_row w2 _ 8 _ 35 (0, 0) HZ.out
  have z9 : w2.cell? ⟨w.heap.size + 1, 9, none⟩ = some (.slice none 0 0) := cell_of_row w2 _ 9 _ 35 (0, 0) HZ.out
  have z10 : w2.cell? ⟨w.heap.size + 1, 10, none⟩ = some (.string ⟨#[]⟩) := cell_of_row w2 _ 10 _ 35 (0, 0) HZ.out
  have fz : ∀ i, w2.frozen? ⟨w.heap.size + 1, i, none⟩ = false := fun i => Md.of HZ.out
  go_wp2
  obtain ⟨WF, hWF⟩ : ∃ WF, WF = wrm w2 (w.heap.size + 1) mzz := ⟨_, rfl⟩
  have hblk : WF.heap[w.heap.size + 1]? = some (.cells (mc mzz) 35 (0, 0)) := by rw [hWF]; exact store_allm mzz HZ.out
  have hbF : Below w.heap.size w WF := by rw [hWF]; exact below_allm mzz HB.out (by omega)
  have HEF : Hid (∀ A n es, Ents w.heap.size A n es w → Ents WF.heap.size A n es WF) := fun A n es h => (h.below hbF).mr hbF.size
  have HFB := Lib.hid hbF
  have HWE : Hid (WF = wrm w2 (w.heap.size + 1) mzz) := hWF
  unfold wrm at hWF
  rw [← hWF]
  have HWF := Lib.hid hWF
  clear hWF
  have f0 : WF.cell? ⟨w.heap.size + 1, 0, none⟩ = some (.int .i64 0) := cell_of_row WF _ 0 _ 35 (0, 0) hblk
  have f1 : WF.cell? ⟨w.heap.size + 1, 1, none⟩ = some (.int .i64 0) := cell_of_row WF _ 1 _ 35 (0, 0) hblk
  have f2 : WF.cell? ⟨w.heap.size + 1, 2, none⟩ = some (.int .i64 0) := cell_of_row WF _ 2 _ 35 (0, 0) hblk
  have f3 : WF.cell? ⟨w.heap.size + 1, 3, none⟩ = some (.int .u64 0) := cell_of_row WF _ 3 _ 35 (0, 0) hblk
  have f4 : WF.cell? ⟨w.heap.size + 1, 4, none⟩ = some (.int .u64 0) := cell_of_row WF _ 4 _ 35 (0, 0) hblk
  have f5 : WF.cell? ⟨w.heap.size + 1, 5, none⟩ = some (.int .u64 0) := cell_of_row WF _ 5 _ 35 (0, 0) hblk
  have f6 : WF.cell? ⟨w.heap.size + 1, 6, none⟩ = some (.int .u64 0) := cell_of_row WF _ 6 _ 35 (0, 0) hblk
  have f7 : WF.cell? ⟨w.heap.size + 1, 7, none⟩ = some (.int .u64 0) := cell_of_row WF _ 7 _ 35 (0, 0) hblk
  have f8 : WF.cell? ⟨w.heap.size + 1, 8, none⟩ = some (.bool false) := cell_of_row WF _ 8 _ 35 (0, 0) hblk
  have f9 : WF.cell? ⟨w.heap.size + 1, 9, none⟩ = some (.slice none 0 0) := cell_of_row WF _ 9 _ 35 (0, 0) hblk
  have f10 : WF.cell? ⟨w.heap.size + 1, 10, none⟩ = some (.string ⟨#[]⟩) := cell_of_row WF _ 10 _ 35 (0, 0) hblk
  exact bodyPost_ret (v := .tuple #[mv mzz, .bool false]) (by simp [results, Try.results18, go_sem, f0, f1, f2, f3, f4, f5, f6, f7, f8, f9, f10]) rfl (shim_end (mzz_ents _ _) (by rw [shimM_no HNO.out]; exact like_refl _) HNO.out.symm HFB.out)
theorem rshim_any (m : Ms) (w : World) (hE : Ents w.heap.size m.A m.n m.es w) (wd : m.Wide) : Calls Try.prog 18 #[mv m] w (Shimd m w) := by
  cases hr : mrightB m with
  | false => exact rshim_no m w hE wd hr
  | true =>
    by_cases h9 : m.kind = 9
    · exact rshim_9 m w hE wd hr h9
    by_cases h10 : m.kind = 10
    · exact rshim_10 m w hE wd hr h10
    have h := mlvl_bounds m
    by_cases hl : mlvl m = 1
    · exact rshim_1 m w hE wd hr hl
    · exact rshim_n m w hE wd hr (by omega) h9 h10
end Go.Proofs.Ytpdbeijfchmlgaa
