/-
  SecondShort, walked: true for every input.
  Conditions: what came in is as its types say.
-/
import Derived.Test.YtmalcldpihpfpaaGreatEx6
namespace Go.Proofs.YtmalcldpihpfpaaGreat
open Go.RowKit
open Vi
set_option linter.unusedVariables false
set_option linter.unusedSimpArgs false

theorem nemp {l : List UInt8} (h : ¬ l = []) : (!l.isEmpty) = true := by
  cases l with
  | nil => exact absurd rfl h
  | cons a l => rfl
theorem w64b {x : Int} (h0 : 0 ≤ x) (h1 : x ≤ 1000) : wrap64 x = x := by unfold wrap64; omega
theorem w64c {x p : Int} (h0 : 0 ≤ x) (h1 : x ≤ 1000) (h : p = x) : wrap64 x = p := by rw [w64b h0 h1, h]
theorem w64d {P R o : Nat} (hR : R ≤ 21) (ho : o ≤ 64) (h : (P : Int) = R + (2 + o)) : wrap64 (2 + (o : Int)) = 2 + o ∧ wrap64 ((R : Int) + (2 + (o : Int))) = P := by
  have h1 : wrap64 (2 + (o : Int)) = 2 + o := w64b (by omega) (by omega)
  refine ⟨h1, w64c ?_ ?_ h⟩
  · clear h1; omega
  · clear h1; omega
theorem w64e {P R o t : Nat} (hR : R ≤ 21) (ho : o ≤ 64) (ht : t ≤ 64) (h : (P : Int) = R + (2 + o + 2 + t)) : wrap64 (2 + (o : Int)) = 2 + o ∧ wrap64 (2 + (o : Int) + 2) = 2 + o + 2 ∧ wrap64 (2 + (o : Int) + 2 + (t : Int)) = 2 + o + 2 + t ∧ wrap64 ((R : Int) + (2 + (o : Int) + 2 + (t : Int))) = P := by
  refine ⟨w64b (by omega) (by omega), w64b (by omega) (by omega), w64b (by omega) (by omega), w64c ?_ ?_ h⟩
  · omega
  · omega
theorem same_term (X : En) (d : Nat) : sameB X { X with term := X.term + d } = decide ((d : Int) = 0) := by
  by_cases h : d = 0
  · subst h
    rw [show decide (((0 : Nat) : Int) = 0) = true from rfl]
    refine (sameB_iff _ _).2 ?_
    cases X
    simp
  · rw [decide_eq_false (by omega)]
    cases hq : sameB X { X with term := X.term + d } with
    | false => rfl
    | true =>
      have h2 := (sameB_iff _ _).1 hq
      have h3 : X.term = X.term + d := congrArg En.term h2
      omega

set_option maxHeartbeats 16000000 in
set_option maxRecDepth 100000 in
theorem lshort_any (e : En) (o : Bool) (d : Nat) (w : World) (ok : e.Ok) (hd : d < 65536) :
    Calls Tryz.prog 7 #[mdv e o, .int .u16 d] w fun r w' => r = .returned (.bool true) ∧ Below w.heap.size w w' := by
  obtain ⟨W0, hW0⟩ : ∃ W0, W0 = w.alloc (Obj.cells (mdc e o) 26) := ⟨_, rfl⟩
  have b0 : Below w.heap.size w W0 := by rw [hW0]; exact (Below.refl _ _).alloc (Nat.le_refl _) _
  have k0 : W0.heap[w.heap.size]? = some (.cells (mdc e o) 26 (0, 0)) := by rw [hW0]; exact heap_alloc_new w _
  obtain ⟨X, hX⟩ : ∃ X, X = mk e := ⟨_, rfl⟩
  obtain ⟨xok, xr, xd, xo, _⟩ := mk_facts e ok
  have sm := (mk_small e ok).1
  have sz := short_sizes e ok d hd
  rw [← hX] at xok xr xd xo sm sz
  obtain ⟨yok, yr⟩ := right_term xok xr (X.term + d) (by omega) (by omega)
  obtain ⟨zok, zr⟩ := right_bare xok xr
  obtain ⟨P, hP⟩ : ∃ P, P = putS X := ⟨_, rfl⟩
  obtain ⟨Q, hQ⟩ : ∃ Q, Q = putS { X with term := X.term + d } := ⟨_, rfl⟩
  obtain ⟨R, hR⟩ : ∃ R, R = putS { X with data := ⟨#[]⟩, old := ⟨#[]⟩ } := ⟨_, rfl⟩
  rw [← hP, ← hQ, ← hR] at sz
  have KX : Hid (∀ W, Calls Tryz.prog 11 #[mdv e true] W fun r w' => r = .returned (ev X) ∧ Below W.heap.size W w') := fun W => by rw [hX]; exact made_yes e W ok
  have KP : Hid (∀ W, Calls Tryz.prog 10 #[ev X] W fun q w' => q = .returned (.tuple #[.string P, .bool true]) ∧ Below W.heap.size W w') := fun W => (putE_any X W xok).mono fun q w' ⟨h1, h2⟩ => ⟨by rw [h1, hP, xr], h2⟩
  have KQ : Hid (∀ W, Calls Tryz.prog 10 #[.agg #[.int .u64 (X.term + d), .int .u64 X.index, .int .i64 X.kind, .int .u64 X.client, .int .u64 X.seq, .int .u64 X.block, .int .u64 X.many, .int .i64 X.node, .int .i64 X.level, .string X.data, .string X.old]] W fun q w' => q = .returned (.tuple #[.string Q, .bool true]) ∧ Below W.heap.size W w') := fun W => (putE_any { X with term := X.term + d } W yok).mono fun q w' ⟨h1, h2⟩ => ⟨by rw [h1, hQ, yr], h2⟩
  have KR : Hid (∀ W, Calls Tryz.prog 10 #[.agg #[.int .u64 X.term, .int .u64 X.index, .int .i64 X.kind, .int .u64 X.client, .int .u64 X.seq, .int .u64 X.block, .int .u64 X.many, .int .i64 X.node, .int .i64 X.level, .string ⟨#[]⟩, .string ⟨#[]⟩]] W fun q w' => q = .returned (.tuple #[.string R, .bool true]) ∧ Below W.heap.size W w') := fun W => (putE_any { X with data := ⟨#[]⟩, old := ⟨#[]⟩ } W zok).mono fun q w' ⟨h1, h2⟩ => ⟨by rw [h1, hR, zr], h2⟩
  have KS : Hid (∀ W, Calls Tryz.prog 28 #[ev X, .agg #[.int .u64 (X.term + d), .int .u64 X.index, .int .i64 X.kind, .int .u64 X.client, .int .u64 X.seq, .int .u64 X.block, .int .u64 X.many, .int .i64 X.node, .int .i64 X.level, .string X.data, .string X.old]] W fun q w' => q = .returned (.bool (decide ((d : Int) = 0))) ∧ Below W.heap.size W w') := fun W => (same_any X { X with term := X.term + d } W).mono fun q w' ⟨h1, h2⟩ => ⟨by rw [h1, same_term], h2⟩
  have hwd : IntKind.u64.wrap (d : Int) = d := by rw [IntKind.wrap_u64]; omega
  have hwt : IntKind.u64.wrap (X.term + (d : Int)) = X.term + d := by rw [IntKind.wrap_u64]; omega
  have HW := Lib.hid hW0
  have HB0 := Lib.hid b0
  have HK0 := Lib.hid k0
  have HSZ := Lib.hid sz
  have HXD := Lib.hid xd
  have HXO := Lib.hid xo
  clear hW0 b0 k0 xok xr xd xo sm sz yok yr zok zr hP hQ hR hX ok hd
  go_enter Tryz.func7, Tryz.ntmps7
  go_wp2_with fail
  rw [← HW.out]
  clear HW
  refine (examples_any _).mono ?_
  rintro q w1 ⟨rfl, b1⟩
  have k1 : w1.heap[w.heap.size]? = some (.cells (mdc e o) 26 (0, 0)) := (b1.block _ (Array.getElem?_eq_some_iff.1 HK0.out).1).trans HK0.out
  have HB1 : Hid (Below w.heap.size w w1) := HB0.out.trans (b1.mono HB0.out.size)
  have hfz : ∀ i, w1.frozen? ⟨w.heap.size, i, none⟩ = false := fun i => Lib.frozen_of_heap k1 i
  have c0 : w1.cell? ⟨w.heap.size, 0, none⟩ = some (.int .u64 e.term) := cell_of_row w1 _ 0 _ 26 (0, 0) k1
  have c1 : w1.cell? ⟨w.heap.size, 1, none⟩ = some (.int .u64 e.index) := cell_of_row w1 _ 1 _ 26 (0, 0) k1
  have c2 : w1.cell? ⟨w.heap.size, 2, none⟩ = some (.int .i64 e.kind) := cell_of_row w1 _ 2 _ 26 (0, 0) k1
  have c3 : w1.cell? ⟨w.heap.size, 3, none⟩ = some (.int .u64 e.client) := cell_of_row w1 _ 3 _ 26 (0, 0) k1
  have c4 : w1.cell? ⟨w.heap.size, 4, none⟩ = some (.int .u64 e.seq) := cell_of_row w1 _ 4 _ 26 (0, 0) k1
  have c5 : w1.cell? ⟨w.heap.size, 5, none⟩ = some (.int .u64 e.block) := cell_of_row w1 _ 5 _ 26 (0, 0) k1
  have c6 : w1.cell? ⟨w.heap.size, 6, none⟩ = some (.int .u64 e.many) := cell_of_row w1 _ 6 _ 26 (0, 0) k1
  have c7 : w1.cell? ⟨w.heap.size, 7, none⟩ = some (.int .i64 e.node) := cell_of_row w1 _ 7 _ 26 (0, 0) k1
  have c8 : w1.cell? ⟨w.heap.size, 8, none⟩ = some (.int .i64 e.level) := cell_of_row w1 _ 8 _ 26 (0, 0) k1
  have c9 : w1.cell? ⟨w.heap.size, 9, none⟩ = some (.string e.data) := cell_of_row w1 _ 9 _ 26 (0, 0) k1
  have c10 : w1.cell? ⟨w.heap.size, 10, none⟩ = some (.string e.old) := cell_of_row w1 _ 10 _ 26 (0, 0) k1
  have c11 : w1.cell? ⟨w.heap.size, 11, none⟩ = some (.bool o) := cell_of_row w1 _ 11 _ 26 (0, 0) k1
  clear b1 k1 HB0 HK0
  go_wp2_with fail
  clear hfz c11
  refine (KX.out _).mono ?_
  rintro q w2 ⟨rfl, b2⟩
  clear c0 c1 c2 c3 c4 c5 c6 c7 c8 c9 c10
  have HB2 : Hid (Below w.heap.size w w2) := (HB1.out.setCell (p := ⟨w.heap.size, 11, none⟩) (Nat.le_refl _) _).trans (b2.mono (by simpa [World.setCell] using HB1.out.size))
  clear b2
  go_wp2_with fail
  refine (KP.out _).mono ?_
  rintro q w3 ⟨rfl, b3⟩
  have k3 : w3.heap[w2.heap.size]? = some (.cells (ec X) 24 (0, 0)) := (b3.block _ (by simp)).trans (heap_alloc_new w2 _)
  have HB3 : Hid (Below w.heap.size w w3) := (HB2.out.alloc HB2.out.size _).trans (b3.mono (by have := HB2.out.size; simp; omega))
  have c0 : w3.cell? ⟨w2.heap.size, 0, none⟩ = some (.int .u64 X.term) := cell_of_row w3 _ 0 _ 24 (0, 0) k3
  have c1 : w3.cell? ⟨w2.heap.size, 1, none⟩ = some (.int .u64 X.index) := cell_of_row w3 _ 1 _ 24 (0, 0) k3
  have c2 : w3.cell? ⟨w2.heap.size, 2, none⟩ = some (.int .i64 X.kind) := cell_of_row w3 _ 2 _ 24 (0, 0) k3
  have c3 : w3.cell? ⟨w2.heap.size, 3, none⟩ = some (.int .u64 X.client) := cell_of_row w3 _ 3 _ 24 (0, 0) k3
  have c4 : w3.cell? ⟨w2.heap.size, 4, none⟩ = some (.int .u64 X.seq) := cell_of_row w3 _ 4 _ 24 (0, 0) k3
  have c5 : w3.cell? ⟨w2.heap.size, 5, none⟩ = some (.int .u64 X.block) := cell_of_row w3 _ 5 _ 24 (0, 0) k3
  have c6 : w3.cell? ⟨w2.heap.size, 6, none⟩ = some (.int .u64 X.many) := cell_of_row w3 _ 6 _ 24 (0, 0) k3
  have c7 : w3.cell? ⟨w2.heap.size, 7, none⟩ = some (.int .i64 X.node) := cell_of_row w3 _ 7 _ 24 (0, 0) k3
  have c8 : w3.cell? ⟨w2.heap.size, 8, none⟩ = some (.int .i64 X.level) := cell_of_row w3 _ 8 _ 24 (0, 0) k3
  have c9 : w3.cell? ⟨w2.heap.size, 9, none⟩ = some (.string X.data) := cell_of_row w3 _ 9 _ 24 (0, 0) k3
  have c10 : w3.cell? ⟨w2.heap.size, 10, none⟩ = some (.string X.old) := cell_of_row w3 _ 10 _ 24 (0, 0) k3
  have HK3 := Lib.hid k3
  have HA3 : Hid (w2.heap.size < w3.heap.size) := (Array.getElem?_eq_some_iff.1 k3).1
  clear b3
  obtain ⟨A2, hA2⟩ : ∃ A2, A2 = w3.alloc (Obj.cells (ec X) 24) := ⟨_, rfl⟩
  have kx : A2.heap[w2.heap.size]? = some (.cells (ec X) 24 (0, 0)) := by rw [hA2]; exact blk_al _ k3
  have ky : A2.heap[w3.heap.size]? = some (.cells (ec X) 24 (0, 0)) := by rw [hA2]; exact heap_alloc_new w3 _
  have a0 : A2.cell? ⟨w2.heap.size, 0, none⟩ = some (.int .u64 X.term) := cell_of_row A2 _ 0 _ 24 (0, 0) kx
  have y0 : A2.cell? ⟨w3.heap.size, 0, none⟩ = some (.int .u64 X.term) := cell_of_row A2 _ 0 _ 24 (0, 0) ky
  have y1 : A2.cell? ⟨w3.heap.size, 1, none⟩ = some (.int .u64 X.index) := cell_of_row A2 _ 1 _ 24 (0, 0) ky
  have y2 : A2.cell? ⟨w3.heap.size, 2, none⟩ = some (.int .i64 X.kind) := cell_of_row A2 _ 2 _ 24 (0, 0) ky
  have y3 : A2.cell? ⟨w3.heap.size, 3, none⟩ = some (.int .u64 X.client) := cell_of_row A2 _ 3 _ 24 (0, 0) ky
  have y4 : A2.cell? ⟨w3.heap.size, 4, none⟩ = some (.int .u64 X.seq) := cell_of_row A2 _ 4 _ 24 (0, 0) ky
  have y5 : A2.cell? ⟨w3.heap.size, 5, none⟩ = some (.int .u64 X.block) := cell_of_row A2 _ 5 _ 24 (0, 0) ky
  have y6 : A2.cell? ⟨w3.heap.size, 6, none⟩ = some (.int .u64 X.many) := cell_of_row A2 _ 6 _ 24 (0, 0) ky
  have y7 : A2.cell? ⟨w3.heap.size, 7, none⟩ = some (.int .i64 X.node) := cell_of_row A2 _ 7 _ 24 (0, 0) ky
  have y8 : A2.cell? ⟨w3.heap.size, 8, none⟩ = some (.int .i64 X.level) := cell_of_row A2 _ 8 _ 24 (0, 0) ky
  have y9 : A2.cell? ⟨w3.heap.size, 9, none⟩ = some (.string X.data) := cell_of_row A2 _ 9 _ 24 (0, 0) ky
  have y10 : A2.cell? ⟨w3.heap.size, 10, none⟩ = some (.string X.old) := cell_of_row A2 _ 10 _ 24 (0, 0) ky
  have fy : ∀ i, A2.frozen? ⟨w3.heap.size, i, none⟩ = false := fun i => Lib.frozen_of_heap ky i
  have HA2 := Lib.hid hA2
  clear k3 kx ky hA2
  go_upto_region 8 with fail
  rw [← HA2.out]
  go_wp2_with fail
  refine (KQ.out _).mono ?_
  rintro q w4 ⟨rfl, b4⟩
  clear c0 c1 c2 c3 c4 c5 c6 c7 c8 c9 c10
  clear y0 y1 y2 y3 y4 y5 y6 y7 y8 y9 y10
  clear a0 fy
  have hA2 := HA2.out
  obtain ⟨A3, hA3⟩ : ∃ A3, A3 = A2.setCell ⟨w3.heap.size, 0, none⟩ (.int .u64 (X.term + d)) := ⟨_, rfl⟩
  rw [← hA3] at b4
  have ba : Below w3.heap.size w3 A3 := by rw [hA3, hA2]; exact ((Below.refl _ _).alloc (Nat.le_refl _) _).setCell (p := ⟨w3.heap.size, 0, none⟩) (Nat.le_refl _) _
  have ka : A3.heap[w3.heap.size]? = some (.cells ((ec X).setIfInBounds 0 (.int .u64 (X.term + d))) 24 (0, 0)) := by rw [hA3, hA2]; exact set_blk (heap_alloc_new w3 _) 0 _
  have k4 : w4.heap[w2.heap.size]? = some (.cells (ec X) 24 (0, 0)) := (b4.block _ (Nat.lt_of_lt_of_le HA3.out ba.size)).trans ((ba.block _ HA3.out).trans HK3.out)
  have k4y : w4.heap[w3.heap.size]? = some (.cells #[.int .u64 (X.term + d), .int .u64 X.index, .int .i64 X.kind, .int .u64 X.client, .int .u64 X.seq, .int .u64 X.block, .int .u64 X.many, .int .i64 X.node, .int .i64 X.level, .string X.data, .string X.old] 24 (0, 0)) := (b4.block _ (Array.getElem?_eq_some_iff.1 ka).1).trans ka
  have HB4 : Hid (Below w.heap.size w w4) := (HB3.out.trans (ba.mono HB3.out.size)).trans (b4.mono (Nat.le_trans HB3.out.size ba.size))
  have c0 : w4.cell? ⟨w2.heap.size, 0, none⟩ = some (.int .u64 X.term) := cell_of_row w4 _ 0 _ 24 (0, 0) k4
  have c1 : w4.cell? ⟨w2.heap.size, 1, none⟩ = some (.int .u64 X.index) := cell_of_row w4 _ 1 _ 24 (0, 0) k4
  have c2 : w4.cell? ⟨w2.heap.size, 2, none⟩ = some (.int .i64 X.kind) := cell_of_row w4 _ 2 _ 24 (0, 0) k4
  have c3 : w4.cell? ⟨w2.heap.size, 3, none⟩ = some (.int .u64 X.client) := cell_of_row w4 _ 3 _ 24 (0, 0) k4
  have c4 : w4.cell? ⟨w2.heap.size, 4, none⟩ = some (.int .u64 X.seq) := cell_of_row w4 _ 4 _ 24 (0, 0) k4
  have c5 : w4.cell? ⟨w2.heap.size, 5, none⟩ = some (.int .u64 X.block) := cell_of_row w4 _ 5 _ 24 (0, 0) k4
  have c6 : w4.cell? ⟨w2.heap.size, 6, none⟩ = some (.int .u64 X.many) := cell_of_row w4 _ 6 _ 24 (0, 0) k4
  have c7 : w4.cell? ⟨w2.heap.size, 7, none⟩ = some (.int .i64 X.node) := cell_of_row w4 _ 7 _ 24 (0, 0) k4
  have c8 : w4.cell? ⟨w2.heap.size, 8, none⟩ = some (.int .i64 X.level) := cell_of_row w4 _ 8 _ 24 (0, 0) k4
  have c9 : w4.cell? ⟨w2.heap.size, 9, none⟩ = some (.string X.data) := cell_of_row w4 _ 9 _ 24 (0, 0) k4
  have c10 : w4.cell? ⟨w2.heap.size, 10, none⟩ = some (.string X.old) := cell_of_row w4 _ 10 _ 24 (0, 0) k4
  have HK4 := Lib.hid k4
  have HY4 := Lib.hid k4y
  have HA4 : Hid (w2.heap.size < w4.heap.size) := (Array.getElem?_eq_some_iff.1 k4).1
  have HA4y : Hid (w3.heap.size < w4.heap.size) := (Array.getElem?_eq_some_iff.1 k4y).1
  clear b4 k4 k4y ba ka hA3 HK3
  go_wp2_with fail
  refine (KR.out _).mono ?_
  rintro q w5 ⟨rfl, b5⟩
  clear c0 c1 c2 c3 c4 c5 c6 c7 c8 c9 c10
  obtain ⟨A4, hA4⟩ : ∃ A4, A4 = w4.alloc (Obj.cells #[.int .u64 X.term, .int .u64 X.index, .int .i64 X.kind, .int .u64 X.client, .int .u64 X.seq, .int .u64 X.block, .int .u64 X.many, .int .i64 X.node, .int .i64 X.level, .string ⟨#[]⟩, .string ⟨#[]⟩] 24) := ⟨_, rfl⟩
  rw [← hA4] at b5
  have ba : Below w4.heap.size w4 A4 := by rw [hA4]; exact (Below.refl _ _).alloc (Nat.le_refl _) _
  have k5 : w5.heap[w2.heap.size]? = some (.cells (ec X) 24 (0, 0)) := (b5.block _ (Nat.lt_of_lt_of_le HA4.out ba.size)).trans ((ba.block _ HA4.out).trans HK4.out)
  have k5y : w5.heap[w3.heap.size]? = some (.cells #[.int .u64 (X.term + d), .int .u64 X.index, .int .i64 X.kind, .int .u64 X.client, .int .u64 X.seq, .int .u64 X.block, .int .u64 X.many, .int .i64 X.node, .int .i64 X.level, .string X.data, .string X.old] 24 (0, 0)) := (b5.block _ (Nat.lt_of_lt_of_le HA4y.out ba.size)).trans ((ba.block _ HA4y.out).trans HY4.out)
  have HB5 : Hid (Below w.heap.size w w5) := (HB4.out.trans (ba.mono HB4.out.size)).trans (b5.mono (Nat.le_trans HB4.out.size ba.size))
  have c0 : w5.cell? ⟨w2.heap.size, 0, none⟩ = some (.int .u64 X.term) := cell_of_row w5 _ 0 _ 24 (0, 0) k5
  have c1 : w5.cell? ⟨w2.heap.size, 1, none⟩ = some (.int .u64 X.index) := cell_of_row w5 _ 1 _ 24 (0, 0) k5
  have c2 : w5.cell? ⟨w2.heap.size, 2, none⟩ = some (.int .i64 X.kind) := cell_of_row w5 _ 2 _ 24 (0, 0) k5
  have c3 : w5.cell? ⟨w2.heap.size, 3, none⟩ = some (.int .u64 X.client) := cell_of_row w5 _ 3 _ 24 (0, 0) k5
  have c4 : w5.cell? ⟨w2.heap.size, 4, none⟩ = some (.int .u64 X.seq) := cell_of_row w5 _ 4 _ 24 (0, 0) k5
  have c5 : w5.cell? ⟨w2.heap.size, 5, none⟩ = some (.int .u64 X.block) := cell_of_row w5 _ 5 _ 24 (0, 0) k5
  have c6 : w5.cell? ⟨w2.heap.size, 6, none⟩ = some (.int .u64 X.many) := cell_of_row w5 _ 6 _ 24 (0, 0) k5
  have c7 : w5.cell? ⟨w2.heap.size, 7, none⟩ = some (.int .i64 X.node) := cell_of_row w5 _ 7 _ 24 (0, 0) k5
  have c8 : w5.cell? ⟨w2.heap.size, 8, none⟩ = some (.int .i64 X.level) := cell_of_row w5 _ 8 _ 24 (0, 0) k5
  have c9 : w5.cell? ⟨w2.heap.size, 9, none⟩ = some (.string X.data) := cell_of_row w5 _ 9 _ 24 (0, 0) k5
  have c10 : w5.cell? ⟨w2.heap.size, 10, none⟩ = some (.string X.old) := cell_of_row w5 _ 10 _ 24 (0, 0) k5
  have y0 : w5.cell? ⟨w3.heap.size, 0, none⟩ = some (.int .u64 (X.term + d)) := cell_of_row w5 _ 0 _ 24 (0, 0) k5y
  have y1 : w5.cell? ⟨w3.heap.size, 1, none⟩ = some (.int .u64 X.index) := cell_of_row w5 _ 1 _ 24 (0, 0) k5y
  have y2 : w5.cell? ⟨w3.heap.size, 2, none⟩ = some (.int .i64 X.kind) := cell_of_row w5 _ 2 _ 24 (0, 0) k5y
  have y3 : w5.cell? ⟨w3.heap.size, 3, none⟩ = some (.int .u64 X.client) := cell_of_row w5 _ 3 _ 24 (0, 0) k5y
  have y4 : w5.cell? ⟨w3.heap.size, 4, none⟩ = some (.int .u64 X.seq) := cell_of_row w5 _ 4 _ 24 (0, 0) k5y
  have y5 : w5.cell? ⟨w3.heap.size, 5, none⟩ = some (.int .u64 X.block) := cell_of_row w5 _ 5 _ 24 (0, 0) k5y
  have y6 : w5.cell? ⟨w3.heap.size, 6, none⟩ = some (.int .u64 X.many) := cell_of_row w5 _ 6 _ 24 (0, 0) k5y
  have y7 : w5.cell? ⟨w3.heap.size, 7, none⟩ = some (.int .i64 X.node) := cell_of_row w5 _ 7 _ 24 (0, 0) k5y
  have y8 : w5.cell? ⟨w3.heap.size, 8, none⟩ = some (.int .i64 X.level) := cell_of_row w5 _ 8 _ 24 (0, 0) k5y
  have y9 : w5.cell? ⟨w3.heap.size, 9, none⟩ = some (.string X.data) := cell_of_row w5 _ 9 _ 24 (0, 0) k5y
  have y10 : w5.cell? ⟨w3.heap.size, 10, none⟩ = some (.string X.old) := cell_of_row w5 _ 10 _ 24 (0, 0) k5y
  clear b5 k5 k5y ba hA4 HK4 HY4
  have hs := HSZ.out
  have hxd := HXD.out
  have hxo := HXO.out
  have s1 : (P.size : Int) ≤ Q.size := by omega
  have s3 : (R.size : Int) ≤ 21 := by omega
  have n1 : P.size ≤ Q.size := by omega
  have n3 : R.size ≤ 21 := by omega
  have hq1 : (decide (d = 0) == ((d : Int) == 0)) = true := by by_cases hd0 : d = 0 <;> simp [hd0]
  have hq2 : (decide ((d : Int) = 0) == ((d : Int) == 0)) = true := by by_cases hd0 : d = 0 <;> simp [hd0]
  have sd := toList_nil X.data
  have so := toList_nil X.old
  have HS2 := Lib.hid hs.2.1
  clear hs hA2
  by_cases zd : (X.data.size : Int) = 0
  · have td : X.data.toList = [] := sd.2 zd
    by_cases zo : (X.old.size : Int) = 0
    · have tz : X.old.toList = [] := so.2 zo
      have s2 : (P.size : Int) = R.size := by have h := HS2.out; rw [if_pos (by omega), if_pos (by omega)] at h; omega
      have v2 : wrap64 (R.size : Int) = P.size := w64c (by omega) (by omega) s2
      have HS3 := Lib.hid s2
      clear sd so hxd hxo s2
      go_upto_region 19 with fail
      clear td tz zd zo
      go_wp2_with fail
      · refine (KS.out _).mono ?_
        rintro q w6 ⟨rfl, b6⟩
        have HB6 : Hid (Below w.heap.size w w6) := HB5.out.trans (b6.mono HB5.out.size)
        clear b6
        go_wp2
        exact bodyPost_ret (v := .bool true) (by simp [results, Tryz.results7, go_sem]) rfl ⟨rfl, HB6.out⟩
    · have tz : ¬ X.old.toList = [] := fun h => zo (so.1 h)
      have tzb := nemp tz
      have s2 : (P.size : Int) = R.size + (2 + X.old.size) := by have h := HS2.out; rw [if_pos (by omega), if_neg (by omega)] at h; omega
      obtain ⟨v1, v2⟩ := w64d n3 hxo s2
      have HS3 := Lib.hid s2
      clear sd so hxd hxo s2
      go_upto_region 19 with fail
      clear td tz zd zo
      go_wp2_with fail
      · refine (KS.out _).mono ?_
        rintro q w6 ⟨rfl, b6⟩
        have HB6 : Hid (Below w.heap.size w w6) := HB5.out.trans (b6.mono HB5.out.size)
        clear b6
        go_wp2
        exact bodyPost_ret (v := .bool true) (by simp [results, Tryz.results7, go_sem]) rfl ⟨rfl, HB6.out⟩
  · have td : ¬ X.data.toList = [] := fun h => zd (sd.1 h)
    have tdb := nemp td
    by_cases zo : (X.old.size : Int) = 0
    · have tz : X.old.toList = [] := so.2 zo
      have s2 : (P.size : Int) = R.size + (2 + X.data.size) := by have h := HS2.out; rw [if_neg (by omega), if_pos (by omega)] at h; omega
      obtain ⟨v1, v2⟩ := w64d n3 hxd s2
      have HS3 := Lib.hid s2
      clear sd so hxd hxo s2
      go_upto_region 19 with fail
      clear td tz zd zo
      go_wp2_with fail
      · refine (KS.out _).mono ?_
        rintro q w6 ⟨rfl, b6⟩
        have HB6 : Hid (Below w.heap.size w w6) := HB5.out.trans (b6.mono HB5.out.size)
        clear b6
        go_wp2
        exact bodyPost_ret (v := .bool true) (by simp [results, Tryz.results7, go_sem]) rfl ⟨rfl, HB6.out⟩
    · have tz : ¬ X.old.toList = [] := fun h => zo (so.1 h)
      have tzb := nemp tz
      have s2 : (P.size : Int) = R.size + (2 + X.data.size + 2 + X.old.size) := by have h := HS2.out; rw [if_neg (by omega), if_neg (by omega)] at h; omega
      obtain ⟨v1, v3, v4, v2⟩ := w64e n3 hxd hxo s2
      have HS3 := Lib.hid s2
      clear sd so hxd hxo s2
      go_upto_region 19 with fail
      clear td tz zd zo
      go_wp2_with fail
      · refine (KS.out _).mono ?_
        rintro q w6 ⟨rfl, b6⟩
        have HB6 : Hid (Below w.heap.size w w6) := HB5.out.trans (b6.mono HB5.out.size)
        clear b6
        go_wp2
        exact bodyPost_ret (v := .bool true) (by simp [results, Tryz.results7, go_sem]) rfl ⟨rfl, HB6.out⟩
end Go.Proofs.YtmalcldpihpfpaaGreat
