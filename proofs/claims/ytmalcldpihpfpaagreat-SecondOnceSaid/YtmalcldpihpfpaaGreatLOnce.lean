/-
  SecondOnce, walked: true for every input.
  Conditions: what came in is as its types say.
-/
import Derived.Test.YtmalcldpihpfpaaGreatLShort
import Derived.StillTailTactics
namespace Go.Proofs.YtmalcldpihpfpaaGreat
open Go.RowKit
open Vi
set_option linter.unusedVariables false
set_option linter.unusedSimpArgs false
theorem put_right {e : En} (ok : e.Ok) (w : World) (h : rightB e = true) {P : ByteArray} (hP : P = putS e) : Calls Tryz.prog 10 #[ev e] w fun q w' => q = .returned (.tuple #[.string P, .bool true]) ∧ Below w.heap.size w w' :=
  (putE_any e w ok).mono fun q w' ⟨h1, h2⟩ => ⟨by rw [h1, hP, h], h2⟩
/-- Of two entries' bytes: equal just if the entries are; and no beginnings. -/
theorem once2 {X Y : En} (okX : X.Ok) (okY : Y.Ok) (hX : rightB X = true) (hY : rightB Y = true) :
    (putS X = putS Y → X = Y) ∧ (putS X ≠ putS Y → (putS X).extract 0 (min (putS X).size (putS Y).size) ≠ (putS Y).extract 0 (min (putS X).size (putS Y).size)) := by
  have app_nil : ∀ s : ByteArray, s ++ (⟨#[]⟩ : ByteArray) = s := fun s => by apply ByteArray.ext; simp
  have split_at : ∀ (s : ByteArray) (k : Nat), k ≤ s.size → s.extract 0 k ++ s.extract k s.size = s := fun s k h => by
    rw [ByteArray.extract_append_extract]
    simp [h]
  have whole : ∀ s : ByteArray, s.extract 0 s.size = s := fun s => by simp
  have key : ∀ {A B : En}, A.Ok → B.Ok → rightB A = true → rightB B = true → (putS A).size ≤ (putS B).size → (putS B).extract 0 (putS A).size = putS A → putS A = putS B := by
    intro A B okA okB hA hB hz h
    have e := split_at (putS B) (putS A).size hz
    rw [h] at e
    have := once okA okB hA hB (r := (putS B).extract (putS A).size (putS B).size) e.symm
    rw [this.1]
  refine ⟨fun h => (once okX okY hX hY (r := ⟨#[]⟩) (by rw [app_nil, h])).1, fun hne h => hne ?_⟩
  by_cases hz : (putS X).size ≤ (putS Y).size
  · rw [Nat.min_eq_left hz, whole] at h
    exact key okX okY hX hY hz h.symm
  · rw [Nat.min_eq_right (by omega), whole] at h
    exact (key okY okX hY hX (by omega) h).symm
/-- Two entries that lie. -/
structure Lo (a b : Nat) (X Y : En) (W : World) : Prop where
  x : W.heap[a]? = some (.cells (ec X) 24 (0, 0))
  y : W.heap[b]? = some (.cells (ec Y) 24 (0, 0))
theorem Lo.on {a b : Nat} {X Y : En} {W W1 : World} (h : Lo a b X Y W) (hb : Below W.heap.size W W1) : Lo a b X Y W1 :=
  ⟨(hb.block _ (Array.getElem?_eq_some_iff.1 h.x).1).trans h.x, (hb.block _ (Array.getElem?_eq_some_iff.1 h.y).1).trans h.y⟩
theorem Lo.all {a b : Nat} {X Y : En} {W : World} (h : Lo a b X Y W) : Lo a b X Y W ∧ W.cell? ⟨a, 0, none⟩ = some (.int .u64 X.term) ∧ W.cell? ⟨a, 1, none⟩ = some (.int .u64 X.index) ∧ W.cell? ⟨a, 2, none⟩ = some (.int .i64 X.kind) ∧ W.cell? ⟨a, 3, none⟩ = some (.int .u64 X.client) ∧ W.cell? ⟨a, 4, none⟩ = some (.int .u64 X.seq) ∧ W.cell? ⟨a, 5, none⟩ = some (.int .u64 X.block) ∧ W.cell? ⟨a, 6, none⟩ = some (.int .u64 X.many) ∧ W.cell? ⟨a, 7, none⟩ = some (.int .i64 X.node) ∧ W.cell? ⟨a, 8, none⟩ = some (.int .i64 X.level) ∧ W.cell? ⟨a, 9, none⟩ = some (.string X.data) ∧ W.cell? ⟨a, 10, none⟩ = some (.string X.old) ∧ W.cell? ⟨b, 0, none⟩ = some (.int .u64 Y.term) ∧ W.cell? ⟨b, 1, none⟩ = some (.int .u64 Y.index) ∧ W.cell? ⟨b, 2, none⟩ = some (.int .i64 Y.kind) ∧ W.cell? ⟨b, 3, none⟩ = some (.int .u64 Y.client) ∧ W.cell? ⟨b, 4, none⟩ = some (.int .u64 Y.seq) ∧ W.cell? ⟨b, 5, none⟩ = some (.int .u64 Y.block) ∧ W.cell? ⟨b, 6, none⟩ = some (.int .u64 Y.many) ∧ W.cell? ⟨b, 7, none⟩ = some (.int .i64 Y.node) ∧ W.cell? ⟨b, 8, none⟩ = some (.int .i64 Y.level) ∧ W.cell? ⟨b, 9, none⟩ = some (.string Y.data) ∧ W.cell? ⟨b, 10, none⟩ = some (.string Y.old) :=
  ⟨h, cell_of_row W _ 0 _ 24 (0, 0) h.x, cell_of_row W _ 1 _ 24 (0, 0) h.x, cell_of_row W _ 2 _ 24 (0, 0) h.x, cell_of_row W _ 3 _ 24 (0, 0) h.x, cell_of_row W _ 4 _ 24 (0, 0) h.x, cell_of_row W _ 5 _ 24 (0, 0) h.x, cell_of_row W _ 6 _ 24 (0, 0) h.x, cell_of_row W _ 7 _ 24 (0, 0) h.x, cell_of_row W _ 8 _ 24 (0, 0) h.x, cell_of_row W _ 9 _ 24 (0, 0) h.x, cell_of_row W _ 10 _ 24 (0, 0) h.x, cell_of_row W _ 0 _ 24 (0, 0) h.y, cell_of_row W _ 1 _ 24 (0, 0) h.y, cell_of_row W _ 2 _ 24 (0, 0) h.y, cell_of_row W _ 3 _ 24 (0, 0) h.y, cell_of_row W _ 4 _ 24 (0, 0) h.y, cell_of_row W _ 5 _ 24 (0, 0) h.y, cell_of_row W _ 6 _ 24 (0, 0) h.y, cell_of_row W _ 7 _ 24 (0, 0) h.y, cell_of_row W _ 8 _ 24 (0, 0) h.y, cell_of_row W _ 9 _ 24 (0, 0) h.y, cell_of_row W _ 10 _ 24 (0, 0) h.y⟩
theorem takeHO {P : Program} {ops : Array Oper} {Q : Exit → Act → World → Prop} {S : World → Prop} {fuel : Nat} {listed : Array Bool} {a : Act} {w : World} (hQ : ∀ (c : _) (a : Act) (d : Option Tmp) (v : Value) (w : World), Q (.panic c) (a.put d v) w → Q (.panic c) a w) (hS : S w) (i : Nat) {oi : Oper} {v : Value} (hi : ops[i]? = some oi)
    (hs : Region.noSelect ops = true) (hf : Region.free .any ops listed i = true) (hr : (Region.ready .any ops listed).contains i = true) (hy : YieldsIf P ops S oi v a)
    (h : wpAnyH P .any ops Q S fuel (listed.setIfInBounds i true) (a.put oi.dst v) w) : wpAnyH P .any ops Q S (fuel + 1) listed a w :=
  wpAnyH_take hi hs hf hr (fun c a w h => hQ c a _ _ w h) hy hS h
set_option maxHeartbeats 8000000 in
set_option maxRecDepth 100000 in
theorem lonce_any (e : En) (o : Bool) (f : En) (p : Bool) (w : World) (ok : e.Ok) (ok' : f.Ok) :
    Calls Tryz.prog 6 #[mdv e o, mdv f p] w fun r w' => r = .returned (.bool true) ∧ Below w.heap.size w w' := by
  obtain ⟨W0, hW0⟩ : ∃ W0, W0 = (w.alloc (Obj.cells (mdc e o) 26)).alloc (Obj.cells (mdc f p) 26) := ⟨_, rfl⟩
  have b0 : Below w.heap.size w W0 := by rw [hW0]; exact ((Below.refl _ _).alloc (Nat.le_refl _) _).alloc (by simp) _
  have k0 : W0.heap[w.heap.size]? = some (.cells (mdc e o) 26 (0, 0)) := by rw [hW0]; exact blk_al _ (heap_alloc_new w _)
  have k1 : W0.heap[w.heap.size + 1]? = some (.cells (mdc f p) 26 (0, 0)) := by rw [hW0]; have h := heap_alloc_new (w.alloc (Obj.cells (mdc e o) 26)) (Obj.cells (mdc f p) 26); simpa using h
  obtain ⟨X, hX⟩ : ∃ X, X = mk e := ⟨_, rfl⟩
  obtain ⟨Y, hY⟩ : ∃ Y, Y = mk f := ⟨_, rfl⟩
  obtain ⟨xok, xr, _⟩ := mk_facts e ok
  obtain ⟨yok, yr, _⟩ := mk_facts f ok'
  rw [← hX] at xok xr
  rw [← hY] at yok yr
  obtain ⟨o1, o2⟩ := once2 xok yok xr yr
  obtain ⟨P, hP⟩ : ∃ P, P = putS X := ⟨_, rfl⟩
  obtain ⟨Q, hQ⟩ : ∃ Q, Q = putS Y := ⟨_, rfl⟩
  have KE := Lib.hid (fun (W : World) => examples_any W)
  have KX : Hid (∀ W, Calls Tryz.prog 11 #[mdv e true] W fun r w' => r = .returned (ev X) ∧ Below W.heap.size W w') := fun W => by rw [hX]; exact made_yes e W ok
  have KY : Hid (∀ W, Calls Tryz.prog 11 #[mdv f true] W fun r w' => r = .returned (ev Y) ∧ Below W.heap.size W w') := fun W => by rw [hY]; exact made_yes f W ok'
  have KP : Hid (∀ W, Calls Tryz.prog 10 #[ev X] W fun q w' => q = .returned (.tuple #[.string P, .bool true]) ∧ Below W.heap.size W w') := fun W => put_right xok W xr hP
  have KQ : Hid (∀ W, Calls Tryz.prog 10 #[ev Y] W fun q w' => q = .returned (.tuple #[.string Q, .bool true]) ∧ Below W.heap.size W w') := fun W => put_right yok W yr hQ
  rw [← hP, ← hQ] at o1 o2
  have HO1 := Lib.hid o1
  have HO2 := Lib.hid o2
  have HW := Lib.hid hW0
  have HB0 := Lib.hid b0
  have HK0 := Lib.hid k0
  have HK1 := Lib.hid k1
  have KS : Hid (∀ W, Calls Tryz.prog 28 #[ev X, ev Y] W fun q w' => q = .returned (.bool (sameB X Y)) ∧ Below W.heap.size W w') := fun W => same_any X Y W
  have HSB : Hid (P = Q → sameB X Y = true) := fun h => (sameB_iff X Y).2 (o1 h)
  have HSC : Hid (P ≠ Q → sameB X Y = false) := fun h => by
    cases hq : sameB X Y with
    | false => rfl
    | true => exact absurd (by rw [hP, hQ, (sameB_iff X Y).1 hq]) h
  clear hW0 b0 k0 k1 hX hY xok xr yok yr hP hQ o1 o2 ok ok'
  go_enter Tryz.func6, Tryz.ntmps6
  go_wp2_with fail
  rw [← HW.out]
  refine (KE.out _).mono ?_
  rintro q w1 ⟨rfl, b1⟩
  have l0 := (Array.getElem?_eq_some_iff.1 HK0.out).1
  have l1 := (Array.getElem?_eq_some_iff.1 HK1.out).1
  have m0 : w1.heap[w.heap.size]? = some (.cells (mdc e o) 26 (0, 0)) := (b1.block _ l0).trans HK0.out
  have m1 : w1.heap[w.heap.size + 1]? = some (.cells (mdc f p) 26 (0, 0)) := (b1.block _ l1).trans HK1.out
  have HB1 : Hid (Below w.heap.size w w1) := HB0.out.trans (b1.mono HB0.out.size)
  obtain ⟨V, hV⟩ : ∃ V, V = (w1.setCell ⟨w.heap.size, 11, none⟩ (.bool true)).setCell ⟨w.heap.size + 1, 11, none⟩ (.bool true) := ⟨_, rfl⟩
  have v0 : V.heap[w.heap.size]? = some (.cells (mdc e true) 26 (0, 0)) := by rw [hV]; exact (Below.heap_setCell _ _ _ _ (by simp)).trans (set_blk m0 11 _)
  have v1 : V.heap[w.heap.size + 1]? = some (.cells (mdc f true) 26 (0, 0)) := by rw [hV]; exact set_blk ((Below.heap_setCell _ _ _ _ (by simp)).trans m1) 11 _
  have HBV : Hid (Below w.heap.size w V) := by show Below _ _ _; rw [hV]; exact (HB1.out.setCell (p := ⟨w.heap.size, 11, none⟩) (Nat.le_refl _) _).setCell (p := ⟨w.heap.size + 1, 11, none⟩) (by simp) _
  have fa : ∀ i, w1.frozen? ⟨w.heap.size, i, none⟩ = false := fun i => Lib.frozen_of_heap m0 i
  have fb : ∀ i, (w1.setCell ⟨w.heap.size, 11, none⟩ (.bool true)).frozen? ⟨w.heap.size + 1, i, none⟩ = false := fun i => Lib.frozen_of_heap ((Below.heap_setCell _ _ _ _ (by simp)).trans m1) i
  have ca : w1.cell? ⟨w.heap.size, 11, none⟩ = some (.bool o) := cell_of_row w1 _ 11 _ 26 (0, 0) m0
  have cb : (w1.setCell ⟨w.heap.size, 11, none⟩ (.bool true)).cell? ⟨w.heap.size + 1, 11, none⟩ = some (.bool p) := cell_of_row _ _ 11 _ 26 (0, 0) ((Below.heap_setCell _ _ _ _ (by simp)).trans m1)
  have HV := Lib.hid hV
  have HV0 := Lib.hid v0
  have HV1 := Lib.hid v1
  clear b1 l0 l1 m0 m1 hV v0 v1
  go_upto_region 6 with fail
  rw [← HV.out]
  clear fa fb ca cb
  have a0 := cell_of_row V _ 0 _ 26 (0, 0) HV0.out
  have a1 := cell_of_row V _ 1 _ 26 (0, 0) HV0.out
  have a2 := cell_of_row V _ 2 _ 26 (0, 0) HV0.out
  have a3 := cell_of_row V _ 3 _ 26 (0, 0) HV0.out
  have a4 := cell_of_row V _ 4 _ 26 (0, 0) HV0.out
  have a5 := cell_of_row V _ 5 _ 26 (0, 0) HV0.out
  have a6 := cell_of_row V _ 6 _ 26 (0, 0) HV0.out
  have a7 := cell_of_row V _ 7 _ 26 (0, 0) HV0.out
  have a8 := cell_of_row V _ 8 _ 26 (0, 0) HV0.out
  have a9 := cell_of_row V _ 9 _ 26 (0, 0) HV0.out
  have a10 := cell_of_row V _ 10 _ 26 (0, 0) HV0.out
  have a11 := cell_of_row V _ 11 _ 26 (0, 0) HV0.out
  simp at a0 a1 a2 a3 a4 a5 a6 a7 a8 a9 a10 a11
  go_wp2_with fail
  refine (KX.out _).mono ?_
  rintro q w2 ⟨rfl, b2⟩
  clear a0 a1 a2 a3 a4 a5 a6 a7 a8 a9 a10 a11
  have HB2 : Hid (Below w.heap.size w w2) := HBV.out.trans (b2.mono HBV.out.size)
  have k2 : w2.heap[w.heap.size + 1]? = some (.cells (mdc f true) 26 (0, 0)) := (b2.block _ (Array.getElem?_eq_some_iff.1 HV1.out).1).trans HV1.out
  obtain ⟨W2, hW2⟩ : ∃ W2, W2 = w2.alloc (Obj.cells (ec X) 24) := ⟨_, rfl⟩
  have k3 : W2.heap[w.heap.size + 1]? = some (.cells (mdc f true) 26 (0, 0)) := by rw [hW2]; exact blk_al _ k2
  have HX2 : Hid (W2.heap[w2.heap.size]? = some (.cells (ec X) 24 (0, 0))) := by show _ = _; rw [hW2]; exact heap_alloc_new w2 _
  have HBW2 : Hid (Below w.heap.size w W2) := by show Below _ _ _; rw [hW2]; exact HB2.out.alloc HB2.out.size _
  have HK3 := Lib.hid k3
  have HW2 := Lib.hid hW2
  clear b2 k2 k3 hW2
  go_upto_region 7 with fail
  rw [← HW2.out]
  have a0 := cell_of_row W2 _ 0 _ 26 (0, 0) HK3.out
  have a1 := cell_of_row W2 _ 1 _ 26 (0, 0) HK3.out
  have a2 := cell_of_row W2 _ 2 _ 26 (0, 0) HK3.out
  have a3 := cell_of_row W2 _ 3 _ 26 (0, 0) HK3.out
  have a4 := cell_of_row W2 _ 4 _ 26 (0, 0) HK3.out
  have a5 := cell_of_row W2 _ 5 _ 26 (0, 0) HK3.out
  have a6 := cell_of_row W2 _ 6 _ 26 (0, 0) HK3.out
  have a7 := cell_of_row W2 _ 7 _ 26 (0, 0) HK3.out
  have a8 := cell_of_row W2 _ 8 _ 26 (0, 0) HK3.out
  have a9 := cell_of_row W2 _ 9 _ 26 (0, 0) HK3.out
  have a10 := cell_of_row W2 _ 10 _ 26 (0, 0) HK3.out
  have a11 := cell_of_row W2 _ 11 _ 26 (0, 0) HK3.out
  simp at a0 a1 a2 a3 a4 a5 a6 a7 a8 a9 a10 a11
  go_wp2_with fail
  refine (KY.out _).mono ?_
  rintro q w3 ⟨rfl, b3⟩
  clear a0 a1 a2 a3 a4 a5 a6 a7 a8 a9 a10 a11
  have HB3 : Hid (Below w.heap.size w w3) := HBW2.out.trans (b3.mono HBW2.out.size)
  have k3 : w3.heap[w2.heap.size]? = some (.cells (ec X) 24 (0, 0)) := (b3.block _ (Array.getElem?_eq_some_iff.1 HX2.out).1).trans HX2.out
  obtain ⟨W3, hW3⟩ : ∃ W3, W3 = w3.alloc (Obj.cells (ec Y) 24) := ⟨_, rfl⟩
  have HX3 : Hid (W3.heap[w2.heap.size]? = some (.cells (ec X) 24 (0, 0))) := by show _ = _; rw [hW3]; exact blk_al _ k3
  have HY3 : Hid (W3.heap[w3.heap.size]? = some (.cells (ec Y) 24 (0, 0))) := by show _ = _; rw [hW3]; exact heap_alloc_new w3 _
  have HBW3 : Hid (Below w.heap.size w W3) := by show Below _ _ _; rw [hW3]; exact HB3.out.alloc HB3.out.size _
  have HW3 := Lib.hid hW3
  clear b3 k3 hW3
  go_upto_region 8 with fail
  rw [← HW3.out]
  have a0 := cell_of_row W3 _ 0 _ 24 (0, 0) HX3.out
  have a1 := cell_of_row W3 _ 1 _ 24 (0, 0) HX3.out
  have a2 := cell_of_row W3 _ 2 _ 24 (0, 0) HX3.out
  have a3 := cell_of_row W3 _ 3 _ 24 (0, 0) HX3.out
  have a4 := cell_of_row W3 _ 4 _ 24 (0, 0) HX3.out
  have a5 := cell_of_row W3 _ 5 _ 24 (0, 0) HX3.out
  have a6 := cell_of_row W3 _ 6 _ 24 (0, 0) HX3.out
  have a7 := cell_of_row W3 _ 7 _ 24 (0, 0) HX3.out
  have a8 := cell_of_row W3 _ 8 _ 24 (0, 0) HX3.out
  have a9 := cell_of_row W3 _ 9 _ 24 (0, 0) HX3.out
  have a10 := cell_of_row W3 _ 10 _ 24 (0, 0) HX3.out
  simp at a0 a1 a2 a3 a4 a5 a6 a7 a8 a9 a10
  go_wp2_with fail
  refine (KP.out _).mono ?_
  rintro q w4 ⟨rfl, b4⟩
  clear a0 a1 a2 a3 a4 a5 a6 a7 a8 a9 a10
  have HB4 : Hid (Below w.heap.size w w4) := HBW3.out.trans (b4.mono HBW3.out.size)
  have HX4 : Hid (w4.heap[w2.heap.size]? = some (.cells (ec X) 24 (0, 0))) := (b4.block _ (Array.getElem?_eq_some_iff.1 HX3.out).1).trans HX3.out
  have HY4 : Hid (w4.heap[w3.heap.size]? = some (.cells (ec Y) 24 (0, 0))) := (b4.block _ (Array.getElem?_eq_some_iff.1 HY3.out).1).trans HY3.out
  clear b4
  have a0 := cell_of_row w4 _ 0 _ 24 (0, 0) HY4.out
  have a1 := cell_of_row w4 _ 1 _ 24 (0, 0) HY4.out
  have a2 := cell_of_row w4 _ 2 _ 24 (0, 0) HY4.out
  have a3 := cell_of_row w4 _ 3 _ 24 (0, 0) HY4.out
  have a4 := cell_of_row w4 _ 4 _ 24 (0, 0) HY4.out
  have a5 := cell_of_row w4 _ 5 _ 24 (0, 0) HY4.out
  have a6 := cell_of_row w4 _ 6 _ 24 (0, 0) HY4.out
  have a7 := cell_of_row w4 _ 7 _ 24 (0, 0) HY4.out
  have a8 := cell_of_row w4 _ 8 _ 24 (0, 0) HY4.out
  have a9 := cell_of_row w4 _ 9 _ 24 (0, 0) HY4.out
  have a10 := cell_of_row w4 _ 10 _ 24 (0, 0) HY4.out
  simp at a0 a1 a2 a3 a4 a5 a6 a7 a8 a9 a10
  go_wp2_with fail
  refine (KQ.out _).mono ?_
  rintro q w5 ⟨rfl, b5⟩
  clear a0 a1 a2 a3 a4 a5 a6 a7 a8 a9 a10
  have HB5 : Hid (Below w.heap.size w w5) := HB4.out.trans (b5.mono HB4.out.size)
  have HX5 : Hid (w5.heap[w2.heap.size]? = some (.cells (ec X) 24 (0, 0))) := (b5.block _ (Array.getElem?_eq_some_iff.1 HX4.out).1).trans HX4.out
  have HY5 : Hid (w5.heap[w3.heap.size]? = some (.cells (ec Y) 24 (0, 0))) := (b5.block _ (Array.getElem?_eq_some_iff.1 HY4.out).1).trans HY4.out
  clear b5
  go_upto_region 11 with fail
  have LL : Lo w2.heap.size w3.heap.size X Y w5.drew := ⟨HX5.out, HY5.out⟩
  have HLL := Lib.hid LL
  have BD : Hid (Below w.heap.size w w5.drew) := HB5.out.drew
  clear LL
  obtain ⟨m, hm⟩ : ∃ m : Nat, (m : Int) = min (P.size : Int) (Q.size : Int) := ⟨min P.size Q.size, by omega⟩
  have hmm : min (P.size : Int) (Q.size : Int) = m := hm.symm
  have hmp : m ≤ P.size := by omega
  have hmq : m ≤ Q.size := by omega
  have HMM : Hid (min P.size Q.size = m) := by show _ = _; omega
  clear hm
  obtain ⟨sb, hsb⟩ : ∃ sb, sb = sameB X Y := ⟨_, rfl⟩
  rw [← hsb] at KS HSB HSC
  clear hsb
  by_cases hpq : P = Q
  · have hsb := HSB.out hpq
    subst hsb
    subst hpq
    refine wp_region_noPanic ?_
    refine wp_region_held_drew (S := (fun w' => Lo w2.heap.size w3.heap.size X Y w' ∧ w'.cell? ⟨w2.heap.size, 0, none⟩ = some (.int .u64 X.term) ∧ w'.cell? ⟨w2.heap.size, 1, none⟩ = some (.int .u64 X.index) ∧ w'.cell? ⟨w2.heap.size, 2, none⟩ = some (.int .i64 X.kind) ∧ w'.cell? ⟨w2.heap.size, 3, none⟩ = some (.int .u64 X.client) ∧ w'.cell? ⟨w2.heap.size, 4, none⟩ = some (.int .u64 X.seq) ∧ w'.cell? ⟨w2.heap.size, 5, none⟩ = some (.int .u64 X.block) ∧ w'.cell? ⟨w2.heap.size, 6, none⟩ = some (.int .u64 X.many) ∧ w'.cell? ⟨w2.heap.size, 7, none⟩ = some (.int .i64 X.node) ∧ w'.cell? ⟨w2.heap.size, 8, none⟩ = some (.int .i64 X.level) ∧ w'.cell? ⟨w2.heap.size, 9, none⟩ = some (.string X.data) ∧ w'.cell? ⟨w2.heap.size, 10, none⟩ = some (.string X.old) ∧ w'.cell? ⟨w3.heap.size, 0, none⟩ = some (.int .u64 Y.term) ∧ w'.cell? ⟨w3.heap.size, 1, none⟩ = some (.int .u64 Y.index) ∧ w'.cell? ⟨w3.heap.size, 2, none⟩ = some (.int .i64 Y.kind) ∧ w'.cell? ⟨w3.heap.size, 3, none⟩ = some (.int .u64 Y.client) ∧ w'.cell? ⟨w3.heap.size, 4, none⟩ = some (.int .u64 Y.seq) ∧ w'.cell? ⟨w3.heap.size, 5, none⟩ = some (.int .u64 Y.block) ∧ w'.cell? ⟨w3.heap.size, 6, none⟩ = some (.int .u64 Y.many) ∧ w'.cell? ⟨w3.heap.size, 7, none⟩ = some (.int .i64 Y.node) ∧ w'.cell? ⟨w3.heap.size, 8, none⟩ = some (.int .i64 Y.level) ∧ w'.cell? ⟨w3.heap.size, 9, none⟩ = some (.string Y.data) ∧ w'.cell? ⟨w3.heap.size, 10, none⟩ = some (.string Y.old))) (by kernel_rfl) (HLL.out.all) (fun hHeld => ?_)
    refine takeHO (fun _ _ _ _ _ h => h) (by assumption) 0 (v := ?v0) rfl (by kernel_rfl) (by kernel_rfl) (by kernel_rfl) (Or.inl ⟨by kernel_rfl, ?hy0⟩) ?rest0
    case hy0 => (intro w hSw; (try dsimp only at hSw); go_simp; first | done | (with_reducible rfl))
    try simp only [Act.put, List.setIfInBounds_toArray, List.set_cons_zero, List.set_cons_succ]
    refine takeHO (fun _ _ _ _ _ h => h) (by assumption) 1 (v := ?v1) rfl (by kernel_rfl) (by kernel_rfl) (by kernel_rfl) (Or.inl ⟨by kernel_rfl, ?hy1⟩) ?rest1
    case hy1 => (intro w hSw; (try dsimp only at hSw); go_simp; first | done | (with_reducible rfl))
    try simp only [Act.put, List.setIfInBounds_toArray, List.set_cons_zero, List.set_cons_succ]
    refine takeHO (fun _ _ _ _ _ h => h) (by assumption) 2 (v := ?v2) rfl (by kernel_rfl) (by kernel_rfl) (by kernel_rfl) (Or.inl ⟨by kernel_rfl, ?hy2⟩) ?rest2
    case hy2 => (intro w hSw; (try dsimp only at hSw); go_simp; first | done | (with_reducible rfl))
    try simp only [Act.put, List.setIfInBounds_toArray, List.set_cons_zero, List.set_cons_succ]
    refine takeHO (fun _ _ _ _ _ h => h) (by assumption) 3 (v := ?v3) rfl (by kernel_rfl) (by kernel_rfl) (by kernel_rfl) (Or.inl ⟨by kernel_rfl, ?hy3⟩) ?rest3
    case hy3 => (intro w hSw; (try dsimp only at hSw); go_simp; first | done | (with_reducible rfl))
    try simp only [Act.put, List.setIfInBounds_toArray, List.set_cons_zero, List.set_cons_succ]
    refine takeHO (fun _ _ _ _ _ h => h) (by assumption) 4 (v := ?v4) rfl (by kernel_rfl) (by kernel_rfl) (by kernel_rfl) (Or.inl ⟨by kernel_rfl, ?hy4⟩) ?rest4
    case hy4 => (intro w hSw; (try dsimp only at hSw); go_simp; first | done | (with_reducible rfl))
    try simp only [Act.put, List.setIfInBounds_toArray, List.set_cons_zero, List.set_cons_succ]
    refine takeHO (fun _ _ _ _ _ h => h) (by assumption) 5 (v := ?v5) rfl (by kernel_rfl) (by kernel_rfl) (by kernel_rfl) (Or.inl ⟨by kernel_rfl, ?hy5⟩) ?rest5
    case hy5 => (intro w hSw; (try dsimp only at hSw); go_simp; first | done | (with_reducible rfl))
    try simp only [Act.put, List.setIfInBounds_toArray, List.set_cons_zero, List.set_cons_succ]
    refine takeHO (fun _ _ _ _ _ h => h) (by assumption) 6 (v := ?v6) rfl (by kernel_rfl) (by kernel_rfl) (by kernel_rfl) (Or.inl ⟨by kernel_rfl, ?hy6⟩) ?rest6
    case hy6 => (intro w hSw; (try dsimp only at hSw); go_simp; first | done | (with_reducible rfl))
    try simp only [Act.put, List.setIfInBounds_toArray, List.set_cons_zero, List.set_cons_succ]
    refine takeHO (fun _ _ _ _ _ h => h) (by assumption) 7 (v := ?v7) rfl (by kernel_rfl) (by kernel_rfl) (by kernel_rfl) (Or.inl ⟨by kernel_rfl, ?hy7⟩) ?rest7
    case hy7 => (intro w hSw; (try dsimp only at hSw); go_simp; first | done | (with_reducible rfl))
    try simp only [Act.put, List.setIfInBounds_toArray, List.set_cons_zero, List.set_cons_succ]
    refine takeHO (fun _ _ _ _ _ h => h) (by assumption) 8 (v := ?v8) rfl (by kernel_rfl) (by kernel_rfl) (by kernel_rfl) (Or.inl ⟨by kernel_rfl, ?hy8⟩) ?rest8
    case hy8 => (intro w hSw; (try dsimp only at hSw); go_simp; first | done | (with_reducible rfl))
    try simp only [Act.put, List.setIfInBounds_toArray, List.set_cons_zero, List.set_cons_succ]
    refine takeHO (fun _ _ _ _ _ h => h) (by assumption) 9 (v := ?v9) rfl (by kernel_rfl) (by kernel_rfl) (by kernel_rfl) (Or.inl ⟨by kernel_rfl, ?hy9⟩) ?rest9
    case hy9 => (intro w hSw; (try dsimp only at hSw); go_simp; first | done | (with_reducible rfl))
    try simp only [Act.put, List.setIfInBounds_toArray, List.set_cons_zero, List.set_cons_succ]
    refine takeHO (fun _ _ _ _ _ h => h) (by assumption) 10 (v := ?v10) rfl (by kernel_rfl) (by kernel_rfl) (by kernel_rfl) (Or.inl ⟨by kernel_rfl, ?hy10⟩) ?rest10
    case hy10 => (intro w hSw; (try dsimp only at hSw); go_simp; first | done | (with_reducible rfl))
    try simp only [Act.put, List.setIfInBounds_toArray, List.set_cons_zero, List.set_cons_succ]
    refine takeHO (fun _ _ _ _ _ h => h) (by assumption) 11 (v := ?v11) rfl (by kernel_rfl) (by kernel_rfl) (by kernel_rfl) (Or.inl ⟨by kernel_rfl, ?hy11⟩) ?rest11
    case hy11 => (intro w hSw; (try dsimp only at hSw); go_simp; first | done | (with_reducible rfl))
    try simp only [Act.put, List.setIfInBounds_toArray, List.set_cons_zero, List.set_cons_succ]
    refine takeHO (fun _ _ _ _ _ h => h) (by assumption) 12 (v := ?v12) rfl (by kernel_rfl) (by kernel_rfl) (by kernel_rfl) (Or.inl ⟨by kernel_rfl, ?hy12⟩) ?rest12
    case hy12 => (intro w hSw; (try dsimp only at hSw); go_simp; first | done | (with_reducible rfl))
    try simp only [Act.put, List.setIfInBounds_toArray, List.set_cons_zero, List.set_cons_succ]
    refine wpAnyH_ready (rs := [13]) (by kernel_rfl) (by simp) ?_
    refine AllReadyH.cons rfl (fun K hK => ?_) AllReadyH.nil
    go_simp
    (go_at_call 28; (with_reducible refine (KS.out _).mono ?_); rintro q w6 ⟨rfl, b6⟩; try go_wp2_with fail)
    refine hK.out _ _ ?_ (fun hHeld => ?_)
    · exact (Lo.on hHeld.1 b6).all
    clear hK K
    try simp only [Act.put, List.setIfInBounds_toArray, List.set_cons_zero, List.set_cons_succ]
    refine takeHO (fun _ _ _ _ _ h => h) (by assumption) 14 (v := ?v14) rfl (by kernel_rfl) (by kernel_rfl) (by kernel_rfl) (Or.inl ⟨by kernel_rfl, ?hy14⟩) ?rest14
    case hy14 => (intro w hSw; (try dsimp only at hSw); go_simp; first | done | (with_reducible rfl))
    try simp only [List.getElem_toArray, List.getElem_cons_succ, List.getElem_cons_zero]
    try simp only [Act.put, List.setIfInBounds_toArray, List.set_cons_zero, List.set_cons_succ]
    refine takeHO (fun _ _ _ _ _ h => h) (by assumption) 15 (v := ?v15) rfl (by kernel_rfl) (by kernel_rfl) (by kernel_rfl) (Or.inl ⟨by kernel_rfl, ?hy15⟩) ?rest15
    case hy15 => (intro w hSw; (try dsimp only at hSw); go_simp; first | done | (with_reducible rfl))
    try simp only [List.getElem_toArray, List.getElem_cons_succ, List.getElem_cons_zero]
    try simp only [Act.put, List.setIfInBounds_toArray, List.set_cons_zero, List.set_cons_succ]
    refine takeHO (fun _ _ _ _ _ h => h) (by assumption) 16 (v := ?v16) rfl (by kernel_rfl) (by kernel_rfl) (by kernel_rfl) (Or.inl ⟨by kernel_rfl, ?hy16⟩) ?rest16
    case hy16 => (intro w hSw; (try dsimp only at hSw); go_simp; first | done | (with_reducible rfl))
    try simp only [List.getElem_toArray, List.getElem_cons_succ, List.getElem_cons_zero]
    try simp only [Act.put, List.setIfInBounds_toArray, List.set_cons_zero, List.set_cons_succ]
    refine takeHO (fun _ _ _ _ _ h => h) (by assumption) 17 (v := ?v17) rfl (by kernel_rfl) (by kernel_rfl) (by kernel_rfl) (Or.inl ⟨by kernel_rfl, ?hy17⟩) ?rest17
    case hy17 => (intro w hSw; (try dsimp only at hSw); go_simp; first | done | (with_reducible rfl))
    try simp only [List.getElem_toArray, List.getElem_cons_succ, List.getElem_cons_zero]
    try simp only [Act.put, List.setIfInBounds_toArray, List.set_cons_zero, List.set_cons_succ]
    refine takeHO (fun _ _ _ _ _ h => h) (by assumption) 18 (v := ?v18) rfl (by kernel_rfl) (by kernel_rfl) (by kernel_rfl) (Or.inl ⟨by kernel_rfl, ?hy18⟩) ?rest18
    case hy18 => (intro w hSw; (try dsimp only at hSw); go_simp; first | done | (with_reducible rfl))
    try simp only [List.getElem_toArray, List.getElem_cons_succ, List.getElem_cons_zero]
    try simp only [Act.put, List.setIfInBounds_toArray, List.set_cons_zero, List.set_cons_succ]
    refine takeHO (fun _ _ _ _ _ h => h) (by assumption) 19 (v := ?v19) rfl (by kernel_rfl) (by kernel_rfl) (by kernel_rfl) (Or.inl ⟨by kernel_rfl, ?hy19⟩) ?rest19
    case hy19 => (intro w hSw; (try dsimp only at hSw); go_simp; first | done | (with_reducible rfl))
    try simp only [List.getElem_toArray, List.getElem_cons_succ, List.getElem_cons_zero]
    try simp only [Act.put, List.setIfInBounds_toArray, List.set_cons_zero, List.set_cons_succ]
    refine takeHO (fun _ _ _ _ _ h => h) (by assumption) 20 (v := ?v20) rfl (by kernel_rfl) (by kernel_rfl) (by kernel_rfl) (Or.inl ⟨by kernel_rfl, ?hy20⟩) ?rest20
    case hy20 => (intro w hSw; (try dsimp only at hSw); go_simp; first | done | (with_reducible rfl))
    try simp only [List.getElem_toArray, List.getElem_cons_succ, List.getElem_cons_zero]
    try simp only [Act.put, List.setIfInBounds_toArray, List.set_cons_zero, List.set_cons_succ]
    refine takeHO (fun _ _ _ _ _ h => h) (by assumption) 21 (v := undef) rfl (by kernel_rfl) (by kernel_rfl) (by kernel_rfl) (Or.inr ⟨by kernel_rfl, rfl⟩) ?_
    simp only [List.getElem_toArray, List.getElem_cons_succ, List.getElem_cons_zero]
    try simp only [Act.put, List.setIfInBounds_toArray, List.set_cons_zero, List.set_cons_succ]
    refine takeHO (fun _ _ _ _ _ h => h) (by assumption) 22 (v := undef) rfl (by kernel_rfl) (by kernel_rfl) (by kernel_rfl) (Or.inr ⟨by kernel_rfl, rfl⟩) ?_
    simp only [List.getElem_toArray, List.getElem_cons_succ, List.getElem_cons_zero]
    try simp only [Act.put, List.setIfInBounds_toArray, List.set_cons_zero, List.set_cons_succ]
    refine takeHO (fun _ _ _ _ _ h => h) (by assumption) 23 (v := undef) rfl (by kernel_rfl) (by kernel_rfl) (by kernel_rfl) (Or.inr ⟨by kernel_rfl, rfl⟩) ?_
    simp only [List.getElem_toArray, List.getElem_cons_succ, List.getElem_cons_zero]
    try simp only [Act.put, List.setIfInBounds_toArray, List.set_cons_zero, List.set_cons_succ]
    refine takeHO (fun _ _ _ _ _ h => h) (by assumption) 24 (v := undef) rfl (by kernel_rfl) (by kernel_rfl) (by kernel_rfl) (Or.inr ⟨by kernel_rfl, rfl⟩) ?_
    simp only [List.getElem_toArray, List.getElem_cons_succ, List.getElem_cons_zero]
    try simp only [Act.put, List.setIfInBounds_toArray, List.set_cons_zero, List.set_cons_succ]
    refine takeHO (fun _ _ _ _ _ h => h) (by assumption) 25 (v := undef) rfl (by kernel_rfl) (by kernel_rfl) (by kernel_rfl) (Or.inr ⟨by kernel_rfl, rfl⟩) ?_
    simp only [List.getElem_toArray, List.getElem_cons_succ, List.getElem_cons_zero]
    try simp only [Act.put, List.setIfInBounds_toArray, List.set_cons_zero, List.set_cons_succ]
    refine takeHO (fun _ _ _ _ _ h => h) (by assumption) 26 (v := undef) rfl (by kernel_rfl) (by kernel_rfl) (by kernel_rfl) (Or.inr ⟨by kernel_rfl, rfl⟩) ?_
    simp only [List.getElem_toArray, List.getElem_cons_succ, List.getElem_cons_zero]
    try simp only [Act.put, List.setIfInBounds_toArray, List.set_cons_zero, List.set_cons_succ]
    refine takeHO (fun _ _ _ _ _ h => h) (by assumption) 27 (v := undef) rfl (by kernel_rfl) (by kernel_rfl) (by kernel_rfl) (Or.inr ⟨by kernel_rfl, rfl⟩) ?_
    simp only [List.getElem_toArray, List.getElem_cons_succ, List.getElem_cons_zero]
    try simp only [Act.put, List.setIfInBounds_toArray, List.set_cons_zero, List.set_cons_succ]
    refine takeHO (fun _ _ _ _ _ h => h) (by assumption) 28 (v := ?v28) rfl (by kernel_rfl) (by kernel_rfl) (by kernel_rfl) (Or.inl ⟨by kernel_rfl, ?hy28⟩) ?rest28
    case hy28 => (intro w hSw; (try dsimp only at hSw); go_simp; first | done | (with_reducible rfl))
    try simp only [List.getElem_toArray, List.getElem_cons_succ, List.getElem_cons_zero]
    try simp only [Act.put, List.setIfInBounds_toArray, List.set_cons_zero, List.set_cons_succ]
    refine takeHO (fun _ _ _ _ _ h => h) (by assumption) 29 (v := ?v29) rfl (by kernel_rfl) (by kernel_rfl) (by kernel_rfl) (Or.inl ⟨by kernel_rfl, ?hy29⟩) ?rest29
    case hy29 => (intro w hSw; (try dsimp only at hSw); go_simp; first | done | (with_reducible rfl))
    try simp only [List.getElem_toArray, List.getElem_cons_succ, List.getElem_cons_zero]
    try simp only [Act.put, List.setIfInBounds_toArray, List.set_cons_zero, List.set_cons_succ]
    refine takeHO (fun _ _ _ _ _ h => h) (by assumption) 30 (v := ?v30) rfl (by kernel_rfl) (by kernel_rfl) (by kernel_rfl) (Or.inl ⟨by kernel_rfl, ?hy30⟩) ?rest30
    case hy30 => (intro w hSw; (try dsimp only at hSw); go_simp; first | done | (with_reducible rfl))
    try simp only [List.getElem_toArray, List.getElem_cons_succ, List.getElem_cons_zero]
    try simp only [Act.put, List.setIfInBounds_toArray, List.set_cons_zero, List.set_cons_succ]
    refine wpAnyH_done (by kernel_rfl) ?_ _
    refine NoPanic.normal ?_
    go_wp2
    go_ret
    refine ⟨?_, BD.out.trans (b6.mono BD.out.size)⟩
    rfl
  · have hsb := HSC.out hpq
    subst hsb
    have hne : (P.toList == Q.toList) = false := by
      cases hq : (P.toList == Q.toList) with
      | false => rfl
      | true => exact absurd (by simpa using hq) (fun h => hpq (ByteArray.ext (Array.toList_inj.1 (by simpa [ByteArray.toList_eq] using h))))
    have hx := HO2.out hpq
    rw [HMM.out] at hx
    have hne2 : ((P.extract 0 m).toList == (Q.extract 0 m).toList) = false := by
      cases hq : ((P.extract 0 m).toList == (Q.extract 0 m).toList) with
      | false => rfl
      | true => exact absurd (by simpa using hq) (fun h => hx (ByteArray.ext (Array.toList_inj.1 (by simpa [ByteArray.toList_eq] using h))))
    clear hx hpq
    refine wp_region_noPanic ?_
    refine wp_region_held_drew (S := (fun w' => Lo w2.heap.size w3.heap.size X Y w' ∧ w'.cell? ⟨w2.heap.size, 0, none⟩ = some (.int .u64 X.term) ∧ w'.cell? ⟨w2.heap.size, 1, none⟩ = some (.int .u64 X.index) ∧ w'.cell? ⟨w2.heap.size, 2, none⟩ = some (.int .i64 X.kind) ∧ w'.cell? ⟨w2.heap.size, 3, none⟩ = some (.int .u64 X.client) ∧ w'.cell? ⟨w2.heap.size, 4, none⟩ = some (.int .u64 X.seq) ∧ w'.cell? ⟨w2.heap.size, 5, none⟩ = some (.int .u64 X.block) ∧ w'.cell? ⟨w2.heap.size, 6, none⟩ = some (.int .u64 X.many) ∧ w'.cell? ⟨w2.heap.size, 7, none⟩ = some (.int .i64 X.node) ∧ w'.cell? ⟨w2.heap.size, 8, none⟩ = some (.int .i64 X.level) ∧ w'.cell? ⟨w2.heap.size, 9, none⟩ = some (.string X.data) ∧ w'.cell? ⟨w2.heap.size, 10, none⟩ = some (.string X.old) ∧ w'.cell? ⟨w3.heap.size, 0, none⟩ = some (.int .u64 Y.term) ∧ w'.cell? ⟨w3.heap.size, 1, none⟩ = some (.int .u64 Y.index) ∧ w'.cell? ⟨w3.heap.size, 2, none⟩ = some (.int .i64 Y.kind) ∧ w'.cell? ⟨w3.heap.size, 3, none⟩ = some (.int .u64 Y.client) ∧ w'.cell? ⟨w3.heap.size, 4, none⟩ = some (.int .u64 Y.seq) ∧ w'.cell? ⟨w3.heap.size, 5, none⟩ = some (.int .u64 Y.block) ∧ w'.cell? ⟨w3.heap.size, 6, none⟩ = some (.int .u64 Y.many) ∧ w'.cell? ⟨w3.heap.size, 7, none⟩ = some (.int .i64 Y.node) ∧ w'.cell? ⟨w3.heap.size, 8, none⟩ = some (.int .i64 Y.level) ∧ w'.cell? ⟨w3.heap.size, 9, none⟩ = some (.string Y.data) ∧ w'.cell? ⟨w3.heap.size, 10, none⟩ = some (.string Y.old))) (by kernel_rfl) (HLL.out.all) (fun hHeld => ?_)
    refine takeHO (fun _ _ _ _ _ h => h) (by assumption) 0 (v := ?vB0) rfl (by kernel_rfl) (by kernel_rfl) (by kernel_rfl) (Or.inl ⟨by kernel_rfl, ?hyB0⟩) ?restB0
    case hyB0 => (intro w hSw; (try dsimp only at hSw); go_simp; first | done | (with_reducible rfl))
    try simp only [Act.put, List.setIfInBounds_toArray, List.set_cons_zero, List.set_cons_succ]
    refine takeHO (fun _ _ _ _ _ h => h) (by assumption) 1 (v := ?vB1) rfl (by kernel_rfl) (by kernel_rfl) (by kernel_rfl) (Or.inl ⟨by kernel_rfl, ?hyB1⟩) ?restB1
    case hyB1 => (intro w hSw; (try dsimp only at hSw); go_simp; first | done | (with_reducible rfl))
    try simp only [Act.put, List.setIfInBounds_toArray, List.set_cons_zero, List.set_cons_succ]
    refine takeHO (fun _ _ _ _ _ h => h) (by assumption) 2 (v := ?vB2) rfl (by kernel_rfl) (by kernel_rfl) (by kernel_rfl) (Or.inl ⟨by kernel_rfl, ?hyB2⟩) ?restB2
    case hyB2 => (intro w hSw; (try dsimp only at hSw); go_simp; first | done | (with_reducible rfl))
    try simp only [Act.put, List.setIfInBounds_toArray, List.set_cons_zero, List.set_cons_succ]
    refine takeHO (fun _ _ _ _ _ h => h) (by assumption) 3 (v := ?vB3) rfl (by kernel_rfl) (by kernel_rfl) (by kernel_rfl) (Or.inl ⟨by kernel_rfl, ?hyB3⟩) ?restB3
    case hyB3 => (intro w hSw; (try dsimp only at hSw); go_simp; first | done | (with_reducible rfl))
    try simp only [Act.put, List.setIfInBounds_toArray, List.set_cons_zero, List.set_cons_succ]
    refine takeHO (fun _ _ _ _ _ h => h) (by assumption) 4 (v := ?vB4) rfl (by kernel_rfl) (by kernel_rfl) (by kernel_rfl) (Or.inl ⟨by kernel_rfl, ?hyB4⟩) ?restB4
    case hyB4 => (intro w hSw; (try dsimp only at hSw); go_simp; first | done | (with_reducible rfl))
    try simp only [Act.put, List.setIfInBounds_toArray, List.set_cons_zero, List.set_cons_succ]
    refine takeHO (fun _ _ _ _ _ h => h) (by assumption) 5 (v := ?vB5) rfl (by kernel_rfl) (by kernel_rfl) (by kernel_rfl) (Or.inl ⟨by kernel_rfl, ?hyB5⟩) ?restB5
    case hyB5 => (intro w hSw; (try dsimp only at hSw); go_simp; first | done | (with_reducible rfl))
    try simp only [Act.put, List.setIfInBounds_toArray, List.set_cons_zero, List.set_cons_succ]
    refine takeHO (fun _ _ _ _ _ h => h) (by assumption) 6 (v := ?vB6) rfl (by kernel_rfl) (by kernel_rfl) (by kernel_rfl) (Or.inl ⟨by kernel_rfl, ?hyB6⟩) ?restB6
    case hyB6 => (intro w hSw; (try dsimp only at hSw); go_simp; first | done | (with_reducible rfl))
    try simp only [Act.put, List.setIfInBounds_toArray, List.set_cons_zero, List.set_cons_succ]
    refine takeHO (fun _ _ _ _ _ h => h) (by assumption) 7 (v := ?vB7) rfl (by kernel_rfl) (by kernel_rfl) (by kernel_rfl) (Or.inl ⟨by kernel_rfl, ?hyB7⟩) ?restB7
    case hyB7 => (intro w hSw; (try dsimp only at hSw); go_simp; first | done | (with_reducible rfl))
    try simp only [Act.put, List.setIfInBounds_toArray, List.set_cons_zero, List.set_cons_succ]
    refine takeHO (fun _ _ _ _ _ h => h) (by assumption) 8 (v := ?vB8) rfl (by kernel_rfl) (by kernel_rfl) (by kernel_rfl) (Or.inl ⟨by kernel_rfl, ?hyB8⟩) ?restB8
    case hyB8 => (intro w hSw; (try dsimp only at hSw); go_simp; first | done | (with_reducible rfl))
    try simp only [Act.put, List.setIfInBounds_toArray, List.set_cons_zero, List.set_cons_succ]
    refine takeHO (fun _ _ _ _ _ h => h) (by assumption) 9 (v := ?vB9) rfl (by kernel_rfl) (by kernel_rfl) (by kernel_rfl) (Or.inl ⟨by kernel_rfl, ?hyB9⟩) ?restB9
    case hyB9 => (intro w hSw; (try dsimp only at hSw); go_simp; first | done | (with_reducible rfl))
    try simp only [Act.put, List.setIfInBounds_toArray, List.set_cons_zero, List.set_cons_succ]
    refine takeHO (fun _ _ _ _ _ h => h) (by assumption) 10 (v := ?vB10) rfl (by kernel_rfl) (by kernel_rfl) (by kernel_rfl) (Or.inl ⟨by kernel_rfl, ?hyB10⟩) ?restB10
    case hyB10 => (intro w hSw; (try dsimp only at hSw); go_simp; first | done | (with_reducible rfl))
    try simp only [Act.put, List.setIfInBounds_toArray, List.set_cons_zero, List.set_cons_succ]
    refine takeHO (fun _ _ _ _ _ h => h) (by assumption) 11 (v := ?vB11) rfl (by kernel_rfl) (by kernel_rfl) (by kernel_rfl) (Or.inl ⟨by kernel_rfl, ?hyB11⟩) ?restB11
    case hyB11 => (intro w hSw; (try dsimp only at hSw); go_simp; first | done | (with_reducible rfl))
    try simp only [Act.put, List.setIfInBounds_toArray, List.set_cons_zero, List.set_cons_succ]
    refine takeHO (fun _ _ _ _ _ h => h) (by assumption) 12 (v := ?vB12) rfl (by kernel_rfl) (by kernel_rfl) (by kernel_rfl) (Or.inl ⟨by kernel_rfl, ?hyB12⟩) ?restB12
    case hyB12 => (intro w hSw; (try dsimp only at hSw); go_simp; first | done | (with_reducible rfl))
    try simp only [Act.put, List.setIfInBounds_toArray, List.set_cons_zero, List.set_cons_succ]
    refine wpAnyH_ready (rs := [13]) (by kernel_rfl) (by simp) ?_
    refine AllReadyH.cons rfl (fun K hK => ?_) AllReadyH.nil
    go_simp
    (go_at_call 28; (with_reducible refine (KS.out _).mono ?_); rintro q w6 ⟨rfl, b6⟩; try go_wp2_with fail)
    refine hK.out _ _ ?_ (fun hHeld => ?_)
    · exact (Lo.on hHeld.1 b6).all
    clear hK K
    try simp only [Act.put, List.setIfInBounds_toArray, List.set_cons_zero, List.set_cons_succ]
    refine takeHO (fun _ _ _ _ _ h => h) (by assumption) 14 (v := ?vB14) rfl (by kernel_rfl) (by kernel_rfl) (by kernel_rfl) (Or.inl ⟨by kernel_rfl, ?hyB14⟩) ?restB14
    case hyB14 => (intro w hSw; (try dsimp only at hSw); go_simp; first | done | (with_reducible rfl))
    try simp only [List.getElem_toArray, List.getElem_cons_succ, List.getElem_cons_zero]
    try simp only [Act.put, List.setIfInBounds_toArray, List.set_cons_zero, List.set_cons_succ]
    refine takeHO (fun _ _ _ _ _ h => h) (by assumption) 15 (v := ?vB15) rfl (by kernel_rfl) (by kernel_rfl) (by kernel_rfl) (Or.inl ⟨by kernel_rfl, ?hyB15⟩) ?restB15
    case hyB15 => (intro w hSw; (try dsimp only at hSw); go_simp; first | done | (with_reducible rfl))
    try simp only [List.getElem_toArray, List.getElem_cons_succ, List.getElem_cons_zero]
    try simp only [Act.put, List.setIfInBounds_toArray, List.set_cons_zero, List.set_cons_succ]
    refine takeHO (fun _ _ _ _ _ h => h) (by assumption) 16 (v := ?vB16) rfl (by kernel_rfl) (by kernel_rfl) (by kernel_rfl) (Or.inl ⟨by kernel_rfl, ?hyB16⟩) ?restB16
    case hyB16 => (intro w hSw; (try dsimp only at hSw); go_simp; first | done | (with_reducible rfl))
    try simp only [List.getElem_toArray, List.getElem_cons_succ, List.getElem_cons_zero]
    try simp only [Act.put, List.setIfInBounds_toArray, List.set_cons_zero, List.set_cons_succ]
    refine takeHO (fun _ _ _ _ _ h => h) (by assumption) 17 (v := ?vB17) rfl (by kernel_rfl) (by kernel_rfl) (by kernel_rfl) (Or.inl ⟨by kernel_rfl, ?hyB17⟩) ?restB17
    case hyB17 => (intro w hSw; (try dsimp only at hSw); go_simp; first | done | (with_reducible rfl))
    try simp only [List.getElem_toArray, List.getElem_cons_succ, List.getElem_cons_zero]
    try simp only [Act.put, List.setIfInBounds_toArray, List.set_cons_zero, List.set_cons_succ]
    refine takeHO (fun _ _ _ _ _ h => h) (by assumption) 18 (v := ?vB18) rfl (by kernel_rfl) (by kernel_rfl) (by kernel_rfl) (Or.inl ⟨by kernel_rfl, ?hyB18⟩) ?restB18
    case hyB18 => (intro w hSw; (try dsimp only at hSw); go_simp; first | done | (with_reducible rfl))
    try simp only [List.getElem_toArray, List.getElem_cons_succ, List.getElem_cons_zero]
    try simp only [Act.put, List.setIfInBounds_toArray, List.set_cons_zero, List.set_cons_succ]
    refine takeHO (fun _ _ _ _ _ h => h) (by assumption) 19 (v := ?vB19) rfl (by kernel_rfl) (by kernel_rfl) (by kernel_rfl) (Or.inl ⟨by kernel_rfl, ?hyB19⟩) ?restB19
    case hyB19 => (intro w hSw; (try dsimp only at hSw); go_simp; first | done | (with_reducible rfl))
    try simp only [List.getElem_toArray, List.getElem_cons_succ, List.getElem_cons_zero]
    try simp only [Act.put, List.setIfInBounds_toArray, List.set_cons_zero, List.set_cons_succ]
    refine takeHO (fun _ _ _ _ _ h => h) (by assumption) 20 (v := ?vB20) rfl (by kernel_rfl) (by kernel_rfl) (by kernel_rfl) (Or.inl ⟨by kernel_rfl, ?hyB20⟩) ?restB20
    case hyB20 => (intro w hSw; (try dsimp only at hSw); go_simp; first | done | (with_reducible rfl))
    try simp only [List.getElem_toArray, List.getElem_cons_succ, List.getElem_cons_zero]
    try simp only [Act.put, List.setIfInBounds_toArray, List.set_cons_zero, List.set_cons_succ]
    refine takeHO (fun _ _ _ _ _ h => h) (by assumption) 21 (v := ?vB21) rfl (by kernel_rfl) (by kernel_rfl) (by kernel_rfl) (Or.inl ⟨by kernel_rfl, ?hyB21⟩) ?restB21
    case hyB21 => (intro w hSw; (try dsimp only at hSw); go_simp; first | done | (with_reducible rfl))
    try simp only [List.getElem_toArray, List.getElem_cons_succ, List.getElem_cons_zero]
    try simp only [Act.put, List.setIfInBounds_toArray, List.set_cons_zero, List.set_cons_succ]
    refine takeHO (fun _ _ _ _ _ h => h) (by assumption) 22 (v := ?vB22) rfl (by kernel_rfl) (by kernel_rfl) (by kernel_rfl) (Or.inl ⟨by kernel_rfl, ?hyB22⟩) ?restB22
    case hyB22 => (intro w hSw; (try dsimp only at hSw); go_simp; first | done | (with_reducible rfl))
    try simp only [List.getElem_toArray, List.getElem_cons_succ, List.getElem_cons_zero]
    try simp only [Act.put, List.setIfInBounds_toArray, List.set_cons_zero, List.set_cons_succ]
    refine takeHO (fun _ _ _ _ _ h => h) (by assumption) 23 (v := ?vB23) rfl (by kernel_rfl) (by kernel_rfl) (by kernel_rfl) (Or.inl ⟨by kernel_rfl, ?hyB23⟩) ?restB23
    case hyB23 => (intro w hSw; (try dsimp only at hSw); go_simp; first | done | (with_reducible rfl))
    try simp only [List.getElem_toArray, List.getElem_cons_succ, List.getElem_cons_zero]
    try simp only [Act.put, List.setIfInBounds_toArray, List.set_cons_zero, List.set_cons_succ]
    refine takeHO (fun _ _ _ _ _ h => h) (by assumption) 24 (v := ?vB24) rfl (by kernel_rfl) (by kernel_rfl) (by kernel_rfl) (Or.inl ⟨by kernel_rfl, ?hyB24⟩) ?restB24
    case hyB24 => (intro w hSw; (try dsimp only at hSw); go_simp; first | done | (with_reducible rfl))
    try simp only [List.getElem_toArray, List.getElem_cons_succ, List.getElem_cons_zero]
    try simp only [Act.put, List.setIfInBounds_toArray, List.set_cons_zero, List.set_cons_succ]
    refine takeHO (fun _ _ _ _ _ h => h) (by assumption) 25 (v := ?vB25) rfl (by kernel_rfl) (by kernel_rfl) (by kernel_rfl) (Or.inl ⟨by kernel_rfl, ?hyB25⟩) ?restB25
    case hyB25 => (intro w hSw; (try dsimp only at hSw); go_simp; first | done | (with_reducible rfl))
    try simp only [List.getElem_toArray, List.getElem_cons_succ, List.getElem_cons_zero]
    try simp only [Act.put, List.setIfInBounds_toArray, List.set_cons_zero, List.set_cons_succ]
    refine takeHO (fun _ _ _ _ _ h => h) (by assumption) 26 (v := ?vB26) rfl (by kernel_rfl) (by kernel_rfl) (by kernel_rfl) (Or.inl ⟨by kernel_rfl, ?hyB26⟩) ?restB26
    case hyB26 => (intro w hSw; (try dsimp only at hSw); go_simp; first | done | (with_reducible rfl))
    try simp only [List.getElem_toArray, List.getElem_cons_succ, List.getElem_cons_zero]
    try simp only [Act.put, List.setIfInBounds_toArray, List.set_cons_zero, List.set_cons_succ]
    refine takeHO (fun _ _ _ _ _ h => h) (by assumption) 27 (v := ?vB27) rfl (by kernel_rfl) (by kernel_rfl) (by kernel_rfl) (Or.inl ⟨by kernel_rfl, ?hyB27⟩) ?restB27
    case hyB27 => (intro w hSw; (try dsimp only at hSw); go_simp; first | done | (with_reducible rfl))
    try simp only [List.getElem_toArray, List.getElem_cons_succ, List.getElem_cons_zero]
    try simp only [Act.put, List.setIfInBounds_toArray, List.set_cons_zero, List.set_cons_succ]
    refine takeHO (fun _ _ _ _ _ h => h) (by assumption) 28 (v := ?vB28) rfl (by kernel_rfl) (by kernel_rfl) (by kernel_rfl) (Or.inl ⟨by kernel_rfl, ?hyB28⟩) ?restB28
    case hyB28 => (intro w hSw; (try dsimp only at hSw); go_simp; first | done | (with_reducible rfl))
    try simp only [List.getElem_toArray, List.getElem_cons_succ, List.getElem_cons_zero]
    try simp only [Act.put, List.setIfInBounds_toArray, List.set_cons_zero, List.set_cons_succ]
    refine takeHO (fun _ _ _ _ _ h => h) (by assumption) 29 (v := ?vB29) rfl (by kernel_rfl) (by kernel_rfl) (by kernel_rfl) (Or.inl ⟨by kernel_rfl, ?hyB29⟩) ?restB29
    case hyB29 => (intro w hSw; (try dsimp only at hSw); go_simp; first | done | (with_reducible rfl))
    try simp only [List.getElem_toArray, List.getElem_cons_succ, List.getElem_cons_zero]
    try simp only [Act.put, List.setIfInBounds_toArray, List.set_cons_zero, List.set_cons_succ]
    refine takeHO (fun _ _ _ _ _ h => h) (by assumption) 30 (v := ?vB30) rfl (by kernel_rfl) (by kernel_rfl) (by kernel_rfl) (Or.inl ⟨by kernel_rfl, ?hyB30⟩) ?restB30
    case hyB30 => (intro w hSw; (try dsimp only at hSw); go_simp; first | done | (with_reducible rfl))
    try simp only [List.getElem_toArray, List.getElem_cons_succ, List.getElem_cons_zero]
    try simp only [Act.put, List.setIfInBounds_toArray, List.set_cons_zero, List.set_cons_succ]
    refine wpAnyH_done (by kernel_rfl) ?_ _
    refine NoPanic.normal ?_
    go_wp2
    go_ret
    refine ⟨?_, BD.out.trans (b6.mono BD.out.size)⟩
    rfl
end Go.Proofs.YtmalcldpihpfpaaGreat
