/-
  Load: the Super and the Hard that a device has.
  Conditions: a device that lies in memory.
-/
import Derived.Test.YtdoombcihobejaaD2
import Derived.StillTailTactics
import Derived.Deep.CutRange
namespace Go.Proofs.Ytdoombcihobejaa
open Go.RowKit Vi Sl Dk
set_option linter.unusedVariables false
set_option linter.unusedSimpArgs false
theorem results_cell2_tmp {fn : Func} {p q u : Tmp} {ty ty2 : TypeId} (h : fn.results = #[.cell p ty, .cell q ty2, .tmp u]) (tmps : Array Value) (P : Program) (w : World) :
    (results fn tmps).run P w =
      ((asAddr (tmps.getD p undef)).run P w).andThen fun a w₁ => ((loadVar ty a).run P w₁).andThen fun x w₂ => ((asAddr (tmps.getD q undef)).run P w₂).andThen fun b w₃ => ((loadVar ty2 b).run P w₃).andThen fun y w₄ => .ok (.tuple #[x, y, tmps.getD u undef]) w₄ := by
  simp only [results, h]
  simp [Sem.run_bind, Result.andThen]
theorem res25 (tmps : Array Value) (w : World) (p q : Nat) (s : Su) (h : Hd) (hp : tmps.getD 2 undef = .pointer (some ⟨p, 0, none⟩)) (hq : tmps.getD 3 undef = .pointer (some ⟨q, 0, none⟩)) (hg : w.heap[p]? = some (.cells s.c 23 (0, 0))) (hh : w.heap[q]? = some (.cells h.c 26 (0, 0))) :
    (results Try.f25 tmps).run Try.prog w = .ok (.tuple #[.agg s.c, .agg h.c, tmps.getD 4 undef]) w := by
  rw [results_cell2_tmp Try.results25, hp, hq]
  simp [asAddr, run_loadVar_row w p 23 23 s.c (0, 0) _ hg Try.underlying23 rfl Try.su7, run_loadVar_row w q 26 26 h.c (0, 0) _ hh Try.underlying26 rfl Try.hd3]
/-- The two results' blocks, and what was loaded. -/
structure Ld (w : World) (g : Nat) (L : List Nat) (d : St) (W : World) : Prop where
  be : Below w.heap.size w W
  r2 : W.heap[w.heap.size]? = some (.cells su0.c 23 (0, 0))
  r3 : W.heap[w.heap.size + 1]? = some (.cells hd0.c 26 (0, 0))
  dv : Dv W g L d
theorem Ld.below {w W W' : World} {g : Nat} {L : List Nat} {d : St} (h : Ld w g L d W) (hb : Below W.heap.size W W') : Ld w g L d W' :=
  ⟨h.be.trans (hb.mono h.be.size), (hb.block _ (Array.getElem?_eq_some_iff.1 h.r2).1).trans h.r2, (hb.block _ (Array.getElem?_eq_some_iff.1 h.r3).1).trans h.r3, h.dv.below hb⟩
theorem Ld.alloc {w W : World} {g : Nat} {L : List Nat} {d : St} (h : Ld w g L d W) (o : Obj) : Ld w g L d (W.alloc o) := h.below ((Below.refl _ _).alloc (Nat.le_refl _) _)
structure Ldx (w : World) (g : Nat) (L : List Nat) (d : St) (q1 q2 : Nat) (s : Su) (h : Hd) (x : Su) (y : Hd) (W : World) : Prop where
  be : Below w.heap.size w W
  r2 : W.heap[w.heap.size]? = some (.cells s.c 23 (0, 0))
  r3 : W.heap[w.heap.size + 1]? = some (.cells h.c 26 (0, 0))
  bx : W.heap[q1]? = some (.cells x.c 23 (0, 0))
  by_ : W.heap[q2]? = some (.cells y.c 26 (0, 0))
  l1 : w.heap.size + 1 < q1
  l2 : w.heap.size + 1 < q2
theorem Ldx.drew {w W : World} {g : Nat} {L : List Nat} {d : St} {q1 q2 : Nat} {s : Su} {h : Hd} {x : Su} {y : Hd} (k : Ldx w g L d q1 q2 s h x y W) : Ldx w g L d q1 q2 s h x y W.drew := ⟨k.be.drew, k.r2, k.r3, k.bx, k.by_, k.l1, k.l2⟩
theorem below_putRow {B : Nat} {w W : World} (h : Below B w W) (z : Nat) (hz : B ≤ z) (cs : Array Value) : Below B w (W.setRow z cs) := h.trans ⟨rfl, rfl, rfl, by simp, fun k hk => setRow_other _ _ _ _ (by omega)⟩
abbrev set7 (W : World) (z : Nat) (s : Su) : World := (((((((W.setCell ⟨z, 0, none⟩ (.int .i64 s.v)).setCell ⟨z, 1, none⟩ (.int .i64 s.sn)).setCell ⟨z, 2, none⟩ (.int .i64 s.lg)).setCell ⟨z, 3, none⟩ (.int .i64 s.ar)).setCell ⟨z, 4, none⟩ (.int .i64 s.hf)).setCell ⟨z, 5, none⟩ (.int .i64 s.gl)).setCell ⟨z, 6, none⟩ (.int .i64 s.sp))
abbrev set3 (W : World) (z : Nat) (h : Hd) : World := (((W.setCell ⟨z, 0, none⟩ (.int .u64 (h.tm : Nat))).setCell ⟨z, 1, none⟩ (.int .i64 h.vo)).setCell ⟨z, 2, none⟩ (.int .u64 (h.cm : Nat)))
theorem set7_same {W : World} {z : Nat} {t : Su} (s : Su) (h : W.heap[z]? = some (.cells t.c 23 (0, 0))) : (set7 W z s).heap[z]? = some (.cells s.c 23 (0, 0)) := by
  have k0 : (W.setCell ⟨z, 0, none⟩ (.int .i64 s.v)).heap[z]? = some (.cells #[.int .i64 s.v, .int .i64 t.sn, .int .i64 t.lg, .int .i64 t.ar, .int .i64 t.hf, .int .i64 t.gl, .int .i64 t.sp] 23 (0, 0)) := heap_setCell_same _ z 0 _ 23 (.int .i64 s.v) h
  have k1 : ((W.setCell ⟨z, 0, none⟩ (.int .i64 s.v)).setCell ⟨z, 1, none⟩ (.int .i64 s.sn)).heap[z]? = some (.cells #[.int .i64 s.v, .int .i64 s.sn, .int .i64 t.lg, .int .i64 t.ar, .int .i64 t.hf, .int .i64 t.gl, .int .i64 t.sp] 23 (0, 0)) := heap_setCell_same _ z 1 _ 23 (.int .i64 s.sn) k0
  have k2 : (((W.setCell ⟨z, 0, none⟩ (.int .i64 s.v)).setCell ⟨z, 1, none⟩ (.int .i64 s.sn)).setCell ⟨z, 2, none⟩ (.int .i64 s.lg)).heap[z]? = some (.cells #[.int .i64 s.v, .int .i64 s.sn, .int .i64 s.lg, .int .i64 t.ar, .int .i64 t.hf, .int .i64 t.gl, .int .i64 t.sp] 23 (0, 0)) := heap_setCell_same _ z 2 _ 23 (.int .i64 s.lg) k1
  have k3 : ((((W.setCell ⟨z, 0, none⟩ (.int .i64 s.v)).setCell ⟨z, 1, none⟩ (.int .i64 s.sn)).setCell ⟨z, 2, none⟩ (.int .i64 s.lg)).setCell ⟨z, 3, none⟩ (.int .i64 s.ar)).heap[z]? = some (.cells #[.int .i64 s.v, .int .i64 s.sn, .int .i64 s.lg, .int .i64 s.ar, .int .i64 t.hf, .int .i64 t.gl, .int .i64 t.sp] 23 (0, 0)) := heap_setCell_same _ z 3 _ 23 (.int .i64 s.ar) k2
  have k4 : (((((W.setCell ⟨z, 0, none⟩ (.int .i64 s.v)).setCell ⟨z, 1, none⟩ (.int .i64 s.sn)).setCell ⟨z, 2, none⟩ (.int .i64 s.lg)).setCell ⟨z, 3, none⟩ (.int .i64 s.ar)).setCell ⟨z, 4, none⟩ (.int .i64 s.hf)).heap[z]? = some (.cells #[.int .i64 s.v, .int .i64 s.sn, .int .i64 s.lg, .int .i64 s.ar, .int .i64 s.hf, .int .i64 t.gl, .int .i64 t.sp] 23 (0, 0)) := heap_setCell_same _ z 4 _ 23 (.int .i64 s.hf) k3
  have k5 : ((((((W.setCell ⟨z, 0, none⟩ (.int .i64 s.v)).setCell ⟨z, 1, none⟩ (.int .i64 s.sn)).setCell ⟨z, 2, none⟩ (.int .i64 s.lg)).setCell ⟨z, 3, none⟩ (.int .i64 s.ar)).setCell ⟨z, 4, none⟩ (.int .i64 s.hf)).setCell ⟨z, 5, none⟩ (.int .i64 s.gl)).heap[z]? = some (.cells #[.int .i64 s.v, .int .i64 s.sn, .int .i64 s.lg, .int .i64 s.ar, .int .i64 s.hf, .int .i64 s.gl, .int .i64 t.sp] 23 (0, 0)) := heap_setCell_same _ z 5 _ 23 (.int .i64 s.gl) k4
  have k6 : (((((((W.setCell ⟨z, 0, none⟩ (.int .i64 s.v)).setCell ⟨z, 1, none⟩ (.int .i64 s.sn)).setCell ⟨z, 2, none⟩ (.int .i64 s.lg)).setCell ⟨z, 3, none⟩ (.int .i64 s.ar)).setCell ⟨z, 4, none⟩ (.int .i64 s.hf)).setCell ⟨z, 5, none⟩ (.int .i64 s.gl)).setCell ⟨z, 6, none⟩ (.int .i64 s.sp)).heap[z]? = some (.cells #[.int .i64 s.v, .int .i64 s.sn, .int .i64 s.lg, .int .i64 s.ar, .int .i64 s.hf, .int .i64 s.gl, .int .i64 s.sp] 23 (0, 0)) := heap_setCell_same _ z 6 _ 23 (.int .i64 s.sp) k5
  exact k6
theorem set7_other (W : World) (z : Nat) (s : Su) (k : Nat) (h : k ≠ z) : (set7 W z s).heap[k]? = W.heap[k]? := by
  have h' : ∀ i, (⟨z, i, none⟩ : Addr).block ≠ k := fun i e => h e.symm
  unfold set7
  rw [heap_setCell_other _ ⟨z, 6, none⟩ k _ (Ne.symm (h' 6)), heap_setCell_other _ ⟨z, 5, none⟩ k _ (Ne.symm (h' 5)), heap_setCell_other _ ⟨z, 4, none⟩ k _ (Ne.symm (h' 4)), heap_setCell_other _ ⟨z, 3, none⟩ k _ (Ne.symm (h' 3)), heap_setCell_other _ ⟨z, 2, none⟩ k _ (Ne.symm (h' 2)), heap_setCell_other _ ⟨z, 1, none⟩ k _ (Ne.symm (h' 1)), heap_setCell_other _ ⟨z, 0, none⟩ k _ (Ne.symm (h' 0))]
theorem set3_same {W : World} {z : Nat} {t : Hd} (h : Hd) (hz : W.heap[z]? = some (.cells t.c 26 (0, 0))) : (set3 W z h).heap[z]? = some (.cells h.c 26 (0, 0)) := by
  have k0 := heap_setCell_same W z 0 _ 26 (.int .u64 h.tm) hz
  have k1 := heap_setCell_same _ z 1 _ 26 (.int .i64 h.vo) k0
  exact heap_setCell_same _ z 2 _ 26 (.int .u64 h.cm) k1
theorem set3_other (W : World) (z : Nat) (h : Hd) (k : Nat) (hk : k ≠ z) : (set3 W z h).heap[k]? = W.heap[k]? := by
  have h' : ∀ i, (⟨z, i, none⟩ : Addr).block ≠ k := fun i e => hk e.symm
  unfold set3
  rw [heap_setCell_other _ ⟨z, 2, none⟩ k _ (Ne.symm (h' 2)), heap_setCell_other _ ⟨z, 1, none⟩ k _ (Ne.symm (h' 1)), heap_setCell_other _ ⟨z, 0, none⟩ k _ (Ne.symm (h' 0))]
theorem set7_below {B : Nat} {w W : World} {z : Nat} (s : Su) (h : Below B w W) (hz : B ≤ z) : Below B w (set7 W z s) := by
  unfold set7
  exact ((((((h.setCell (p := ⟨z, 0, none⟩) hz _).setCell (p := ⟨z, 1, none⟩) hz _).setCell (p := ⟨z, 2, none⟩) hz _).setCell (p := ⟨z, 3, none⟩) hz _).setCell (p := ⟨z, 4, none⟩) hz _).setCell (p := ⟨z, 5, none⟩) hz _).setCell (p := ⟨z, 6, none⟩) hz _
theorem set3_below {B : Nat} {w W : World} {z : Nat} (s : Hd) (h : Below B w W) (hz : B ≤ z) : Below B w (set3 W z s) := by
  unfold set3
  exact ((h.setCell (p := ⟨z, 0, none⟩) hz _).setCell (p := ⟨z, 1, none⟩) hz _).setCell (p := ⟨z, 2, none⟩) hz _
theorem Ldx.set7 {w W : World} {g : Nat} {L : List Nat} {d : St} {q1 q2 : Nat} {s : Su} {h : Hd} {x : Su} {y : Hd} (k : Ldx w g L d q1 q2 s h x y W) : Ldx w g L d q1 q2 x h x y (Ytdoombcihobejaa.set7 W w.heap.size x) :=
  ⟨set7_below _ k.be (Nat.le_refl _), set7_same _ k.r2, (set7_other _ _ _ _ (by omega)).trans k.r3, (set7_other _ _ _ _ (by have := k.l1; omega)).trans k.bx, (set7_other _ _ _ _ (by have := k.l2; omega)).trans k.by_, k.l1, k.l2⟩
theorem Ldx.set3 {w W : World} {g : Nat} {L : List Nat} {d : St} {q1 q2 : Nat} {s : Su} {h : Hd} {x : Su} {y : Hd} (k : Ldx w g L d q1 q2 s h x y W) : Ldx w g L d q1 q2 s y x y (Ytdoombcihobejaa.set3 W (w.heap.size + 1) y) :=
  ⟨set3_below _ k.be (by omega), (set3_other _ _ _ _ (by omega)).trans k.r2, set3_same _ k.r3, (set3_other _ _ _ _ (by have := k.l1; omega)).trans k.bx, (set3_other _ _ _ _ (by have := k.l2; omega)).trans k.by_, k.l1, k.l2⟩
theorem Ldx.all {w W : World} {g : Nat} {L : List Nat} {d : St} {q1 q2 : Nat} {s : Su} {h : Hd} {x : Su} {y : Hd} (k : Ldx w g L d q1 q2 s h x y W) : W.cell? ⟨q1, 0, none⟩ = some (.int .i64 x.v) ∧ W.cell? ⟨q1, 1, none⟩ = some (.int .i64 x.sn) ∧ W.cell? ⟨q1, 2, none⟩ = some (.int .i64 x.lg) ∧ W.cell? ⟨q1, 3, none⟩ = some (.int .i64 x.ar) ∧ W.cell? ⟨q1, 4, none⟩ = some (.int .i64 x.hf) ∧ W.cell? ⟨q1, 5, none⟩ = some (.int .i64 x.gl) ∧ W.cell? ⟨q1, 6, none⟩ = some (.int .i64 x.sp) ∧ W.cell? ⟨q2, 0, none⟩ = some (.int .u64 (y.tm : Nat)) ∧ W.cell? ⟨q2, 1, none⟩ = some (.int .i64 y.vo) ∧ W.cell? ⟨q2, 2, none⟩ = some (.int .u64 (y.cm : Nat)) := by
  obtain ⟨a0, a1, a2, a3, a4, a5, a6⟩ := su_cells k.bx
  obtain ⟨b0, b1, b2⟩ := hd_cells k.by_
  exact ⟨a0, a1, a2, a3, a4, a5, a6, b0, b1, b2⟩
set_option maxHeartbeats 1000000 in
set_option maxRecDepth 100000 in
theorem load_any (g : Nat) (L : List Nat) (d : St) (w : World) (h : Dv w g L d) : Calls Try.prog 25 #[ptr g] w fun e w' => e = .returned (.tuple #[(ldS d).val, (ldH d).val, .int .i64 (ldE d)]) ∧ Below w.heap.size w w' := by
  have hb0 : Below w.heap.size w ((w.alloc (.cells su0.c 23)).alloc (.cells hd0.c 26)) := ((Below.refl _ _).alloc (Nat.le_refl _) _).alloc (by simp) _
  have Q0 : Ld w g L d ((w.alloc (.cells su0.c 23)).alloc (.cells hd0.c 26)) := ⟨hb0, (Lib.alloc_old _ _ _ (by simp)).trans (heap_alloc_new w _), heap_alloc2_new w _ _, h.below hb0⟩
  obtain ⟨W0, hW0⟩ : ∃ W0, W0 = (w.alloc (.cells su0.c 23)).alloc (.cells hd0.c 26) := ⟨_, rfl⟩
  rw [← hW0] at Q0
  have hz0 : ((w.alloc (.cells su0.c 23)).alloc (.cells hd0.c 26)) = (w.alloc (.cells #[.int .i64 0, .int .i64 0, .int .i64 0, .int .i64 0, .int .i64 0, .int .i64 0, .int .i64 0] 23)).alloc (.cells #[.int .u64 0, .int .i64 0, .int .u64 0] 26) := rfl
  rw [hz0] at hW0
  have HW0 := Lib.hid hW0
  have HQ0 := Lib.hid Q0
  have KS := Lib.hid (fun (W : World) (hQ : Ld w g L d W) => loadSuper_any g L d W hQ.dv)
  have KH := Lib.hid (fun (W : World) (hQ : Ld w g L d W) => loadHard_any g L d W hQ.dv)
  have HE : Hid (ldE d = if lSe d ≠ 0 then lSe d else lHe d) := rfl
  have HS : Hid (ldS d = if ldE d = 0 then lS d else su0) := rfl
  have HH : Hid (ldH d = if ldE d = 0 then lH d else hd0) := rfl
  generalize lSe d = e1 at *
  generalize lHe d = e2 at *
  generalize lS d = x at *
  generalize lH d = y at *
  clear hb0 hW0 hz0 h Q0
  unfold Su.val Hd.val at *
  unfold Su.c at KS
  unfold Hd.c at KH
  unfold ptr at *
  go_enter Try.func25, Try.ntmps25
  go_wp2_with fail
  rw [← HW0.out]
  refine (KS.out _ HQ0.out).mono ?_
  rintro e w1 ⟨rfl, b1⟩
  have Q1 := HQ0.out.below b1
  have HL1 : Hid (w.heap.size + 1 < w1.heap.size) := (Array.getElem?_eq_some_iff.1 Q1.r3).1
  have Q1a := Lib.hid (Q1.alloc (.cells x.c 23))
  obtain ⟨V1, hV1⟩ : ∃ V, V = w1.alloc (.cells x.c 23) := ⟨_, rfl⟩
  have HX1 : Hid (V1.heap[w1.heap.size]? = some (.cells x.c 23 (0, 0))) := by show _ = _; rw [hV1]; exact heap_alloc_new w1 _
  rw [← hV1] at Q1a
  unfold Su.c at hV1
  have HV1 := Lib.hid hV1
  clear b1 Q1 hV1 HQ0 HW0 KS
  by_cases he1 : e1 = 0
  · subst he1
    go_wp2_with fail
    rw [← HV1.out]
    refine (KH.out _ Q1a.out).mono ?_
    rintro e w2 ⟨rfl, b2⟩
    have Q2 := Q1a.out.below b2
    have HL2' : Hid (w.heap.size + 1 < w2.heap.size) := (Array.getElem?_eq_some_iff.1 Q2.r3).1
    have hx2 := (b2.block _ (Array.getElem?_eq_some_iff.1 HX1.out).1).trans HX1.out
    have Q2a := Lib.hid (Q2.alloc (.cells y.c 26))
    obtain ⟨V2, hV2⟩ : ∃ V, V = w2.alloc (.cells y.c 26) := ⟨_, rfl⟩
    have HX2 : Hid (V2.heap[w1.heap.size]? = some (.cells x.c 23 (0, 0))) := by show _ = _; rw [hV2]; exact (Lib.alloc_old _ _ _ (Array.getElem?_eq_some_iff.1 hx2).1).trans hx2
    have HY2 : Hid (V2.heap[w2.heap.size]? = some (.cells y.c 26 (0, 0))) := by show _ = _; rw [hV2]; exact heap_alloc_new w2 _
    rw [← hV2] at Q2a
    unfold Hd.c at hV2
    have HV2 := Lib.hid hV2
    clear b2 Q2 hx2 hV2 Q1a HX1 HV1 KH
    have HL2 : Hid (w.heap.size + 1 < w2.heap.size) := HL2'.out
    generalize hq1 : w1.heap.size = q1 at *
    generalize hq2 : w2.heap.size = q2 at *
    have HQ2 := Lib.hid hq2
    clear hq1 hq2
    by_cases he2 : e2 = 0
    · subst he2
      go_upto_region 7 with fail
      rw [← HV2.out, HQ2.out]
      clear HV2 HQ2
      have QL : Ldx w g L d q1 q2 su0 hd0 x y V2.drew := (⟨Q2a.out.be, Q2a.out.r2, Q2a.out.r3, HX2.out, HY2.out, HL1.out, HL2.out⟩ : Ldx w g L d q1 q2 su0 hd0 x y V2).drew
      have QL0 : Ldx w g L d q1 q2 su0 hd0 x y V2 := ⟨Q2a.out.be, Q2a.out.r2, Q2a.out.r3, HX2.out, HY2.out, HL1.out, HL2.out⟩
      have HQL := Lib.hid QL0
      obtain ⟨a0, a1, a2, a3, a4, a5, a6⟩ := su_cells QL.bx
      obtain ⟨b0, b1, b2⟩ := hd_cells QL.by_
      obtain ⟨r0, r1, r2, r3, r4, r5, r6⟩ := su_cells QL0.r2
      obtain ⟨s0, s1, s2⟩ := hd_cells QL0.r3
      have f2 : ∀ i, V2.frozen? ⟨w.heap.size, i, none⟩ = false := fun i => Lib.frozen_of_heap QL0.r2 i
      have f3 : ∀ i, V2.frozen? ⟨w.heap.size + 1, i, none⟩ = false := fun i => Lib.frozen_of_heap QL0.r3 i
      dsimp only [hd0] at s0 s1 s2
      dsimp only [su0] at r0 r1 r2 r3 r4 r5 r6
      clear Q2a HX2 HY2 QL QL0
      refine wp_region_noPanic ?_
      refine wp_region_held_drew (S := (fun w' => w'.cell? ⟨q1, 0, none⟩ = some (.int .i64 x.v) ∧ w'.cell? ⟨q1, 1, none⟩ = some (.int .i64 x.sn) ∧ w'.cell? ⟨q1, 2, none⟩ = some (.int .i64 x.lg) ∧ w'.cell? ⟨q1, 3, none⟩ = some (.int .i64 x.ar) ∧ w'.cell? ⟨q1, 4, none⟩ = some (.int .i64 x.hf) ∧ w'.cell? ⟨q1, 5, none⟩ = some (.int .i64 x.gl) ∧ w'.cell? ⟨q1, 6, none⟩ = some (.int .i64 x.sp) ∧ w'.cell? ⟨q2, 0, none⟩ = some (.int .u64 (y.tm : Nat)) ∧ w'.cell? ⟨q2, 1, none⟩ = some (.int .i64 y.vo) ∧ w'.cell? ⟨q2, 2, none⟩ = some (.int .u64 (y.cm : Nat)))) (by kernel_rfl) (by exact ⟨a0, a1, a2, a3, a4, a5, a6, b0, b1, b2⟩) (fun hHeld => ?_)
      refine wpAnyH_take (v := ?v0) (i := 0) rfl (by kernel_rfl) (by kernel_rfl) (by kernel_rfl) (fun _ _ _ h => h) (Or.inl ⟨by kernel_rfl, ?hy0⟩) (by assumption) ?rest0
      case hy0 => (intro w hSw; (try dsimp only at hSw); go_simp; first | done | (with_reducible rfl))
      try simp only [Act.put, List.setIfInBounds_toArray, List.set_cons_zero, List.set_cons_succ]
      refine wpAnyH_take (v := ?v1) (i := 1) rfl (by kernel_rfl) (by kernel_rfl) (by kernel_rfl) (fun _ _ _ h => h) (Or.inl ⟨by kernel_rfl, ?hy1⟩) (by assumption) ?rest1
      case hy1 => (intro w hSw; (try dsimp only at hSw); go_simp; first | done | (with_reducible rfl))
      try simp only [Act.put, List.setIfInBounds_toArray, List.set_cons_zero, List.set_cons_succ]
      have g0 := f2 0
      have g1 := f2 1
      have g2 := f2 2
      have g3 := f2 3
      have g4 := f2 4
      have g5 := f2 5
      have g6 := f2 6
      have h0 := f3 0
      have h1 := f3 1
      have h2 := f3 2
      refine wpAnyH_ready (rs := [2]) (by kernel_rfl) (by simp) ?_
      refine AllReadyH.cons rfl (fun K hK => ?_) AllReadyH.nil
      go_simp
      refine hK.out _ _ ?_ (fun hHeld => ?_)
      · exact (HQL.out.set7.drew).all
      clear hK K
      try simp only [Act.put, List.setIfInBounds_toArray, List.set_cons_zero, List.set_cons_succ]
      refine wpAnyH_ready (rs := [3]) (by kernel_rfl) (by simp) ?_
      refine AllReadyH.cons rfl (fun K hK => ?_) AllReadyH.nil
      go_simp
      refine hK.out _ _ ?_ (fun hHeld => ?_)
      · exact (HQL.out.set7.set3.drew).all
      clear hK K
      try simp only [Act.put, List.setIfInBounds_toArray, List.set_cons_zero, List.set_cons_succ]
      refine wpAnyH_ready (rs := [4]) (by kernel_rfl) (by simp) ?_
      refine AllReadyH.cons rfl (fun K hK => ?_) AllReadyH.nil
      go_simp
      refine hK.out _ _ ?_ (fun hHeld => ?_)
      · exact (HQL.out.set7.set3.drew).all
      clear hK K
      try simp only [Act.put, List.setIfInBounds_toArray, List.set_cons_zero, List.set_cons_succ]
      refine wpAnyH_done (by kernel_rfl) ?_ _
      refine NoPanic.normal ?_
      have HF := Lib.hid HQL.out.set7.set3.drew
      have HE0 : Hid (ldE d = 0) := HE.out
      have HSx : Hid (ldS d = x) := by show _ = _; rw [HS.out, HE0.out]; rfl
      have HHy : Hid (ldH d = y) := by show _ = _; rw [HH.out, HE0.out]; rfl
      clear HE HS HH
      go_wp2_with fail
      exact bodyPost_ret (v := _) (res25 _ _ w.heap.size (w.heap.size + 1) x y rfl rfl HF.out.r2 HF.out.r3) rfl ⟨by rw [HSx.out, HHy.out, HE0.out]; rfl, HF.out.be⟩
    · have hne : (e2 != 0) = true := by simpa using he2
      have HE0 : Hid (ldE d = e2) := HE.out
      have HSx : Hid (ldS d = su0) := by show _ = _; rw [HS.out, HE0.out, if_neg he2]
      have HHy : Hid (ldH d = hd0) := by show _ = _; rw [HH.out, HE0.out, if_neg he2]
      have HW2 : Hid (∀ s h, Below w.heap.size w ((V2.setRow w.heap.size s).setRow (w.heap.size + 1) h)) := fun s h => below_putRow (below_putRow Q2a.out.be _ (Nat.le_refl _) s) _ (by omega) h
      have HR2 := Lib.hid Q2a.out.r2
      have HR3 : Hid ((V2.setRow w.heap.size su0.c).heap[w.heap.size + 1]? = some (.cells hd0.c 26 (0, 0))) := (setRow_other _ _ _ _ (by omega)).trans Q2a.out.r3
      have HG3 : Hid (((V2.setRow w.heap.size su0.c).setRow (w.heap.size + 1) hd0.c).heap[w.heap.size + 1]? = some (.cells hd0.c 26 (0, 0))) := setRow_heap _ _ _ _ 26 (0, 0) HR3.out
      have HG2 : Hid (((V2.setRow w.heap.size su0.c).setRow (w.heap.size + 1) hd0.c).heap[w.heap.size]? = some (.cells su0.c 23 (0, 0))) := (setRow_other _ _ _ _ (by omega)).trans (setRow_heap _ _ _ _ 23 (0, 0) HR2.out)
      clear HE HS HH Q2a HX2 HY2 he2
      go_upto_region 6 with fail
      rw [← HV2.out, HQ2.out]
      clear HV2 HQ2
      go_wp2_with (first | (refine wpList_store_su rfl _ _ rfl _ _ su0 su0 rfl rfl HR2.out ?_; go_frame) | (refine wpList_store_hd rfl _ _ rfl _ _ hd0 hd0 rfl rfl HR3.out ?_; go_frame))
      exact bodyPost_ret (v := _) (res25 _ _ w.heap.size (w.heap.size + 1) su0 hd0 rfl rfl HG2.out HG3.out) rfl ⟨by rw [HSx.out, HHy.out, HE0.out]; rfl, HW2.out _ _⟩
  · have hne : (e1 != 0) = true := by simpa using he1
    have HE0 : Hid (ldE d = e1) := by show _ = _; rw [HE.out, if_pos he1]
    have HSx : Hid (ldS d = su0) := by show _ = _; rw [HS.out, HE0.out, if_neg he1]
    have HHy : Hid (ldH d = hd0) := by show _ = _; rw [HH.out, HE0.out, if_neg he1]
    have HW2 : Hid (∀ s h, Below w.heap.size w ((V1.setRow w.heap.size s).setRow (w.heap.size + 1) h)) := fun s h => below_putRow (below_putRow Q1a.out.be _ (Nat.le_refl _) s) _ (by omega) h
    have HR2 := Lib.hid Q1a.out.r2
    have HR3 : Hid ((V1.setRow w.heap.size su0.c).heap[w.heap.size + 1]? = some (.cells hd0.c 26 (0, 0))) := (setRow_other _ _ _ _ (by omega)).trans Q1a.out.r3
    have HG3 : Hid (((V1.setRow w.heap.size su0.c).setRow (w.heap.size + 1) hd0.c).heap[w.heap.size + 1]? = some (.cells hd0.c 26 (0, 0))) := setRow_heap _ _ _ _ 26 (0, 0) HR3.out
    have HG2 : Hid (((V1.setRow w.heap.size su0.c).setRow (w.heap.size + 1) hd0.c).heap[w.heap.size]? = some (.cells su0.c 23 (0, 0))) := (setRow_other _ _ _ _ (by omega)).trans (setRow_heap _ _ _ _ 23 (0, 0) HR2.out)
    clear HE HS HH Q1a HX1 he1 KH
    go_upto_region 3 with fail
    rw [← HV1.out]
    clear HV1
    go_wp2_with (first | (refine wpList_store_su rfl _ _ rfl _ _ su0 su0 rfl rfl HR2.out ?_; go_frame) | (refine wpList_store_hd rfl _ _ rfl _ _ hd0 hd0 rfl rfl HR3.out ?_; go_frame))
    exact bodyPost_ret (v := _) (res25 _ _ w.heap.size (w.heap.size + 1) su0 hd0 rfl rfl HG2.out HG3.out) rfl ⟨by rw [HSx.out, HHy.out, HE0.out]; rfl, HW2.out _ _⟩
end Go.Proofs.Ytdoombcihobejaa
