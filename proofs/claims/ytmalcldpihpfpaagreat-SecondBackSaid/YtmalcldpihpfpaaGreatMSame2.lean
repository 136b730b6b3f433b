/-
  Are two messages the same: the package's way and the document's, whole.
  Conditions: named in each theorem.
-/
import Derived.Test.YtmalcldpihpfpaaGreatMSame
import Derived.BigQuiet
namespace Go.Proofs.YtmalcldpihpfpaaGreat
open Go.RowKit
set_option linter.unusedVariables false

/-- All fields but the entries, in the package's order. -/
def scalB (a b : Ms) : List Bool := [a.kind == b.kind, a.frm == b.frm, a.dst == b.dst, a.term == b.term, a.index == b.index, a.prev == b.prev, a.commit == b.commit, a.mark == b.mark, a.ok == b.ok, a.snap.toList == b.snap.toList]
def msameB (a b : Ms) : Bool := (scalB a b).all id && entsB a.n b.n a.es b.es
theorem msame_all (a b : Ms) (x : Bool) (h : x = entsB a.n b.n a.es b.es) : (a.kind == b.kind && (a.frm == b.frm && (a.dst == b.dst && (a.term == b.term && (a.index == b.index && (a.prev == b.prev && (a.commit == b.commit && (a.mark == b.mark && (a.ok == b.ok && (a.snap.toList == b.snap.toList && x)))))))))) = msameB a b := by
  unfold msameB scalB
  rw [h]
  simp only [List.all_cons, List.all_nil, id, Bool.and_true, Bool.and_assoc]
/-- Both messages lie where they lay. -/
structure Dm (w0 : World) (a b : Ms) (w : World) : Prop where
  x : By w0.heap.size a 44 w
  y : By (w0.heap.size + 1) b 44 w
  ex : Ents w.heap.size a.A a.n a.es w
  ey : Ents w.heap.size b.A b.n b.es w
  be : Below w0.heap.size w0 w
section
variable {w0 : World} {a b : Ms} {W w1 : World}
theorem Dm.on (h : Dm w0 a b W) (hb : Below W.heap.size W w1) : Dm w0 a b w1 := ⟨h.x.below hb, h.y.below hb, (h.ex.below hb).mr hb.size, (h.ey.below hb).mr hb.size, h.be.trans (hb.mono h.be.size)⟩
theorem Dm.drew (h : Dm w0 a b W) : Dm w0 a b W.drew := ⟨⟨h.x.bx⟩, ⟨h.y.bx⟩, h.ex.below (Below.refl _ W).drew, h.ey.below (Below.refl _ W).drew, h.be.drew⟩
theorem Dm.all (h : Dm w0 a b W) : Dm w0 a b W ∧ W.cell? ⟨w0.heap.size, 0, none⟩ = some (.int .i64 a.kind) ∧ W.cell? ⟨w0.heap.size, 1, none⟩ = some (.int .i64 a.frm) ∧ W.cell? ⟨w0.heap.size, 2, none⟩ = some (.int .i64 a.dst) ∧ W.cell? ⟨w0.heap.size, 3, none⟩ = some (.int .u64 a.term) ∧ W.cell? ⟨w0.heap.size, 4, none⟩ = some (.int .u64 a.index) ∧ W.cell? ⟨w0.heap.size, 5, none⟩ = some (.int .u64 a.prev) ∧ W.cell? ⟨w0.heap.size, 6, none⟩ = some (.int .u64 a.commit) ∧ W.cell? ⟨w0.heap.size, 7, none⟩ = some (.int .u64 a.mark) ∧ W.cell? ⟨w0.heap.size, 8, none⟩ = some (.bool a.ok) ∧ W.cell? ⟨w0.heap.size, 9, none⟩ = some (.slice a.A a.n a.c) ∧ W.cell? ⟨w0.heap.size, 10, none⟩ = some (.string a.snap) ∧ W.cell? ⟨w0.heap.size + 1, 0, none⟩ = some (.int .i64 b.kind) ∧ W.cell? ⟨w0.heap.size + 1, 1, none⟩ = some (.int .i64 b.frm) ∧ W.cell? ⟨w0.heap.size + 1, 2, none⟩ = some (.int .i64 b.dst) ∧ W.cell? ⟨w0.heap.size + 1, 3, none⟩ = some (.int .u64 b.term) ∧ W.cell? ⟨w0.heap.size + 1, 4, none⟩ = some (.int .u64 b.index) ∧ W.cell? ⟨w0.heap.size + 1, 5, none⟩ = some (.int .u64 b.prev) ∧ W.cell? ⟨w0.heap.size + 1, 6, none⟩ = some (.int .u64 b.commit) ∧ W.cell? ⟨w0.heap.size + 1, 7, none⟩ = some (.int .u64 b.mark) ∧ W.cell? ⟨w0.heap.size + 1, 8, none⟩ = some (.bool b.ok) ∧ W.cell? ⟨w0.heap.size + 1, 9, none⟩ = some (.slice b.A b.n b.c) ∧ W.cell? ⟨w0.heap.size + 1, 10, none⟩ = some (.string b.snap) := ⟨h, h.x.cell 0, h.x.cell 1, h.x.cell 2, h.x.cell 3, h.x.cell 4, h.x.cell 5, h.x.cell 6, h.x.cell 7, h.x.cell 8, h.x.cell 9, h.x.cell 10, h.y.cell 0, h.y.cell 1, h.y.cell 2, h.y.cell 3, h.y.cell 4, h.y.cell 5, h.y.cell 6, h.y.cell 7, h.y.cell 8, h.y.cell 9, h.y.cell 10⟩
theorem Dm.start (w : World) (a b : Ms) (hx : Ents w.heap.size a.A a.n a.es w) (hy : Ents w.heap.size b.A b.n b.es w) : Dm w a b ((w.alloc (Obj.cells (mc a) 44)).alloc (Obj.cells (mc b) 44)) := by
  have hb : Below w.heap.size w ((w.alloc (Obj.cells (mc a) 44)).alloc (Obj.cells (mc b) 44)) := ((Below.refl _ _).alloc (Nat.le_refl _) _).alloc (by simp) _
  have h := heap_alloc_new (w.alloc (Obj.cells (mc a) 44)) (Obj.cells (mc b) 44)
  rw [show (w.alloc (Obj.cells (mc a) 44)).heap.size = w.heap.size + 1 by simp] at h
  exact ⟨⟨(Lib.alloc_old _ _ _ (by simp)).trans (heap_alloc_new w _)⟩, ⟨h⟩, (hx.below hb).mr hb.size, (hy.below hb).mr hb.size, hb⟩
end
theorem all11p (b0 b1 b2 b3 b4 b5 b6 b7 b8 b9 b10 : Bool) (W : World) :
    Calls Tryz.prog 49 #[.slice (some ⟨W.heap.size, 0, none⟩) 11 11] (W.alloc (.cells #[.bool b0, .bool b1, .bool b2, .bool b3, .bool b4, .bool b5, .bool b6, .bool b7, .bool b8, .bool b9, .bool b10] 4)) fun e w' => e = .returned (.bool ([b0, b1, b2, b3, b4, b5, b6, b7, b8, b9, b10].all id)) ∧ (W.alloc (.cells #[.bool b0, .bool b1, .bool b2, .bool b3, .bool b4, .bool b5, .bool b6, .bool b7, .bool b8, .bool b9, .bool b10] 4)) = w' :=
  all_any [b0, b1, b2, b3, b4, b5, b6, b7, b8, b9, b10] 11 11 W.heap.size _ rfl (by omega) (fun j x h => cells_bools [b0, b1, b2, b3, b4, b5, b6, b7, b8, b9, b10] W j x h)

set_option maxRecDepth 100000 in
set_option maxHeartbeats 16000000 in
theorem msame_any (a b : Ms) (w0 : World) (hx : Ents w0.heap.size a.A a.n a.es w0) (hy : Ents w0.heap.size b.A b.n b.es w0) (hn : (a.n : Int) ≤ 9223372036854775807) (hn' : (b.n : Int) ≤ 9223372036854775807) :
    Calls Tryz.prog 27 #[mv a, mv b] w0 fun r w' => r = .returned (.bool (msameB a b)) ∧ Below w0.heap.size w0 w' := by
  obtain ⟨W, hW⟩ : ∃ W, W = (w0.alloc (Obj.cells (mc a) 44)).alloc (Obj.cells (mc b) 44) := ⟨_, rfl⟩
  have hD : Dm w0 a b W := hW ▸ Dm.start w0 a b hx hy
  obtain ⟨eb, heb⟩ : ∃ eb, eb = entsB a.n b.n a.es b.es := ⟨_, rfl⟩
  have K47 := Lib.hid (fun (W : World) (h : Dm w0 a b W) => (equal_any a.A b.A a.n a.c b.n b.c a.es b.es W h.ex h.ey hn hn').mono fun r w' ⟨h1, h2⟩ => And.intro (show r = Ending.returned (.bool eb) by rw [h1, heb]) (h.on h2).all)
  have HM : Hid ((a.kind == b.kind && (a.frm == b.frm && (a.dst == b.dst && (a.term == b.term && (a.index == b.index && (a.prev == b.prev && (a.commit == b.commit && (a.mark == b.mark && (a.ok == b.ok && (a.snap.toList == b.snap.toList && eb)))))))))) = msameB a b) := msame_all a b eb heb
  have HW := Lib.hid hW
  have hDd := hD.drew
  have r0 : W.cell? ⟨w0.heap.size, 0, none⟩ = some (.int .i64 a.kind) := hD.x.cell 0
  have r1 : W.cell? ⟨w0.heap.size, 1, none⟩ = some (.int .i64 a.frm) := hD.x.cell 1
  have r2 : W.cell? ⟨w0.heap.size, 2, none⟩ = some (.int .i64 a.dst) := hD.x.cell 2
  have r3 : W.cell? ⟨w0.heap.size, 3, none⟩ = some (.int .u64 a.term) := hD.x.cell 3
  have r4 : W.cell? ⟨w0.heap.size, 4, none⟩ = some (.int .u64 a.index) := hD.x.cell 4
  have r5 : W.cell? ⟨w0.heap.size, 5, none⟩ = some (.int .u64 a.prev) := hD.x.cell 5
  have r6 : W.cell? ⟨w0.heap.size, 6, none⟩ = some (.int .u64 a.commit) := hD.x.cell 6
  have r7 : W.cell? ⟨w0.heap.size, 7, none⟩ = some (.int .u64 a.mark) := hD.x.cell 7
  have r8 : W.cell? ⟨w0.heap.size, 8, none⟩ = some (.bool a.ok) := hD.x.cell 8
  have r9 : W.cell? ⟨w0.heap.size, 9, none⟩ = some (.slice a.A a.n a.c) := hD.x.cell 9
  have r10 : W.cell? ⟨w0.heap.size, 10, none⟩ = some (.string a.snap) := hD.x.cell 10
  have t0 : W.cell? ⟨w0.heap.size + 1, 0, none⟩ = some (.int .i64 b.kind) := hD.y.cell 0
  have t1 : W.cell? ⟨w0.heap.size + 1, 1, none⟩ = some (.int .i64 b.frm) := hD.y.cell 1
  have t2 : W.cell? ⟨w0.heap.size + 1, 2, none⟩ = some (.int .i64 b.dst) := hD.y.cell 2
  have t3 : W.cell? ⟨w0.heap.size + 1, 3, none⟩ = some (.int .u64 b.term) := hD.y.cell 3
  have t4 : W.cell? ⟨w0.heap.size + 1, 4, none⟩ = some (.int .u64 b.index) := hD.y.cell 4
  have t5 : W.cell? ⟨w0.heap.size + 1, 5, none⟩ = some (.int .u64 b.prev) := hD.y.cell 5
  have t6 : W.cell? ⟨w0.heap.size + 1, 6, none⟩ = some (.int .u64 b.commit) := hD.y.cell 6
  have t7 : W.cell? ⟨w0.heap.size + 1, 7, none⟩ = some (.int .u64 b.mark) := hD.y.cell 7
  have t8 : W.cell? ⟨w0.heap.size + 1, 8, none⟩ = some (.bool b.ok) := hD.y.cell 8
  have t9 : W.cell? ⟨w0.heap.size + 1, 9, none⟩ = some (.slice b.A b.n b.c) := hD.y.cell 9
  have t10 : W.cell? ⟨w0.heap.size + 1, 10, none⟩ = some (.string b.snap) := hD.y.cell 10
  clear hW hD hx hy heb
  go_enter Tryz.func27, Tryz.ntmps27
  go_wp2_with fail
  rw [← HW.out]
  go_region_held3 (fun w' => Dm w0 a b w' ∧ w'.cell? ⟨w0.heap.size, 0, none⟩ = some (.int .i64 a.kind) ∧ w'.cell? ⟨w0.heap.size, 1, none⟩ = some (.int .i64 a.frm) ∧ w'.cell? ⟨w0.heap.size, 2, none⟩ = some (.int .i64 a.dst) ∧ w'.cell? ⟨w0.heap.size, 3, none⟩ = some (.int .u64 a.term) ∧ w'.cell? ⟨w0.heap.size, 4, none⟩ = some (.int .u64 a.index) ∧ w'.cell? ⟨w0.heap.size, 5, none⟩ = some (.int .u64 a.prev) ∧ w'.cell? ⟨w0.heap.size, 6, none⟩ = some (.int .u64 a.commit) ∧ w'.cell? ⟨w0.heap.size, 7, none⟩ = some (.int .u64 a.mark) ∧ w'.cell? ⟨w0.heap.size, 8, none⟩ = some (.bool a.ok) ∧ w'.cell? ⟨w0.heap.size, 9, none⟩ = some (.slice a.A a.n a.c) ∧ w'.cell? ⟨w0.heap.size, 10, none⟩ = some (.string a.snap) ∧ w'.cell? ⟨w0.heap.size + 1, 0, none⟩ = some (.int .i64 b.kind) ∧ w'.cell? ⟨w0.heap.size + 1, 1, none⟩ = some (.int .i64 b.frm) ∧ w'.cell? ⟨w0.heap.size + 1, 2, none⟩ = some (.int .i64 b.dst) ∧ w'.cell? ⟨w0.heap.size + 1, 3, none⟩ = some (.int .u64 b.term) ∧ w'.cell? ⟨w0.heap.size + 1, 4, none⟩ = some (.int .u64 b.index) ∧ w'.cell? ⟨w0.heap.size + 1, 5, none⟩ = some (.int .u64 b.prev) ∧ w'.cell? ⟨w0.heap.size + 1, 6, none⟩ = some (.int .u64 b.commit) ∧ w'.cell? ⟨w0.heap.size + 1, 7, none⟩ = some (.int .u64 b.mark) ∧ w'.cell? ⟨w0.heap.size + 1, 8, none⟩ = some (.bool b.ok) ∧ w'.cell? ⟨w0.heap.size + 1, 9, none⟩ = some (.slice b.A b.n b.c) ∧ w'.cell? ⟨w0.heap.size + 1, 10, none⟩ = some (.string b.snap))
    (first | exact ⟨hDd, r0, r1, r2, r3, r4, r5, r6, r7, r8, r9, r10, t0, t1, t2, t3, t4, t5, t6, t7, t8, t9, t10⟩ | assumption | (refine ⟨?_, ?_, ?_, ?_, ?_, ?_, ?_, ?_, ?_, ?_, ?_, ?_, ?_, ?_, ?_, ?_, ?_, ?_, ?_, ?_, ?_, ?_, ?_⟩ <;> assumption) | exact (Dm.on (And.left (by assumption)) ((Below.refl _ _).alloc (Nat.le_refl _) _)).all | exact (Dm.on (by assumption) ((Below.refl _ _).alloc (Nat.le_refl _) _)).all)
    (first
      | (go_at_call 53; (with_reducible refine (K47.out _ (by assumption)).mono ?_); rintro r w5 ⟨rfl, s5, e0, e1, e2, e3, e4, e5, e6, e7, e8, e9, e10, f0, f1, f2, f3, f4, f5, f6, f7, f8, f9, f10⟩)
      | (go_at_call 49; (with_reducible refine (all11p _ _ _ _ _ _ _ _ _ _ _ _).mono ?_); rintro r w6 ⟨rfl, rfl⟩))
  all_goals
    rename_i hk
    have hbe := hk.1.be
    clear hk
    go_wp2
    go_ret
    exact ⟨ret_bool HM.out, hbe⟩
end Go.Proofs.YtmalcldpihpfpaaGreat
