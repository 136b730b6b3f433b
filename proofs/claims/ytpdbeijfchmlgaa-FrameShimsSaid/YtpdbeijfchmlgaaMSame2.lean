/-
  Are two messages the same: the package's way and the document's, whole.
  Conditions: named in each theorem.
-/
import Derived.Test.YtpdbeijfchmlgaaMSame
import Derived.BigQuiet
namespace Go.Proofs.Ytpdbeijfchmlgaa
open Go.RowKit
set_option linter.unusedVariables false

/-- All fields but the entries, in the package's order. -/
def scalB (a b : Ms) : List Bool := [a.kind == b.kind, a.frm == b.frm, a.dst == b.dst, a.term == b.term, a.index == b.index, a.prev == b.prev, a.commit == b.commit, a.mark == b.mark, a.ok == b.ok, a.snap.toList == b.snap.toList]
def msameB (a b : Ms) : Bool := (scalB a b).all id && entsB a.n b.n a.es b.es
theorem msame_all (a b : Ms) (x : Bool) (h : x = entsB a.n b.n a.es b.es) : (a.kind == b.kind && (a.frm == b.frm && (a.dst == b.dst && (a.term == b.term && (a.index == b.index && (a.prev == b.prev && (a.commit == b.commit && (a.mark == b.mark && (a.ok == b.ok && (a.snap.toList == b.snap.toList && x)))))))))) = msameB a b := by
  unfold msameB scalB
  rw [h]
  simp only [List.all_cons, List.all_nil, id, Bool.and_true, Bool.and_assoc]
/-- Both messages lie where they lay. -/
structure Dm (w0 : World) (a b : Ms) (w : World) : Prop where
  x : By w0.heap.size a 35 w
  y : By (w0.heap.size + 1) b 35 w
  ex : Ents w.heap.size a.A a.n a.es w
  ey : Ents w.heap.size b.A b.n b.es w
  be : Below w0.heap.size w0 w
section
variable {w0 : World} {a b : Ms} {W w1 : World}
theorem Dm.on (h : Dm w0 a b W) (hb : Below W.heap.size W w1) : Dm w0 a b w1 := ⟨h.x.below hb, h.y.below hb, (h.ex.below hb).mr hb.size, (h.ey.below hb).mr hb.size, h.be.trans (hb.mono h.be.size)⟩
theorem Dm.drew (h : Dm w0 a b W) : Dm w0 a b W.drew := ⟨⟨h.x.bx⟩, ⟨h.y.bx⟩, h.ex.below (Below.refl _ W).drew, h.ey.below (Below.refl _ W).drew, h.be.drew⟩
theorem Dm.all (h : Dm w0 a b W) : Dm w0 a b W ∧ W.cell? ⟨w0.heap.size, 0, none⟩ = some (.int .i64 a.kind) ∧ W.cell? ⟨w0.heap.size, 1, none⟩ = some (.int .i64 a.frm) ∧ W.cell? ⟨w0.heap.size, 2, none⟩ = some (.int .i64 a.dst) ∧ W.cell? ⟨w0.heap.size, 3, none⟩ = some (.int .u64 a.term) ∧ W.cell? ⟨w0.heap.size, 4, none⟩ = some (.int .u64 a.index) ∧ W.cell? ⟨w0.heap.size, 5, none⟩ = some (.int .u64 a.prev) ∧ W.cell? ⟨w0.heap.size, 6, none⟩ = some (.int .u64 a.commit) ∧ W.cell? ⟨w0.heap.size, 7, none⟩ = some (.int .u64 a.mark) ∧ W.cell? ⟨w0.heap.size, 8, none⟩ = some (.bool a.ok) ∧ W.cell? ⟨w0.heap.size, 9, none⟩ = some (.slice a.A a.n a.c) ∧ W.cell? ⟨w0.heap.size, 10, none⟩ = some (.string a.snap) ∧ W.cell? ⟨w0.heap.size + 1, 0, none⟩ = some (.int .i64 b.kind) ∧ W.cell? ⟨w0.heap.size + 1, 1, none⟩ = some (.int .i64 b.frm) ∧ W.cell? ⟨w0.heap.size + 1, 2, none⟩ = some (.int .i64 b.dst) ∧ W.cell? ⟨w0.heap.size + 1, 3, none⟩ = some (.int .u64 b.term) ∧ W.cell? ⟨w0.heap.size + 1, 4, none⟩ = some (.int .u64 b.index) ∧ W.cell? ⟨w0.heap.size + 1, 5, none⟩ = some (.int .u64 b.prev) ∧ W.cell? ⟨w0.heap.size + 1, 6, none⟩ = some (.int .u64 b.commit) ∧ W.cell? ⟨w0.heap.size + 1, 7, none⟩ = some (.int .u64 b.mark) ∧ W.cell? ⟨w0.heap.size + 1, 8, none⟩ = some (.bool b.ok) ∧ W.cell? ⟨w0.heap.size + 1, 9, none⟩ = some (.slice b.A b.n b.c) ∧ W.cell? ⟨w0.heap.size + 1, 10, none⟩ = some (.string b.snap) := ⟨h, h.x.cell 0, h.x.cell 1, h.x.cell 2, h.x.cell 3, h.x.cell 4, h.x.cell 5, h.x.cell 6, h.x.cell 7, h.x.cell 8, h.x.cell 9, h.x.cell 10, h.y.cell 0, h.y.cell 1, h.y.cell 2, h.y.cell 3, h.y.cell 4, h.y.cell 5, h.y.cell 6, h.y.cell 7, h.y.cell 8, h.y.cell 9, h.y.cell 10⟩
theorem Dm.start (w : World) (a b : Ms) (hx : Ents w.heap.size a.A a.n a.es w) (hy : Ents w.heap.size b.A b.n b.es w) : Dm w a b ((w.alloc (Obj.cells (mc a) 35)).alloc (Obj.cells (mc b) 35)) := by
  have hb : Below w.heap.size w ((w.alloc (Obj.cells (mc a) 35)).alloc (Obj.cells (mc b) 35)) := ((Below.refl _ _).alloc (Nat.le_refl _) _).alloc (by simp) _
  have h := heap_alloc_new (w.alloc (Obj.cells (mc a) 35)) (Obj.cells (mc b) 35)
  rw [show (w.alloc (Obj.cells (mc a) 35)).heap.size = w.heap.size + 1 by simp] at h
  exact ⟨⟨(Lib.alloc_old _ _ _ (by simp)).trans (heap_alloc_new w _)⟩, ⟨h⟩, (hx.below hb).mr hb.size, (hy.below hb).mr hb.size, hb⟩
end
theorem all11p (b0 b1 b2 b3 b4 b5 b6 b7 b8 b9 b10 : Bool) (W : World) :
    Calls Try.prog 56 #[.slice (some ⟨W.heap.size, 0, none⟩) 11 11] (W.alloc (.cells #[.bool b0, .bool b1, .bool b2, .bool b3, .bool b4, .bool b5, .bool b6, .bool b7, .bool b8, .bool b9, .bool b10] 4)) fun e w' => e = .returned (.bool ([b0, b1, b2, b3, b4, b5, b6, b7, b8, b9, b10].all id)) ∧ (W.alloc (.cells #[.bool b0, .bool b1, .bool b2, .bool b3, .bool b4, .bool b5, .bool b6, .bool b7, .bool b8, .bool b9, .bool b10] 4)) = w' :=
  all_any [b0, b1, b2, b3, b4, b5, b6, b7, b8, b9, b10] 11 11 W.heap.size _ rfl (by omega) (fun j x h => cells_bools [b0, b1, b2, b3, b4, b5, b6, b7, b8, b9, b10] W j x h)

end Go.Proofs.Ytpdbeijfchmlgaa
