/-
  The document's own device, its rows told one by one; the contract of its Of.
  Conditions: named in each theorem.
-/
import Derived.Test.YtdoombcihobejaaGreatRn
import Derived.IntWalk
namespace Go.Proofs.YtdoombcihobejaaGreat
open Go.RowKit Dk
set_option linter.unusedVariables false
/-- The document's own device, its rows told one by one. -/
structure RAt (w : World) (B gr : Nat) (g1 c1 g2 c2 g3 c3 n : Nat) (f1 f2 f3 : Nat → Value) (arm : Int) (dead : Bool) : Prop where
  blk : w.heap[gr]? = some (.cells #[.slice (some ⟨g1, 0, none⟩) n c1, .slice (some ⟨g2, 0, none⟩) n c2, .slice (some ⟨g3, 0, none⟩) n c3, .int .i64 arm, .bool dead] 66 (0, 0))
  r1 : w.ownsRow B 9 1 (.slice (some ⟨g1, 0, none⟩) n c1) n (rowV f1 n)
  r2 : w.ownsRow B 9 1 (.slice (some ⟨g2, 0, none⟩) n c2) n (rowV f2 n)
  r3 : w.ownsRow B 4 1 (.slice (some ⟨g3, 0, none⟩) n c3) n (rowV f3 n)
  ap : g1 ≠ g2
  hB : B ≤ gr
section
variable {w w' : World} {B gr g1 c1 g2 c2 g3 c3 n i : Nat} {f1 f2 f3 : Nat → Value} {arm : Int} {dead : Bool} {L : List Nat} {d : St}
theorem RAt.of_rf (h : Rf w B gr L d) : ∃ g1 c1 g2 c2 g3 c3, L = [gr, g1, g2, g3] ∧ RAt w B gr g1 c1 g2 c2 g3 c3 d.n (nowV d) (oldV d) (wtV d) (max d.left (-1)) d.dead := by
  obtain ⟨ho, v1, v2, v3, rfl, hA⟩ := h
  have n1 := ho.n1
  obtain ⟨g1, c1, rfl, _⟩ := hA.r1.form (by omega)
  obtain ⟨g2, c2, rfl, _⟩ := hA.r2.form (by omega)
  obtain ⟨g3, c3, rfl, _⟩ := hA.r3.form (by omega)
  exact ⟨g1, c1, g2, c2, g3, c3, rfl, hA.blk, hA.r1, hA.r2, hA.r3, fun e => hA.ap g1 rfl (by rw [e]; rfl), hA.hB⟩
theorem RAt.to_rf (h : RAt w B gr g1 c1 g2 c2 g3 c3 d.n f1 f2 f3 arm dead) (ho : d.Ok) (e1 : ∀ j, j < d.n → f1 j = nowV d j) (e2 : ∀ j, j < d.n → f2 j = oldV d j) (e3 : ∀ j, j < d.n → f3 j = wtV d j) (e4 : arm = max d.left (-1)) (e5 : dead = d.dead) : Rf w B gr [gr, g1, g2, g3] d := by
  refine ⟨ho, _, _, _, rfl, ⟨by rw [← e4, ← e5]; exact h.blk, ?_, ?_, ?_, ?_, h.hB⟩⟩
  · rw [← rowV_congr f1 _ d.n e1]; exact h.r1
  · rw [← rowV_congr f2 _ d.n e2]; exact h.r2
  · rw [← rowV_congr f3 _ d.n e3]; exact h.r3
  · intro k hk hk2
    have a : g1 = k := by simpa [Value.ownBlock] using hk
    have b : g2 = k := by simpa [Value.ownBlock] using hk2
    exact h.ap (a.trans b.symm)
theorem own_hp {e m g c : Nat} {xs : List Value} (h : w.ownsRow B e 1 (.slice (some ⟨g, 0, none⟩) m c) m xs) : ∃ cur, w.heap[g]? = some (.cells cur e (0, 0)) := own_heap h rfl
theorem ne_of_types {k k' : Nat} {cur cur' : Array Value} {t t' : Nat} (h : w.heap[k]? = some (.cells cur t (0, 0))) (h' : w.heap[k']? = some (.cells cur' t' (0, 0))) (hne : t ≠ t') : k ≠ k' := by
  rintro rfl
  have := h.symm.trans h'
  simp only [Option.some.injEq, Obj.cells.injEq] at this
  exact hne this.2.1
theorem RAt.b1 (h : RAt w B gr g1 c1 g2 c2 g3 c3 n f1 f2 f3 arm dead) : gr ≠ g1 := by obtain ⟨_, hh⟩ := own_hp h.r1; exact ne_of_types h.blk hh (by decide)
theorem RAt.b2 (h : RAt w B gr g1 c1 g2 c2 g3 c3 n f1 f2 f3 arm dead) : gr ≠ g2 := by obtain ⟨_, hh⟩ := own_hp h.r2; exact ne_of_types h.blk hh (by decide)
theorem RAt.b3 (h : RAt w B gr g1 c1 g2 c2 g3 c3 n f1 f2 f3 arm dead) : gr ≠ g3 := by obtain ⟨_, hh⟩ := own_hp h.r3; exact ne_of_types h.blk hh (by decide)
theorem RAt.b13 (h : RAt w B gr g1 c1 g2 c2 g3 c3 n f1 f2 f3 arm dead) : g1 ≠ g3 := by obtain ⟨_, hh⟩ := own_hp h.r1; obtain ⟨_, h3⟩ := own_hp h.r3; exact ne_of_types hh h3 (by decide)
theorem RAt.b23 (h : RAt w B gr g1 c1 g2 c2 g3 c3 n f1 f2 f3 arm dead) : g2 ≠ g3 := by obtain ⟨_, hh⟩ := own_hp h.r2; obtain ⟨_, h3⟩ := own_hp h.r3; exact ne_of_types hh h3 (by decide)
theorem own_other {e m g c k o : Nat} {xs : List Value} {u : Value} (h : w.ownsRow B e 1 (.slice (some ⟨g, 0, none⟩) m c) m xs) (hne : g ≠ k) : (w.setCell ⟨k, o, none⟩ u).ownsRow B e 1 (.slice (some ⟨g, 0, none⟩) m c) m xs := by
  refine row_of_heap h (fun j hj => ?_)
  have e : g = j := by simpa [Value.ownBlock] using hj
  exact heap_setCell_other w ⟨k, o, none⟩ j u (by show j ≠ k; omega)
theorem RAt.drew (h : RAt w B gr g1 c1 g2 c2 g3 c3 n f1 f2 f3 arm dead) : RAt w.drew B gr g1 c1 g2 c2 g3 c3 n f1 f2 f3 arm dead := ⟨h.blk, h.r1, h.r2, h.r3, h.ap, h.hB⟩
theorem RAt.set1 (h : RAt w B gr g1 c1 g2 c2 g3 c3 n f1 f2 f3 arm dead) (i : Nat) (f : Nat → Value) (hf : ∀ j, j < n → j ≠ i → f j = f1 j) : RAt (w.setCell ⟨g1, i, none⟩ (f i)) B gr g1 c1 g2 c2 g3 c3 n f f2 f3 arm dead :=
  ⟨(heap_setCell_other w ⟨g1, i, none⟩ gr _ h.b1).trans h.blk, by rw [← rowV_set f1 f n i hf]; exact (h.r1.stored i (f i)).1, own_other h.r2 h.ap.symm, own_other h.r3 h.b13.symm, h.ap, h.hB⟩
theorem RAt.set2 (h : RAt w B gr g1 c1 g2 c2 g3 c3 n f1 f2 f3 arm dead) (i : Nat) (f : Nat → Value) (hf : ∀ j, j < n → j ≠ i → f j = f2 j) : RAt (w.setCell ⟨g2, i, none⟩ (f i)) B gr g1 c1 g2 c2 g3 c3 n f1 f f3 arm dead :=
  ⟨(heap_setCell_other w ⟨g2, i, none⟩ gr _ h.b2).trans h.blk, own_other h.r1 h.ap, by rw [← rowV_set f2 f n i hf]; exact (h.r2.stored i (f i)).1, own_other h.r3 h.b23.symm, h.ap, h.hB⟩
theorem RAt.set3 (h : RAt w B gr g1 c1 g2 c2 g3 c3 n f1 f2 f3 arm dead) (i : Nat) (f : Nat → Value) (hf : ∀ j, j < n → j ≠ i → f j = f3 j) : RAt (w.setCell ⟨g3, i, none⟩ (f i)) B gr g1 c1 g2 c2 g3 c3 n f1 f2 f arm dead :=
  ⟨(heap_setCell_other w ⟨g3, i, none⟩ gr _ h.b3).trans h.blk, own_other h.r1 h.b13, own_other h.r2 h.b23, by rw [← rowV_set f3 f n i hf]; exact (h.r3.stored i (f i)).1, h.ap, h.hB⟩
theorem RAt.setArm (h : RAt w B gr g1 c1 g2 c2 g3 c3 n f1 f2 f3 arm dead) (x : Int) : RAt (w.setCell ⟨gr, 3, none⟩ (.int .i64 x)) B gr g1 c1 g2 c2 g3 c3 n f1 f2 f3 x dead :=
  ⟨heap_setCell_same w gr 3 _ 66 _ h.blk, own_other h.r1 h.b1.symm, own_other h.r2 h.b2.symm, own_other h.r3 h.b3.symm, h.ap, h.hB⟩
theorem RAt.setDead (h : RAt w B gr g1 c1 g2 c2 g3 c3 n f1 f2 f3 arm dead) (x : Bool) : RAt (w.setCell ⟨gr, 4, none⟩ (.bool x)) B gr g1 c1 g2 c2 g3 c3 n f1 f2 f3 arm x :=
  ⟨heap_setCell_same w gr 4 _ 66 _ h.blk, own_other h.r1 h.b1.symm, own_other h.r2 h.b2.symm, own_other h.r3 h.b3.symm, h.ap, h.hB⟩
theorem RAt.c (h : RAt w B gr g1 c1 g2 c2 g3 c3 n f1 f2 f3 arm dead) (o : Nat) : w.cell? ⟨gr, o, none⟩ = (#[.slice (some ⟨g1, 0, none⟩) n c1, .slice (some ⟨g2, 0, none⟩) n c2, .slice (some ⟨g3, 0, none⟩) n c3, .int .i64 arm, .bool dead] : Array Value)[o]? := cell_of_row w gr o _ 66 (0, 0) h.blk
theorem RAt.fz (h : RAt w B gr g1 c1 g2 c2 g3 c3 n f1 f2 f3 arm dead) (o : Nat) : w.frozen? ⟨gr, o, none⟩ = false := frozen_of_row w gr o _ 66 h.blk
theorem row_cell {e g c : Nat} {f : Nat → Value} (h : w.ownsRow B e 1 (.slice (some ⟨g, 0, none⟩) n c) n (rowV f n)) (i : Nat) (hi : i < n) : w.cell? ⟨g, i, none⟩ = some (f i) := by
  rw [h.cellAt i (by omega), rowV_get f n i hi]
theorem RAt.grown1 (h : RAt w B gr g1 c1 g2 c2 g3 c3 n f1 f2 f3 arm dead) : ∀ k ∈ [gr, g1, g2, g3], B ≤ k ∧ k < w.heap.size := by
  intro k hk
  simp at hk
  rcases hk with rfl | rfl | rfl | rfl
  · exact ⟨h.hB, lt_of_heap h.blk⟩
  · exact h.r1.lt _ rfl
  · exact h.r2.lt _ rfl
  · exact h.r3.lt _ rfl
theorem RAt.below' (h : RAt w B gr g1 c1 g2 c2 g3 c3 n f1 f2 f3 arm dead) (hb : Below w.heap.size w w') : RAt w' B gr g1 c1 g2 c2 g3 c3 n f1 f2 f3 arm dead := by
  have hg := h.grown1
  exact ⟨(hb.block gr (hg gr (by simp)).2).trans h.blk, row_of_heap h.r1 (fun k hk => hb.block k (h.r1.lt k hk).2), row_of_heap h.r2 (fun k hk => hb.block k (h.r2.lt k hk).2), row_of_heap h.r3 (fun k hk => hb.block k (h.r3.lt k hk).2), h.ap, h.hB⟩
end
theorem own_fz {w : World} {B e m g c : Nat} {xs : List Value} (h : w.ownsRow B e 1 (.slice (some ⟨g, 0, none⟩) m c) m xs) (i : Nat) : w.frozen? ⟨g, i, none⟩ = false := by
  obtain ⟨cur, hh⟩ := own_hp h
  exact frozen_of_row w g i cur e hh
end Go.Proofs.YtdoombcihobejaaGreat
