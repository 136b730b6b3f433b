/-
  EntryTexts, walked: what its two entries keep.
  Conditions: the table of powers of ten lies as its initialiser lays it; the numbers are those of their kinds.
-/
import Derived.Test.YtclohjcenkpgoaaDoorTIff
import Derived.Test.YtclohjcenkpgoaaDoorExam
namespace Go.Proofs.YtclohjcenkpgoaaDoor
open Go.RowKit
set_option linter.unusedVariables false
/-- Both entries of the law lie where they lay. -/
structure S6 (w0 : World) (gx gy : Nat) (X Y : En) (W : World) : Prop where
  x : Bx gx X 24 W
  y : Bx gy Y 24 W
  be : Below w0.heap.size w0 W
  tb : Tab W
theorem S6.on {w0 W w1 : World} {gx gy : Nat} {X Y : En} (h : S6 w0 gx gy X Y W) (hb : Below W.heap.size W w1) : S6 w0 gx gy X Y w1 := ⟨h.x.below hb, h.y.below hb, h.be.trans (hb.mono h.be.size), h.tb.below hb⟩
theorem cell12 {w : World} {b : Nat} {e : En} {o : Bool} (h : w.heap[b]? = some (.cells (mdc e o) 26 (0, 0))) (i : Nat) : w.cell? ⟨b, i, none⟩ = (mdc e o)[i]? := cell_of_row w _ i _ 26 (0, 0) h
theorem ite_bound {p : Prop} [Decidable p] {a : Int} (h : 0 ≤ a ∧ a ≤ 9) : 0 ≤ (if p then a else 0) ∧ (if p then a else 0) ≤ 9 := by
  split
  · exact h
  · omega
/-- What the law's made gives is right, and short. -/
theorem mk_facts (e : En) (ok : e.Ok) : (mk e).Ok ∧ rightB (mk e) = true ∧ (mk e).data.size ≤ 64 ∧ (mk e).old.size ≤ 64 ∧ 0 ≤ (mk e).node ∧ (mk e).node ≤ 9 := by
  have r0 := Int.emod_nonneg e.kind (show (12:Int) ≠ 0 by omega)
  have r1 := Int.emod_lt_of_pos e.kind (show (0:Int) < 12 by omega)
  have k1 := cut64_size e.data ok.d1
  have k2 := cut64_size e.old ok.o1
  have w1 : ∀ (n m : Int), 0 < m → 0 ≤ IntKind.u64.wrap n % m ∧ IntKind.u64.wrap n % m < m := fun n m h => ⟨Int.emod_nonneg _ (by omega), Int.emod_lt_of_pos _ h⟩
  have wn := w1 e.node 7 (by omega)
  have wl := w1 e.level 2 (by omega)
  have g1 := Int.emod_nonneg e.term (show (1000:Int) ≠ 0 by omega)
  have g2 := Int.emod_lt_of_pos e.term (show (0:Int) < 1000 by omega)
  have g3 := Int.emod_nonneg e.index (show (1000:Int) ≠ 0 by omega)
  have g4 := Int.emod_lt_of_pos e.index (show (0:Int) < 1000 by omega)
  have c1 := Int.emod_nonneg e.client (show (5:Int) ≠ 0 by omega)
  have c2 := Int.emod_lt_of_pos e.client (show (0:Int) < 5 by omega)
  have q1 := Int.emod_nonneg e.seq (show (9:Int) ≠ 0 by omega)
  have q2 := Int.emod_lt_of_pos e.seq (show (0:Int) < 9 by omega)
  have b1 := Int.emod_nonneg e.block (show (9:Int) ≠ 0 by omega)
  have b2 := Int.emod_lt_of_pos e.block (show (0:Int) < 9 by omega)
  have m1 := Int.emod_nonneg e.many (show (9:Int) ≠ 0 by omega)
  have m2 := Int.emod_lt_of_pos e.many (show (0:Int) < 9 by omega)
  have hdat : (mk e).data.size ≤ 64 := by show ((if _ then cut64 e.data else ⟨#[]⟩ : ByteArray)).size ≤ 64; split; exact k1; decide
  have hold : (mk e).old.size ≤ 64 := by show ((if _ then cut64 e.old else ⟨#[]⟩ : ByteArray)).size ≤ 64; split; exact k2; decide
  have hn2 : 0 ≤ IntKind.u64.wrap e.node % 7 + 1 ∧ IntKind.u64.wrap e.node % 7 + 1 ≤ 9 := by omega
  have hl2 : 0 ≤ IntKind.u64.wrap e.level % 2 + 1 ∧ IntKind.u64.wrap e.level % 2 + 1 ≤ 9 := by omega
  have hn : 0 ≤ (mk e).node ∧ (mk e).node ≤ 9 := ite_bound hn2
  have hl : 0 ≤ (mk e).level ∧ (mk e).level ≤ 9 := ite_bound hl2
  refine ⟨?_, mk_right e ok.d1 ok.o1, hdat, hold, hn.1, hn.2⟩
  constructor
  all_goals first
    | exact Int.le_trans (by omega) hn.1
    | exact Int.le_trans hn.2 (by omega)
    | exact Int.le_trans (by omega) hl.1
    | exact Int.le_trans hl.2 (by omega)
    | exact Nat.le_trans hdat (by omega)
    | exact Nat.le_trans hold (by omega)
    | (unfold mk part; dsimp only; omega)
    | (unfold mk part; dsimp only; split <;> omega)

theorem ba_ne {a b : ByteArray} (h : a ≠ b) : (a == b) = false := by
  cases hq : a == b with
  | false => rfl
  | true => exact absurd (ba_of_beq hq) h
theorem ba_ne2 {a b : ByteArray} (h : a ≠ b) : ¬ a.toList = b.toList := fun hq => by
  have h1 := beq_toListBytes a b
  rw [hq] at h1
  exact h (ba_of_beq (by simpa using h1))
theorem s6_start {w w2 : World} {X Y : En} (hb : Below w.heap.size w w2) (ht : Tab w) : S6 w w2.heap.size (w2.heap.size + 1) X Y ((w2.alloc (Obj.cells (ec X) 24)).alloc (Obj.cells (ec Y) 24)) := by
  have h := heap_alloc_new (w2.alloc (Obj.cells (ec X) 24)) (Obj.cells (ec Y) 24)
  rw [show (w2.alloc (Obj.cells (ec X) 24)).heap.size = w2.heap.size + 1 by simp] at h
  have hb2 : Below w.heap.size w ((w2.alloc (Obj.cells (ec X) 24)).alloc (Obj.cells (ec Y) 24)) := (hb.alloc hb.size _).alloc (by have := hb.size; simp; omega) _
  exact ⟨⟨(Lib.alloc_old _ _ _ (by simp)).trans (heap_alloc_new w2 _)⟩, ⟨h⟩, hb2, ht.below hb2⟩

end Go.Proofs.YtclohjcenkpgoaaDoor
