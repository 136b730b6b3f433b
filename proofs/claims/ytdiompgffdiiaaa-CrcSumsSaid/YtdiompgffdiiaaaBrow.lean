/-
  Rows of bytes in memory: a string laid as a row, a byte stored, the row as a string.
  Conditions: named in each theorem.
-/
import Derived.Test.YtdiompgffdiiaaaCalls
import Derived.Test.YtdiompgffdiiaaaBurst
import Derived.Lib.ConvBytes
namespace Go.Proofs.Ytdiompgffdiiaaa
open Go.RowKit
/-- A row of bytes of block g: place j holds x j. -/
def BRow (g n : Nat) (x : Nat → Nat) (w : World) : Prop := ∀ j, j < n → w.cell? ⟨g, j, none⟩ = some (.int .u8 (x j)) ∧ w.frozen? ⟨g, j, none⟩ = false
theorem BRow.cell {g n : Nat} {x : Nat → Nat} {w : World} (h : BRow g n x w) (j : Nat) (hj : j < n) : w.cell? ⟨g, j, none⟩ = some (.int .u8 (x j)) := (h j hj).1
theorem BRow.free {g n : Nat} {x : Nat → Nat} {w : World} (h : BRow g n x w) (j : Nat) (hj : j < n) : w.frozen? ⟨g, j, none⟩ = false := (h j hj).2
theorem BRow.drew {g n : Nat} {x : Nat → Nat} {w : World} (h : BRow g n x w) : BRow g n x w.drew := h
theorem BRow.same {g n : Nat} {x y : Nat → Nat} {w : World} (h : BRow g n x w) (hxy : ∀ j, j < n → y j = x j) : BRow g n y w := fun j hj => by rw [hxy j hj]; exact h j hj
/-- One byte is stored. -/
theorem BRow.set {g n : Nat} {x y : Nat → Nat} {w : World} (h : BRow g n x w) (k : Nat) (v : Nat) (hy : ∀ j, j < n → y j = if j = k then v else x j) : BRow g n y (w.setCell ⟨g, k, none⟩ (.int .u8 (v : Int))) := by
  intro j hj
  rw [World.frozen?_setCell, hy j hj]
  refine ⟨?_, (h j hj).2⟩
  by_cases e : j = k
  · subst e
    rw [if_pos rfl]
    exact World.cell?_setCell_same _ _ _ (h j hj).1
  · rw [if_neg e, World.cell?_setCell_other _ _ _ _ (by intro hh; cases hh; exact e rfl)]
    exact (h j hj).1
/-- Below a number beyond its block the row stays. -/
theorem BRow.below {g n B : Nat} {x : Nat → Nat} {w w' : World} (h : BRow g n x w) (hb : Below B w w') (hg : g < B) : BRow g n x w' := fun j hj => by
  rw [hb.cell hg, hb.frozen hg]; exact h j hj
/-- The bytes of a string, laid as a row. -/
theorem BRow.conv (w : World) (s : ByteArray) : BRow w.heap.size s.size (Crc.byteAt s) (Lib.bytesWorld w 5 s) := by
  intro j hj
  refine ⟨Lib.bytesWorld_cell w 5 s j hj, ?_⟩
  have h := Lib.bytesWorld_at_new w 5 s
  have hz : s.size ≤ (Lib.bytesCells w 5 s).size := by simp [Lib.bytesCells]
  simp only [World.frozen?, h]
  simp; omega
theorem below_conv (w : World) (s : ByteArray) : Below w.heap.size w (Lib.bytesWorld w 5 s) :=
  Lib.below_freeze (((Below.refl _ w).drew).alloc (Nat.le_refl _) _) (p := ⟨w.heap.size, _, none⟩) (Nat.le_refl _) _
/-- A row of bytes, as a string. -/
theorem BRow.str {g n : Nat} {x : Nat → Nat} {w : World} (h : BRow g n x w) (cap : Nat) : (convert 24 9 (.slice (some ⟨g, 0, none⟩) n cap)).run Try.prog w = .ok (.string (strOfNums (Crc.nums n x))) w :=
  run_convert_bytes_arg (P := Try.prog) w 24 5 Try.underlying24 Try.underlying5 g 0 n cap (Crc.nums n x) (Crc.nums_length n x)
    (fun i hi => by rw [Crc.nums_getD n x i hi, Nat.zero_add]; exact h.cell i hi) 9 Try.underlying9

end Go.Proofs.Ytdiompgffdiiaaa
