/-
  Rows of bytes in memory, and the law's bend: some text as long.
  Conditions: the text has at most 2^47 bytes.
-/
import Derived.Test.YtdoombcihobejaaVGet
import Derived.Lib.ConvBytes
namespace Go.Proofs.Ytdoombcihobejaa
open Go.RowKit
set_option linter.unusedVariables false

namespace Crc
def nums (n : Nat) (x : Nat → Nat) : List Int := (List.range n).map fun j => (x j : Int)
theorem nums_length (n : Nat) (x : Nat → Nat) : (nums n x).length = n := by simp [nums]
theorem nums_getD (n : Nat) (x : Nat → Nat) (i : Nat) (h : i < n) : (nums n x).getD i 0 = (x i : Int) := by simp [nums, List.getD, h]
theorem str_length (n : Nat) (x : Nat → Nat) : (strOfNums (nums n x)).data.toList.length = n := by rw [strOfNums_data]; simp [nums]
theorem str_size (n : Nat) (x : Nat → Nat) : (strOfNums (nums n x)).size = n := by rw [strOfNums_size, nums_length]
theorem str_get (n : Nat) (x : Nat → Nat) (i : Nat) (h : i < (strOfNums (nums n x)).data.toList.length) : (strOfNums (nums n x)).data.toList[i] = UInt8.ofNat (x i) := by
  simp [strOfNums_data, nums]
def byteAt (s : ByteArray) (j : Nat) : Nat := (s.data.toList.getD j 0).toNat
theorem byteAt_lt (s : ByteArray) (j : Nat) : byteAt s j < 256 := UInt8.toNat_lt _
/-- One byte of it turned. -/
def turned (t : ByteArray) (p by_ : Nat) (j : Nat) : Nat := if j = p then byteAt t p ^^^ by_ else byteAt t j
end Crc
/-- A row of bytes of block g: place j holds x j. -/
def BRow (g n : Nat) (x : Nat → Nat) (w : World) : Prop := ∀ j, j < n → w.cell? ⟨g, j, none⟩ = some (.int .u8 (x j)) ∧ w.frozen? ⟨g, j, none⟩ = false
theorem BRow.cell {g n : Nat} {x : Nat → Nat} {w : World} (h : BRow g n x w) (j : Nat) (hj : j < n) : w.cell? ⟨g, j, none⟩ = some (.int .u8 (x j)) := (h j hj).1
theorem BRow.free {g n : Nat} {x : Nat → Nat} {w : World} (h : BRow g n x w) (j : Nat) (hj : j < n) : w.frozen? ⟨g, j, none⟩ = false := (h j hj).2
theorem BRow.drew {g n : Nat} {x : Nat → Nat} {w : World} (h : BRow g n x w) : BRow g n x w.drew := h
theorem BRow.same {g n : Nat} {x y : Nat → Nat} {w : World} (h : BRow g n x w) (hxy : ∀ j, j < n → y j = x j) : BRow g n y w := fun j hj => by rw [hxy j hj]; exact h j hj
/-- One byte is stored. -/
theorem BRow.set {g n : Nat} {x y : Nat → Nat} {w : World} (h : BRow g n x w) (k : Nat) (v : Nat) (hy : ∀ j, j < n → y j = if j = k then v else x j) : BRow g n y (w.setCell ⟨g, k, none⟩ (.int .u8 (v : Int))) := by
  intro j hj
  rw [World.frozen?_setCell, hy j hj]
  refine ⟨?_, (h j hj).2⟩
  by_cases e : j = k
  · subst e
    rw [if_pos rfl]
    exact World.cell?_setCell_same _ _ _ (h j hj).1
  · rw [if_neg e, World.cell?_setCell_other _ _ _ _ (by intro hh; cases hh; exact e rfl)]
    exact (h j hj).1
/-- Below a number beyond its block the row stays. -/
theorem BRow.below {g n B : Nat} {x : Nat → Nat} {w w' : World} (h : BRow g n x w) (hb : Below B w w') (hg : g < B) : BRow g n x w' := fun j hj => by
  rw [hb.cell hg, hb.frozen hg]; exact h j hj
/-- The bytes of a string, laid as a row. -/
theorem BRow.conv (w : World) (s : ByteArray) : BRow w.heap.size s.size (Crc.byteAt s) (Lib.bytesWorld w 5 s) := by
  intro j hj
  refine ⟨Lib.bytesWorld_cell w 5 s j hj, ?_⟩
  have h := Lib.bytesWorld_at_new w 5 s
  have hz : s.size ≤ (Lib.bytesCells w 5 s).size := by simp [Lib.bytesCells]
  simp only [World.frozen?, h]
  simp; omega
theorem below_conv (w : World) (s : ByteArray) : Below w.heap.size w (Lib.bytesWorld w 5 s) :=
  Lib.below_freeze (((Below.refl _ w).drew).alloc (Nat.le_refl _) _) (p := ⟨w.heap.size, _, none⟩) (Nat.le_refl _) _
/-- A row of bytes, as a string. -/
theorem BRow.str {g n : Nat} {x : Nat → Nat} {w : World} (h : BRow g n x w) (cap : Nat) : (convert 70 9 (.slice (some ⟨g, 0, none⟩) n cap)).run Try.prog w = .ok (.string (strOfNums (Crc.nums n x))) w :=
  run_convert_bytes_arg (P := Try.prog) w 70 5 Try.underlying70 Try.underlying5 g 0 n cap (Crc.nums n x) (Crc.nums_length n x)
    (fun i hi => by rw [Crc.nums_getD n x i hi, Nat.zero_add]; exact h.cell i hi) 9 Try.underlying9


set_option maxHeartbeats 2000000 in
set_option maxRecDepth 100000 in
theorem bend_any (s : ByteArray) (at_ : Int) (by_ : Nat) (w : World) (hm : s.size ≤ 140737488351232) (hat : -9223372036854775808 ≤ at_ ∧ at_ ≤ 9223372036854775807) (hby : by_ < 256) :
    Calls Try.prog 16 #[.string s, .int .i64 at_, .int .u8 by_] w fun e w' => ∃ t : ByteArray, e = .returned (.string t) ∧ t.size = s.size ∧ Below w.heap.size w w' := by
  by_cases h0 : s.size = 0
  · have he : s = ⟨#[]⟩ := ByteArray.ext (Array.eq_empty_of_size_eq_zero h0)
    subst he
    go_enter Try.func16, Try.ntmps16
    go_wp2
    go_ret
    exact ⟨_, rfl, rfl, Below.refl _ _⟩
  · have hne : s.toList.isEmpty = false := by
      rw [Lib.toList_data, List.isEmpty_eq_false_iff]
      intro hn
      have h2 : s.size = s.data.toList.length := by simp
      rw [hn, List.length_nil] at h2; omega
    have hn0 : 0 < s.size := by omega
    have hcv := fun (W : World) (t : ByteArray) => Lib.run_convert_string_bytes (P := Try.prog) W 9 70 5 t Try.underlying9 Try.underlying70 Try.underlying5
    obtain ⟨a, ha⟩ : ∃ a : Nat, (if at_ < 0 then -(at_ + 1) else at_) = (a : Int) := by
      split
      · exact ⟨(-(at_ + 1)).toNat, by omega⟩
      · exact ⟨at_.toNat, by omega⟩
    have ha2 : (a : Int) ≤ 9223372036854775807 := by split at ha <;> omega
    have HA := Lib.hid ha
    clear ha
    by_cases hneg : at_ < 0
    all_goals
      have ha : (if at_ < 0 then -(at_ + 1) else at_) = (a : Int) := HA.out
      first | rw [if_pos hneg] at ha | rw [if_neg hneg] at ha
      have HB := Lib.hid ha
      clear ha HA
      go_enter Try.func16, Try.ntmps16
      go_wp2
      try rw [HB.out]
      clear hcv
      have hI := BRow.conv w s
      have hB : Below w.heap.size w (Lib.bytesWorld w 5 s) := below_conv w s
      generalize Lib.bytesWorld w 5 s = w3 at *
      generalize grownCap w s.size 0 5 = cap at *
      obtain ⟨p, hp1⟩ : ∃ p : Nat, p = a % s.size := ⟨_, rfl⟩
      have hp : p < s.size := by rw [hp1]; exact Nat.mod_lt _ (by omega)
      have hp2 : (a : Int) % (s.size : Int) = (p : Int) := by rw [hp1, Int.natCast_emod]
      clear hp1
      have hc := hI.cell p hp
      have hf := hI.free p hp
      have hbx := Crc.byteAt_lt s p
      have hX := Lib.hid (u8_xor_nat (Crc.byteAt s p) by_ hbx hby)
      go_region
      rw [hX.out]
      have hI4 := (hI.set (y := Crc.turned s p by_) p _ (fun j hj => by unfold Crc.turned; rfl)).drew
      have hb1 := (hB.setCell (p := ⟨w.heap.size, p, none⟩) (Nat.le_refl _) (.int .u8 ((Crc.byteAt s p ^^^ by_ : Nat) : Int))).drew
      clear hI hc hf hB
      generalize (World.setCell w3 ⟨w.heap.size, p, none⟩ (.int .u8 ((Crc.byteAt s p ^^^ by_ : Nat) : Int))).drew = w1 at *
      have hstr := hI4.str cap
      have hbz := Crc.str_size s.size (Crc.turned s p by_)
      go_wp2
      go_ret
      exact ⟨_, rfl, hbz, hb1⟩
end Go.Proofs.Ytdoombcihobejaa
