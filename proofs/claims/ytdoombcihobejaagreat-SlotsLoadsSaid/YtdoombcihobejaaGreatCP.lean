/-
  The contracts of crc.Put and of the document's own.
  Conditions: texts within the lengths that each theorem names.
-/
import Derived.Test.YtdoombcihobejaaGreatCR
import Derived.Laws.BytesArg
namespace Go.Proofs.YtdoombcihobejaaGreat
open Go.RowKit
theorem four_cells (a b c d : Int) (w : World) : ∀ i, i < 4 → (w.alloc (.cells #[.int .u8 a, .int .u8 b, .int .u8 c, .int .u8 d] 5)).cell? ⟨w.heap.size, 0 + i, none⟩ = some (.int .u8 ([a, b, c, d].getD i 0))
  | 0, _ => by simp
  | 1, _ => by simp
  | 2, _ => by simp
  | 3, _ => by simp
  | k + 4, h => by omega

set_option maxHeartbeats 400000 in
theorem head_any (n : Nat) (w : World) (hn : n < 4294967296) :
    Calls Tryz.prog 91 #[.int .u32 n] w fun e w' => e = .returned (.string (Crc.head n)) ∧ Below w.heap.size w w' := by
  have hcv := run_convert_bytes_arg (P := Tryz.prog) (w.alloc (.cells #[.int .u8 ((n : Int) / 16777216), .int .u8 ((n : Int) / 65536 % 256), .int .u8 ((n : Int) / 256 % 256), .int .u8 ((n : Int) % 256)] 5)) 67 5 Tryz.underlying67 Tryz.underlying5 w.heap.size 0 4 4
    [(n : Int) / 16777216, (n : Int) / 65536 % 256, (n : Int) / 256 % 256, (n : Int) % 256] rfl (four_cells _ _ _ _ w) 9 Tryz.underlying9
  rw [Crc.head_eq] at hcv
  go_enter Tryz.func91, Tryz.ntmps91
  go_wp2
  go_ret
  exact ⟨rfl, (Below.refl _ _).alloc (Nat.le_refl _) _⟩


set_option maxHeartbeats 400000 in
theorem cput_any (s : ByteArray) (w : World) (hs : s.size ≤ 9223372036854775803) :
    Calls Tryz.prog 64 #[.string s] w fun e w' => e = .returned (.string (Crc.putB s)) ∧ Below w.heap.size w w' := by
  have hm := Crc.moreB_lt 0 s
  have hz : (Crc.head (Crc.moreB 0 s)).size + s.size ≤ 9223372036854775807 := by rw [Crc.head_size]; omega
  go_enter Tryz.func64, Tryz.ntmps64
  go_wp2_with fail
  refine (sum_any s w (by unfold maxLen; omega)).mono ?_
  rintro e w1 ⟨rfl, hb⟩
  go_wp2_with fail
  refine (head_any _ w1 hm).mono ?_
  rintro e w2 ⟨rfl, hb2⟩
  go_wp2
  go_ret
  exact ⟨rfl, hb.trans (hb2.mono hb.size)⟩

set_option maxHeartbeats 400000 in
theorem rcput_any (s : ByteArray) (w : World) (hs : s.size ≤ 9223372036854775803) :
    Calls Tryz.prog 72 #[.string s] w fun e w' => e = .returned (.string (Crc.putB s)) ∧ Below w.heap.size w w' := by
  have hm := Crc.moreB_lt 0 s
  have hcv := fun n : Nat => run_convert_bytes_arg (P := Tryz.prog) (w.alloc (.cells #[.int .u8 ((n : Int) / 16777216), .int .u8 ((n : Int) / 65536 % 256), .int .u8 ((n : Int) / 256 % 256), .int .u8 ((n : Int) % 256)] 5)) 67 5 Tryz.underlying67 Tryz.underlying5 w.heap.size 0 4 4
    [(n : Int) / 16777216, (n : Int) / 65536 % 256, (n : Int) / 256 % 256, (n : Int) % 256] rfl (four_cells _ _ _ _ w) 9 Tryz.underlying9
  simp only [Crc.head_eq] at hcv
  have hz : ∀ n : Nat, (Crc.head n).size + s.size ≤ 9223372036854775807 := fun n => by rw [Crc.head_size]; omega
  have HP : Hid (Crc.head (Crc.moreB 0 s) ++ s = Crc.putB s) := rfl
  go_enter Tryz.func72, Tryz.ntmps72
  go_wp2_with fail
  refine (rsum_any s w (by unfold maxLen; omega)).mono ?_
  rintro e w1 ⟨rfl, rfl⟩
  have hcv1 := hcv (Crc.moreB 0 s)
  have hz1 := hz (Crc.moreB 0 s)
  clear hcv hz
  generalize Crc.moreB 0 s = n at *
  go_wp2
  go_ret
  exact ⟨by rw [HP.out]; exact rfl, (Below.refl _ _).alloc (Nat.le_refl _) _⟩
end Go.Proofs.YtdoombcihobejaaGreat
