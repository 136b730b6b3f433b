/-
  The contracts of crc.Put and of the document's own.
  Conditions: texts within the lengths that each theorem names.
-/
import Derived.Test.YtdoombcihobejaaCR
import Derived.Laws.BytesArg
namespace Go.Proofs.Ytdoombcihobejaa
open Go.RowKit
theorem four_cells (a b c d : Int) (w : World) : ∀ i, i < 4 → (w.alloc (.cells #[.int .u8 a, .int .u8 b, .int .u8 c, .int .u8 d] 5)).cell? ⟨w.heap.size, 0 + i, none⟩ = some (.int .u8 ([a, b, c, d].getD i 0))
  | 0, _ => by simp
  | 1, _ => by simp
  | 2, _ => by simp
  | 3, _ => by simp
  | k + 4, h => by omega

set_option maxHeartbeats 400000 in
theorem head_any (n : Nat) (w : World) (hn : n < 4294967296) :
    Calls Try.prog 80 #[.int .u32 n] w fun e w' => e = .returned (.string (Crc.head n)) ∧ Below w.heap.size w w' := by
  have hcv := run_convert_bytes_arg (P := Try.prog) (w.alloc (.cells #[.int .u8 ((n : Int) / 16777216), .int .u8 ((n : Int) / 65536 % 256), .int .u8 ((n : Int) / 256 % 256), .int .u8 ((n : Int) % 256)] 5)) 70 5 Try.underlying70 Try.underlying5 w.heap.size 0 4 4
    [(n : Int) / 16777216, (n : Int) / 65536 % 256, (n : Int) / 256 % 256, (n : Int) % 256] rfl (four_cells _ _ _ _ w) 9 Try.underlying9
  rw [Crc.head_eq] at hcv
  go_enter Try.func80, Try.ntmps80
  go_wp2
  go_ret
  exact ⟨rfl, (Below.refl _ _).alloc (Nat.le_refl _) _⟩


set_option maxHeartbeats 400000 in
theorem cput_any (s : ByteArray) (w : World) (hs : s.size ≤ 9223372036854775803) :
    Calls Try.prog 71 #[.string s] w fun e w' => e = .returned (.string (Crc.putB s)) ∧ Below w.heap.size w w' := by
  have hm := Crc.moreB_lt 0 s
  have hz : (Crc.head (Crc.moreB 0 s)).size + s.size ≤ 9223372036854775807 := by rw [Crc.head_size]; omega
  go_enter Try.func71, Try.ntmps71
  go_wp2_with fail
  refine (sum_any s w (by unfold maxLen; omega)).mono ?_
  rintro e w1 ⟨rfl, hb⟩
  go_wp2_with fail
  refine (head_any _ w1 hm).mono ?_
  rintro e w2 ⟨rfl, hb2⟩
  go_wp2
  go_ret
  exact ⟨rfl, hb.trans (hb2.mono hb.size)⟩

end Go.Proofs.Ytdoombcihobejaa
