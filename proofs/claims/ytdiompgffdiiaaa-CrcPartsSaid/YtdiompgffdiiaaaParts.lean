/-
  The walk of the law CrcParts.
  Conditions: a text of at most 2^47 bytes.
-/
import Derived.Test.YtdiompgffdiiaaaCalls
namespace Go.Proofs.Ytdiompgffdiiaaa
open Go.RowKit
set_option maxHeartbeats 1000000 in
theorem parts_any (s : ByteArray) (at_ : Nat) (w : World) (hs : s.size ≤ 140737488351232) (ha : at_ < 65536) :
    Calls Try.prog 4 #[.string s, .int .u16 at_] w fun e w' => e = .returned (.bool true) ∧ Below w.heap.size w w' := by
  obtain ⟨k, hk0⟩ : ∃ k, k = at_ % (s.size + 1) := ⟨_, rfl⟩
  have hk : k ≤ s.size := by have := Nat.mod_lt at_ (show 0 < s.size + 1 by omega); omega
  have hk1 : (at_ : Int) % ((s.size : Int) + 1) = (k : Int) := by rw [hk0]; push_cast; rfl
  clear hk0
  have hp := Crc.putB_size s
  have hpl : (Crc.putB s).size ≤ 281474976710656 := by omega
  have hp4 : 4 ≤ (Crc.putB s).size := by omega
  have HP := Lib.hid hp; clear hp
  have HT := Lib.hid (Crc.tail4_putB s)
  have HM := Lib.hid (Crc.moreB_parts s 0 k hk)
  go_enter Try.func4, Try.ntmps4
  go_wp2_with fail
  refine (examples_any w).mono ?_
  rintro e w1 ⟨rfl, hb1⟩
  go_wp2_with fail
  refine (put_any s w1 (by omega)).mono ?_
  rintro e w2 ⟨rfl, hb2⟩
  go_wp2_with fail
  refine (get_yes _ w2 hp4 hpl (Crc.getOk_putB s)).mono ?_
  rintro e w3 ⟨rfl, hb3⟩
  rw [HT.out]
  go_wp2_with fail
  have hx1 : (s.extract 0 k).size ≤ maxLen := by unfold maxLen; rw [ByteArray.size_extract]; omega
  have hx2 : (s.extract k s.size).size ≤ maxLen := by unfold maxLen; rw [ByteArray.size_extract]; omega
  have hx3 : s.size ≤ maxLen := by unfold maxLen; omega
  have hx4 : s.size ≤ 9223372036854775803 := by omega
  have hki : (k : Int) ≤ (s.size : Int) := by omega
  have he1 : (((Crc.moreB (Crc.moreB 0 (s.extract 0 k)) (s.extract k s.size) : Nat) : Int) == ((Crc.moreB 0 s : Nat) : Int)) = true := by rw [HM.out]; exact beq_self_eq_true _
  have he2 : (((Crc.putB s).size : Int) == (s.size : Int) + 4) = true := by rw [HP.out]; exact beq_iff_eq.2 (by push_cast; rfl)
  clear hk1
  have hB : Below w.heap.size w w3.drew := (hb1.trans ((hb2.mono hb1.size).trans (hb3.mono (Nat.le_trans hb1.size hb2.size)))).drew
  clear hb1 hb2 hb3
  go_region_held3 (fun _ => True) (trivial) (first
    | (go_at_call 12; ((with_reducible refine (sum_any (s.extract 0 k) _ hx1).mono ?_); rintro e w4 ⟨rfl, hb4⟩; replace hB := hB.trans (hb4.mono hB.size); clear hb4))
    | (go_at_call 12; ((with_reducible refine (sum_any s _ hx3).mono ?_); rintro e w4 ⟨rfl, hb4⟩; replace hB := hB.trans (hb4.mono hB.size); clear hb4))
    | (go_at_call 14; ((with_reducible refine (more_any _ _ _ hx2 (Crc.moreB_lt _ _)).mono ?_); rintro e w5 ⟨rfl, hb5⟩; replace hB := hB.trans (hb5.mono hB.size); clear hb5))
    | (go_at_call 16; ((with_reducible refine (put_any s _ hx4).mono ?_); rintro e w6 ⟨rfl, hb6⟩; replace hB := hB.trans (hb6.mono hB.size); clear hb6)))
  go_wp2
  go_ret
  refine ⟨?_, hB⟩
  have hw : IntKind.i64.wrap ((s.size : Int) + 4) = (s.size : Int) + 4 := IntWalk.i64_in _ (by omega)
  first | (rw [he2]; exact rfl) | (rw [hw, he2]; exact rfl)
end Go.Proofs.Ytdiompgffdiiaaa
