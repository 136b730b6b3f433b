/-
  The contracts of package crc's functions, each over whatever memory: what it returns; nothing that was there has turned.
  Conditions: texts within the lengths that each theorem names.
-/
import Derived.Test.YtdoombcihobejaaGreatRows
import Derived.Test.YtdoombcihobejaaGreatCM
import Derived.WalkKit
import Derived.WalkSpells
import Derived.WalkLawsBesides
import Derived.Lib.Hide
import Derived.Deep.RegionHeld3
import Derived.Lib.BufferWrite
import Derived.Lib.UnsafeStr
namespace Go.Proofs.YtdoombcihobejaaGreat
open Go.RowKit

set_option maxHeartbeats 400000 in
theorem take_any (a : Addr) (r b : Nat) (w : World) (hr : r < 4294967296) (hb : b < 256) (hc : w.cell? a = some (.int .u32 r)) (hf : w.frozen? a = false) :
    Calls Tryz.prog 109 #[.pointer (some a), .int .u8 b] w fun e w' => e = .returned (.tuple #[]) ∧ w' = w.setCell a (.int .u32 (Crc.byteStep r b)) := by
  go_enter Tryz.func109, Tryz.ntmps109
  go_wp2
  go_loop [4, 10] (fun n i => ∃ k : Nat, k ≤ 8 ∧ i = .int .i64 k ∧ n = .int .u32 (Crc.stepN r b k)) (fun _ i => 8 - (intOf i).toNat)
  case atStart => exact ⟨0, by omega, rfl, rfl⟩
  case round =>
    obtain ⟨k, hk, rfl, rfl⟩ := hrel
    by_cases hlt : k < 8
    · have HE := Lib.hid (Crc.round_eq (Crc.stepN r b k) b k (Crc.stepN_lt r b hr k) hb)
      go_wp2
      go_round
      case rel => exact ⟨k + 1, by omega, by go_num, by rw [HE.out]; rfl⟩
      case measure => simp [intOf]; omega
    · have h8 : k = 8 := by omega
      subst h8
      go_wp2
      go_end0
      exact ⟨rfl, rfl⟩

set_option maxHeartbeats 400000 in
theorem more_any (sum : Nat) (s : ByteArray) (w : World) (hs : s.size ≤ maxLen) (hsum : sum < 4294967296) :
    Calls Tryz.prog 103 #[.int .u32 sum, .string s] w fun e w' => e = .returned (.int .u32 (Crc.moreB sum s)) ∧ Below w.heap.size w w' := by
  unfold maxLen at hs
  go_enter Tryz.func103, Tryz.ntmps103
  go_wp2
  have H0 := Lib.hid (Crc.comp_eq sum hsum)
  go_loopw [13] (fun i wr => ∃ k : Nat, k ≤ s.size ∧ i = .int .i64 k ∧ wr.cell? ⟨w.heap.size, 0, none⟩ = some (.int .u32 (Crc.raw (Crc.comp sum) (s.data.toList.take k))) ∧ wr.frozen? ⟨w.heap.size, 0, none⟩ = false ∧ Below w.heap.size w wr)
    (fun i _ => s.size - (intOf i).toNat)
  case atStart =>
    refine ⟨0, by omega, rfl, ?_, ?_, (Below.refl _ _).alloc (Nat.le_refl _) _⟩
    · rw [H0.out]; simp [Crc.raw]
    · simp
  case round =>
    obtain ⟨k, hk, rfl, hcell, hfz, hbel⟩ := hrel
    by_cases hlt : k < s.size
    · have hraw := Crc.raw_lt (s.data.toList.take k) _ (Crc.comp_lt sum)
      have hbyte : s[k].toNat < 256 := s[k].toNat_lt
      have HR := Lib.hid (Crc.raw_take_succ (Crc.comp sum) s k hlt)
      go_wp2_with fail
      refine (take_any _ _ _ _ hraw hbyte hcell hfz).mono ?_
      rintro e w1 ⟨rfl, rfl⟩
      have HC := Lib.hid hcell
      have HF := Lib.hid hfz
      clear hcell hfz
      go_wp2
      go_roundw
      case rel =>
        refine ⟨k + 1, by omega, by go_num, ?_, ?_, hbel.setCell (Nat.le_refl _) _⟩
        · rw [HR.out]; exact World.cell?_setCell_same _ _ _ HC.out
        · rw [World.frozen?_setCell]; exact HF.out
      case measure => simp [intOf]; omega
    · have hk' : k = s.size := by omega
      subst hk'
      have hraw := Crc.raw_lt (s.data.toList.take s.size) _ (Crc.comp_lt sum)
      have H1 := Lib.hid (Crc.comp_eq _ hraw)
      have H2 : Hid (s.data.toList.take s.size = s.data.toList) := by rw [List.take_of_length_le (by simp)]; exact rfl
      go_wp2
      go_ret
      refine ⟨?_, hbel⟩
      rw [H1.out, H2.out]
      rfl

set_option maxHeartbeats 400000 in
theorem sum_any (s : ByteArray) (w : World) (hs : s.size ≤ maxLen) :
    Calls Tryz.prog 92 #[.string s] w fun e w' => e = .returned (.int .u32 (Crc.moreB 0 s)) ∧ Below w.heap.size w w' := by
  go_enter Tryz.func92, Tryz.ntmps92
  go_wp2_with fail
  refine (more_any 0 s w hs (by omega)).mono ?_
  rintro e w1 ⟨rfl, hb⟩
  go_wp2
  go_ret
  exact ⟨rfl, hb⟩

end Go.Proofs.YtdoombcihobejaaGreat
