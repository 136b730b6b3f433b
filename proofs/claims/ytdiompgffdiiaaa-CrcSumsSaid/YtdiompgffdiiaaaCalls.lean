/-
  The contracts of package crc's functions, each over whatever memory: what it returns; nothing that was there has turned.
  Conditions: texts within the lengths that each theorem names.
-/
import Derived.Test.YtdiompgffdiiaaaRows
import Derived.Test.YtdiompgffdiiaaaMath
import Derived.WalkKit
import Derived.WalkSpells
import Derived.WalkLawsBesides
import Derived.Lib.Hide
import Derived.Deep.RegionHeld3
import Derived.Lib.BufferWrite
import Derived.Lib.UnsafeStr
namespace Go.Proofs.Ytdiompgffdiiaaa
open Go.RowKit

set_option maxHeartbeats 400000 in
theorem take_any (a : Addr) (r b : Nat) (w : World) (hr : r < 4294967296) (hb : b < 256) (hc : w.cell? a = some (.int .u32 r)) (hf : w.frozen? a = false) :
    Calls Try.prog 19 #[.pointer (some a), .int .u8 b] w fun e w' => e = .returned (.tuple #[]) ∧ w' = w.setCell a (.int .u32 (Crc.byteStep r b)) := by
  go_enter Try.func19, Try.ntmps19
  go_wp2
  go_loop [4, 10] (fun n i => ∃ k : Nat, k ≤ 8 ∧ i = .int .i64 k ∧ n = .int .u32 (Crc.stepN r b k)) (fun _ i => 8 - (intOf i).toNat)
  case atStart => exact ⟨0, by omega, rfl, rfl⟩
  case round =>
    obtain ⟨k, hk, rfl, rfl⟩ := hrel
    by_cases hlt : k < 8
    · have HE := Lib.hid (Crc.round_eq (Crc.stepN r b k) b k (Crc.stepN_lt r b hr k) hb)
      go_wp2
      go_round
      case rel => exact ⟨k + 1, by omega, by go_num, by rw [HE.out]; rfl⟩
      case measure => simp [intOf]; omega
    · have h8 : k = 8 := by omega
      subst h8
      go_wp2
      go_end0
      exact ⟨rfl, rfl⟩

set_option maxHeartbeats 400000 in
theorem more_any (sum : Nat) (s : ByteArray) (w : World) (hs : s.size ≤ maxLen) (hsum : sum < 4294967296) :
    Calls Try.prog 14 #[.int .u32 sum, .string s] w fun e w' => e = .returned (.int .u32 (Crc.moreB sum s)) ∧ Below w.heap.size w w' := by
  unfold maxLen at hs
  go_enter Try.func14, Try.ntmps14
  go_wp2
  have H0 := Lib.hid (Crc.comp_eq sum hsum)
  go_loopw [13] (fun i wr => ∃ k : Nat, k ≤ s.size ∧ i = .int .i64 k ∧ wr.cell? ⟨w.heap.size, 0, none⟩ = some (.int .u32 (Crc.raw (Crc.comp sum) (s.data.toList.take k))) ∧ wr.frozen? ⟨w.heap.size, 0, none⟩ = false ∧ Below w.heap.size w wr)
    (fun i _ => s.size - (intOf i).toNat)
  case atStart =>
    refine ⟨0, by omega, rfl, ?_, ?_, (Below.refl _ _).alloc (Nat.le_refl _) _⟩
    · rw [H0.out]; simp [Crc.raw]
    · simp
  case round =>
    obtain ⟨k, hk, rfl, hcell, hfz, hbel⟩ := hrel
    by_cases hlt : k < s.size
    · have hraw := Crc.raw_lt (s.data.toList.take k) _ (Crc.comp_lt sum)
      have hbyte : s[k].toNat < 256 := s[k].toNat_lt
      have HR := Lib.hid (Crc.raw_take_succ (Crc.comp sum) s k hlt)
      go_wp2_with fail
      refine (take_any _ _ _ _ hraw hbyte hcell hfz).mono ?_
      rintro e w1 ⟨rfl, rfl⟩
      have HC := Lib.hid hcell
      have HF := Lib.hid hfz
      clear hcell hfz
      go_wp2
      go_roundw
      case rel =>
        refine ⟨k + 1, by omega, by go_num, ?_, ?_, hbel.setCell (Nat.le_refl _) _⟩
        · rw [HR.out]; exact World.cell?_setCell_same _ _ _ HC.out
        · rw [World.frozen?_setCell]; exact HF.out
      case measure => simp [intOf]; omega
    · have hk' : k = s.size := by omega
      subst hk'
      have hraw := Crc.raw_lt (s.data.toList.take s.size) _ (Crc.comp_lt sum)
      have H1 := Lib.hid (Crc.comp_eq _ hraw)
      have H2 : Hid (s.data.toList.take s.size = s.data.toList) := by rw [List.take_of_length_le (by simp)]; exact rfl
      go_wp2
      go_ret
      refine ⟨?_, hbel⟩
      rw [H1.out, H2.out]
      rfl

set_option maxHeartbeats 400000 in
theorem sum_any (s : ByteArray) (w : World) (hs : s.size ≤ maxLen) :
    Calls Try.prog 12 #[.string s] w fun e w' => e = .returned (.int .u32 (Crc.moreB 0 s)) ∧ Below w.heap.size w w' := by
  go_enter Try.func12, Try.ntmps12
  go_wp2_with fail
  refine (more_any 0 s w hs (by omega)).mono ?_
  rintro e w1 ⟨rfl, hb⟩
  go_wp2
  go_ret
  exact ⟨rfl, hb⟩

theorem four_cells (a b c d : Int) (w : World) : ∀ i, i < 4 → (w.alloc (.cells #[.int .u8 a, .int .u8 b, .int .u8 c, .int .u8 d] 5)).cell? ⟨w.heap.size, 0 + i, none⟩ = some (.int .u8 ([a, b, c, d].getD i 0))
  | 0, _ => by simp
  | 1, _ => by simp
  | 2, _ => by simp
  | 3, _ => by simp
  | k + 4, h => by omega

set_option maxHeartbeats 400000 in
theorem head_any (n : Nat) (w : World) (hn : n < 4294967296) :
    Calls Try.prog 17 #[.int .u32 n] w fun e w' => e = .returned (.string (Crc.head n)) ∧ Below w.heap.size w w' := by
  have hcv := run_convert_bytes_arg (P := Try.prog) (w.alloc (.cells #[.int .u8 ((n : Int) / 16777216), .int .u8 ((n : Int) / 65536 % 256), .int .u8 ((n : Int) / 256 % 256), .int .u8 ((n : Int) % 256)] 5)) 24 5 Try.underlying24 Try.underlying5 w.heap.size 0 4 4
    [(n : Int) / 16777216, (n : Int) / 65536 % 256, (n : Int) / 256 % 256, (n : Int) % 256] rfl (four_cells _ _ _ _ w) 9 Try.underlying9
  rw [Crc.head_eq] at hcv
  go_enter Try.func17, Try.ntmps17
  go_wp2
  go_ret
  exact ⟨rfl, (Below.refl _ _).alloc (Nat.le_refl _) _⟩

theorem ex1 : Crc.more 0 [49, 50, 51, 52, 53, 54, 55, 56, 57] = 3808858755 := by decide +kernel
theorem ex2 : Crc.more 0 [] = 0 := by decide +kernel

set_option maxHeartbeats 400000 in
theorem examples_any (w : World) :
    Calls Try.prog 8 #[] w fun e w' => e = .returned (.bool true) ∧ Below w.heap.size w w' := by
  have E1 : Hid (Crc.moreB 0 (ByteArray.mk #[49, 50, 51, 52, 53, 54, 55, 56, 57]) = 3808858755) := ex1
  have E2 : Hid (Crc.moreB 0 (ByteArray.mk #[]) = 0) := ex2
  go_enter Try.func8, Try.ntmps8
  go_wp2_with fail
  refine (sum_any _ w (by unfold maxLen; decide)).mono ?_
  rintro e w1 ⟨rfl, hb⟩
  rw [E1.out]
  go_wp2_with fail
  refine (sum_any _ w1 (by unfold maxLen; decide)).mono ?_
  rintro e w2 ⟨rfl, hb2⟩
  rw [E2.out]
  go_wp2
  go_ret
  exact ⟨rfl, hb.trans (hb2.mono hb.size)⟩

set_option maxHeartbeats 400000 in
theorem put_any (s : ByteArray) (w : World) (hs : s.size ≤ 9223372036854775803) :
    Calls Try.prog 16 #[.string s] w fun e w' => e = .returned (.string (Crc.putB s)) ∧ Below w.heap.size w w' := by
  have hm := Crc.moreB_lt 0 s
  have hz : (Crc.head (Crc.moreB 0 s)).size + s.size ≤ 9223372036854775807 := by rw [Crc.head_size]; omega
  go_enter Try.func16, Try.ntmps16
  go_wp2_with fail
  refine (sum_any s w (by unfold maxLen; omega)).mono ?_
  rintro e w1 ⟨rfl, hb⟩
  go_wp2_with fail
  refine (head_any _ w1 hm).mono ?_
  rintro e w2 ⟨rfl, hb2⟩
  go_wp2
  go_ret
  exact ⟨rfl, hb.trans (hb2.mono hb.size)⟩

theorem Try.info5 : (Try.prog.info? 5).map (fun i => (i.zero, i.size, i.bytes)) = some (some (.int .u8 0), 1, 1) := by kernel_rfl

set_option maxHeartbeats 1000000 in
theorem clone20 (s : ByteArray) (w : World) (hs : s.size ≤ 281474976710656) :
    Calls Try.prog 20 #[.string s] w fun e w' => e = .returned (.string s) ∧ Below w.heap.size w w' := by
  by_cases h0 : s.size = 0
  · have he : s = ⟨#[]⟩ := ByteArray.ext (Array.eq_empty_of_size_eq_zero h0)
    subst he
    go_enter Try.func20, Try.ntmps20
    go_wp2
    go_ret
    exact ⟨rfl, Below.refl _ _⟩
  · obtain ⟨i0, hi, hz0, hz1, hz2⟩ := info_parts Try.info5
    have hinfo : (Try.prog.info? 5).map (·.size) = some 1 := by rw [hi]; simp [hz1]
    have hco : Try.prog.cellsOf 5 = 1 := by simp [Program.cellsOf, hi, hz1]
    -- what 'make' lays, under a name
    have hmk0 := run_make (P := Try.prog) w 24 5 i0 (.int .u8 0) Try.underlying24 hi hz0 .i64 .i64 (s.size : Int) (s.size : Int) (by omega) (by omega) (by rw [hz2]; omega) (by omega)
    obtain ⟨M, hM⟩ : ∃ M, M = madeCells (Value.int .u8 0).cells (((s.size : Nat) : Int).toNat * i0.size) := ⟨_, rfl⟩
    have hMs : M.size = s.size := by rw [hM, size_madeCells, hz1]; simp
    rw [← hM, Int.toNat_natCast] at hmk0
    clear hM
    -- the copy of s over it
    have hcp := Lib.run_copy_row_string (P := Try.prog) (w.alloc (.cells M 5)) 24 9 3 5 w.heap.size 0 s.size s.size s M 5 Try.underlying24 hinfo (heap_alloc_new w _) (Nat.le_refl _) (by omega)
    have hY0 : (M.toList.take 0 ++ Lib.byteCells s.data.toList ++ M.toList.drop (0 + s.size)) = Lib.byteCells s.data.toList := by
      rw [List.take_zero, List.nil_append, List.drop_of_length_le (by rw [Array.length_toList]; omega), List.append_nil]
    rw [hY0] at hcp
    obtain ⟨Y, hY⟩ : ∃ Y, Y = (Lib.byteCells s.data.toList).toArray := ⟨_, rfl⟩
    rw [← hY] at hcp
    have hYl : Y.toList = Lib.byteCells s.data.toList := by rw [hY]
    have hYs : Y.size = s.size := by rw [← Array.length_toList, hYl, Lib.byteCells_length, ← Lib.size_eq]
    have hgY : ((w.alloc (.cells M 5)).setRow w.heap.size Y).heap[w.heap.size]? = some (.cells Y 5 (0, 0)) := setRow_heap _ _ M _ 5 (0, 0) (heap_alloc_new w _)
    -- the string over the row
    have hne : s.data.toList ≠ [] := fun e => h0 (by rw [Lib.size_eq, e]; rfl)
    have hUS := Lib.run_unsafeString_row (P := Try.prog) ((w.alloc (.cells M 5)).setRow w.heap.size Y) 41 3 9 5 Try.underlying41 hco w.heap.size Y.size (by unfold World.shape?; rw [hgY]) s.data.toList hne (by rw [← Lib.size_eq]; omega) (by rw [← Lib.size_eq]; omega)
      (fun j x hx => Lib.cells_of_row hgY Y.size j _ (by rw [List.take_of_length_le (by rw [Array.length_toList]; exact Nat.le_refl _), hYl]; simp [Lib.byteCells, hx]))
    rw [← Lib.size_eq] at hUS
    clear hY hY0
    go_enter Try.func20, Try.ntmps20
    go_wp2
    go_ret
    have hb1 : Below w.heap.size w (w.alloc (.cells M 5)) := (Below.refl _ w).alloc (Nat.le_refl _) _
    have hb2 : Below w.heap.size (w.alloc (.cells M 5)) ((w.alloc (.cells M 5)).setRow w.heap.size Y) := ⟨rfl, rfl, rfl, by simp, fun k hk => setRow_other _ _ _ _ (by omega)⟩
    exact ⟨rfl, Lib.below_freeze (hb1.trans hb2) (p := ⟨w.heap.size, 0, none⟩) (Nat.le_refl _) _⟩

set_option maxHeartbeats 400000 in
theorem clone_any (s : ByteArray) (w : World) (hs : s.size ≤ 281474976710656) :
    Calls Try.prog 18 #[.string s] w fun e w' => e = .returned (.string s) ∧ Below w.heap.size w w' := by
  go_enter Try.func18, Try.ntmps18
  go_wp2_with fail
  refine (clone20 s w hs).mono ?_
  rintro e w1 ⟨rfl, hb⟩
  go_wp2
  go_ret
  exact ⟨rfl, hb⟩

/-- What is too short is not got. -/
theorem get_short (p : ByteArray) (w : World) (h4 : p.size < 4) :
    Calls Try.prog 10 #[.string p] w fun e w' => e = .returned (.tuple #[.string ⟨#[]⟩, .bool false]) ∧ Below w.heap.size w w' := by
  have hlss : ((p.size : Int) < 4) := by omega
  go_enter Try.func10, Try.ntmps10
  go_wp2
  go_ret2
  exact ⟨rfl, Below.refl _ _⟩

set_option maxHeartbeats 1000000 in
/-- What bears another sum is not got. -/
theorem get_no (p : ByteArray) (w : World) (h4 : 4 ≤ p.size) (hs : p.size ≤ 281474976710656) (hq : Crc.getOk p = false) :
    Calls Try.prog 10 #[.string p] w fun e w' => e = .returned (.tuple #[.string ⟨#[]⟩, .bool false]) ∧ Below w.heap.size w w' := by
  have hlss : ¬ ((p.size : Int) < 4) := by omega
  have hx : (p.extract 4 p.size).size ≤ 281474976710656 := by rw [ByteArray.size_extract]; omega
  have hq' : ((p.extract 0 4).toList == (Crc.head (Crc.moreB 0 (p.extract 4 p.size))).toList) = false := hq
  clear hq
  go_enter Try.func10, Try.ntmps10
  go_wp2
  go_region_with (first | (go_at_call 12; refine (sum_any _ _ (by unfold maxLen; omega)).mono ?_; rintro e w1 ⟨rfl, hb⟩) | (go_at_call 17; refine (head_any _ _ (Crc.moreB_lt _ _)).mono ?_; rintro e w2 ⟨rfl, hb2⟩))
  go_wp2
  go_ret2
  exact ⟨rfl, (Below.refl _ _).drew.trans (hb.trans (hb2.mono hb.size))⟩

set_option maxHeartbeats 1000000 in
/-- What was put is got. -/
theorem get_yes (p : ByteArray) (w : World) (h4 : 4 ≤ p.size) (hs : p.size ≤ 281474976710656) (hq : Crc.getOk p = true) :
    Calls Try.prog 10 #[.string p] w fun e w' => e = .returned (.tuple #[.string (Crc.tail4 p), .bool true]) ∧ Below w.heap.size w w' := by
  have hlss : ¬ ((p.size : Int) < 4) := by omega
  have hx : (p.extract 4 p.size).size ≤ 281474976710656 := by rw [ByteArray.size_extract]; omega
  have hq' : ((p.extract 0 4).toList == (Crc.head (Crc.moreB 0 (p.extract 4 p.size))).toList) = true := hq
  clear hq
  go_enter Try.func10, Try.ntmps10
  go_wp2
  go_region_with (first | (go_at_call 12; refine (sum_any _ _ (by unfold maxLen; omega)).mono ?_; rintro e w1 ⟨rfl, hb⟩) | (go_at_call 17; refine (head_any _ _ (Crc.moreB_lt _ _)).mono ?_; rintro e w2 ⟨rfl, hb2⟩))
  go_wp2_with fail
  refine (clone_any _ _ hx).mono ?_
  rintro e w3 ⟨rfl, hb3⟩
  go_wp2
  go_ret2
  exact ⟨rfl, (Below.refl _ _).drew.trans (hb.trans ((hb2.mono hb.size).trans (hb3.mono (Nat.le_trans hb.size hb2.size))))⟩

end Go.Proofs.Ytdiompgffdiiaaa
