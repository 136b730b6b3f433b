/-
  The walk of the law CrcXor.
  Conditions: texts of at most 2^47 - 4096 bytes.
-/
import Derived.Test.YtdiompgffdiiaaaCalls
import Derived.Test.YtdiompgffdiiaaaLinear
namespace Go.Proofs.Ytdiompgffdiiaaa
open Go.RowKit
/-- A row of bytes of block g: place j holds x j. -/
def Bytes (g n : Nat) (x : Nat → Nat) (w : World) : Prop := (∀ j, j < n → w.cell? ⟨g, j, none⟩ = some (.int .u8 (x j))) ∧ ∀ j, w.frozen? ⟨g, j, none⟩ = false
theorem Bytes.cell {g n : Nat} {x : Nat → Nat} {w : World} (h : Bytes g n x w) (j : Nat) (hj : j < n) : w.cell? ⟨g, j, none⟩ = some (.int .u8 (x j)) := h.1 j hj
theorem Bytes.free {g n : Nat} {x : Nat → Nat} {w : World} (h : Bytes g n x w) (j : Nat) : w.frozen? ⟨g, j, none⟩ = false := h.2 j
theorem Bytes.drew {g n : Nat} {x : Nat → Nat} {w : World} (h : Bytes g n x w) : Bytes g n x w.drew := h
/-- One byte is stored. -/
theorem Bytes.set {g n : Nat} {x y : Nat → Nat} {w : World} (h : Bytes g n x w) (k : Nat) (v : Nat) (hy : ∀ j, j < n → y j = if j = k then v else x j) : Bytes g n y (w.setCell ⟨g, k, none⟩ (.int .u8 (v : Int))) := by
  refine ⟨fun j hj => ?_, fun j => by rw [World.frozen?_setCell]; exact h.2 j⟩
  rw [hy j hj]
  by_cases e : j = k
  · subst e
    rw [if_pos rfl]
    exact World.cell?_setCell_same _ _ _ (h.1 j hj)
  · rw [if_neg e, World.cell?_setCell_other _ _ _ _ (by intro hh; cases hh; exact e rfl)]
    exact h.1 j hj

set_option linter.unusedVariables false in
set_option maxHeartbeats 1000000 in
theorem xor_any (s t u : ByteArray) (w : World) (hs : s.size ≤ 140737488351232) (ht : t.size ≤ 140737488351232) (hu : u.size ≤ 140737488351232) :
    Calls Try.prog 6 #[.string s, .string t, .string u] w fun e w' => e = .returned (.bool true) ∧ Below w.heap.size w w' := by
  obtain ⟨m, hm1, hmt, hmu⟩ : ∃ m : Nat, (if u.size < t.size then (u.size : Int) else (t.size : Int)) = (m : Int) ∧ m ≤ t.size ∧ m ≤ u.size := by
    by_cases h : u.size < t.size
    · exact ⟨u.size, by rw [if_pos h], by omega, by omega⟩
    · exact ⟨t.size, by rw [if_neg h], by omega, by omega⟩
  obtain ⟨n, hm2, hns, hnm⟩ : ∃ n : Nat, (if m < s.size then (m : Int) else (s.size : Int)) = (n : Int) ∧ n ≤ s.size ∧ n ≤ m := by
    by_cases h : m < s.size
    · exact ⟨m, by rw [if_pos h], by omega, by omega⟩
    · exact ⟨s.size, by rw [if_neg h], by omega, by omega⟩
  have hm3 : (if (m : Int) < (s.size : Int) then (m : Int) else (s.size : Int)) = (n : Int) := by simpa using hm2
  have hnt : n ≤ t.size := by omega
  have hnu : n ≤ u.size := by omega
  obtain ⟨i0, hi, hz0, hz1, hz2⟩ := info_parts Try.info5
  have hmk : ∀ W : World, (Instr.makeSlice 24 (.int .i64 (n : Int)) (.int .i64 (n : Int))).run Try.prog W = .ok (.slice (some ⟨W.heap.size, 0, none⟩) n n) (W.alloc (.cells (madeCells (Value.int .u8 0).cells (((n : Nat) : Int).toNat * i0.size)) 5)) := fun W => by
    have h := run_make (P := Try.prog) W 24 5 i0 (.int .u8 0) Try.underlying24 hi hz0 .i64 .i64 (n : Int) (n : Int) (by omega) (by omega) (by rw [hz2]; omega) (by omega)
    simpa using h
  go_enter Try.func6, Try.ntmps6
  go_wp2_with fail
  refine (examples_any w).mono ?_
  rintro e w1 ⟨rfl, hb1⟩
  go_wp2_with fail
  have hB1 : Below w.heap.size w (w1.alloc (Obj.cells (madeCells #[Value.int IntKind.u8 0] n) 5)) := hb1.alloc hb1.size _
  have hI1 : Bytes w1.heap.size n (fun j => if j < 0 then Crc.xor3 s t u j else 0) (w1.alloc (Obj.cells (madeCells #[Value.int IntKind.u8 0] n) 5)) := by
    refine ⟨fun j hj => ?_, fun j => by simp⟩
    rw [World.cell?_alloc_new]
    simp [madeCells, hj, Nat.mod_one]
  go_loopw [10] (fun i wr => ∃ k : Nat, k ≤ n ∧ i = .int .i64 k ∧ Bytes w1.heap.size n (fun j => if j < k then Crc.xor3 s t u j else 0) wr ∧ Below w.heap.size w wr) (fun i _ => n - (intOf i).toNat)
  case atStart => exact ⟨0, by omega, rfl, hI1, hB1⟩
  case round =>
    clear hI1 hB1 hmk
    obtain ⟨k, hk, rfl, hI, hB⟩ := hrel
    by_cases hlt : k < n
    · have hks : k < s.size := by omega
      have hkt : k < t.size := by omega
      have hku : k < u.size := by omega
      have hc := hI.cell k hlt
      have hf := hI.free k
      have HX := Lib.hid (Crc.xor3_eq s t u k hks hkt hku)
      go_wp2
      go_region
      go_wp2
      go_roundw
      case rel =>
        refine ⟨k + 1, by omega, by go_num, ?_, (hB.setCell hb1.size _).drew⟩
        rw [HX.out]
        exact (hI.set k _ (fun j hj => by
          by_cases e : j = k
          · subst e; rw [if_pos rfl, if_pos (by omega)]
          · rw [if_neg e]
            by_cases e2 : j < k
            · rw [if_pos e2, if_pos (by omega)]
            · rw [if_neg e2, if_neg (by omega)])).drew
      case measure => simp [intOf]; omega
    · have hkn : k = n := by omega
      subst hkn
      have hcv : ∀ W : World, Below wr.heap.size wr W → (convert 24 9 (.slice (some ⟨w1.heap.size, 0, none⟩) k k)).run Try.prog W = .ok (.string (strOfNums (Crc.xor3L s t u k))) W := fun W hW =>
        run_convert_bytes_arg (P := Try.prog) W 24 5 Try.underlying24 Try.underlying5 w1.heap.size 0 k k (Crc.xor3L s t u k) (Crc.xor3L_length s t u k)
          (fun i hi => by
            have hcell := hI.cell i hi
            rw [Crc.xor3L_getD s t u k i hi, Nat.zero_add, hW.cell (World.block_lt_of_cell? wr _ hcell), hcell, if_pos hi]) 9 Try.underlying9
      have HV := Lib.hid hcv
      have hD : Below wr.heap.size wr wr.drew := (Below.refl _ _).drew
      clear hcv
      have hxs : (strOfNums (Crc.xor3L s t u k)).size ≤ maxLen := by rw [strOfNums_size, Crc.xor3L_length]; unfold maxLen; omega
      have hx1 : (s.extract 0 k).size ≤ maxLen := by unfold maxLen; rw [ByteArray.size_extract]; omega
      have hx2 : (t.extract 0 k).size ≤ maxLen := by unfold maxLen; rw [ByteArray.size_extract]; omega
      have hx3 : (u.extract 0 k).size ≤ maxLen := by unfold maxLen; rw [ByteArray.size_extract]; omega
      have he : (((Crc.moreB 0 (strOfNums (Crc.xor3L s t u k)) : Nat) : Int) == bits BinOp.xor IntKind.u32 (bits BinOp.xor IntKind.u32 ((Crc.moreB 0 (s.extract 0 k) : Nat) : Int) ((Crc.moreB 0 (t.extract 0 k) : Nat) : Int)) ((Crc.moreB 0 (u.extract 0 k) : Nat) : Int)) = true := by
        rw [Crc.moreB_xor3 s t u k hns hnt hnu, u32_xor_nat _ _ (Crc.moreB_lt _ _) (Crc.moreB_lt _ _), u32_xor_nat _ _ (Nat.xor_lt_two_pow (n := 32) (Crc.moreB_lt _ _) (Crc.moreB_lt _ _)) (Crc.moreB_lt _ _)]
        exact beq_self_eq_true _
      have hnsi : (k : Int) ≤ (s.size : Int) := by omega
      have hnti : (k : Int) ≤ (t.size : Int) := by omega
      have hnui : (k : Int) ≤ (u.size : Int) := by omega
      have hC : Below w.heap.size w wr.drew := hB.drew
      clear hI hB
      go_wp2
      go_region_held3 (fun W => (convert 24 9 (.slice (some ⟨w1.heap.size, 0, none⟩) k k)).run Try.prog W = .ok (.string (strOfNums (Crc.xor3L s t u k))) W) (exact HV.out _ hD) (first
        | (go_at_call 12; ((with_reducible refine (sum_any (strOfNums (Crc.xor3L s t u k)) _ hxs).mono ?_); rintro e w4 ⟨rfl, hb4⟩; replace hC := hC.trans (hb4.mono hC.size); replace hD := hD.trans (hb4.mono hD.size); clear hb4))
        | (go_at_call 12; ((with_reducible refine (sum_any (s.extract 0 k) _ hx1).mono ?_); rintro e w4 ⟨rfl, hb4⟩; replace hC := hC.trans (hb4.mono hC.size); replace hD := hD.trans (hb4.mono hD.size); clear hb4))
        | (go_at_call 12; ((with_reducible refine (sum_any (t.extract 0 k) _ hx2).mono ?_); rintro e w4 ⟨rfl, hb4⟩; replace hC := hC.trans (hb4.mono hC.size); replace hD := hD.trans (hb4.mono hD.size); clear hb4))
        | (go_at_call 12; ((with_reducible refine (sum_any (u.extract 0 k) _ hx3).mono ?_); rintro e w4 ⟨rfl, hb4⟩; replace hC := hC.trans (hb4.mono hC.size); replace hD := hD.trans (hb4.mono hD.size); clear hb4)))
      go_wp2
      go_ret
      refine ⟨?_, hC⟩
      first | exact rfl | (rw [he]; exact rfl)
end Go.Proofs.Ytdiompgffdiiaaa
