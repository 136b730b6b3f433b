/-
  Numbers as bytes, the highest first: the contracts of varint.Fixed and of the document's own.
  Conditions: named in each theorem.
-/
import Derived.Test.YtdoombcihobejaaGreatVPut
import Derived.Test.YtdoombcihobejaaGreatShelf
import Derived.Laws.BitsAllLaws
import Derived.RowKit
import Derived.Laws.BytesArg
import Derived.WalkKit
import Derived.WalkSpells
import Derived.WalkLawsBesides
import Derived.Lib.Hide
import Derived.Maps.AppendAt
import Derived.Deep.AppendLies
namespace Go.Proofs.YtdoombcihobejaaGreat
open Go.RowKit
set_option linter.unusedVariables false

namespace Vi
end Vi
namespace Vi
/-- The lowest k bytes of a number, the highest first. -/
def fx (a : Nat) : Nat → List Nat
  | 0 => []
  | k + 1 => (a / 256 ^ k % 256) :: fx a k
def fxB (a : Nat) (k : Int) : ByteArray := if 0 ≤ k ∧ k ≤ 8 then str (fx a k.toNat) else ⟨#[]⟩
theorem fx_length (a : Nat) : ∀ k, (fx a k).length = k
  | 0 => rfl
  | k + 1 => by rw [fx, List.length_cons, fx_length a k]
theorem fx_drop (a : Nat) : ∀ k j, (fx a (k + j)).drop j = fx a k
  | k, 0 => rfl
  | k, j + 1 => by rw [← Nat.add_assoc, fx, List.drop_succ_cons, fx_drop a k j]
/-- A row of s bytes whose last k are laid. -/
def rowF (a s k : Nat) : List Nat := List.replicate (s - k) 0 ++ fx a k
theorem rowF_zero (a s : Nat) : rowF a s 0 = List.replicate s 0 := by simp [rowF, fx]
theorem rowF_full (a s : Nat) : rowF a s s = fx a s := by simp [rowF]
theorem rowF_length (a s k : Nat) (h : k ≤ s) : (rowF a s k).length = s := by
  unfold rowF; rw [List.length_append, List.length_replicate, fx_length]; omega
theorem rowF_set (a k j : Nat) : (rowF a (k + 1 + j) k).set j (a / 256 ^ k % 256) = rowF a (k + 1 + j) (k + 1) := by
  unfold rowF
  have e1 : k + 1 + j - k = j + 1 := by omega
  have e2 : k + 1 + j - (k + 1) = j := by omega
  rw [e1, e2, List.replicate_succ', List.append_assoc, List.set_append_right _ _ (by simp)]
  simp [fx]
theorem cells_set (l : List Nat) (j x : Nat) : (cells l).set j (Value.int .u8 (x : Int)) = cells (l.set j x) := by
  unfold cells; rw [List.map_set]
theorem div_pow (a k : Nat) : a / 256 ^ k / 256 = a / 256 ^ (k + 1) := by rw [Nat.div_div_eq_div_mul, Nat.pow_succ]
end Vi
theorem fixed_no (a : Nat) (s : Int) (w : World) (h : s < 0 ∨ 8 < s) :
    Calls Tryz.prog 63 #[.int .u64 a, .int .i64 s] w fun e w' => e = .returned (.string (Vi.fxB a s)) ∧ Below w.heap.size w w' := by
  have hz : Hid (Vi.fxB a s = ⟨#[]⟩) := by show _ = _; unfold Vi.fxB; rw [if_neg (by omega)]
  rcases h with h | h
  · go_enter Tryz.func63, Tryz.ntmps63
    go_wp2
    go_ret
    exact ⟨by rw [hz.out]; rfl, Below.refl _ _⟩
  · have h0 : ¬ s < 0 := by omega
    go_enter Tryz.func63, Tryz.ntmps63
    go_wp2
    go_ret
    exact ⟨by rw [hz.out]; rfl, Below.refl _ _⟩
set_option maxHeartbeats 1000000 in
set_option maxRecDepth 100000 in
theorem fixed_yes (a s : Nat) (w : World) (hs : s ≤ 8) :
    Calls Tryz.prog 63 #[.int .u64 a, .int .i64 s] w fun e w' => e = .returned (.string (Vi.fxB a s)) ∧ Below w.heap.size w w' := by
  obtain ⟨i0, hi, hz0, hz1, hz2⟩ := info_parts Tryz.info5
  go_enter Tryz.func63, Tryz.ntmps63
  go_wp2_with (at_make; refine wpList_make_full _ rfl _ _ 67 rfl w.heap.size 5 i0 (.int .u8 0) 1 Tryz.underlying67 hi hz0 hz1 .i64 .i64 _ _ s rfl rfl rfl rfl (by rw [hz2]; omega) (by unfold maxLen; omega) (Nat.le_refl _) ?_; intro w0 hown0 hgrow0)
  have hr0 : w0.ownsRow w.heap.size 5 1 (Value.slice (some ⟨w.heap.size, 0, none⟩) s s) s (Vi.cells (Vi.rowF a s 0)) := by
    have e : (madeCells (Value.int IntKind.u8 0).cells (s * 1)).toList = Vi.cells (Vi.rowF a s 0) := by
      rw [Vi.rowF_zero, Nat.mul_one]
      show (madeCells #[Value.int IntKind.u8 0] s).toList = _
      rw [toList_madeCells_one]; simp [Vi.cells]
    rw [← e]; exact hown0
  have hb0 : Below w.heap.size w w0 := (Below.refl _ _).grown hgrow0 (Nat.le_refl _) (by simp)
  clear hown0 hgrow0
  go_loopw [0, 16] (fun m c wr => ∃ k : Nat, k ≤ s ∧ m = .int .u64 ((a / 256 ^ k : Nat) : Int) ∧ c = .int .i64 k ∧ wr.ownsRow w.heap.size 5 1 (Value.slice (some ⟨w.heap.size, 0, none⟩) s s) s (Vi.cells (Vi.rowF a s k)) ∧ Below w.heap.size w wr) (fun _ c _ => s - (intOf c).toNat)
  case atStart => exact ⟨0, by omega, by simp, rfl, hr0, hb0⟩
  case round =>
    obtain ⟨k, hk, rfl, rfl, hr, hb⟩ := hrel
    have HD := Lib.hid (Vi.div_pow a k)
    generalize hm : a / 256 ^ k = m at *
    have HM := Lib.hid hm
    clear hm
    by_cases hlt : k < s
    · obtain ⟨j, hj⟩ : ∃ j, j = s - 1 - k := ⟨_, rfl⟩
      have hji : (s : Int) - 1 - k = (j : Int) := by omega
      have hc : wr.cell? ⟨w.heap.size, j, none⟩ = some (.int .u8 0) := by
        rw [hr.cellAt j (by omega)]
        have e : (Vi.cells (Vi.rowF a s k))[j]? = some (.int .u8 0) := by
          unfold Vi.cells Vi.rowF
          rw [List.getElem?_map, List.getElem?_append_left (by rw [List.length_replicate]; omega), List.getElem?_replicate, if_pos (by omega)]; rfl
        exact e
      have hf := hr.frozenAt j
      have HJ := Lib.hid hj
      clear hj
      go_wp2
      go_roundw
      case rel =>
        have hst := hr.stored j (Value.int .u8 ((m % 256 : Nat) : Int))
        have es : s = k + 1 + j := by have := HJ.out; omega
        refine ⟨k + 1, by omega, by rw [← HD.out, Int.natCast_ediv]; rfl, by go_num, ?_, hb.setCell (Nat.le_refl _) _⟩
        have e : Vi.cells (Vi.rowF a s (k + 1)) = (Vi.cells (Vi.rowF a s k)).set j (Value.int .u8 ((m % 256 : Nat) : Int)) := by
          rw [Vi.cells_set, es, ← Vi.rowF_set, HM.out]
        rw [e]
        exact hst.1
      case measure => simp [intOf]; omega
    · have hk' : k = s := by omega
      subst hk'
      have hcv := str_of_own (by rw [Vi.rowF_full] at hr; exact hr)
      have HS : Hid (Vi.fxB a k = Vi.str (Vi.fx a k)) := by show _ = _; unfold Vi.fxB; rw [if_pos (by omega), Int.toNat_natCast]
      go_wp2
      go_ret
      exact ⟨by rw [HS.out]; rfl, hb⟩
theorem fixed_any (a : Nat) (s : Int) (w : World) :
    Calls Tryz.prog 63 #[.int .u64 a, .int .i64 s] w fun e w' => e = .returned (.string (Vi.fxB a s)) ∧ Below w.heap.size w w' := by
  by_cases h : 0 ≤ s ∧ s ≤ 8
  · obtain ⟨k, rfl⟩ := Int.eq_ofNat_of_zero_le h.1
    exact fixed_yes a k w (by omega)
  · exact fixed_no a s w (by omega)
theorem rfixed_no (a : Nat) (s : Int) (w : World) (h : s < 0 ∨ 8 < s) :
    Calls Tryz.prog 30 #[.int .u64 a, .int .i64 s] w fun e w' => e = .returned (.string (Vi.fxB a s)) ∧ Below w.heap.size w w' := by
  have hz : Hid (Vi.fxB a s = ⟨#[]⟩) := by show _ = _; unfold Vi.fxB; rw [if_neg (by omega)]
  rcases h with h | h
  · go_enter Tryz.func30, Tryz.ntmps30
    go_wp2
    go_ret
    exact ⟨by rw [hz.out]; rfl, Below.refl _ _⟩
  · have h0 : ¬ s < 0 := by omega
    go_enter Tryz.func30, Tryz.ntmps30
    go_wp2
    go_ret
    exact ⟨by rw [hz.out]; rfl, Below.refl _ _⟩
set_option maxHeartbeats 1000000 in
set_option maxRecDepth 100000 in
theorem rfixed_yes (a s : Nat) (w : World) (ha : a < 18446744073709551616) (hs : s ≤ 8) :
    Calls Tryz.prog 30 #[.int .u64 a, .int .i64 s] w fun e w' => e = .returned (.string (Vi.fxB a s)) ∧ Below w.heap.size w w' := by
  obtain ⟨i0, hi, hz0, hz1, hz2⟩ := info_parts Tryz.info5
  have HA := Lib.hid ha
  clear ha
  go_enter Tryz.func30, Tryz.ntmps30
  go_wp2_with (at_make; refine wpList_make_full _ rfl _ _ 67 rfl w.heap.size 5 i0 (.int .u8 0) 1 Tryz.underlying67 hi hz0 hz1 .i64 .i64 _ _ s rfl rfl rfl rfl (by rw [hz2]; omega) (by unfold maxLen; omega) (Nat.le_refl _) ?_; intro w0 hown0 hgrow0)
  have hr0 : w0.ownsRow w.heap.size 5 1 (Value.slice (some ⟨w.heap.size, 0, none⟩) s s) s (Vi.cells (Vi.rowF a s 0)) := by
    have e : (madeCells (Value.int IntKind.u8 0).cells (s * 1)).toList = Vi.cells (Vi.rowF a s 0) := by
      rw [Vi.rowF_zero, Nat.mul_one]
      show (madeCells #[Value.int IntKind.u8 0] s).toList = _
      rw [toList_madeCells_one]; simp [Vi.cells]
    rw [← e]; exact hown0
  have hb0 : Below w.heap.size w w0 := (Below.refl _ _).grown hgrow0 (Nat.le_refl _) (by simp)
  clear hown0 hgrow0
  go_loopw [0, 6] (fun m c wr => ∃ k : Nat, k ≤ s ∧ m = .int .u64 ((a / 256 ^ k : Nat) : Int) ∧ c = .int .i64 ((s : Int) - 1 - k) ∧ wr.ownsRow w.heap.size 5 1 (Value.slice (some ⟨w.heap.size, 0, none⟩) s s) s (Vi.cells (Vi.rowF a s k)) ∧ Below w.heap.size w wr) (fun _ c _ => (intOf c + 1).toNat)
  case atStart => exact ⟨0, by omega, by simp, by simp, hr0, hb0⟩
  case round =>
    obtain ⟨k, hk, rfl, rfl, hr, hb⟩ := hrel
    have HD := Lib.hid (Vi.div_pow a k)
    have hmb : a / 256 ^ k ≤ a := Nat.div_le_self _ _
    generalize hm : a / 256 ^ k = m at *
    have HM := Lib.hid hm
    clear hm
    have hmi : (m : Int) ≤ 18446744073709551615 := by have := HA.out; omega
    clear hmb
    by_cases hlt : k < s
    · obtain ⟨j, hj⟩ : ∃ j, j = s - 1 - k := ⟨_, rfl⟩
      have hji : (s : Int) - 1 - k = (j : Int) := by omega
      have hjs : (j : Int) < s := by omega
      have hj8 : (j : Int) ≤ 7 := by omega
      have hc : wr.cell? ⟨w.heap.size, j, none⟩ = some (.int .u8 0) := by
        rw [hr.cellAt j (by omega)]
        have e : (Vi.cells (Vi.rowF a s k))[j]? = some (.int .u8 0) := by
          unfold Vi.cells Vi.rowF
          rw [List.getElem?_map, List.getElem?_append_left (by rw [List.length_replicate]; omega), List.getElem?_replicate, if_pos (by omega)]; rfl
        exact e
      have hf := hr.frozenAt j
      have HJ := Lib.hid hj
      clear hj
      rw [hji]
      have HI := Lib.hid hji
      clear hji
      go_wp2
      go_roundw
      case rel =>
        have hst := hr.stored j (Value.int .u8 ((m % 256 : Nat) : Int))
        have es : s = k + 1 + j := by have := HJ.out; omega
        refine ⟨k + 1, by omega, by rw [← HD.out, Int.natCast_ediv]; rfl, by have h := HI.out; congr 1; omega, ?_, hb.setCell (Nat.le_refl _) _⟩
        have e : Vi.cells (Vi.rowF a s (k + 1)) = (Vi.cells (Vi.rowF a s k)).set j (Value.int .u8 ((m % 256 : Nat) : Int)) := by
          rw [Vi.cells_set, es, ← Vi.rowF_set, HM.out]
        rw [e]
        exact hst.1
      case measure => (simp [intOf]; try omega)
    · have hk' : k = s := by omega
      subst hk'
      have hcv := str_of_own (by rw [Vi.rowF_full] at hr; exact hr)
      have HS : Hid (Vi.fxB a k = Vi.str (Vi.fx a k)) := by show _ = _; unfold Vi.fxB; rw [if_pos (by omega), Int.toNat_natCast]
      have hn1 : (k : Int) - 1 - k < 0 := by omega
      go_wp2
      go_ret
      exact ⟨by rw [HS.out]; rfl, hb⟩
theorem rfixed_any (a : Nat) (s : Int) (w : World) (ha : a < 18446744073709551616) :
    Calls Tryz.prog 30 #[.int .u64 a, .int .i64 s] w fun e w' => e = .returned (.string (Vi.fxB a s)) ∧ Below w.heap.size w w' := by
  by_cases h : 0 ≤ s ∧ s ≤ 8
  · obtain ⟨k, rfl⟩ := Int.eq_ofNat_of_zero_le h.1
    exact rfixed_yes a k w ha (by omega)
  · exact rfixed_no a s w (by omega)
end Go.Proofs.YtdoombcihobejaaGreat
