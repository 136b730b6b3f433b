/-
  Bytes as sixteenths.
  Conditions: the text has at most 2^46 bytes.
-/
import Derived.Test.YtclohjcenkpgoaaDoorDig
namespace Go.Proofs.YtclohjcenkpgoaaDoor
open Go.RowKit
set_option linter.unusedVariables false

def hd (n : Nat) : UInt8 := if n < 10 then UInt8.ofNat (48 + n) else UInt8.ofNat (87 + n)
def hexL (l : List UInt8) : List UInt8 := l.flatMap fun c => [hd (c.toNat / 16), hd (c.toNat % 16)]
def hex (s : ByteArray) : ByteArray := ⟨(hexL s.data.toList).toArray⟩
theorem hexL_length (l : List UInt8) : (hexL l).length = 2 * l.length := by
  induction l with
  | nil => rfl
  | cons a l ih => unfold hexL at *; simp only [List.flatMap_cons, List.length_append, ih, List.length_cons]; simp; omega
theorem hex_size (s : ByteArray) : (hex s).size = 2 * s.size := by
  show (hexL s.data.toList).toArray.size = _
  rw [List.size_toArray, hexL_length]; simp
theorem hexL_take (s : ByteArray) (k : Nat) (h : k < s.size) : hexL (s.data.toList.take (k + 1)) = hexL (s.data.toList.take k) ++ [hd (s[k].toNat / 16), hd (s[k].toNat % 16)] := by
  rw [List.take_succ_eq_append_getElem (by simpa using h)]
  unfold hexL
  rw [List.flatMap_append]
  simp only [List.flatMap_cons, List.flatMap_nil, List.append_nil]
  rfl

theorem dig16 (n : Nat) (h : n < 16) : ((⟨#[48, 49, 50, 51, 52, 53, 54, 55, 56, 57, 97, 98, 99, 100, 101, 102]⟩ : ByteArray)[n]'h) = hd n := by
  have : ∀ m : Fin 16, ((⟨#[48, 49, 50, 51, 52, 53, 54, 55, 56, 57, 97, 98, 99, 100, 101, 102]⟩ : ByteArray)[m.1]'m.2) = hd m.1 := by decide +kernel
  exact this ⟨n, h⟩
theorem and15 (x : Nat) (h : x < 256) : bits BinOp.and IntKind.u8 (x : Int) 15 = ((x % 16 : Nat) : Int) := by
  have h1 := u8_and_nat x 15 h (by omega)
  have h2 : x &&& 15 = x % 16 := Nat.and_two_pow_sub_one_eq_mod x 4
  rw [h2] at h1
  exact h1
theorem byteCells_two (l : List UInt8) (a b : UInt8) : (Lib.byteCells l ++ [.int .u8 (a.toNat : Int)]) ++ [.int .u8 (b.toNat : Int)] = Lib.byteCells (l ++ [a, b]) := by
  simp [Lib.byteCells]
set_option maxHeartbeats 1000000 in
set_option maxRecDepth 100000 in
theorem six_any (s : ByteArray) (w : World) (hs : s.size ≤ 70368744177664) :
    Calls Tryd.prog 72 #[.string s] w fun e w' => e = .returned (.string (hex s)) ∧ Below w.heap.size w w' := by
  obtain ⟨w1, hw1⟩ : ∃ w1, w1 = w.alloc (.cells #[.pointer none, .slice none 0 0] 85) := ⟨_, rfl⟩
  have hB1 : Below w.heap.size w w1 := by rw [hw1]; exact (Below.refl _ _).alloc (Nat.le_refl _) _
  have hfr : w1.heap[w.heap.size]? = some (.cells #[.pointer none, .slice none 0 0] 85 (0, 0)) := by rw [hw1]; exact heap_alloc_new w _
  have hgr := Tryd.Builder_Grow_fresh w.heap.size w.heap.size (2 * s.size) w1 (Nat.le_refl _) hfr hB1.size (by omega)
  have hcast : ((2 * s.size : Nat) : Int) = 2 * (s.size : Int) := by omega
  rw [hcast] at hgr
  have HW := Lib.hid hw1
  subst hw1
  clear hcast hfr
  go_enter Tryd.func72, Tryd.ntmps72
  go_wp2_with (go_at_call 79; refine hgr.mono ?_; rintro e w2 ⟨rfl, hI, hb2⟩)
  go_loopw [11] (fun i wr => ∃ k : Nat, k ≤ s.size ∧ i = .int .i64 k ∧ Lib.BuilderAt 85 5 w.heap.size w.heap.size (.pointer (some ⟨w.heap.size, 0, none⟩)) (Lib.byteCells (hexL (s.data.toList.take k))) wr ∧ Below w.heap.size w wr) (fun i _ => s.size - (intOf i).toNat)
  case atStart => exact ⟨0, Nat.zero_le _, rfl, hI, hB1.trans hb2⟩
  case round =>
    obtain ⟨k, hk, rfl, hI, hbw⟩ := hrel
    have hsz := hbw.size
    have HT := Lib.hid (hexL_take s k)
    by_cases hlt : k < s.size
    · have hll : (Lib.byteCells (hexL (s.data.toList.take k))).length + 2 ≤ 140737488355328 := by
        rw [Lib.byteCells_length, hexL_length]
        have : (s.data.toList.take k).length ≤ k := List.length_take_le _ _
        omega
      have hx : s[k].toNat < 256 := UInt8.toNat_lt _
      have i1 : (0 : Int) ≤ (s[k].toNat : Int) / 16 := by omega
      have i2 : (s[k].toNat : Int) / 16 < 16 := by omega
      have i3 : (0 : Int) ≤ (s[k].toNat : Int) % 16 := by omega
      have i4 : (s[k].toNat : Int) % 16 < 16 := by omega
      have ha := and15 s[k].toNat hx
      have hc : ((s[k].toNat % 16 : Nat) : Int) = (s[k].toNat : Int) % 16 := by omega
      rw [hc] at ha
      clear hc
      have n1 : s[k].toNat / 16 < 16 := by omega
      have n2 : s[k].toNat % 16 < 16 := by omega
      have D1 := Lib.hid (dig16 _ n1)
      have D2 := Lib.hid (dig16 _ n2)
      go_wp2_with (first
        | ((go_at_call 80); (refine (Tryd.Builder_WriteByte w.heap.size w.heap.size _ _ wr (.inr hI) (by omega) hsz).mono ?_); rintro e w3 ⟨rfl, hI3, hb3⟩; have hsz3 := Nat.le_trans hsz hb3.size; have hl3 : (Lib.byteCells (hexL (s.data.toList.take k)) ++ [Value.int .u8 ((⟨#[48, 49, 50, 51, 52, 53, 54, 55, 56, 57, 97, 98, 99, 100, 101, 102]⟩ : ByteArray)[s[k].toNat / 16].toNat : Int)]).length + 1 ≤ 140737488355328 := (by rw [List.length_append, List.length_singleton]; omega))
        | ((go_at_call 80); (refine (Tryd.Builder_WriteByte w.heap.size w.heap.size _ _ w3 (.inr hI3) hl3 hsz3).mono ?_); rintro e w4 ⟨rfl, hI4, hb4⟩))
      go_roundw
      case rel =>
        refine ⟨k + 1, by omega, by go_num, ?_, hbw.trans (hb3.trans hb4)⟩
        rw [D1.out, D2.out, byteCells_two] at hI4
        rw [HT.out hlt]
        exact hI4
      case measure => simp [intOf]; omega
    · go_wp2_with (go_at_call 63; refine (Tryd.Builder_String_any w.heap.size w.heap.size _ _ (.inr hI) hsz).mono ?_; rintro e w3 ⟨rfl, hb3⟩)
      go_ret
      refine ⟨?_, hbw.trans hb3⟩
      rw [List.take_of_length_le (by simp; omega)]
      rfl
end Go.Proofs.YtclohjcenkpgoaaDoor
