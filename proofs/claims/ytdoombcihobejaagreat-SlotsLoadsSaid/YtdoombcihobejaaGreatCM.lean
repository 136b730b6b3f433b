/-
  The plain mathematics of CRC-32C's register, with no program in it: a step takes one bit, eight steps a byte.
  Conditions: registers below 2^32.
-/
import Derived.Laws.BitsAllLaws
import Derived.RowKit
import Derived.Laws.BytesArg
namespace Go.Proofs.YtdoombcihobejaaGreat
open Go.RowKit

namespace Crc

/-- One step: t's lowest bit is taken. -/
def step (r t : Nat) : Nat := r / 2 ^^^ 2197175160 * ((r ^^^ t) &&& 1)
/-- The first k bits of b. -/
def stepN (r b : Nat) : Nat → Nat
  | 0 => r
  | k + 1 => step (stepN r b k) (b / 2 ^ k)
def byteStep (r b : Nat) : Nat := stepN r b 8
/-- The register over a text. -/
def raw (r : Nat) (l : List UInt8) : Nat := l.foldl (fun r c => byteStep r c.toNat) r
def comp (x : Nat) : Nat := 4294967295 - x
/-- The sum of a text that goes on with l. -/
def more (sum : Nat) (l : List UInt8) : Nat := comp (raw (comp sum) l)

theorem and_one_le (x : Nat) : x &&& 1 ≤ 1 := Nat.and_le_right
theorem step_lt (r t : Nat) (hr : r < 4294967296) : step r t < 4294967296 := by
  unfold step
  have h := and_one_le (r ^^^ t)
  exact Nat.xor_lt_two_pow (n := 32) (by omega) (by omega)
theorem stepN_lt (r b : Nat) (hr : r < 4294967296) : ∀ k, stepN r b k < 4294967296
  | 0 => hr
  | k + 1 => step_lt _ _ (stepN_lt r b hr k)
theorem byteStep_lt (r b : Nat) (hr : r < 4294967296) : byteStep r b < 4294967296 := stepN_lt r b hr 8
theorem raw_lt : ∀ (l : List UInt8) (r : Nat), r < 4294967296 → raw r l < 4294967296
  | [], _, h => h
  | c :: l, r, h => raw_lt l _ (byteStep_lt r c.toNat h)
theorem comp_lt (x : Nat) : comp x < 4294967296 := by unfold comp; omega
theorem comp_comp (x : Nat) (h : x < 4294967296) : comp (comp x) = x := by unfold comp; omega
theorem more_lt (x : Nat) (l : List UInt8) : more x l < 4294967296 := comp_lt _
theorem raw_append (r : Nat) (a b : List UInt8) : raw r (a ++ b) = raw (raw r a) b := by unfold raw; rw [List.foldl_append]
theorem raw_snoc (r : Nat) (a : List UInt8) (c : UInt8) : raw r (a ++ [c]) = byteStep (raw r a) c.toNat := raw_append r a [c]
/-- A text may be summed in two parts. -/
theorem more_append (x : Nat) (a b : List UInt8) : more (more x a) b = more x (a ++ b) := by
  unfold more
  rw [comp_comp _ (raw_lt _ _ (comp_lt _)), raw_append]

/-- What the walk writes for one round of a byte's eight. -/
theorem round_eq (r b k : Nat) (hr : r < 4294967296) (hb : b < 256) :
    bits BinOp.xor IntKind.u32 ((r : Int) / 2) (2197175160 * bits BinOp.and IntKind.u32 (bits BinOp.xor IntKind.u32 (r : Int) ((b : Int) / 2 ^ k % 4294967296)) 1 % 4294967296) = ((step r (b / 2 ^ k) : Nat) : Int) := by
  have hq : b / 2 ^ k ≤ b := Nat.div_le_self _ _
  have e0 : (b : Int) / 2 ^ k = ((b / 2 ^ k : Nat) : Int) := by push_cast; rfl
  rw [e0]
  generalize b / 2 ^ k = q at *
  have e1 : (q : Int) % 4294967296 = (q : Int) := by omega
  rw [e1, u32_xor_nat r q hr (by omega)]
  have hx : r ^^^ q < 4294967296 := Nat.xor_lt_two_pow (n := 32) (by omega) (by omega)
  have e2 : bits BinOp.and IntKind.u32 ((r ^^^ q : Nat) : Int) 1 = ((r ^^^ q) &&& 1 : Nat) := u32_and_nat (r ^^^ q) 1 hx (by omega)
  rw [e2]
  have h1 := and_one_le (r ^^^ q)
  have e3 : (2197175160 * (((r ^^^ q) &&& 1 : Nat) : Int) % 4294967296) = ((2197175160 * ((r ^^^ q) &&& 1) : Nat) : Int) := by omega
  have e4 : (r : Int) / 2 = ((r / 2 : Nat) : Int) := by omega
  rw [e3, e4, u32_xor_nat _ _ (by omega) (by omega)]
  rfl

/-- What the walk writes for a register with all its bits turned. -/
theorem comp_eq (x : Nat) (hx : x < 4294967296) : bits BinOp.xor IntKind.u32 IntKind.u32.max (x : Int) = ((comp x : Nat) : Int) := by
  show IntKind.u32.wrap ((BitVec.ofInt 32 4294967295 ^^^ BitVec.ofInt 32 (x : Int)).toNat : Int) = _
  have h1 : BitVec.ofInt 32 4294967295 = BitVec.allOnes 32 := by decide
  have h2 := ofInt_u32 x hx
  rw [h1, BitVec.allOnes_xor, BitVec.toNat_not, h2, IntKind.wrap_u32']
  unfold comp
  omega
theorem take_succ (s : ByteArray) (k : Nat) (h : k < s.size) : s.data.toList.take (k + 1) = s.data.toList.take k ++ [s[k]] := by
  rw [List.take_succ_eq_append_getElem (by simpa using h)]; rfl
/-- One byte more. -/
theorem raw_take_succ (r : Nat) (s : ByteArray) (k : Nat) (h : k < s.size) : raw r (s.data.toList.take (k + 1)) = byteStep (raw r (s.data.toList.take k)) s[k].toNat := by
  rw [take_succ s k h, raw_snoc]

/-- A sum's four bytes, the highest first. -/
def head (n : Nat) : ByteArray := ⟨#[UInt8.ofNat (n / 16777216), UInt8.ofNat (n / 65536 % 256), UInt8.ofNat (n / 256 % 256), UInt8.ofNat (n % 256)]⟩
theorem head_eq (n : Nat) : strOfNums [(n : Int) / 16777216, (n : Int) / 65536 % 256, (n : Int) / 256 % 256, (n : Int) % 256] = head n := by
  have a1 : ((n : Int) / 16777216).toNat = n / 16777216 := by omega
  have a2 : ((n : Int) / 65536 % 256).toNat = n / 65536 % 256 := by omega
  have a3 : ((n : Int) / 256 % 256).toNat = n / 256 % 256 := by omega
  have a4 : ((n : Int) % 256).toNat = n % 256 := by omega
  simp only [strOfNums, List.map, a1, a2, a3, a4]
  rfl
theorem head_size (n : Nat) : (head n).size = 4 := rfl

/-- The sum of a string that goes on with s; what is put; whether what is there was put so. (Plain definitions: the walk does not look into them.) -/
def moreB (sum : Nat) (s : ByteArray) : Nat := more sum s.data.toList
def putB (s : ByteArray) : ByteArray := head (moreB 0 s) ++ s
def tail4 (p : ByteArray) : ByteArray := p.extract 4 p.size
def getOk (p : ByteArray) : Bool := (p.extract 0 4).toList == (head (moreB 0 (p.extract 4 p.size))).toList
theorem moreB_lt (x : Nat) (s : ByteArray) : moreB x s < 4294967296 := comp_lt _

theorem getOk_putB (s : ByteArray) : getOk (putB s) = true := by
  have h1 : (head (moreB 0 s) ++ s).extract 0 4 = head (moreB 0 s) := ByteArray.extract_append_eq_left rfl
  have h2 : (head (moreB 0 s) ++ s).extract 4 (head (moreB 0 s) ++ s).size = s := ByteArray.extract_append_eq_right rfl ByteArray.size_append
  unfold getOk putB
  rw [h1, h2]
  exact beq_self_eq_true _
theorem tail4_putB (s : ByteArray) : tail4 (putB s) = s := by
  exact ByteArray.extract_append_eq_right rfl ByteArray.size_append
theorem putB_size (s : ByteArray) : (putB s).size = s.size + 4 := by
  unfold putB; rw [ByteArray.size_append, head_size]; omega
theorem moreB_parts (s : ByteArray) (x k : Nat) (hk : k ≤ s.size) : moreB (moreB x (s.extract 0 k)) (s.extract k s.size) = moreB x s := by
  unfold moreB
  rw [more_append]
  congr 1
  rw [← Array.toList_append, ← ByteArray.data_append, ByteArray.extract_append_extract]
  simp [hk]


end Crc
end Go.Proofs.YtdoombcihobejaaGreat
