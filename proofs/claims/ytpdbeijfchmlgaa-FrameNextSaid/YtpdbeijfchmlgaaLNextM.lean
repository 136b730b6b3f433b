/-
  Frames, one behind the other.
  Conditions: named in each theorem.
-/
import Derived.Test.YtpdbeijfchmlgaaFX
namespace Go.Proofs.Ytpdbeijfchmlgaa
open Go.RowKit
open Vi
set_option linter.unusedVariables false
set_option linter.unusedSimpArgs false
def catL : List ByteArray → ByteArray
  | [] => ⟨#[]⟩
  | a :: l => a ++ catL l
theorem catL_snoc : ∀ (l : List ByteArray) (a : ByteArray), catL (l ++ [a]) = catL l ++ a
  | [], a => by
    show a ++ ⟨#[]⟩ = ⟨#[]⟩ ++ a
    rw [app_nil, empty_app]
  | x :: l, a => by
    show x ++ catL (l ++ [a]) = x ++ catL l ++ a
    rw [catL_snoc l a, append_assoc3]
theorem catL_size (l : List ByteArray) (n : Nat) (h : ∀ x ∈ l, x.size ≤ n) : (catL l).size ≤ n * l.length := by
  induction l with
  | nil => exact Nat.zero_le _
  | cons a l ih =>
    have h1 := ih (fun x hx => h x (List.mem_cons_of_mem _ hx))
    have h2 := h a (List.mem_cons_self ..)
    show (a ++ catL l).size ≤ n * (l.length + 1)
    rw [ByteArray.size_append, Nat.mul_add]
    omega
/-- The frames of the first m texts: each of its version, each text cut to 60 bytes. -/
def nv (bits i : Nat) : Int := 1 + (bits : Int) / 2 ^ i % 2
def nb60 (s : ByteArray) : ByteArray := s.extract 0 (min (s.size : Int) 60).toNat
theorem nb60_size (s : ByteArray) : (nb60 s).size ≤ 60 := by unfold nb60; rw [ByteArray.size_extract]; omega
theorem nv_or (bits i : Nat) : nv bits i = 1 ∨ nv bits i = 2 := by
  unfold nv
  generalize (bits : Int) / 2 ^ i = x
  omega
def frames (Sx : Nat → ByteArray) (bits : Nat) : Nat → List ByteArray
  | 0 => []
  | k + 1 => frames Sx bits k ++ [pack (nv bits k) (nb60 (Sx k))]
/-- Those from place k on: j of them. -/
def rest (Sx : Nat → ByteArray) (bits : Nat) : Nat → Nat → List ByteArray
  | _, 0 => []
  | k, j + 1 => pack (nv bits k) (nb60 (Sx k)) :: rest Sx bits (k + 1) j
theorem rest_snoc (Sx : Nat → ByteArray) (bits : Nat) : ∀ j k, rest Sx bits k (j + 1) = rest Sx bits k j ++ [pack (nv bits (k + j)) (nb60 (Sx (k + j)))]
  | 0, k => rfl
  | j + 1, k => by
    show pack (nv bits k) (nb60 (Sx k)) :: rest Sx bits (k + 1) (j + 1) = pack (nv bits k) (nb60 (Sx k)) :: rest Sx bits (k + 1) j ++ _
    rw [rest_snoc Sx bits j (k + 1)]
    have e : k + 1 + j = k + (j + 1) := by omega
    rw [e]
    rfl
theorem frames_rest (Sx : Nat → ByteArray) (bits : Nat) : ∀ j, frames Sx bits j = rest Sx bits 0 j
  | 0 => rfl
  | j + 1 => by
    rw [rest_snoc, Nat.zero_add]
    show frames Sx bits j ++ _ = _
    rw [frames_rest Sx bits j]
theorem frame_o (Sx : Nat → ByteArray) (bits k : Nat) : pkO (nv bits k) (nb60 (Sx k)) = true := pkO_short (nv_or bits k) (by have := nb60_size (Sx k); omega)
theorem frames_size (Sx : Nat → ByteArray) (bits : Nat) (k : Nat) : ∀ x ∈ frames Sx bits k, x.size ≤ 1048600 := by
  induction k with
  | zero => intro x hx; cases hx
  | succ k ih =>
    intro x hx
    rcases List.mem_append.1 hx with h | h
    · exact ih x h
    · rw [List.mem_singleton.1 h]
      exact pack_size (frame_o Sx bits k)
theorem frames_len (Sx : Nat → ByteArray) (bits : Nat) : ∀ k, (frames Sx bits k).length = k
  | 0 => rfl
  | k + 1 => by show (frames Sx bits k ++ [_]).length = _; rw [List.length_append, frames_len Sx bits k]; rfl
theorem cat_size (Sx : Nat → ByteArray) (bits k : Nat) (hk : k ≤ 6) : (catL (frames Sx bits k)).size ≤ 6291600 := by
  have h := catL_size _ _ (frames_size Sx bits k)
  rw [frames_len] at h
  omega
theorem rest_size (Sx : Nat → ByteArray) (bits : Nat) : ∀ j k, (catL (rest Sx bits k j)).size ≤ 1048600 * j
  | 0, _ => Nat.le_refl _
  | j + 1, k => by
    show (pack (nv bits k) (nb60 (Sx k)) ++ catL (rest Sx bits (k + 1) j)).size ≤ _
    rw [ByteArray.size_append]
    have h1 := rest_size Sx bits j (k + 1)
    have h2 := pack_size (frame_o Sx bits k)
    omega
end Go.Proofs.Ytpdbeijfchmlgaa
