/-
  Entries as plain mathematics; what the package's and the document's Fields, Level and has return.
  Conditions: named in each theorem.
-/
import Derived.Test.YtmencfmjmbbfhaaDoorProg
import Derived.Test.YtmencfmjmbbfhaaDoorShelf
import Derived.WalkKit
import Derived.WalkSpells
import Derived.WalkLawsBesides
import Derived.Lib.Hide
import Derived.Below
namespace Go.Proofs.YtmencfmjmbbfhaaDoor
open Go.RowKit
set_option linter.unusedVariables false
structure En where
  term : Int
  index : Int
  kind : Int
  client : Int
  seq : Int
  block : Int
  many : Int
  node : Int
  level : Int
  data : ByteArray
  old : ByteArray
abbrev ev (e : En) : Value := .agg #[.int .u64 e.term, .int .u64 e.index, .int .i64 e.kind, .int .u64 e.client, .int .u64 e.seq, .int .u64 e.block, .int .u64 e.many, .int .i64 e.node, .int .i64 e.level, .string e.data, .string e.old]
abbrev ec (e : En) : Array Value := #[.int .u64 e.term, .int .u64 e.index, .int .i64 e.kind, .int .u64 e.client, .int .u64 e.seq, .int .u64 e.block, .int .u64 e.many, .int .i64 e.node, .int .i64 e.level, .string e.data, .string e.old]
def fl (k : Int) : ByteArray :=
  if k = 1 then ⟨#[99, 98, 100]⟩ else if k = 2 then ⟨#[99, 98, 109]⟩ else if k = 3 then ⟨#[99, 109]⟩ else if k = 4 then ⟨#[99]⟩
  else if k = 5 then ⟨#[110]⟩ else if k = 6 then ⟨#[110]⟩ else if k = 7 then ⟨#[110, 108]⟩ else if k = 11 then ⟨#[99, 98, 100, 111]⟩ else ⟨#[]⟩
def fb (k : Int) : Bool := decide (0 ≤ k ∧ k ≤ 11)
theorem kinds_of (k : Int) : (k = 0 ∨ k = 1 ∨ k = 2 ∨ k = 3 ∨ k = 4 ∨ k = 5 ∨ k = 6 ∨ k = 7 ∨ k = 8 ∨ k = 9 ∨ k = 10 ∨ k = 11) ∨ (k < 0 ∨ 11 < k) := by omega
theorem fl_none (k : Int) (h : k < 0 ∨ 11 < k) : fl k = ⟨#[]⟩ := by
  unfold fl
  rw [if_neg (by omega), if_neg (by omega), if_neg (by omega), if_neg (by omega), if_neg (by omega), if_neg (by omega), if_neg (by omega), if_neg (by omega)]
theorem beqF {a b : Int} (h : a ≠ b) : (a == b) = false := by simpa using h
set_option maxRecDepth 100000 in
set_option maxHeartbeats 1000000 in
theorem fields_any (k : Int) (w : World) :
    Calls Tryd.prog 43 #[.int .i64 k] w fun e w' => e = .returned (.tuple #[.string (fl k), .bool (fb k)]) ∧ w = w' := by
  rcases kinds_of k with h | h
  · rcases h with rfl | rfl | rfl | rfl | rfl | rfl | rfl | rfl | rfl | rfl | rfl | rfl
    all_goals
      go_enter Tryd.func43, Tryd.ntmps43
      go_wp2
      go_ret2
      exact ⟨rfl, rfl⟩
  · have e1 := fl_none k h
    have e2 : fb k = false := by unfold fb; exact decide_eq_false (by omega)
    rw [e1, e2]
    have h0 := beqF (show k ≠ 0 by omega)
    have h1 := beqF (show k ≠ 1 by omega)
    have h2 := beqF (show k ≠ 2 by omega)
    have h3 := beqF (show k ≠ 3 by omega)
    have h4 := beqF (show k ≠ 4 by omega)
    have h5 := beqF (show k ≠ 5 by omega)
    have h6 := beqF (show k ≠ 6 by omega)
    have h7 := beqF (show k ≠ 7 by omega)
    have h8 := beqF (show k ≠ 8 by omega)
    have h9 := beqF (show k ≠ 9 by omega)
    have h10 := beqF (show k ≠ 10 by omega)
    have h11 := beqF (show k ≠ 11 by omega)
    clear h e1 e2
    go_enter Tryd.func43, Tryd.ntmps43
    go_wp2
    go_ret2
    exact ⟨rfl, rfl⟩
set_option maxRecDepth 100000 in
set_option maxHeartbeats 1000000 in
theorem rfields_any (k : Int) (w : World) :
    Calls Tryd.prog 31 #[.int .i64 k] w fun e w' => e = .returned (.tuple #[.string (fl k), .bool (fb k)]) ∧ Below w.heap.size w w' := by
  rcases kinds_of k with h | h
  · rcases h with rfl | rfl | rfl | rfl | rfl | rfl | rfl | rfl | rfl | rfl | rfl | rfl
    all_goals
      go_enter Tryd.func31, Tryd.ntmps31
      go_wp2
      go_ret2
      exact ⟨rfl, (Below.refl _ _).alloc (Nat.le_refl _) _⟩
  · have e1 := fl_none k h
    have e2 : fb k = false := by unfold fb; exact decide_eq_false (by omega)
    rw [e1, e2]
    clear e1 e2
    by_cases h0 : k < 0
    · clear h
      go_enter Tryd.func31, Tryd.ntmps31
      go_wp2
      go_ret2
      exact ⟨rfl, Below.refl _ _⟩
    · have h1 : 11 < k := by omega
      clear h
      go_enter Tryd.func31, Tryd.ntmps31
      go_wp2
      go_ret2
      exact ⟨rfl, Below.refl _ _⟩
end Go.Proofs.YtmencfmjmbbfhaaDoor
