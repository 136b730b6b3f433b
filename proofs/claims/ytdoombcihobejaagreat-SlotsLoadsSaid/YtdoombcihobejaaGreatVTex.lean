/-
  The contracts of (*varint.Reader).Fixed and Text, and of the document's own.
  Conditions: named in each theorem.
-/
import Derived.Test.YtdoombcihobejaaGreatVar
namespace Go.Proofs.YtdoombcihobejaaGreat
open Go.RowKit
namespace Vi
theorem valL_lt (l : List Nat) : valL l < 18446744073709551616 := by
  unfold valL
  split
  · rename_i ho
    have h : cnt l ≤ 9 ∧ cnt l < l.length ∧ (cnt l = 0 ∨ l.getD (cnt l) 0 ≠ 0) ∧ (cnt l = 9 → l.getD 9 0 ≤ 1) := of_decide_eq_true ho
    have e := val_ok l (cnt l) h.2.1 h.1 (fun h9 => by rw [h9]; exact h.2.2.2 h9)
    rw [← e]
    exact Nat.mod_lt _ (by omega)
  · omega
theorem _root_.Go.Proofs.YtdoombcihobejaaGreat.bools3 (a b c : Bool) : (a || !b || !c) = (a || !(b && c)) := by cases a <;> cases b <;> cases c <;> rfl
theorem varV_lt (s : ByteArray) : varV s < 18446744073709551616 := valL_lt _
theorem varT_size (s : ByteArray) : (varT s).size ≤ s.size := by unfold varT; rw [ByteArray.size_extract]; omega
end Vi

end Go.Proofs.YtdoombcihobejaaGreat
