/-
  The contracts of (*varint.Reader).Fixed and Text, and of the document's own.
  Conditions: named in each theorem.
-/
import Derived.Test.YtmalcldpihpfpaaGreatVar
namespace Go.Proofs.YtmalcldpihpfpaaGreat
open Go.RowKit
namespace Vi
theorem valL_lt (l : List Nat) : valL l < 18446744073709551616 := by
  unfold valL
  split
  · rename_i ho
    have h : cnt l ≤ 9 ∧ cnt l < l.length ∧ (cnt l = 0 ∨ l.getD (cnt l) 0 ≠ 0) ∧ (cnt l = 9 → l.getD 9 0 ≤ 1) := of_decide_eq_true ho
    have e := val_ok l (cnt l) h.2.1 h.1 (fun h9 => by rw [h9]; exact h.2.2.2 h9)
    rw [← e]
    exact Nat.mod_lt _ (by omega)
  · omega
theorem _root_.Go.Proofs.YtmalcldpihpfpaaGreat.bools3 (a b c : Bool) : (a || !b || !c) = (a || !(b && c)) := by cases a <;> cases b <;> cases c <;> rfl
theorem varV_lt (s : ByteArray) : varV s < 18446744073709551616 := valL_lt _
theorem varT_size (s : ByteArray) : (varT s).size ≤ s.size := by unfold varT; rw [ByteArray.size_extract]; omega
def texV (s : ByteArray) : ByteArray := bytV (varT s) (varV s)
def texT (s : ByteArray) : ByteArray := bytT (varT s) (varV s)
def texO (s : ByteArray) : Bool := varO s && hasB (varT s) (varV s)
end Vi

set_option maxHeartbeats 400000 in
set_option maxRecDepth 100000 in
theorem textr_any (g : Nat) (s : ByteArray) (bad : Bool) (w : World) (h : Rd 74 g s bad w) (hm : s.size ≤ 281474976710656) :
    Calls Tryz.prog 137 #[rdp g] w fun e w' => e = .returned (.string (Vi.texV s)) ∧ Rd 74 g (Vi.texT s) (bad || !Vi.texO s) w' ∧ w.grownBy w' (some g) := by
  have hmf : ∀ (fn : Fn) (first cap : Array Value) (w : World), (Instr.makeFunc fn first cap).run Tryz.prog w = .ok (.func fn first cap) w := fun _ _ _ _ => rfl
  have hV := Lib.hid (var_any g s bad w h hm)
  have hvl := Vi.varV_lt s
  have hts := Vi.varT_size s
  unfold Vi.texV Vi.texT Vi.texO
  generalize Vi.varV s = n at *
  generalize Vi.varT s = t at *
  have hw : Hid (IntKind.u64.wrap (t.size : Int) = (t.size : Int)) := IntWalk.u64_in _ (by omega)
  have HVL := Lib.hid hvl
  clear hvl
  by_cases hn : n ≤ t.size
  · have HN : Hid (IntKind.i64.wrap (n : Int) = (n : Int)) := IntWalk.i64_in _ (by omega)
    unfold rdp at *
    go_enter Tryz.func137, Tryz.ntmps137
    go_wp2_with fail
    refine hV.out.mono ?_
    rintro e w1 ⟨rfl, h1, h2⟩
    clear hV
    go_wp2_with fail
    refine (left_any g t _ w1 h1).mono ?_
    rintro e w2 ⟨rfl, rfl⟩
    go_wp2_with fail
    refine (bytes_any g t _ n w1 h1 (by omega)).mono ?_
    rintro e w2 ⟨rfl, h3, h4⟩
    go_wp2
    go_ret
    rw [bools3] at h3
    exact ⟨rfl, h3, h2.trans h4⟩
  · have hh : Vi.hasB t n = false := decide_eq_false (by omega)
    have e1 : Vi.bytV t n = ⟨#[]⟩ := by unfold Vi.bytV; rw [hh, if_neg (by decide)]
    have e2 : Vi.bytT t n = ⟨#[]⟩ := by unfold Vi.bytT; rw [hh, if_neg (by decide)]
    rw [e1, e2, hh, Bool.and_false, Bool.not_false, Bool.or_true]
    clear e1 e2 hh
    unfold rdp at *
    go_enter Tryz.func137, Tryz.ntmps137
    go_wp2_with fail
    refine hV.out.mono ?_
    rintro e w1 ⟨rfl, h1, h2⟩
    clear hV
    go_wp2_with fail
    refine (left_any g t _ w1 h1).mono ?_
    rintro e w2 ⟨rfl, rfl⟩
    go_wp2_with fail
    refine (fail_any g t _ w1 h1).mono ?_
    rintro e w2 ⟨rfl, h3, h4⟩
    go_wp2
    go_ret
    exact ⟨rfl, h3, h2.trans h4⟩

end Go.Proofs.YtmalcldpihpfpaaGreat
