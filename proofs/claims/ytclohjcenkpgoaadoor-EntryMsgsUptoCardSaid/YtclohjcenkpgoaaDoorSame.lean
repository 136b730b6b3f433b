/-
  Two entries are the same, or not; digits and sixteenths tell numbers and bytes apart.
  Conditions: named in each theorem.
-/
import Derived.Test.YtclohjcenkpgoaaDoorTxt
import Derived.Test.YtclohjcenkpgoaaDoorRDig
namespace Go.Proofs.YtclohjcenkpgoaaDoor
open Go.RowKit
set_option linter.unusedVariables false

def sameB (a b : En) : Bool :=
  decide (a.term = b.term) && (decide (a.index = b.index) && (decide (a.kind = b.kind) && (decide (a.client = b.client) && (decide (a.seq = b.seq) && (decide (a.block = b.block) && (decide (a.many = b.many) && (decide (a.node = b.node) && (decide (a.level = b.level) && (decide (a.data.toList = b.data.toList) && decide (a.old.toList = b.old.toList))))))))))
set_option maxRecDepth 100000 in
set_option maxHeartbeats 1000000 in
theorem eql_entry (a b : En) (w : World) : (binOp .eql 24 (ev a) (ev b)).run Tryd.prog w = .ok (.bool (sameB a b)) w := by
  go_simp
  unfold sameB
  repeat' split
  all_goals simp_all
set_option maxRecDepth 100000 in
set_option maxHeartbeats 1000000 in
theorem same_any (a b : En) (w : World) :
    Calls Tryd.prog 19 #[ev a, ev b] w fun r w' => r = .returned (.bool (sameB a b)) ∧ Below w.heap.size w w' := by
  have he := fun W => eql_entry a b W
  go_enter Tryd.func19, Tryd.ntmps19
  go_wp2
  go_ret
  exact ⟨rfl, ((Below.refl _ _).alloc (Nat.le_refl _) _).alloc (by simp) _⟩

/-- What digits come to. -/
def val (l : List UInt8) : Nat := l.foldl (fun a c => a * 10 + (c.toNat - 48)) 0
theorem d48_toNat (m : Nat) : (d48 m).toNat - 48 = m % 10 := by
  unfold d48
  rw [UInt8.toNat_ofNat']
  omega
theorem val_dec (n : Nat) : val (Lib.decDigits n) = n := by
  induction n using Nat.strongRecOn with
  | _ n ih =>
    by_cases h : n ≤ 9
    · rw [decD_small n h]
      unfold val
      simp only [List.foldl_cons, List.foldl_nil]
      rw [d48_toNat]; omega
    · rw [decD_big n (by omega)]
      have := ih (n / 10) (by omega)
      unfold val at *
      rw [List.foldl_append, this]
      simp only [List.foldl_cons, List.foldl_nil]
      rw [d48_toNat]; omega
theorem dec_inj {a b : Int} (ha : 0 ≤ a) (hb : 0 ≤ b) (h : dec a = dec b) : a = b := by
  have h1 : (Lib.decDigits a.toNat).toArray = (Lib.decDigits b.toNat).toArray := congrArg ByteArray.data h
  have h2 : Lib.decDigits a.toNat = Lib.decDigits b.toNat := List.toArray_inj h1
  have h3 := congrArg val h2
  rw [val_dec, val_dec] at h3
  omega
theorem num_pos (a : Int) (ha : 0 ≤ a) : num a = dec a := by
  unfold num dec Lib.itoa
  rw [if_neg (by omega)]
theorem hd_inj (a b : Nat) (ha : a < 16) (hb : b < 16) (h : hd a = hd b) : a = b := by
  have : ∀ x : Fin 16, ∀ y : Fin 16, hd x.1 = hd y.1 → x.1 = y.1 := by decide +kernel
  exact this ⟨a, ha⟩ ⟨b, hb⟩ h
theorem hexL_inj : ∀ (l r : List UInt8), hexL l = hexL r → l = r
  | [], [], _ => rfl
  | [], b :: r, h => by unfold hexL at h; simp at h
  | a :: l, [], h => by unfold hexL at h; simp at h
  | a :: l, b :: r, h => by
    unfold hexL at h
    rw [List.flatMap_cons, List.flatMap_cons] at h
    simp only [List.cons_append, List.nil_append, List.cons.injEq] at h
    obtain ⟨h1, h2, h3⟩ := h
    have ha := a.toNat_lt
    have hb := b.toNat_lt
    have e1 := hd_inj _ _ (by omega) (by omega) h1
    have e2 := hd_inj _ _ (by omega) (by omega) h2
    have e3 : a = b := UInt8.toNat_inj.1 (by omega)
    rw [e3, hexL_inj l r h3]
theorem hex_inj {a b : ByteArray} (h : hex a = hex b) : a = b := by
  have h1 : (hexL a.data.toList).toArray = (hexL b.data.toList).toArray := congrArg ByteArray.data h
  have h2 := hexL_inj _ _ (List.toArray_inj h1)
  exact ByteArray.ext (Array.toList_inj.1 h2)
end Go.Proofs.YtclohjcenkpgoaaDoor
