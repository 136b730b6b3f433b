/-
  The contracts of varint.Put and the document's own Put: what they return; nothing that was there has turned.
  Conditions: a number of 64 bits.
-/
import Derived.Test.YtmencfmjmbbfhaaDoorProg
import Derived.Test.YtmencfmjmbbfhaaDoorShelf
import Derived.Test.YtmencfmjmbbfhaaDoorMath
import Derived.WalkKit
import Derived.WalkSpells
import Derived.WalkLawsBesides
import Derived.Lib.Hide
import Derived.Maps.AppendAt
import Derived.Deep.AppendLies
namespace Go.Proofs.YtmencfmjmbbfhaaDoor
open Go.RowKit
theorem Tryd.info5 : (Tryd.prog.info? 5).map (fun i => (i.zero, i.size, i.bytes)) = some (some (.int .u8 0), 1, 1) := by kernel_rfl
namespace Vi
def cells (l : List Nat) : List Value := l.map fun (x : Nat) => Value.int .u8 ((x : Nat) : Int)
def str (l : List Nat) : ByteArray := strOfNums (l.map fun (x : Nat) => ((x : Nat) : Int))
def putB (n : Nat) : ByteArray := str (put n)
theorem cells_length (l : List Nat) : (cells l).length = l.length := by simp [cells]
theorem str_size (l : List Nat) : (str l).size = l.length := by unfold str; rw [strOfNums_size]; simp
theorem cells_snoc (l : List Nat) (x : Nat) : cells l ++ [Value.int .u8 (x : Int)] = cells (l ++ [x]) := by simp [cells]
theorem or128 (m : Nat) (_h : 128 ≤ m) : bits BinOp.or IntKind.u8 ((m : Int) % 256) 128 = ((m % 128 + 128 : Nat) : Int) := by
  have h1 : m % 256 < 256 := Nat.mod_lt _ (by omega)
  have e1 : (m : Int) % 256 = ((m % 256 : Nat) : Int) := by omega
  have h2 : bits BinOp.or IntKind.u8 ((m % 256 : Nat) : Int) 128 = ((m % 256 ||| 128 : Nat) : Int) := u8_or_nat (m % 256) 128 h1 (by omega)
  rw [e1, h2]
  congr 1
  have h : ∀ x : Nat, x < 256 → x ||| 128 = x % 128 + 128 := by decide +kernel
  rw [h _ h1]
  omega
end Vi
theorem str_of_own {w : World} {base : Nat} {v : Value} {n : Nat} {l : List Nat} (h : w.ownsRow base 5 1 v n (Vi.cells l)) : (convert 48 9 v).run Tryd.prog w = .ok (.string (Vi.str l)) w := by
  have hn : l.length = n := by have := h.1; rw [Vi.cells_length] at this; omega
  rcases Nat.eq_zero_or_pos n with h0 | h0
  · subst h0
    have hl : l = [] := List.eq_nil_of_length_eq_zero (by omega)
    subst hl
    rcases h.2 with ⟨rfl, _⟩ | ⟨g, cap, cur, rfl, _⟩
    · exact run_convert_bytes_nil w 48 5 Tryd.underlying48 Tryd.underlying5 0 0 9 Tryd.underlying9
    · exact run_convert_bytes_arg (P := Tryd.prog) w 48 5 Tryd.underlying48 Tryd.underlying5 g 0 0 cap [] rfl (by intro i hi; omega) 9 Tryd.underlying9
  · obtain ⟨g, cap, rfl, _⟩ := h.form h0
    refine run_convert_bytes_arg (P := Tryd.prog) w 48 5 Tryd.underlying48 Tryd.underlying5 g 0 n cap (l.map fun (x : Nat) => ((x : Nat) : Int)) (by simpa using hn) (fun i hi => ?_) 9 Tryd.underlying9
    have hc := h.cellAt i (by omega)
    rw [Nat.zero_add, hc]
    have hi' : i < l.length := by omega
    simp [Vi.cells, List.getD_eq_getElem?_getD, List.getElem?_eq_getElem hi']
set_option maxHeartbeats 1000000 in
set_option maxRecDepth 100000 in
theorem put_any (n : Nat) (w : World) (hn : n < 18446744073709551616) :
    Calls Tryd.prog 35 #[.int .u64 n] w fun e w' => e = .returned (.string (Vi.putB n)) ∧ Below w.heap.size w w' := by
  obtain ⟨i0, hi, hz0, hz1, hz2⟩ := info_parts Tryd.info5
  go_enter Tryd.func35, Tryd.ntmps35
  go_wp2_with (at_make; refine wpList_make_own _ rfl _ _ 48 rfl w.heap.size 5 i0 (.int .u8 0) 1 Tryd.underlying48 hi hz0 hz1 .i64 .i64 _ 10 rfl rfl rfl (by rw [hz2]; omega) (by unfold maxLen; omega) (Nat.le_refl _) ?_; intro w0 hown0 hgrow0)
  have HN := Lib.hid hn
  clear hn
  go_loopw [0, 3] (fun m v wr => ∃ (k : Nat) (pre : List Nat), m = .int .u64 (k : Int) ∧ k < 18446744073709551616 ∧ Hid (pre ++ Vi.put k = Vi.put n) ∧ wr.ownsRow w.heap.size 5 1 v pre.length (Vi.cells pre) ∧ Below w.heap.size w wr) (fun m _ _ => (intOf m).toNat)
  case atStart => exact ⟨n, [], rfl, HN.out, rfl, hown0, (Below.refl _ _).grown hgrow0 (Nat.le_refl _) (by simp)⟩
  case round =>
    obtain ⟨k, pre, rfl, hk, HP, hown, hb⟩ := hrel
    have hpl : pre.length ≤ 9 := by
      have h1 := Vi.put_length_le n 9 (Nat.lt_trans HN.out (by decide))
      have h2 := Vi.put_length_pos k
      have h3 := congrArg List.length HP.out
      rw [List.length_append] at h3
      omega
    have hsz := hb.size
    have HK := Lib.hid hk
    clear hk
    by_cases hlt : 128 ≤ k
    · have HO := Lib.hid (Vi.or128 k hlt)
      go_wp2_with (at_builtin; refine wpList_append_own _ rfl _ _ 48 rfl w.heap.size 5 i0 (.int .u8 0) 1 1 Tryd.underlying48 hi hz0 hz1 hz2 rfl (by decide) _ _ _ rfl (hown.alloc _) ⟨wr.heap.size, 0, none⟩ 1 1 [.int .u8 _] rfl rfl (cell_one_new _ _ _) (fun x hx => by simp at hx; subst hx; rfl) (by unfold maxLen; omega) (by omega) (by simp; omega) ?_; intro v' w3 hown' hgrow3 hnil3)
      go_roundw
      case rel =>
        rw [HO.out, Vi.cells_snoc] at hown'
        refine ⟨k / 128, pre ++ [k % 128 + 128], by first | rfl | (push_cast; rfl), by have := HK.out; omega, ?_, by rw [List.length_append]; exact hown', ?_⟩
        · have h1 := HP.out
          rw [Vi.put_big k hlt] at h1
          rw [List.append_assoc]; exact h1
        · exact (hb.alloc hsz _).grown hgrow3 (by simp; omega) (fun g hg => (hown.lt g hg).1)
      case measure => simp [intOf]; omega
    · have HM : Hid ((k : Int) % 256 = (k : Int)) := by show _ = _; omega
      have hk1 : k < 128 := by omega
      go_wp2_with (at_builtin; refine wpList_append_own _ rfl _ _ 48 rfl w.heap.size 5 i0 (.int .u8 0) 1 1 Tryd.underlying48 hi hz0 hz1 hz2 rfl (by decide) _ _ _ rfl (hown.alloc _) ⟨wr.heap.size, 0, none⟩ 1 1 [.int .u8 _] rfl rfl (cell_one_new _ _ _) (fun x hx => by simp at hx; subst hx; rfl) (by unfold maxLen; omega) (by omega) (by simp; omega) ?_; intro v' w3 hown' hgrow3 hnil3; (first | rw [HM.out] at hown' | skip); (rw [Vi.cells_snoc] at hown'); (have hcv := str_of_own (l := pre ++ [k]) hown'))
      go_ret
      refine ⟨?_, (hb.alloc hsz _).grown hgrow3 (by simp; omega) (fun g hg => (hown.lt g hg).1)⟩
      have h1 := HP.out
      rw [Vi.put_small k hk1] at h1
      rw [h1]; rfl
theorem putB_size (n : Nat) (hn : n < 18446744073709551616) : (Vi.putB n).size ≤ 10 := by
  unfold Vi.putB
  rw [Vi.str_size]
  exact Vi.put_length_le n 9 (Nat.lt_trans hn (by decide))
end Go.Proofs.YtmencfmjmbbfhaaDoor
