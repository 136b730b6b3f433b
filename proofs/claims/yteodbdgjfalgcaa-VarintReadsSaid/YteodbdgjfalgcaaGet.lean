/-
  The contracts of (*varint.Reader).Fixed and Text, and of the document's own.
  Conditions: named in each theorem.
-/
import Derived.Test.YteodbdgjfalgcaaVar
namespace Go.Proofs.Yteodbdgjfalgcaa
open Go.RowKit
namespace Vi
/-- Bytes as a number, the highest first. -/
def be (l : List Nat) : Nat := l.foldl (fun a b => a * 256 + b) 0
theorem be_snoc (l : List Nat) (b : Nat) : be (l ++ [b]) = be l * 256 + b := by unfold be; rw [List.foldl_append]; rfl
theorem be_take (l : List Nat) (k : Nat) (hk : k < l.length) : be (l.take (k + 1)) = be (l.take k) * 256 + l.getD k 0 := by
  rw [getD_take l k hk, be_snoc]
theorem be_take_lt (l : List Nat) (hl : ∀ j, l.getD j 0 < 256) : ∀ k, be (l.take k) < 256 ^ k
  | 0 => by simp [be]
  | k + 1 => by
    have ih := be_take_lt l hl k
    rw [Nat.pow_succ]
    rcases Nat.lt_or_ge k l.length with h | h
    · rw [be_take l k h]
      have := hl k
      omega
    · rw [List.take_of_length_le (by omega)]
      rw [List.take_of_length_le (by omega)] at ih
      omega
theorem be_take_le (l : List Nat) (hl : ∀ j, l.getD j 0 < 256) (k : Nat) (hk : k ≤ 7) : be (l.take k) < 72057594037927936 :=
  Nat.lt_of_lt_of_le (be_take_lt l hl k) (Nat.le_trans (Nat.pow_le_pow_right (by omega) hk) (by decide))
def hasF (s : ByteArray) (n : Int) : Bool := decide (0 ≤ n ∧ n ≤ 8 ∧ n ≤ s.size)
def fixV (s : ByteArray) (n : Int) : Nat := if hasF s n = true then be ((nums s).take n.toNat) else 0
def fixT (s : ByteArray) (n : Int) : ByteArray := if hasF s n = true then s.extract n.toNat s.size else ⟨#[]⟩
/-- A byte more, as the program has it. -/
theorem byte8 (n b : Nat) (hn : n < 72057594037927936) (hb : b < 256) (X : Int) (hX : X = (b : Int)) : bits BinOp.or IntKind.u64 (IntKind.u64.wrap ((n : Int) * 256)) X = ((n * 256 + b : Nat) : Int) := by
  subst hX
  have h1 : IntKind.u64.wrap ((n : Int) * 256) = ((2 ^ 8 * n : Nat) : Int) := by
    rw [IntWalk.u64_in _ (by omega), Int.natCast_mul]
    have : ((2 ^ 8 : Nat) : Int) = 256 := by decide
    rw [this]; omega
  have hor := Nat.two_pow_add_eq_or_of_lt (show b < 2 ^ 8 from hb) n
  rw [h1, u64_or_nat (2 ^ 8 * n) b (by omega) (by omega), ← hor]
  congr 1; omega
end Vi

set_option maxHeartbeats 400000 in
theorem fixedr_no (g : Nat) (s : ByteArray) (bad : Bool) (n : Int) (w : World) (h : Rd 52 g s bad w) (hn : n < 0 ∨ 8 < n ∨ s.size < n) :
    Calls Try.prog 21 #[rdp g, .int .i64 n] w fun e w' => e = .returned (.int .u64 0) ∧ Rd 52 g ⟨#[]⟩ true w' ∧ w.grownBy w' (some g) := by
  have hL := Lib.hid (left_any g _ bad w h)
  have hF := Lib.hid (fail_any g _ bad w h)
  rcases (show n < 0 ∨ 8 < n ∨ (0 ≤ n ∧ n ≤ 8 ∧ s.size < n) by omega) with hn | hn | ⟨hn0, hn8, hn⟩
  · unfold rdp at *
    go_enter Try.func21, Try.ntmps21
    go_wp2_with fail
    refine hF.out.mono ?_
    rintro e w1 ⟨rfl, h1, h2⟩
    go_wp2
    go_ret
    exact ⟨rfl, h1, h2⟩
  · have hn0 : ¬ n < 0 := by omega
    unfold rdp at *
    go_enter Try.func21, Try.ntmps21
    go_wp2_with fail
    refine hF.out.mono ?_
    rintro e w1 ⟨rfl, h1, h2⟩
    go_wp2
    go_ret
    exact ⟨rfl, h1, h2⟩
  · have hn0' : ¬ n < 0 := by omega
    have hn8' : ¬ 8 < n := by omega
    unfold rdp at *
    go_enter Try.func21, Try.ntmps21
    go_wp2_with fail
    refine hL.out.mono ?_
    rintro e w1 ⟨rfl, rfl⟩
    go_wp2_with fail
    refine hF.out.mono ?_
    rintro e w1 ⟨rfl, h1, h2⟩
    go_wp2
    go_ret
    exact ⟨rfl, h1, h2⟩

set_option maxHeartbeats 1000000 in
set_option maxRecDepth 100000 in
theorem fixedr_yes (g : Nat) (s : ByteArray) (bad : Bool) (n : Nat) (w : World) (h : Rd 52 g s bad w) (hm : s.size ≤ 281474976710656) (hn : n ≤ 8) (hns : n ≤ s.size) :
    Calls Try.prog 21 #[rdp g, .int .i64 n] w fun e w' => e = .returned (.int .u64 (Vi.be ((Vi.nums s).take n))) ∧ Rd 52 g (s.extract n s.size) bad w' ∧ w.grownBy w' (some g) := by
  have hmf : ∀ (fn : Fn) (first cap : Array Value) (w : World), (Instr.makeFunc fn first cap).run Try.prog w = .ok (.func fn first cap) w := fun _ _ _ _ => rfl
  have hL := Lib.hid (left_any g _ bad w h)
  have hl := Vi.nums_length s
  have hn0 : ¬ ((n : Int) < 0) := by omega
  have hn8 : ¬ ((8 : Int) < n) := by omega
  have hns' : decide (s.size < n) = false := decide_eq_false (by omega)
  have HE : Hid (s.extract 0 s.size = s) := by show _ = _; apply ByteArray.ext; simp
  unfold rdp at *
  go_enter Try.func21, Try.ntmps21
  go_wp2_with fail
  refine hL.out.mono ?_
  rintro e w1 ⟨rfl, rfl⟩
  go_wp2
  go_loopw [6, 24] (fun v c wr => ∃ k : Nat, k ≤ n ∧ c = .int .i64 k ∧ v = .int .u64 ((Vi.be ((Vi.nums s).take k) : Nat) : Int) ∧ Rd 52 g (s.extract k s.size) bad wr ∧ w.grownBy wr (some g)) (fun _ c _ => n - (intOf c).toNat)
  case atStart => exact ⟨0, by omega, rfl, rfl, by rw [HE.out]; exact h, World.grownBy.refl _ _⟩
  case round =>
    obtain ⟨k, hk, rfl, rfl, hr, hb⟩ := hrel
    by_cases hlt : k < n
    · have hN := Lib.hid (next_some g _ bad wr hr (by rw [ByteArray.size_extract]; omega) (by rw [ByteArray.size_extract]; omega))
      have HH := Lib.hid (Vi.hdB_extract s k (by omega))
      have HT := Lib.hid (Vi.extract_extract s k (by omega))
      have HS := Lib.hid (fun X hX => Vi.byte8 _ _ (Vi.be_take_le (Vi.nums s) (Vi.nums_getD_lt s) k (by omega)) (Vi.nums_getD_lt s k) X hX)
      have HB := Lib.hid (Vi.be_take (Vi.nums s) k (by omega))
      clear hmf hL hl
      unfold rdp at *
      generalize Vi.be ((Vi.nums s).take k) = v at *
      go_wp2_with fail
      refine hN.out.mono ?_
      rintro e w1 ⟨rfl, h1, h2⟩
      rw [HT.out] at h1
      rw [HH.out]
      generalize hg : (Vi.nums s).getD k 0 = b at *
      have HG := Lib.hid hg
      clear hg
      have hbt : b < 256 := by rw [← HG.out]; exact Vi.nums_getD_lt s k
      have HW : Hid (IntKind.u64.wrap (b : Int) = (b : Int)) := IntWalk.u64_in _ (by omega)
      clear hbt
      go_wp2
      go_roundw
      case rel =>
        rw [HS.out _ HW.out]
        exact ⟨k + 1, by omega, by go_num, by rw [HB.out], h1, hb.trans h2⟩
      case measure => simp [intOf]; omega
    · have hk' : k = n := by omega
      subst hk'
      clear hmf hL
      go_wp2
      go_ret
      exact ⟨rfl, hr, hb⟩

theorem fixedr_any (g : Nat) (s : ByteArray) (bad : Bool) (n : Int) (w : World) (h : Rd 52 g s bad w) (hm : s.size ≤ 281474976710656) :
    Calls Try.prog 21 #[rdp g, .int .i64 n] w fun e w' => e = .returned (.int .u64 (Vi.fixV s n)) ∧ Rd 52 g (Vi.fixT s n) (bad || !Vi.hasF s n) w' ∧ w.grownBy w' (some g) := by
  by_cases hn : 0 ≤ n ∧ n ≤ 8 ∧ n ≤ s.size
  · have e : Vi.hasF s n = true := decide_eq_true hn
    unfold Vi.fixV Vi.fixT
    rw [if_pos e, if_pos e, e, Bool.not_true, Bool.or_false]
    obtain ⟨k, rfl⟩ := Int.eq_ofNat_of_zero_le hn.1
    exact fixedr_yes g s bad k w h hm (by omega) (by omega)
  · have e : Vi.hasF s n = false := decide_eq_false hn
    unfold Vi.fixV Vi.fixT
    rw [e, if_neg (by decide), if_neg (by decide), Bool.not_false, Bool.or_true]
    exact fixedr_no g s bad n w h (by omega)

namespace Vi
theorem valL_lt (l : List Nat) : valL l < 18446744073709551616 := by
  unfold valL
  split
  · rename_i ho
    have h : cnt l ≤ 9 ∧ cnt l < l.length ∧ (cnt l = 0 ∨ l.getD (cnt l) 0 ≠ 0) ∧ (cnt l = 9 → l.getD 9 0 ≤ 1) := of_decide_eq_true ho
    have e := val_ok l (cnt l) h.2.1 h.1 (fun h9 => by rw [h9]; exact h.2.2.2 h9)
    rw [← e]
    exact Nat.mod_lt _ (by omega)
  · omega
theorem _root_.Go.Proofs.Yteodbdgjfalgcaa.bools3 (a b c : Bool) : (a || !b || !c) = (a || !(b && c)) := by cases a <;> cases b <;> cases c <;> rfl
theorem varV_lt (s : ByteArray) : varV s < 18446744073709551616 := valL_lt _
theorem varT_size (s : ByteArray) : (varT s).size ≤ s.size := by unfold varT; rw [ByteArray.size_extract]; omega
def texV (s : ByteArray) : ByteArray := bytV (varT s) (varV s)
def texT (s : ByteArray) : ByteArray := bytT (varT s) (varV s)
def texO (s : ByteArray) : Bool := varO s && hasB (varT s) (varV s)
end Vi

set_option maxHeartbeats 400000 in
set_option maxRecDepth 100000 in
theorem textr_any (g : Nat) (s : ByteArray) (bad : Bool) (w : World) (h : Rd 52 g s bad w) (hm : s.size ≤ 281474976710656) :
    Calls Try.prog 23 #[rdp g] w fun e w' => e = .returned (.string (Vi.texV s)) ∧ Rd 52 g (Vi.texT s) (bad || !Vi.texO s) w' ∧ w.grownBy w' (some g) := by
  have hmf : ∀ (fn : Fn) (first cap : Array Value) (w : World), (Instr.makeFunc fn first cap).run Try.prog w = .ok (.func fn first cap) w := fun _ _ _ _ => rfl
  have hV := Lib.hid (var_any g s bad w h hm)
  have hvl := Vi.varV_lt s
  have hts := Vi.varT_size s
  unfold Vi.texV Vi.texT Vi.texO
  generalize Vi.varV s = n at *
  generalize Vi.varT s = t at *
  have hw : Hid (IntKind.u64.wrap (t.size : Int) = (t.size : Int)) := IntWalk.u64_in _ (by omega)
  have HVL := Lib.hid hvl
  clear hvl
  by_cases hn : n ≤ t.size
  · have HN : Hid (IntKind.i64.wrap (n : Int) = (n : Int)) := IntWalk.i64_in _ (by omega)
    unfold rdp at *
    go_enter Try.func23, Try.ntmps23
    go_wp2_with fail
    refine hV.out.mono ?_
    rintro e w1 ⟨rfl, h1, h2⟩
    clear hV
    go_wp2_with fail
    refine (left_any g t _ w1 h1).mono ?_
    rintro e w2 ⟨rfl, rfl⟩
    go_wp2_with fail
    refine (bytes_any g t _ n w1 h1 (by omega)).mono ?_
    rintro e w2 ⟨rfl, h3, h4⟩
    go_wp2
    go_ret
    rw [bools3] at h3
    exact ⟨rfl, h3, h2.trans h4⟩
  · have hh : Vi.hasB t n = false := decide_eq_false (by omega)
    have e1 : Vi.bytV t n = ⟨#[]⟩ := by unfold Vi.bytV; rw [hh, if_neg (by decide)]
    have e2 : Vi.bytT t n = ⟨#[]⟩ := by unfold Vi.bytT; rw [hh, if_neg (by decide)]
    rw [e1, e2, hh, Bool.and_false, Bool.not_false, Bool.or_true]
    clear e1 e2 hh
    unfold rdp at *
    go_enter Try.func23, Try.ntmps23
    go_wp2_with fail
    refine hV.out.mono ?_
    rintro e w1 ⟨rfl, h1, h2⟩
    clear hV
    go_wp2_with fail
    refine (left_any g t _ w1 h1).mono ?_
    rintro e w2 ⟨rfl, rfl⟩
    go_wp2_with fail
    refine (fail_any g t _ w1 h1).mono ?_
    rintro e w2 ⟨rfl, h3, h4⟩
    go_wp2
    go_ret
    exact ⟨rfl, h3, h2.trans h4⟩

end Go.Proofs.Yteodbdgjfalgcaa
