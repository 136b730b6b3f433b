/-
  The contracts of the readers' Fixed, the package's and the document's own.
  Conditions: named in each theorem.
-/
import Derived.Test.YtdoombcihobejaaGreatVRef
import Derived.Test.YtdoombcihobejaaGreatVFix
namespace Go.Proofs.YtdoombcihobejaaGreat
open Go.RowKit
set_option linter.unusedVariables false

namespace Vi
end Vi
namespace Vi
/-- Bytes as a number, the highest first. -/
def be (l : List Nat) : Nat := l.foldl (fun a b => a * 256 + b) 0
theorem be_snoc (l : List Nat) (b : Nat) : be (l ++ [b]) = be l * 256 + b := by unfold be; rw [List.foldl_append]; rfl
theorem be_take (l : List Nat) (k : Nat) (hk : k < l.length) : be (l.take (k + 1)) = be (l.take k) * 256 + l.getD k 0 := by
  rw [getD_take l k hk, be_snoc]
theorem be_take_lt (l : List Nat) (hl : ∀ j, l.getD j 0 < 256) : ∀ k, be (l.take k) < 256 ^ k
  | 0 => by simp [be]
  | k + 1 => by
    have ih := be_take_lt l hl k
    rw [Nat.pow_succ]
    rcases Nat.lt_or_ge k l.length with h | h
    · rw [be_take l k h]
      have := hl k
      omega
    · rw [List.take_of_length_le (by omega)]
      rw [List.take_of_length_le (by omega)] at ih
      omega
theorem be_take_le (l : List Nat) (hl : ∀ j, l.getD j 0 < 256) (k : Nat) (hk : k ≤ 7) : be (l.take k) < 72057594037927936 :=
  Nat.lt_of_lt_of_le (be_take_lt l hl k) (Nat.le_trans (Nat.pow_le_pow_right (by omega) hk) (by decide))
def hasF (s : ByteArray) (n : Int) : Bool := decide (0 ≤ n ∧ n ≤ 8 ∧ n ≤ s.size)
def fixV (s : ByteArray) (n : Int) : Nat := if hasF s n = true then be ((nums s).take n.toNat) else 0
def fixT (s : ByteArray) (n : Int) : ByteArray := if hasF s n = true then s.extract n.toNat s.size else ⟨#[]⟩
/-- A byte more, as the program has it. -/
theorem byte8 (n b : Nat) (hn : n < 72057594037927936) (hb : b < 256) (X : Int) (hX : X = (b : Int)) : bits BinOp.or IntKind.u64 (IntKind.u64.wrap ((n : Int) * 256)) X = ((n * 256 + b : Nat) : Int) := by
  subst hX
  have h1 : IntKind.u64.wrap ((n : Int) * 256) = ((2 ^ 8 * n : Nat) : Int) := by
    rw [IntWalk.u64_in _ (by omega), Int.natCast_mul]
    have : ((2 ^ 8 : Nat) : Int) = 256 := by decide
    rw [this]; omega
  have hor := Nat.two_pow_add_eq_or_of_lt (show b < 2 ^ 8 from hb) n
  rw [h1, u64_or_nat (2 ^ 8 * n) b (by omega) (by omega), ← hor]
  congr 1; omega
end Vi
set_option maxHeartbeats 400000 in
theorem fixedr_no (g : Nat) (s : ByteArray) (bad : Bool) (n : Int) (w : World) (h : Rd 142 g s bad w) (hn : n < 0 ∨ 8 < n ∨ s.size < n) :
    Calls Tryz.prog 56 #[rdp g, .int .i64 n] w fun e w' => e = .returned (.int .u64 0) ∧ Rd 142 g ⟨#[]⟩ true w' ∧ w.grownBy w' (some g) := by
  have hL := Lib.hid (left_any g _ bad w h)
  have hF := Lib.hid (fail_any g _ bad w h)
  rcases (show n < 0 ∨ 8 < n ∨ (0 ≤ n ∧ n ≤ 8 ∧ s.size < n) by omega) with hn | hn | ⟨hn0, hn8, hn⟩
  · unfold rdp at *
    go_enter Tryz.func56, Tryz.ntmps56
    go_wp2_with fail
    refine hF.out.mono ?_
    rintro e w1 ⟨rfl, h1, h2⟩
    go_wp2
    go_ret
    exact ⟨rfl, h1, h2⟩
  · have hn0 : ¬ n < 0 := by omega
    unfold rdp at *
    go_enter Tryz.func56, Tryz.ntmps56
    go_wp2_with fail
    refine hF.out.mono ?_
    rintro e w1 ⟨rfl, h1, h2⟩
    go_wp2
    go_ret
    exact ⟨rfl, h1, h2⟩
  · have hn0' : ¬ n < 0 := by omega
    have hn8' : ¬ 8 < n := by omega
    unfold rdp at *
    go_enter Tryz.func56, Tryz.ntmps56
    go_wp2_with fail
    refine hL.out.mono ?_
    rintro e w1 ⟨rfl, rfl⟩
    go_wp2_with fail
    refine hF.out.mono ?_
    rintro e w1 ⟨rfl, h1, h2⟩
    go_wp2
    go_ret
    exact ⟨rfl, h1, h2⟩
set_option maxHeartbeats 1000000 in
set_option maxRecDepth 100000 in
theorem fixedr_yes (g : Nat) (s : ByteArray) (bad : Bool) (n : Nat) (w : World) (h : Rd 142 g s bad w) (hm : s.size ≤ 281474976710656) (hn : n ≤ 8) (hns : n ≤ s.size) :
    Calls Tryz.prog 56 #[rdp g, .int .i64 n] w fun e w' => e = .returned (.int .u64 (Vi.be ((Vi.nums s).take n))) ∧ Rd 142 g (s.extract n s.size) bad w' ∧ w.grownBy w' (some g) := by
  have hmf : ∀ (fn : Fn) (first cap : Array Value) (w : World), (Instr.makeFunc fn first cap).run Tryz.prog w = .ok (.func fn first cap) w := fun _ _ _ _ => rfl
  have hL := Lib.hid (left_any g _ bad w h)
  have hl := Vi.nums_length s
  have hn0 : ¬ ((n : Int) < 0) := by omega
  have hn8 : ¬ ((8 : Int) < n) := by omega
  have hns' : decide (s.size < n) = false := decide_eq_false (by omega)
  have HE : Hid (s.extract 0 s.size = s) := by show _ = _; apply ByteArray.ext; simp
  unfold rdp at *
  go_enter Tryz.func56, Tryz.ntmps56
  go_wp2_with fail
  refine hL.out.mono ?_
  rintro e w1 ⟨rfl, rfl⟩
  go_wp2
  go_loopw [6, 24] (fun v c wr => ∃ k : Nat, k ≤ n ∧ c = .int .i64 k ∧ v = .int .u64 ((Vi.be ((Vi.nums s).take k) : Nat) : Int) ∧ Rd 142 g (s.extract k s.size) bad wr ∧ w.grownBy wr (some g)) (fun _ c _ => n - (intOf c).toNat)
  case atStart => exact ⟨0, by omega, rfl, rfl, by rw [HE.out]; exact h, World.grownBy.refl _ _⟩
  case round =>
    obtain ⟨k, hk, rfl, rfl, hr, hb⟩ := hrel
    by_cases hlt : k < n
    · have hN := Lib.hid (next_some g _ bad wr hr (by rw [ByteArray.size_extract]; omega) (by rw [ByteArray.size_extract]; omega))
      have HH := Lib.hid (Vi.hdB_extract s k (by omega))
      have HT := Lib.hid (Vi.extract_extract s k (by omega))
      have HS := Lib.hid (fun X hX => Vi.byte8 _ _ (Vi.be_take_le (Vi.nums s) (Vi.nums_getD_lt s) k (by omega)) (Vi.nums_getD_lt s k) X hX)
      have HB := Lib.hid (Vi.be_take (Vi.nums s) k (by omega))
      clear hmf hL hl
      unfold rdp at *
      generalize Vi.be ((Vi.nums s).take k) = v at *
      go_wp2_with fail
      refine hN.out.mono ?_
      rintro e w1 ⟨rfl, h1, h2⟩
      rw [HT.out] at h1
      rw [HH.out]
      generalize hg : (Vi.nums s).getD k 0 = b at *
      have HG := Lib.hid hg
      clear hg
      have hbt : b < 256 := by rw [← HG.out]; exact Vi.nums_getD_lt s k
      have HW : Hid (IntKind.u64.wrap (b : Int) = (b : Int)) := IntWalk.u64_in _ (by omega)
      clear hbt
      go_wp2
      go_roundw
      case rel =>
        rw [HS.out _ HW.out]
        exact ⟨k + 1, by omega, by go_num, by rw [HB.out], h1, hb.trans h2⟩
      case measure => simp [intOf]; omega
    · have hk' : k = n := by omega
      subst hk'
      clear hmf hL
      go_wp2
      go_ret
      exact ⟨rfl, hr, hb⟩
theorem fixedr_any (g : Nat) (s : ByteArray) (bad : Bool) (n : Int) (w : World) (h : Rd 142 g s bad w) (hm : s.size ≤ 281474976710656) :
    Calls Tryz.prog 56 #[rdp g, .int .i64 n] w fun e w' => e = .returned (.int .u64 (Vi.fixV s n)) ∧ Rd 142 g (Vi.fixT s n) (bad || !Vi.hasF s n) w' ∧ w.grownBy w' (some g) := by
  by_cases hn : 0 ≤ n ∧ n ≤ 8 ∧ n ≤ s.size
  · have e : Vi.hasF s n = true := decide_eq_true hn
    unfold Vi.fixV Vi.fixT
    rw [if_pos e, if_pos e, e, Bool.not_true, Bool.or_false]
    obtain ⟨k, rfl⟩ := Int.eq_ofNat_of_zero_le hn.1
    exact fixedr_yes g s bad k w h hm (by omega) (by omega)
  · have e : Vi.hasF s n = false := decide_eq_false hn
    unfold Vi.fixV Vi.fixT
    rw [e, if_neg (by decide), if_neg (by decide), Bool.not_false, Bool.or_true]
    exact fixedr_no g s bad n w h (by omega)
namespace Vi
end Vi
set_option maxHeartbeats 400000 in
theorem rfixedr_no (g : Nat) (s : ByteArray) (bad : Bool) (n : Int) (w : World) (h : Rd 156 g s bad w) (hn : n < 0 ∨ 8 < n) :
    Calls Tryz.prog 76 #[rdp g, .int .i64 n] w fun e w' => e = .returned (.int .u64 0) ∧ Rd 156 g ⟨#[]⟩ true w' ∧ w.grownBy w' (some g) := by
  have hF := Lib.hid (rfail_any g _ bad w h)
  rcases (show n < 0 ∨ 8 < n by omega) with hn | hn
  · unfold rdp at *
    go_enter Tryz.func76, Tryz.ntmps76
    go_wp2_with fail
    refine hF.out.mono ?_
    rintro e w1 ⟨rfl, h1, h2⟩
    go_wp2
    go_ret
    exact ⟨rfl, h1, h2⟩
  · have hn0 : ¬ n < 0 := by omega
    unfold rdp at *
    go_enter Tryz.func76, Tryz.ntmps76
    go_wp2_with fail
    refine hF.out.mono ?_
    rintro e w1 ⟨rfl, h1, h2⟩
    go_wp2
    go_ret
    exact ⟨rfl, h1, h2⟩
set_option maxHeartbeats 1000000 in
set_option maxRecDepth 100000 in
theorem rfixedr_yes (g : Nat) (s : ByteArray) (bad : Bool) (n : Nat) (w : World) (h : Rd 156 g s bad w) (hs : Vi.Sane s bad) (hm : s.size ≤ 281474976710656) (hn : n ≤ 8) :
    Calls Tryz.prog 76 #[rdp g, .int .i64 n] w fun e w' => e = .returned (.int .u64 (Vi.be (Vi.nums (Vi.bytV s n)))) ∧ Rd 156 g (Vi.bytT s n) (bad || !Vi.hasB s n) w' ∧ w.grownBy w' (some g) := by
  have hB := Lib.hid (rbytes_any g s bad n w h hs hm)
  have hsz : (Vi.bytV s n).size ≤ 8 := by
    unfold Vi.bytV
    split
    · rw [ByteArray.size_extract]; omega
    · exact Nat.zero_le _
  have hl := Vi.nums_length (Vi.bytV s n)
  generalize Vi.bytV s n = t at *
  have hn0 : ¬ ((n : Int) < 0) := by omega
  have hn8 : ¬ ((8 : Int) < n) := by omega
  unfold rdp at *
  go_enter Tryz.func76, Tryz.ntmps76
  go_wp2_with fail
  refine hB.out.mono ?_
  rintro e w1 ⟨rfl, h1, h2⟩
  clear hB
  go_wp2
  go_loop [6, 7] (fun v c => ∃ k : Nat, k ≤ t.size ∧ c = .int .i64 k ∧ v = .int .u64 ((Vi.be ((Vi.nums t).take k) : Nat) : Int)) (fun _ c => t.size - (intOf c).toNat)
  case atStart => exact ⟨0, by omega, rfl, rfl⟩
  case round =>
    obtain ⟨k, hk, rfl, rfl⟩ := hrel
    by_cases hlt : k < t.size
    · have he : t[k].toNat = (Vi.nums t).getD k 0 := by
        unfold Vi.nums
        rw [List.getD_eq_getElem?_getD, List.getElem?_map, List.getElem?_eq_getElem (by simpa using hlt)]; rfl
      have hbt := Vi.nums_getD_lt t k
      have hvt := Vi.be_take_le (Vi.nums t) (Vi.nums_getD_lt t) k (by omega)
      have HB := Lib.hid (Vi.be_take (Vi.nums t) k (by omega))
      generalize Vi.be ((Vi.nums t).take k) = v at *
      generalize (Vi.nums t).getD k 0 = b at *
      have hv1 : (v : Int) ≤ 72057594037927935 := by omega
      clear hvt
      have hW : IntKind.u64.wrap (b : Int) = (b : Int) := IntWalk.u64_in _ (by omega)
      have HW2 : Hid (IntKind.u64.wrap ((v : Int) * 256) = (v : Int) * 256) := IntWalk.u64_in _ (by omega)
      have HW3 : Hid (IntKind.u64.wrap ((v : Int) * 256 + b) = (v : Int) * 256 + b) := IntWalk.u64_in _ (by omega)
      go_wp2
      go_round
      case rel =>
        exact ⟨k + 1, by omega, by go_num, by rw [HB.out]; first | rfl | (push_cast; rfl)⟩
      case measure => simp [intOf]; omega
    · have hk' : k = t.size := by omega
      subst hk'
      have HT : Hid ((Vi.nums t).take t.size = Vi.nums t) := by show _ = _; rw [List.take_of_length_le (by omega)]
      go_wp2
      go_ret
      rw [HT.out]
      exact ⟨rfl, h1, h2⟩
theorem rfixedr_any (g : Nat) (s : ByteArray) (bad : Bool) (n : Int) (w : World) (h : Rd 156 g s bad w) (hs : Vi.Sane s bad) (hm : s.size ≤ 281474976710656) :
    Calls Tryz.prog 76 #[rdp g, .int .i64 n] w fun e w' => e = .returned (.int .u64 (Vi.fixV s n)) ∧ Rd 156 g (Vi.fixT s n) (bad || !Vi.hasF s n) w' ∧ w.grownBy w' (some g) := by
  by_cases hn : 0 ≤ n ∧ n ≤ 8
  · obtain ⟨k, rfl⟩ := Int.eq_ofNat_of_zero_le hn.1
    have hc := rfixedr_yes g s bad k w h hs hm (by omega)
    by_cases hks : k ≤ s.size
    · have e1 : Vi.hasF s k = true := decide_eq_true (by omega)
      have e2 : Vi.hasB s k = true := decide_eq_true (by omega)
      unfold Vi.fixV Vi.fixT
      unfold Vi.bytV Vi.bytT at hc
      rw [if_pos e2, if_pos e2, e2, Vi.nums_extract, List.drop_zero, Nat.sub_zero] at hc
      rw [if_pos e1, if_pos e1, e1]
      exact hc
    · have e1 : Vi.hasF s k = false := decide_eq_false (by omega)
      have e2 : Vi.hasB s k = false := decide_eq_false (by omega)
      unfold Vi.fixV Vi.fixT
      unfold Vi.bytV Vi.bytT at hc
      rw [e2, if_neg (by decide), if_neg (by decide)] at hc
      rw [e1, if_neg (by decide), if_neg (by decide)]
      exact hc
  · have e : Vi.hasF s n = false := decide_eq_false (by omega)
    unfold Vi.fixV Vi.fixT
    rw [e, if_neg (by decide), if_neg (by decide), Bool.not_false, Bool.or_true]
    exact rfixedr_no g s bad n w h (by omega)
theorem Vi.sane_fix (s : ByteArray) (bad : Bool) (n : Int) (h : Vi.Sane s bad) : Vi.Sane (Vi.fixT s n) (bad || !Vi.hasF s n) := by
  intro hb
  unfold Vi.fixT
  cases ho : Vi.hasF s n
  · rfl
  · rw [ho] at hb
    have := h (by simpa using hb)
    subst this
    apply ByteArray.ext; simp
namespace Vi
theorem be_fx (a : Nat) : ∀ k, be (fx a k) = a % 256 ^ k
  | 0 => by simp [fx, be, Nat.mod_one]
  | k + 1 => by
    have hc : ∀ (l : List Nat) (x : Nat), l.foldl (fun a b => a * 256 + b) x = x * 256 ^ l.length + be l := by
      intro l
      induction l with
      | nil => intro x; simp [be]
      | cons y l ih =>
        intro x
        have e : be (y :: l) = y * 256 ^ l.length + be l := by
          show l.foldl (fun a b => a * 256 + b) (0 * 256 + y) = _
          rw [Nat.zero_mul, Nat.zero_add]; exact ih y
        rw [List.foldl_cons, ih, e, List.length_cons, Nat.pow_succ, Nat.add_mul, Nat.mul_comm (256 ^ l.length) 256, Nat.mul_assoc, Nat.add_assoc]
    have e : be (fx a (k + 1)) = (a / 256 ^ k % 256) * 256 ^ (fx a k).length + be (fx a k) := by
      show (fx a k).foldl (fun a b => a * 256 + b) (0 * 256 + a / 256 ^ k % 256) = _
      rw [Nat.zero_mul, Nat.zero_add]; exact hc _ _
    rw [e, fx_length, be_fx a k, Nat.mod_pow_succ, Nat.mul_comm, Nat.add_comm]
theorem fx_lt (a : Nat) : ∀ k, ∀ x ∈ fx a k, x < 256
  | 0 => by simp [fx]
  | k + 1 => by
    intro x hx
    rw [fx] at hx
    rcases List.mem_cons.1 hx with rfl | hx
    · exact Nat.mod_lt _ (by omega)
    · exact fx_lt a k x hx
theorem fxB_eq (a k : Nat) (hk : k ≤ 8) : fxB a (k : Int) = str (fx a k) := by unfold fxB; rw [if_pos (by omega), Int.toNat_natCast]
theorem fxB_size (a k : Nat) (hk : k ≤ 8) : (fxB a (k : Int)).size = k := by rw [fxB_eq a k hk, str_size, fx_length]
theorem fix_put (a k : Nat) (hk : k ≤ 8) (t : ByteArray) : fixV (fxB a k ++ t) k = a % 256 ^ k ∧ fixT (fxB a k ++ t) k = t ∧ hasF (fxB a k ++ t) k = true := by
  have hz := fxB_size a k hk
  have hh : hasF (fxB a k ++ t) k = true := decide_eq_true (by rw [ByteArray.size_append]; omega)
  unfold fixV fixT
  rw [hh, if_pos rfl, if_pos rfl, Int.toNat_natCast]
  refine ⟨?_, ?_, rfl⟩
  · have e : nums (fxB a k) = fx a k := by rw [fxB_eq a k hk, nums_str _ (fx_lt a k)]
    rw [nums_append, e, List.take_left' (fx_length a k), be_fx]
  · have := extract_right (fxB a k) t
    rw [hz] at this
    exact this
end Vi
end Go.Proofs.YtdoombcihobejaaGreat
