/-
  Texts of the layer below and of this one: Shelf, Math, VPut, VRd, Var, VTex.
  Conditions: named in each theorem.
-/
import Derived.Shelf.Strings.Builder1
import Derived.Shelf.Small.Strs
import Derived.Shelf.LaysM
import Derived.Shelf.Strconv.Clone
import Derived.Shelf.Strings.Search1
import Derived.Test.YtlmfnlaikdmphaaProg
import Derived.Laws.BitsAllLaws
import Derived.RowKit
import Derived.Laws.BytesArg
import Derived.Lib.Hide
import Derived.Test.YtlmfnlaikdmphaaRows
import Derived.WalkKit
import Derived.WalkSpells
import Derived.WalkLawsBesides
import Derived.Maps.AppendAt
import Derived.Deep.AppendLies
import Derived.Deep.RegionHeld3
namespace Go.Proofs
open Go.Shelf
def Try.laysM316_ren : Go.Shelf.Ren := ⟨fun | 316 => 102 | n => n, fun | 9 => 9 | 3 => 3 | 4 => 4 | 37 => 75 | 0 => 0 | 127 => 135 | 5 => 5 | n => n, fun | n => n⟩
theorem Try.laysM316 : Go.Proofs.LaysM.n316 Try.prog Try.laysM316_ren := {
  mixed := by kernel_rfl
  f316 := Try.func102.trans (congrArg some (by kernel_rfl))
  t0 := Try.underlying0
  a0 := Try.isAgg0
  z0 := Try.sizeOf0
  v0 := Try.zeroValue0
  t3 := Try.underlying3
  a3 := Try.isAgg3
  z3 := Try.sizeOf3
  v3 := Try.zeroValue3
  t4 := Try.underlying4
  a4 := Try.isAgg4
  z4 := Try.sizeOf4
  v4 := Try.zeroValue4
  t9 := Try.underlying9
  a9 := Try.isAgg9
  z9 := Try.sizeOf9
  v9 := Try.zeroValue9
  t37 := Try.underlying75
  a37 := Try.isAgg75
  z37 := Try.sizeOf75
  v37 := Try.zeroValue75
  t127 := Try.underlying135
  a127 := Try.isAgg135
  z127 := Try.sizeOf135
  v127 := Try.zeroValue135
  t5 := Try.underlying5
  a5 := Try.isAgg5
  z5 := Try.sizeOf5
  v5 := Try.zeroValue5
  i0 := by kernel_rfl
  i3 := by kernel_rfl
  i4 := by kernel_rfl
  i5 := by kernel_rfl
  i9 := by kernel_rfl
  i37 := by kernel_rfl
  i127 := by kernel_rfl }
open Go.RowKit in
theorem Try.stringslite_Clone (s : ByteArray) (w : World) (hlim : s.size ≤ 281474976710656) :
    Calls Try.prog 102 #[.string s] w fun e w' => e = .returned (.string s) ∧ Below w.heap.size w w' := Any.stringslite_Clone Try.laysM316 s w hlim
end Go.Proofs
namespace Go.Proofs.Ytlmfnlaikdmphaa
open Go.RowKit
namespace Vi
def val : List Nat → Nat
  | [] => 0
  | b :: l => b % 128 + 128 * val l
def put (n : Nat) : List Nat := if n < 128 then [n] else (n % 128 + 128) :: put (n / 128)
termination_by n
decreasing_by omega
theorem put_small (n : Nat) (h : n < 128) : put n = [n] := by rw [put, if_pos h]
theorem put_big (n : Nat) (h : 128 ≤ n) : put n = (n % 128 + 128) :: put (n / 128) := by rw [put, if_neg (by omega)]
theorem put_ind {p : Nat → Prop} (h0 : ∀ n, n < 128 → p n) (h1 : ∀ n, 128 ≤ n → p (n / 128) → p n) (n : Nat) : p n := by
  induction n using Nat.strongRecOn with
  | _ n ih =>
    rcases Nat.lt_or_ge n 128 with h | h
    · exact h0 n h
    · exact h1 n h (ih _ (by omega))
theorem put_form (n : Nat) : ∃ pre b, put n = pre ++ [b] ∧ (∀ x ∈ pre, 128 ≤ x ∧ x < 256) ∧ b < 128 ∧ (pre ≠ [] → b ≠ 0) ∧ val (put n) = n ∧ 128 ^ pre.length * b ≤ n := by
  induction n using put_ind with
  | h0 n h =>
    refine ⟨[], n, by rw [put_small n h]; rfl, by simp, h, by simp, ?_, by simp⟩
    rw [put_small n h]
    simp only [val]; omega
  | h1 n h ih =>
    obtain ⟨pre, b, e, hp, hb, hz, hv, hs⟩ := ih
    refine ⟨(n % 128 + 128) :: pre, b, by rw [put_big n h, e]; rfl, ?_, hb, fun _ => ?_, ?_, ?_⟩
    · intro x hx
      rcases List.mem_cons.1 hx with rfl | hx
      · omega
      · exact hp x hx
    · rcases pre with _ | ⟨c, pre⟩
      · intro hb0
        rw [e, hb0] at hv
        simp only [List.nil_append, val] at hv
        omega
      · exact hz (by simp)
    · rw [put_big n h]
      simp only [val]
      rw [hv]; omega
    · rw [List.length_cons, Nat.pow_succ]
      have : 128 ^ pre.length * 128 * b = 128 * (128 ^ pre.length * b) := by rw [Nat.mul_comm _ 128, Nat.mul_assoc]
      omega
theorem val_append : ∀ (l m : List Nat), val (l ++ m) = val l + 128 ^ l.length * val m
  | [], m => by simp [val]
  | b :: l, m => by
    rw [List.cons_append]
    simp only [val]
    rw [val_append l m, List.length_cons, Nat.pow_succ, Nat.mul_add, Nat.mul_comm _ 128, Nat.mul_assoc]
    omega
theorem val_snoc (l : List Nat) (b : Nat) : val (l ++ [b]) = val l + 128 ^ l.length * (b % 128) := by
  rw [val_append]; simp [val]
theorem val_lt : ∀ (l : List Nat), val l < 128 ^ l.length
  | [] => by simp [val]
  | b :: l => by
    have h := val_lt l
    rw [List.length_cons, Nat.pow_succ]
    simp only [val]
    omega
theorem put_lt (n : Nat) : ∀ x ∈ put n, x < 256 := by
  obtain ⟨pre, b, e, hp, hb, -⟩ := put_form n
  rw [e]
  intro x hx
  rcases List.mem_append.1 hx with hx | hx
  · exact (hp x hx).2
  · rw [List.mem_singleton] at hx; omega
theorem put_length_pos (n : Nat) : 0 < (put n).length := by
  obtain ⟨pre, b, e, -⟩ := put_form n
  rw [e]; simp
theorem put_length_le (n k : Nat) (h : n < 128 ^ (k + 1)) : (put n).length ≤ k + 1 := by
  induction k generalizing n with
  | zero => rw [put_small n (by simpa using h)]; simp
  | succ k ih =>
    rcases Nat.lt_or_ge n 128 with h1 | h1
    · rw [put_small n h1]; simp
    · have h2 := ih (n / 128) (by rw [Nat.div_lt_iff_lt_mul (by omega)]; rw [Nat.pow_succ] at h; exact h)
      rw [put_big n h1, List.length_cons]; omega
theorem put_val : ∀ (pre : List Nat) (b : Nat), (∀ x ∈ pre, 128 ≤ x ∧ x < 256) → b < 128 → (pre ≠ [] → b ≠ 0) → put (val (pre ++ [b])) = pre ++ [b]
  | [], b, _, hb, _ => by
    simp only [List.nil_append, val]
    rw [put_small _ (by omega)]
    congr 1; omega
  | x :: pre, b, hp, hb, hz => by
    have hx := hp x (by simp)
    have h0 := hz (by simp)
    have ih := put_val pre b (fun y hy => hp y (by simp [hy])) hb (fun _ => h0)
    have hv : 0 < val (pre ++ [b]) := by
      rw [val_snoc]
      have : 0 < 128 ^ pre.length * (b % 128) := Nat.mul_pos (Nat.pow_pos (by omega)) (by omega)
      omega
    rw [List.cons_append]
    simp only [val]
    rw [put_big _ (by omega)]
    have e1 : (x % 128 + 128 * val (pre ++ [b])) % 128 + 128 = x := by omega
    have e2 : (x % 128 + 128 * val (pre ++ [b])) / 128 = val (pre ++ [b]) := by omega
    rw [e1, e2, ih]
def cnt (l : List Nat) : Nat := (l.takeWhile fun b => decide (128 ≤ b)).length
def okL (l : List Nat) : Bool := decide (cnt l ≤ 9 ∧ cnt l < l.length ∧ (cnt l = 0 ∨ l.getD (cnt l) 0 ≠ 0) ∧ (cnt l = 9 → l.getD 9 0 ≤ 1))
def valL (l : List Nat) : Nat := if okL l = true then val (l.take (cnt l + 1)) else 0
def lenL (l : List Nat) : Nat := if okL l = true then cnt l + 1 else l.length
theorem cnt_eq : ∀ (l : List Nat) (i : Nat), (∀ j, j < i → 128 ≤ l.getD j 0) → i < l.length → l.getD i 0 < 128 → cnt l = i
  | [], i, _, hi, _ => by simp at hi
  | b :: l, 0, _, _, hb => by
    have : b < 128 := by simpa using hb
    unfold cnt
    rw [List.takeWhile_cons, if_neg (by simpa using this)]; rfl
  | b :: l, i + 1, h, hi, hb => by
    have h0 : 128 ≤ b := by simpa using h 0 (by omega)
    have ih := cnt_eq l i (fun j hj => by simpa using h (j + 1) (by omega)) (by simpa using hi) (by simpa using hb)
    unfold cnt at ih ⊢
    rw [List.takeWhile_cons, if_pos (by simpa using h0), List.length_cons, ih]
theorem cnt_ge : ∀ (l : List Nat) (i : Nat), (∀ j, j < i → 128 ≤ l.getD j 0) → i ≤ cnt l
  | _, 0, _ => Nat.zero_le _
  | [], i + 1, h => by have := h 0 (by omega); simp at this
  | b :: l, i + 1, h => by
    have h0 : 128 ≤ b := by simpa using h 0 (by omega)
    have ih := cnt_ge l i (fun j hj => by simpa using h (j + 1) (by omega))
    unfold cnt at ih ⊢
    rw [List.takeWhile_cons, if_pos (by simpa using h0), List.length_cons]
    omega
theorem cnt_mem : ∀ (l : List Nat), ∀ x ∈ l.take (cnt l), 128 ≤ x
  | [] => by simp
  | b :: l => by
    unfold cnt
    rw [List.takeWhile_cons]
    split
    · rename_i hb
      rw [List.length_cons, List.take_succ_cons]
      intro x hx
      rcases List.mem_cons.1 hx with rfl | hx
      · simpa using hb
      · exact cnt_mem l x hx
    · simp
theorem okL_no (l : List Nat) (i : Nat) (h : ∀ j, j < i → 128 ≤ l.getD j 0) (hi : i = 10 ∨ l.length ≤ i) : okL l = false := by
  have hc := cnt_ge l i h
  unfold okL
  rw [decide_eq_false_iff_not]
  rintro ⟨h1, h2, -⟩
  omega
theorem okL_at (l : List Nat) (i : Nat) (h : ∀ j, j < i → 128 ≤ l.getD j 0) (hi : i < l.length) (hb : l.getD i 0 < 128) (h9 : i ≤ 9) :
    okL l = decide ((i = 0 ∨ l.getD i 0 ≠ 0) ∧ (i = 9 → l.getD i 0 ≤ 1)) := by
  have hc := cnt_eq l i h hi hb
  unfold okL
  rw [hc, decide_eq_decide]
  constructor
  · rintro ⟨_, _, h3, h4⟩
    exact ⟨h3, fun e => by subst e; exact h4 rfl⟩
  · rintro ⟨h3, h4⟩
    exact ⟨h9, hi, h3, fun e => by subst e; exact h4 rfl⟩
theorem valL_at (l : List Nat) (i : Nat) (h : ∀ j, j < i → 128 ≤ l.getD j 0) (hi : i < l.length) (hb : l.getD i 0 < 128) (ho : okL l = true) :
    valL l = val (l.take (i + 1)) ∧ lenL l = i + 1 := by
  have hc := cnt_eq l i h hi hb
  unfold valL lenL
  rw [if_pos ho, if_pos ho, hc]; exact ⟨rfl, rfl⟩
theorem getD_take (l : List Nat) (i : Nat) (hi : i < l.length) : l.take (i + 1) = l.take i ++ [l.getD i 0] := by
  rw [List.take_succ_eq_append_getElem hi, List.getD_eq_getElem?_getD, List.getElem?_eq_getElem hi]; rfl
theorem val_take (l : List Nat) (i : Nat) (hi : i < l.length) : val (l.take (i + 1)) = val (l.take i) + 128 ^ i * (l.getD i 0 % 128) := by
  rw [getD_take l i hi, val_snoc, List.length_take, Nat.min_eq_left (by omega)]
theorem val_take_lt (l : List Nat) (i : Nat) : val (l.take i) < 128 ^ i := by
  refine Nat.lt_of_lt_of_le (val_lt _) ?_
  exact Nat.pow_le_pow_right (by omega) (by rw [List.length_take]; omega)
theorem val_take_le (l : List Nat) (i : Nat) (h : i ≤ 9) : val (l.take i) < 9223372036854775808 := by
  refine Nat.lt_of_lt_of_le (val_take_lt l i) ?_
  exact Nat.le_trans (Nat.pow_le_pow_right (by omega) h) (by decide)
theorem put_reads (n : Nat) (hn : n < 18446744073709551616) (t : List Nat) : okL (put n ++ t) = true ∧ valL (put n ++ t) = n ∧ lenL (put n ++ t) = (put n).length := by
  obtain ⟨pre, b, e, hp, hb, hz, hv, hs⟩ := put_form n
  have hl : (put n).length ≤ 10 := put_length_le n 9 (Nat.lt_trans hn (by decide))
  have hg : ∀ j, j < pre.length → 128 ≤ (put n ++ t).getD j 0 := by
    intro j hj
    rw [e, List.append_assoc, List.getD_eq_getElem?_getD, List.getElem?_append_left hj, List.getElem?_eq_getElem hj]
    exact (hp _ (List.getElem_mem hj)).1
  have hg2 : (put n ++ t).getD pre.length 0 = b := by
    rw [e, List.append_assoc, List.getD_eq_getElem?_getD, List.getElem?_append_right (Nat.le_refl _)]; simp
  have hlen : (put n).length = pre.length + 1 := by rw [e]; simp
  have hlt : pre.length < (put n ++ t).length := by rw [List.length_append]; omega
  have hok : okL (put n ++ t) = true := by
    rw [okL_at _ pre.length hg hlt (by omega) (by omega), hg2]
    rw [decide_eq_true_iff]
    refine ⟨?_, fun h9 => ?_⟩
    · rcases pre with _ | ⟨c, pre⟩
      · exact .inl rfl
      · exact .inr (hz (by simp))
    · rw [h9] at hs
      have : (128 : Nat) ^ 9 = 9223372036854775808 := by decide
      omega
  obtain ⟨h1, h2⟩ := valL_at _ pre.length hg hlt (by omega) hok
  refine ⟨hok, ?_, by omega⟩
  rw [h1, ← hlen, List.take_left' rfl, hv]
theorem put_test (l : List Nat) (i : Nat) (hl : ∀ x ∈ l, x < 256) (h : ∀ j, j < i → 128 ≤ l.getD j 0) (hi : i < l.length) (hb : l.getD i 0 < 128) (h9 : i ≤ 9) :
    (put (val (l.take (i + 1)) % 18446744073709551616) = l.take (i + 1)) ↔ okL l = true := by
  have ht := getD_take l i hi
  have hpre : ∀ x ∈ l.take i, 128 ≤ x ∧ x < 256 := by
    intro x hx
    refine ⟨?_, hl x (List.mem_of_mem_take hx)⟩
    obtain ⟨j, hj, rfl⟩ := List.getElem_of_mem hx
    rw [List.length_take] at hj
    have := h j (by omega)
    rw [List.getD_eq_getElem?_getD, List.getElem?_eq_getElem (by omega)] at this
    rw [List.getElem_take]; exact this
  have hlen : (l.take i).length = i := by rw [List.length_take]; omega
  have hvt := val_take l i hi
  have hv0 := val_take_lt l i
  rw [okL_at l i h hi hb h9, decide_eq_true_iff]
  generalize l.getD i 0 = b at *
  have hbm : b % 128 = b := Nat.mod_eq_of_lt hb
  rw [hbm] at hvt
  constructor
  · intro hp
    obtain ⟨pre', b', e', hp', hb', hz', hv', hs'⟩ := put_form (val (l.take (i + 1)) % 18446744073709551616)
    rw [hp] at e' hv'
    have hvs : val (l.take (i + 1)) < 18446744073709551616 := by rw [hv']; exact Nat.mod_lt _ (by omega)
    obtain ⟨e1, e2⟩ := List.append_inj' (e'.symm.trans ht) rfl
    obtain rfl : b' = b := by simpa using e2
    constructor
    · rcases Nat.eq_zero_or_pos i with h0 | h0
      · exact .inl h0
      · refine .inr (hz' ?_)
        rw [e1]
        intro hn
        rw [hn] at hlen
        simp at hlen; omega
    · intro e
      subst e
      have : (128 : Nat) ^ 9 = 9223372036854775808 := by decide
      rw [this] at hvt
      omega
  · rintro ⟨h1, h2⟩
    have hvs : val (l.take (i + 1)) < 18446744073709551616 := by
      rcases Nat.lt_or_ge i 9 with h8 | h8
      · exact Nat.lt_trans (val_take_le l (i + 1) (by omega)) (by omega)
      · obtain rfl : i = 9 := by omega
        have hb1 := h2 rfl
        have : (128 : Nat) ^ 9 = 9223372036854775808 := by decide
        rw [this] at hvt hv0
        omega
    rw [Nat.mod_eq_of_lt hvs, ht]
    refine put_val _ b hpre hb (fun hn => ?_)
    rcases h1 with rfl | h1
    · simp at hn
    · exact h1
end Vi
end Go.Proofs.Ytlmfnlaikdmphaa
namespace Go.Proofs.Ytlmfnlaikdmphaa
open Go.RowKit
theorem Try.info5 : (Try.prog.info? 5).map (fun i => (i.zero, i.size, i.bytes)) = some (some (.int .u8 0), 1, 1) := by kernel_rfl
namespace Vi
def cells (l : List Nat) : List Value := l.map fun (x : Nat) => Value.int .u8 ((x : Nat) : Int)
def str (l : List Nat) : ByteArray := strOfNums (l.map fun (x : Nat) => ((x : Nat) : Int))
def putB (n : Nat) : ByteArray := str (put n)
theorem cells_length (l : List Nat) : (cells l).length = l.length := by simp [cells]
theorem str_size (l : List Nat) : (str l).size = l.length := by unfold str; rw [strOfNums_size]; simp
theorem cells_snoc (l : List Nat) (x : Nat) : cells l ++ [Value.int .u8 (x : Int)] = cells (l ++ [x]) := by simp [cells]
theorem or128 (m : Nat) (_h : 128 ≤ m) : bits BinOp.or IntKind.u8 ((m : Int) % 256) 128 = ((m % 128 + 128 : Nat) : Int) := by
  have h1 : m % 256 < 256 := Nat.mod_lt _ (by omega)
  have e1 : (m : Int) % 256 = ((m % 256 : Nat) : Int) := by omega
  have h2 : bits BinOp.or IntKind.u8 ((m % 256 : Nat) : Int) 128 = ((m % 256 ||| 128 : Nat) : Int) := u8_or_nat (m % 256) 128 h1 (by omega)
  rw [e1, h2]
  congr 1
  have h : ∀ x : Nat, x < 256 → x ||| 128 = x % 128 + 128 := by decide +kernel
  rw [h _ h1]
  omega
end Vi
theorem str_of_own {w : World} {base : Nat} {v : Value} {n : Nat} {l : List Nat} (h : w.ownsRow base 5 1 v n (Vi.cells l)) : (convert 75 9 v).run Try.prog w = .ok (.string (Vi.str l)) w := by
  have hn : l.length = n := by have := h.1; rw [Vi.cells_length] at this; omega
  rcases Nat.eq_zero_or_pos n with h0 | h0
  · subst h0
    have hl : l = [] := List.eq_nil_of_length_eq_zero (by omega)
    subst hl
    rcases h.2 with ⟨rfl, _⟩ | ⟨g, cap, cur, rfl, _⟩
    · exact run_convert_bytes_nil w 75 5 Try.underlying75 Try.underlying5 0 0 9 Try.underlying9
    · exact run_convert_bytes_arg (P := Try.prog) w 75 5 Try.underlying75 Try.underlying5 g 0 0 cap [] rfl (by intro i hi; omega) 9 Try.underlying9
  · obtain ⟨g, cap, rfl, _⟩ := h.form h0
    refine run_convert_bytes_arg (P := Try.prog) w 75 5 Try.underlying75 Try.underlying5 g 0 n cap (l.map fun (x : Nat) => ((x : Nat) : Int)) (by simpa using hn) (fun i hi => ?_) 9 Try.underlying9
    have hc := h.cellAt i (by omega)
    rw [Nat.zero_add, hc]
    have hi' : i < l.length := by omega
    simp [Vi.cells, List.getD_eq_getElem?_getD, List.getElem?_eq_getElem hi']
set_option maxHeartbeats 1000000 in
set_option maxRecDepth 100000 in
theorem put_any (n : Nat) (w : World) (hn : n < 18446744073709551616) :
    Calls Try.prog 75 #[.int .u64 n] w fun e w' => e = .returned (.string (Vi.putB n)) ∧ Below w.heap.size w w' := by
  obtain ⟨i0, hi, hz0, hz1, hz2⟩ := info_parts Try.info5
  go_enter Try.func75, Try.ntmps75
  go_wp2_with (at_make; refine wpList_make_own _ rfl _ _ 75 rfl w.heap.size 5 i0 (.int .u8 0) 1 Try.underlying75 hi hz0 hz1 .i64 .i64 _ 10 rfl rfl rfl (by rw [hz2]; omega) (by unfold maxLen; omega) (Nat.le_refl _) ?_; intro w0 hown0 hgrow0)
  have HN := Lib.hid hn
  clear hn
  go_loopw [0, 3] (fun m v wr => ∃ (k : Nat) (pre : List Nat), m = .int .u64 (k : Int) ∧ k < 18446744073709551616 ∧ Hid (pre ++ Vi.put k = Vi.put n) ∧ wr.ownsRow w.heap.size 5 1 v pre.length (Vi.cells pre) ∧ Below w.heap.size w wr) (fun m _ _ => (Go.RowKit.intOf m).toNat)
  case atStart => exact ⟨n, [], rfl, HN.out, rfl, hown0, (Below.refl _ _).grown hgrow0 (Nat.le_refl _) (by simp)⟩
  case round =>
    obtain ⟨k, pre, rfl, hk, HP, hown, hb⟩ := hrel
    have hpl : pre.length ≤ 9 := by
      have h1 := Vi.put_length_le n 9 (Nat.lt_trans HN.out (by decide))
      have h2 := Vi.put_length_pos k
      have h3 := congrArg List.length HP.out
      rw [List.length_append] at h3
      omega
    have hsz := hb.size
    have HK := Lib.hid hk
    clear hk
    by_cases hlt : 128 ≤ k
    · have HO := Lib.hid (Vi.or128 k hlt)
      go_wp2_with (at_builtin; refine wpList_append_own _ rfl _ _ 75 rfl w.heap.size 5 i0 (.int .u8 0) 1 1 Try.underlying75 hi hz0 hz1 hz2 rfl (by decide) _ _ _ rfl (hown.alloc _) ⟨wr.heap.size, 0, none⟩ 1 1 [.int .u8 _] rfl rfl (cell_one_new _ _ _) (fun x hx => by simp at hx; subst hx; rfl) (by unfold maxLen; omega) (by omega) (by simp; omega) ?_; intro v' w3 hown' hgrow3 hnil3)
      go_roundw
      case rel =>
        rw [HO.out, Vi.cells_snoc] at hown'
        refine ⟨k / 128, pre ++ [k % 128 + 128], by first | rfl | (push_cast; rfl), by have := HK.out; omega, ?_, by rw [List.length_append]; exact hown', ?_⟩
        · have h1 := HP.out
          rw [Vi.put_big k hlt] at h1
          rw [List.append_assoc]; exact h1
        · exact (hb.alloc hsz _).grown hgrow3 (by simp; omega) (fun g hg => (hown.lt g hg).1)
      case measure => simp [Go.RowKit.intOf]; omega
    · have HM : Hid ((k : Int) % 256 = (k : Int)) := by show _ = _; omega
      have hk1 : k < 128 := by omega
      go_wp2_with (at_builtin; refine wpList_append_own _ rfl _ _ 75 rfl w.heap.size 5 i0 (.int .u8 0) 1 1 Try.underlying75 hi hz0 hz1 hz2 rfl (by decide) _ _ _ rfl (hown.alloc _) ⟨wr.heap.size, 0, none⟩ 1 1 [.int .u8 _] rfl rfl (cell_one_new _ _ _) (fun x hx => by simp at hx; subst hx; rfl) (by unfold maxLen; omega) (by omega) (by simp; omega) ?_; intro v' w3 hown' hgrow3 hnil3; (first | rw [HM.out] at hown' | skip); (rw [Vi.cells_snoc] at hown'); (have hcv := str_of_own (l := pre ++ [k]) hown'))
      go_ret
      refine ⟨?_, (hb.alloc hsz _).grown hgrow3 (by simp; omega) (fun g hg => (hown.lt g hg).1)⟩
      have h1 := HP.out
      rw [Vi.put_small k hk1] at h1
      rw [h1]; rfl
set_option maxHeartbeats 1000000 in
set_option maxRecDepth 100000 in
theorem rput_any (n : Nat) (w : World) (hn : n < 18446744073709551616) :
    Calls Try.prog 36 #[.int .u64 n] w fun e w' => e = .returned (.string (Vi.putB n)) ∧ Below w.heap.size w w' := by
  obtain ⟨i0, hi, hz0, hz1, hz2⟩ := info_parts Try.info5
  have HN := Lib.hid hn
  clear hn
  go_enter Try.func36, Try.ntmps36
  go_wp2
  go_loopw [0, 3] (fun m v wr => ∃ (k : Nat) (pre : List Nat), m = .int .u64 (k : Int) ∧ k < 18446744073709551616 ∧ Hid (pre ++ Vi.put k = Vi.put n) ∧ wr.ownsRow w.heap.size 5 1 v pre.length (Vi.cells pre) ∧ Below w.heap.size w wr) (fun m _ _ => (Go.RowKit.intOf m).toNat)
  case atStart => exact ⟨n, [], rfl, HN.out, rfl, World.ownsRow_nil _ _ _ _, Below.refl _ _⟩
  case round =>
    obtain ⟨k, pre, rfl, hk, HP, hown, hb⟩ := hrel
    have hpl : pre.length ≤ 9 := by
      have h1 := Vi.put_length_le n 9 (Nat.lt_trans HN.out (by decide))
      have h2 := Vi.put_length_pos k
      have h3 := congrArg List.length HP.out
      rw [List.length_append] at h3
      omega
    have hsz := hb.size
    have hki : (k : Int) ≤ 18446744073709551615 := by omega
    clear hk
    by_cases hlt : 128 ≤ k
    · go_wp2_with (at_builtin; refine wpList_append_own _ rfl _ _ 75 rfl w.heap.size 5 i0 (.int .u8 0) 1 1 Try.underlying75 hi hz0 hz1 hz2 rfl (by decide) _ _ _ rfl (hown.alloc _) ⟨wr.heap.size, 0, none⟩ 1 1 [.int .u8 _] rfl rfl (cell_one_new _ _ _) (fun x hx => by simp at hx; subst hx; rfl) (by unfold maxLen; omega) (by omega) (by simp; omega) ?_; intro v' w3 hown' hgrow3 hnil3)
      go_roundw
      case rel =>
        have HO : Hid (((k : Int) % 128 + 128) = ((k % 128 + 128 : Nat) : Int)) := by show _ = _; omega
        rw [HO.out, Vi.cells_snoc] at hown'
        refine ⟨k / 128, pre ++ [k % 128 + 128], by first | rfl | (push_cast; rfl), by omega, ?_, by rw [List.length_append]; exact hown', ?_⟩
        · have h1 := HP.out
          rw [Vi.put_big k hlt] at h1
          rw [List.append_assoc]; exact h1
        · exact (hb.alloc hsz _).grown hgrow3 (by simp; omega) (fun g hg => (hown.lt g hg).1)
      case measure => simp [Go.RowKit.intOf]; omega
    · have hk1 : k < 128 := by omega
      go_wp2_with (at_builtin; refine wpList_append_own _ rfl _ _ 75 rfl w.heap.size 5 i0 (.int .u8 0) 1 1 Try.underlying75 hi hz0 hz1 hz2 rfl (by decide) _ _ _ rfl (hown.alloc _) ⟨wr.heap.size, 0, none⟩ 1 1 [.int .u8 _] rfl rfl (cell_one_new _ _ _) (fun x hx => by simp at hx; subst hx; rfl) (by unfold maxLen; omega) (by omega) (by simp; omega) ?_; intro v' w3 hown' hgrow3 hnil3; (rw [Vi.cells_snoc] at hown'); (have hcv := str_of_own (l := pre ++ [k]) hown'))
      go_ret
      refine ⟨?_, (hb.alloc hsz _).grown hgrow3 (by simp; omega) (fun g hg => (hown.lt g hg).1)⟩
      have h1 := HP.out
      rw [Vi.put_small k hk1] at h1
      rw [h1]; rfl
theorem putB_size (n : Nat) (hn : n < 18446744073709551616) : (Vi.putB n).size ≤ 10 := by
  unfold Vi.putB
  rw [Vi.str_size]
  exact Vi.put_length_le n 9 (Nat.lt_trans hn (by decide))
end Go.Proofs.Ytlmfnlaikdmphaa
namespace Go.Proofs.Ytlmfnlaikdmphaa
open Go.RowKit
set_option linter.unusedVariables false
def Rd (T g : Nat) (s : ByteArray) (bad : Bool) (w : World) : Prop := w.heap[g]? = some (.cells #[.string s, .bool bad] T (0, 0))
def rdp (g : Nat) : Value := .pointer (some ⟨g, 0, none⟩)
section
variable {T g : Nat} {s : ByteArray} {bad : Bool} {w w' : World}
theorem Rd.lt (h : Rd T g s bad w) : g < w.heap.size := by
  rcases Nat.lt_or_ge g w.heap.size with hlt | hge
  · exact hlt
  · unfold Rd at h; rw [Array.getElem?_eq_none hge] at h; cases h
theorem Rd.cell0 (h : Rd T g s bad w) : w.cell? ⟨g, 0, none⟩ = some (.string s) := cell_of_row w g 0 _ T (0, 0) h
theorem Rd.cell1 (h : Rd T g s bad w) : w.cell? ⟨g, 1, none⟩ = some (.bool bad) := cell_of_row w g 1 _ T (0, 0) h
theorem Rd.frozen (h : Rd T g s bad w) (i : Nat) : w.frozen? ⟨g, i, none⟩ = false := by
  unfold Rd at h
  simp [World.frozen?, h]
theorem Rd.new (w : World) (T : Nat) (s : ByteArray) (bad : Bool) : Rd T w.heap.size s bad (w.alloc (.cells #[.string s, .bool bad] T)) := heap_alloc_new w _
theorem Rd.set0 (h : Rd T g s bad w) (t : ByteArray) : Rd T g t bad (w.setCell ⟨g, 0, none⟩ (.string t)) := by
  unfold Rd at h ⊢
  simp [World.setCell, Array.getElem?_modify, h]
theorem Rd.set1 (h : Rd T g s bad w) (b : Bool) : Rd T g s b (w.setCell ⟨g, 1, none⟩ (.bool b)) := by
  unfold Rd at h ⊢
  simp [World.setCell, Array.getElem?_modify, h]
theorem Rd.grown {row : Option Nat} (h : Rd T g s bad w) (hb : w.grownBy w' row) (hg : some g ≠ row) : Rd T g s bad w' := (hb.block g h.lt hg).trans h
theorem Rd.below {B : Nat} (h : Rd T g s bad w) (hb : Below B w w') (hg : g < B) : Rd T g s bad w' := (hb.block g hg).trans h
theorem Rd.drew (h : Rd T g s bad w) : Rd T g s bad w.drew := h
theorem grownBy_set {i : Nat} (v : Value) : w.grownBy (w.setCell ⟨g, i, none⟩ v) (some g) :=
  ⟨rfl, rfl, rfl, by simp, fun k _ hk => heap_setCell_other w ⟨g, i, none⟩ k v (fun e => hk (by simp [e]))⟩
theorem grownBy_below (h : Below w.heap.size w w') (row : Option Nat) : w.grownBy w' row := ⟨h.os, h.tape, h.output, h.size, fun k hk _ => h.block k hk⟩
theorem below_grownBy {B : Nat} {a : World} (h : Below B a w) (hg : w.grownBy w' (some g)) (hB : B ≤ w.heap.size) (hr : B ≤ g) : Below B a w' :=
  h.grown hg hB (fun k hk => by injection hk with hk; omega)
end
namespace Vi
def tlB (s : ByteArray) : ByteArray := s.extract 1 s.size
def hdB (s : ByteArray) : Nat := (s.data.toList.getD 0 0).toNat
end Vi
theorem new_any (s : ByteArray) (w : World) : Calls Try.prog 40 #[.string s] w fun e w' => e = .returned (rdp w.heap.size) ∧ w' = w.alloc (.cells #[.string s, .bool false] 130) := by
  go_enter Try.func40, Try.ntmps40
  go_wp2
  go_ret
  exact ⟨rfl, rfl⟩
theorem rnew_any (s : ByteArray) (w : World) : Calls Try.prog 46 #[.string s] w fun e w' => e = .returned (rdp w.heap.size) ∧ w' = w.alloc (.cells #[.string s, .bool false] 88) := by
  go_enter Try.func46, Try.ntmps46
  go_wp2
  go_ret
  exact ⟨rfl, rfl⟩
theorem fail_any (g : Nat) (s : ByteArray) (bad : Bool) (w : World) (h : Rd 130 g s bad w) :
    Calls Try.prog 83 #[rdp g] w fun e w' => e = .returned (.tuple #[]) ∧ Rd 130 g ⟨#[]⟩ true w' ∧ w.grownBy w' (some g) := by
  have c0 := h.cell0
  have c1 := h.cell1
  have f0 := h.frozen 0
  have f1 := h.frozen 1
  unfold rdp
  go_enter Try.func83, Try.ntmps83
  go_wp2
  go_end0
  exact ⟨rfl, (h.set0 _).set1 _, (grownBy_set _).trans (grownBy_set _)⟩
theorem rfail_any (g : Nat) (s : ByteArray) (bad : Bool) (w : World) (h : Rd 88 g s bad w) :
    Calls Try.prog 86 #[rdp g] w fun e w' => e = .returned (.tuple #[]) ∧ Rd 88 g ⟨#[]⟩ true w' ∧ w.grownBy w' (some g) := by
  have c0 := h.cell0
  have c1 := h.cell1
  have f0 := h.frozen 0
  have f1 := h.frozen 1
  unfold rdp
  go_enter Try.func86, Try.ntmps86
  go_wp2
  go_end0
  exact ⟨rfl, (h.set1 _).set0 _, (grownBy_set _).trans (grownBy_set _)⟩
theorem ok_any (g : Nat) (s : ByteArray) (bad : Bool) (w : World) (h : Rd 130 g s bad w) :
    Calls Try.prog 44 #[rdp g] w fun e w' => e = .returned (.bool (!bad)) ∧ w = w' := by
  have c1 := h.cell1
  unfold rdp
  go_enter Try.func44, Try.ntmps44
  go_wp2
  go_ret
  exact ⟨rfl, rfl⟩
theorem left_any (g : Nat) (s : ByteArray) (bad : Bool) (w : World) (h : Rd 130 g s bad w) :
    Calls Try.prog 43 #[rdp g] w fun e w' => e = .returned (.int .i64 s.size) ∧ w = w' := by
  have c0 := h.cell0
  unfold rdp
  go_enter Try.func43, Try.ntmps43
  go_wp2
  go_ret
  exact ⟨rfl, rfl⟩
theorem next_none (g : Nat) (bad : Bool) (w : World) (h : Rd 130 g ⟨#[]⟩ bad w) :
    Calls Try.prog 100 #[rdp g] w fun e w' => e = .returned (.int .u8 0) ∧ Rd 130 g ⟨#[]⟩ true w' ∧ w.grownBy w' (some g) := by
  have c0 := h.cell0
  have hF := fail_any g _ bad w h
  have HF := Lib.hid hF
  clear hF
  unfold rdp at *
  go_enter Try.func100, Try.ntmps100
  go_wp2_with fail
  refine HF.out.mono ?_
  rintro e w1 ⟨rfl, h1, h2⟩
  go_wp2
  go_ret
  exact ⟨rfl, h1, h2⟩
theorem next_some (g : Nat) (s : ByteArray) (bad : Bool) (w : World) (h : Rd 130 g s bad w) (hs : 0 < s.size) (hm : s.size ≤ 281474976710656) :
    Calls Try.prog 100 #[rdp g] w fun e w' => e = .returned (.int .u8 (Vi.hdB s)) ∧ Rd 130 g (Vi.tlB s) bad w' ∧ w.grownBy w' (some g) := by
  have c0 := h.cell0
  have f0 := h.frozen 0
  have hne : s.toList.isEmpty = false := by
    rw [Lib.toList_data, List.isEmpty_eq_false_iff]
    intro hn
    have h2 : s.size = s.data.toList.length := by simp
    rw [hn, List.length_nil] at h2; omega
  have hs' : (0 : Int) < s.size := by omega
  unfold rdp
  go_enter Try.func100, Try.ntmps100
  go_wp2
  go_ret
  refine ⟨?_, h.set0 _, grownBy_set _⟩
  have e : Vi.hdB s = s[0].toNat := by
    unfold Vi.hdB
    rw [List.getD_eq_getElem?_getD, List.getElem?_eq_getElem (by simpa using hs)]; rfl
  rw [e]; rfl
set_option maxHeartbeats 400000 in
theorem clone_any (s : ByteArray) (w : World) (hs : s.size ≤ 281474976710656) :
    Calls Try.prog 84 #[.string s] w fun e w' => e = .returned (.string s) ∧ Below w.heap.size w w' := by
  go_enter Try.func84, Try.ntmps84
  go_wp2_with fail
  refine (Try.stringslite_Clone s w hs).mono ?_
  rintro e w1 ⟨rfl, hb⟩
  go_wp2
  go_ret
  exact ⟨rfl, hb⟩
namespace Vi
def hasB (s : ByteArray) (n : Int) : Bool := decide (0 ≤ n ∧ n ≤ s.size)
def bytV (s : ByteArray) (n : Int) : ByteArray := if hasB s n = true then s.extract 0 n.toNat else ⟨#[]⟩
def bytT (s : ByteArray) (n : Int) : ByteArray := if hasB s n = true then s.extract n.toNat s.size else ⟨#[]⟩
end Vi
set_option maxHeartbeats 400000 in
theorem bytes_no (g : Nat) (s : ByteArray) (bad : Bool) (n : Int) (w : World) (h : Rd 130 g s bad w) (hn : n < 0 ∨ s.size < n) :
    Calls Try.prog 42 #[rdp g, .int .i64 n] w fun e w' => e = .returned (.string ⟨#[]⟩) ∧ Rd 130 g ⟨#[]⟩ true w' ∧ w.grownBy w' (some g) := by
  have hL := Lib.hid (left_any g _ bad w h)
  have hF := Lib.hid (fail_any g _ bad w h)
  rcases hn with hn | hn
  · unfold rdp at *
    go_enter Try.func42, Try.ntmps42
    go_wp2_with fail
    refine hF.out.mono ?_
    rintro e w1 ⟨rfl, h1, h2⟩
    go_wp2
    go_ret
    exact ⟨rfl, h1, h2⟩
  · have hn0 : ¬ n < 0 := by omega
    have hd : decide (n < 0) = false := by simpa using hn0
    unfold rdp at *
    go_enter Try.func42, Try.ntmps42
    go_wp2_with fail
    refine hL.out.mono ?_
    rintro e w1 ⟨rfl, rfl⟩
    go_wp2_with fail
    refine hF.out.mono ?_
    rintro e w1 ⟨rfl, h1, h2⟩
    go_wp2
    go_ret
    exact ⟨rfl, h1, h2⟩
set_option maxHeartbeats 400000 in
theorem bytes_yes (g : Nat) (s : ByteArray) (bad : Bool) (n : Nat) (w : World) (h : Rd 130 g s bad w) (hm : s.size ≤ 281474976710656) (hn : n ≤ s.size) :
    Calls Try.prog 42 #[rdp g, .int .i64 n] w fun e w' => e = .returned (.string (s.extract 0 n)) ∧ Rd 130 g (s.extract n s.size) bad w' ∧ w.grownBy w' (some g) := by
  have hL := Lib.hid (left_any g _ bad w h)
  have c0 := h.cell0
  have f0 := h.frozen 0
  have hx : (s.extract 0 n).size ≤ 281474976710656 := by rw [ByteArray.size_extract]; omega
  have hn0 : ¬ ((n : Int) < 0) := by omega
  have hn1 : (n : Int) ≤ s.size := by omega
  unfold rdp at *
  go_enter Try.func42, Try.ntmps42
  go_wp2_with fail
  refine hL.out.mono ?_
  rintro e w1 ⟨rfl, rfl⟩
  go_wp2_with fail
  refine (clone_any _ _ hx).mono ?_
  rintro e w1 ⟨rfl, hb⟩
  go_wp2
  go_ret
  have hr := h.set0 (s.extract n s.size)
  exact ⟨rfl, hr.below hb hr.lt, (grownBy_set _).trans (grownBy_below hb _)⟩
theorem bytes_any (g : Nat) (s : ByteArray) (bad : Bool) (n : Int) (w : World) (h : Rd 130 g s bad w) (hm : s.size ≤ 281474976710656) :
    Calls Try.prog 42 #[rdp g, .int .i64 n] w fun e w' => e = .returned (.string (Vi.bytV s n)) ∧ Rd 130 g (Vi.bytT s n) (bad || !Vi.hasB s n) w' ∧ w.grownBy w' (some g) := by
  by_cases hn : 0 ≤ n ∧ n ≤ s.size
  · have e : Vi.hasB s n = true := decide_eq_true hn
    unfold Vi.bytV Vi.bytT
    rw [if_pos e, if_pos e, e, Bool.not_true, Bool.or_false]
    obtain ⟨k, rfl⟩ := Int.eq_ofNat_of_zero_le hn.1
    exact bytes_yes g s bad k w h hm (by omega)
  · have e : Vi.hasB s n = false := decide_eq_false hn
    unfold Vi.bytV Vi.bytT
    rw [e, if_neg (by decide), if_neg (by decide), Bool.not_false, Bool.or_true]
    exact bytes_no g s bad n w h (by omega)
set_option maxHeartbeats 400000 in
theorem rbytes_no (g : Nat) (s : ByteArray) (bad : Bool) (n : Int) (w : World) (h : Rd 88 g s bad w) (hn : bad = true ∨ n < 0 ∨ s.size < n) :
    Calls Try.prog 85 #[rdp g, .int .i64 n] w fun e w' => e = .returned (.string ⟨#[]⟩) ∧ Rd 88 g ⟨#[]⟩ true w' ∧ w.grownBy w' (some g) := by
  have c0 := h.cell0
  have c1 := h.cell1
  have hF := Lib.hid (rfail_any g _ bad w h)
  cases bad
  · rcases (show n < 0 ∨ (0 ≤ n ∧ s.size < n) by rcases hn with hn | hn | hn <;> first | (cases hn; done) | omega) with hn | ⟨hn0, hn⟩
    · unfold rdp at *
      go_enter Try.func85, Try.ntmps85
      go_wp2_with fail
      refine hF.out.mono ?_
      rintro e w1 ⟨rfl, h1, h2⟩
      go_wp2
      go_ret
      exact ⟨rfl, h1, h2⟩
    · have hn0' : ¬ n < 0 := by omega
      unfold rdp at *
      go_enter Try.func85, Try.ntmps85
      go_wp2_with fail
      refine hF.out.mono ?_
      rintro e w1 ⟨rfl, h1, h2⟩
      go_wp2
      go_ret
      exact ⟨rfl, h1, h2⟩
  · clear hn
    unfold rdp at *
    go_enter Try.func85, Try.ntmps85
    go_wp2_with fail
    refine hF.out.mono ?_
    rintro e w1 ⟨rfl, h1, h2⟩
    go_wp2
    go_ret
    exact ⟨rfl, h1, h2⟩
set_option maxHeartbeats 400000 in
theorem rbytes_yes (g : Nat) (s : ByteArray) (n : Nat) (w : World) (h : Rd 88 g s false w) (_hm : s.size ≤ 281474976710656) (hn : n ≤ s.size) :
    Calls Try.prog 85 #[rdp g, .int .i64 n] w fun e w' => e = .returned (.string (s.extract 0 n)) ∧ Rd 88 g (s.extract n s.size) false w' ∧ w.grownBy w' (some g) := by
  have c0 := h.cell0
  have c1 := h.cell1
  have f0 := h.frozen 0
  have hn0 : ¬ ((n : Int) < 0) := by omega
  have hn1 : (n : Int) ≤ s.size := by omega
  unfold rdp at *
  go_enter Try.func85, Try.ntmps85
  go_wp2
  go_ret
  exact ⟨rfl, h.set0 _, grownBy_set _⟩
def Vi.Sane (s : ByteArray) (bad : Bool) : Prop := bad = true → s = ⟨#[]⟩
theorem rbytes_any (g : Nat) (s : ByteArray) (bad : Bool) (n : Int) (w : World) (h : Rd 88 g s bad w) (hs : Vi.Sane s bad) (hm : s.size ≤ 281474976710656) :
    Calls Try.prog 85 #[rdp g, .int .i64 n] w fun e w' => e = .returned (.string (Vi.bytV s n)) ∧ Rd 88 g (Vi.bytT s n) (bad || !Vi.hasB s n) w' ∧ w.grownBy w' (some g) := by
  cases bad
  · by_cases hn : 0 ≤ n ∧ n ≤ s.size
    · have e : Vi.hasB s n = true := decide_eq_true hn
      unfold Vi.bytV Vi.bytT
      rw [if_pos e, if_pos e, e, Bool.not_true, Bool.or_false]
      obtain ⟨k, rfl⟩ := Int.eq_ofNat_of_zero_le hn.1
      exact rbytes_yes g s k w h hm (by omega)
    · have e : Vi.hasB s n = false := decide_eq_false hn
      unfold Vi.bytV Vi.bytT
      rw [e, if_neg (by decide), if_neg (by decide), Bool.not_false, Bool.or_true]
      exact rbytes_no g s false n w h (by omega)
  · obtain rfl := hs rfl
    have e1 : Vi.bytV ⟨#[]⟩ n = ⟨#[]⟩ := by
      unfold Vi.bytV; split
      · apply ByteArray.ext; simp
      · rfl
    have e2 : Vi.bytT ⟨#[]⟩ n = ⟨#[]⟩ := by
      unfold Vi.bytT; split
      · apply ByteArray.ext; simp
      · rfl
    rw [e1, e2, Bool.true_or]
    exact rbytes_no g _ true n w h (.inl rfl)
end Go.Proofs.Ytlmfnlaikdmphaa
namespace Go.Proofs.Ytlmfnlaikdmphaa
open Go.RowKit
namespace Vi
def nums (s : ByteArray) : List Nat := s.data.toList.map (·.toNat)
theorem nums_length (s : ByteArray) : (nums s).length = s.size := by simp [nums]
theorem nums_lt (s : ByteArray) : ∀ x ∈ nums s, x < 256 := by
  intro x hx
  obtain ⟨b, _, rfl⟩ := List.mem_map.1 hx
  exact b.toNat_lt
theorem nums_getD_lt (s : ByteArray) (k : Nat) : (nums s).getD k 0 < 256 := by
  rw [List.getD_eq_getElem?_getD]
  rcases h : (nums s)[k]? with _ | x
  · decide
  · exact nums_lt s x (List.mem_of_getElem? h)
theorem extract_extract (s : ByteArray) (k : Nat) (h : k ≤ s.size) : tlB (s.extract k s.size) = s.extract (k + 1) s.size := by
  unfold tlB
  apply ByteArray.ext
  have e : min (k + (s.size - k)) s.size = s.size := by omega
  simp [ByteArray.data_extract, Array.extract_extract, e]
theorem nums_extract (s : ByteArray) (a b : Nat) : nums (s.extract a b) = ((nums s).drop a).take (b - a) := by
  unfold nums
  rw [ByteArray.data_extract, Array.toList_extract, List.extract_eq_take_drop, List.map_take, List.map_drop]
theorem hdB_eq (s : ByteArray) : hdB s = (nums s).getD 0 0 := by
  unfold hdB nums
  rw [List.getD_eq_getElem?_getD, List.getD_eq_getElem?_getD, List.getElem?_map]
  cases s.data.toList[0]? <;> rfl
theorem hdB_extract (s : ByteArray) (k : Nat) (h : k < s.size) : hdB (s.extract k s.size) = (nums s).getD k 0 := by
  rw [hdB_eq, nums_extract, List.getD_eq_getElem?_getD, List.getElem?_take, if_pos (by omega), List.getElem?_drop, Nat.add_zero, List.getD_eq_getElem?_getD]
def varV (s : ByteArray) : Nat := valL (nums s)
def varO (s : ByteArray) : Bool := okL (nums s)
def varT (s : ByteArray) : ByteArray := s.extract (lenL (nums s)) s.size
theorem low7 (b : Nat) (h : b < 256) : bits BinOp.andNot IntKind.u8 (b : Int) 128 = ((b % 128 : Nat) : Int) := by
  have h2 : bits BinOp.andNot IntKind.u8 (b : Int) 128 = ((b &&& (255 - 128) : Nat) : Int) := u8_andNot_nat b 128 h (by omega)
  rw [h2]
  congr 1
  exact Nat.and_two_pow_sub_one_eq_mod b 7
theorem val_ok (l : List Nat) (i : Nat) (hi : i < l.length) (h9 : i ≤ 9) (hb : i = 9 → l.getD i 0 ≤ 1) : val (l.take (i + 1)) % 18446744073709551616 = val (l.take (i + 1)) := by
  refine Nat.mod_eq_of_lt ?_
  rcases Nat.lt_or_ge i 9 with h | h
  · exact Nat.lt_trans (val_take_le l (i + 1) (by omega)) (by omega)
  · obtain rfl : i = 9 := by omega
    have h1 := val_take l 9 hi
    have h2 := val_take_lt l 9
    have h3 := hb rfl
    have h4 : (128 : Nat) ^ 9 = 9223372036854775808 := by decide
    rw [h4] at h1 h2
    have h5 : l.getD 9 0 % 128 ≤ 1 := Nat.le_trans (Nat.mod_le _ _) h3
    omega
theorem step7 (l : List Nat) (k : Nat) (hk : k < l.length) (h9 : k ≤ 9) (X : Int) (hX : X = ((l.getD k 0 % 128 : Nat) : Int)) :
    bits BinOp.or IntKind.u64 ((val (l.take k) % 18446744073709551616 : Nat) : Int) (IntKind.u64.wrap (IntKind.u64.wrap X * 2 ^ (7 * k))) = ((val (l.take (k + 1)) % 18446744073709551616 : Nat) : Int) := by
  subst hX
  have hc : l.getD k 0 % 128 < 128 := Nat.mod_lt _ (by omega)
  have hv := val_take_lt l k
  have hs := val_take l k hk
  have hle := val_take_le l k h9
  rw [hs]
  generalize val (l.take k) = V at *
  generalize l.getD k 0 % 128 = c at *
  have hp : (128 : Nat) ^ k = 2 ^ (7 * k) := by rw [Nat.pow_mul]
  rw [hp] at hv ⊢
  have hpq : 2 ^ (7 * k) * 2 ^ (64 - 7 * k) = 18446744073709551616 := by
    rw [← Nat.pow_add]
    have : 7 * k + (64 - 7 * k) = 64 := by omega
    rw [this]
  have hq0 : 0 < 2 ^ (64 - 7 * k) := Nat.pow_pos (by omega)
  have hw1 : IntKind.u64.wrap ((c : Nat) : Int) = ((c : Nat) : Int) := IntWalk.u64_in _ (by omega)
  have hw2 : IntKind.u64.wrap (((c : Nat) : Int) * 2 ^ (7 * k)) = ((2 ^ (7 * k) * (c % 2 ^ (64 - 7 * k)) : Nat) : Int) := by
    have e : ((c : Nat) : Int) * 2 ^ (7 * k) = ((2 ^ (7 * k) * c : Nat) : Int) := by
      rw [Int.natCast_mul, Int.natCast_pow, Int.mul_comm]; rfl
    have e2 : IntKind.u64.wrap ((2 ^ (7 * k) * c : Nat) : Int) = ((2 ^ (7 * k) * c : Nat) : Int) % 18446744073709551616 := by
      rw [IntKind.wrap_u64]
    rw [e, e2]
    have e3 : ((2 ^ (7 * k) * c : Nat) : Int) % 18446744073709551616 = (((2 ^ (7 * k) * c) % 18446744073709551616 : Nat) : Int) := by
      rw [Int.natCast_emod]; rfl
    rw [e3, ← hpq, Nat.mul_mod_mul_left]
  rw [hw1, hw2, Nat.mod_eq_of_lt (Nat.lt_trans hle (by omega))]
  have hcq : c % 2 ^ (64 - 7 * k) < 2 ^ (64 - 7 * k) := Nat.mod_lt _ hq0
  have hlt : V + 2 ^ (7 * k) * (c % 2 ^ (64 - 7 * k)) < 18446744073709551616 := by
    rw [← hpq]
    have h1 : 2 ^ (7 * k) * (c % 2 ^ (64 - 7 * k) + 1) ≤ 2 ^ (7 * k) * 2 ^ (64 - 7 * k) := Nat.mul_le_mul_left _ hcq
    rw [Nat.mul_add, Nat.mul_one] at h1
    omega
  have hor := Nat.two_pow_add_eq_or_of_lt hv (c % 2 ^ (64 - 7 * k))
  have hb := u64_or_nat V (2 ^ (7 * k) * (c % 2 ^ (64 - 7 * k))) (by omega) (by omega)
  rw [hb, Nat.or_comm, ← hor]
  congr 1
  have hdm : 2 ^ (7 * k) * c = 2 ^ (7 * k) * (c % 2 ^ (64 - 7 * k)) + 18446744073709551616 * (c / 2 ^ (64 - 7 * k)) := by
    rw [← hpq, Nat.mul_assoc, ← Nat.mul_add, Nat.mod_add_div]
  rw [hdm, ← Nat.add_assoc, Nat.add_mul_mod_self_left, Nat.mod_eq_of_lt hlt, Nat.add_comm]
theorem var_yes (s : ByteArray) (k : Nat) (h : ∀ j, j < k → 128 ≤ (nums s).getD j 0) (hk : k < s.size) (hb : (nums s).getD k 0 < 128) (h9 : k ≤ 9) (hc : (k = 0 ∨ (nums s).getD k 0 ≠ 0) ∧ (k = 9 → (nums s).getD k 0 ≤ 1)) :
    varV s = val ((nums s).take (k + 1)) % 18446744073709551616 ∧ varO s = true ∧ varT s = s.extract (k + 1) s.size := by
  have hl := nums_length s
  have ho : okL (nums s) = true := by rw [okL_at _ k h (by omega) hb h9]; exact decide_eq_true hc
  have hv := valL_at _ k h (by omega) hb ho
  unfold varV varO varT
  exact ⟨by rw [hv.1, val_ok _ k (by omega) h9 hc.2], ho, by rw [hv.2]⟩
theorem var_no (s : ByteArray) (h : okL (nums s) = false) : varV s = 0 ∧ varO s = false ∧ varT s = ⟨#[]⟩ := by
  unfold varV varO varT valL lenL
  rw [h, if_neg (by decide), if_neg (by decide), nums_length]
  refine ⟨rfl, rfl, ?_⟩
  apply ByteArray.ext
  simp
theorem var_no_at (s : ByteArray) (k : Nat) (h : ∀ j, j < k → 128 ≤ (nums s).getD j 0) (hk : k < s.size) (hb : (nums s).getD k 0 < 128) (h9 : k ≤ 9) (hc : ¬ ((k = 0 ∨ (nums s).getD k 0 ≠ 0) ∧ (k = 9 → (nums s).getD k 0 ≤ 1))) :
    varV s = 0 ∧ varO s = false ∧ varT s = ⟨#[]⟩ := by
  have hl := nums_length s
  refine var_no s ?_
  rw [okL_at _ k h (by omega) hb h9]; exact decide_eq_false hc
end Vi
theorem ret_eq {k : IntKind} {a b : Int} (h : a = b) : Ending.returned (.int k a) = .returned (.int k b) := by rw [h]
set_option maxHeartbeats 2000000 in
set_option maxRecDepth 100000 in
theorem var_any (g : Nat) (s : ByteArray) (bad : Bool) (w : World) (h : Rd 130 g s bad w) (hm : s.size ≤ 281474976710656) :
    Calls Try.prog 82 #[rdp g] w fun e w' => e = .returned (.int .u64 (Vi.varV s)) ∧ Rd 130 g (Vi.varT s) (bad || !Vi.varO s) w' ∧ w.grownBy w' (some g) := by
  have hmf : ∀ (fn : Fn) (first cap : Array Value) (w : World), (Instr.makeFunc fn first cap).run Try.prog w = .ok (.func fn first cap) w := fun _ _ _ _ => rfl
  have hl := Vi.nums_length s
  unfold rdp
  go_enter Try.func82, Try.ntmps82
  go_wp2
  go_loopw [4, 9] (fun n c wr => ∃ k : Nat, k ≤ 10 ∧ k ≤ s.size ∧ c = .int .i64 k ∧ n = .int .u64 ((Vi.val ((Vi.nums s).take k) % 18446744073709551616 : Nat) : Int) ∧ Hid (∀ j, j < k → 128 ≤ (Vi.nums s).getD j 0) ∧ Rd 130 g (s.extract k s.size) bad wr ∧ w.grownBy wr (some g)) (fun _ c _ => 10 - (Go.RowKit.intOf c).toNat)
  case atStart =>
    refine ⟨0, by omega, by omega, rfl, rfl, fun j hj => by omega, ?_, World.grownBy.refl _ _⟩
    have e : s.extract 0 s.size = s := by apply ByteArray.ext; simp
    rw [e]; exact h
  case round =>
    obtain ⟨k, hk, hks, rfl, rfl, HG, hr, hb⟩ := hrel
    by_cases hk10 : k < 10
    · rcases Nat.lt_or_ge k s.size with hlt | hge
      · have hN := Lib.hid (next_some g _ bad wr hr (by rw [ByteArray.size_extract]; omega) (by rw [ByteArray.size_extract]; omega))
        have hbt := Vi.nums_getD_lt s k
        have HH := Lib.hid (Vi.hdB_extract s k hlt)
        have HT := Lib.hid (Vi.extract_extract s k hks)
        have HB := Lib.hid (Vi.low7 _ hbt)
        clear hmf
        unfold rdp at *
        generalize hv : Vi.val ((Vi.nums s).take k) % 18446744073709551616 = v at *
        have HV := Lib.hid hv
        clear hv
        go_wp2_with fail
        refine hN.out.mono ?_
        rintro e w1 ⟨rfl, h1, h2⟩
        rw [HT.out] at h1
        rw [HH.out]
        clear HH HT hN
        have hb' := hb.trans h2
        clear h2 hb hr
        have HS := Lib.hid (fun X hX => Vi.step7 (Vi.nums s) k (by omega) (by omega) X hX)
        rw [HV.out] at HS
        by_cases hb128 : 128 ≤ (Vi.nums s).getD k 0
        · have HG' : Hid (∀ j, j < k + 1 → 128 ≤ (Vi.nums s).getD j 0) := fun j hj => by
            rcases Nat.lt_or_ge j k with h | h
            · exact HG.out j h
            · obtain rfl : j = k := by omega
              exact hb128
          generalize (Vi.nums s).getD k 0 = b at *
          go_wp2
          go_roundw
          case rel =>
            rw [HS.out _ HB.out]
            exact ⟨k + 1, by omega, by omega, by go_num, rfl, HG', h1, hb'⟩
          case measure => simp [Go.RowKit.intOf]; omega
        · by_cases hc : (k = 0 ∨ (Vi.nums s).getD k 0 ≠ 0) ∧ (k = 9 → (Vi.nums s).getD k 0 ≤ 1)
          · have HY := Lib.hid (Vi.var_yes s k HG.out hlt (by omega) (by omega) hc)
            have hb1 : (Vi.nums s).getD k 0 < 128 := by omega
            clear HG
            have hfin : ∀ e : Int, e = ((Vi.val ((Vi.nums s).take (k + 1)) % 18446744073709551616 : Nat) : Int) → (Ending.returned (.int .u64 e) = .returned (.int .u64 (Vi.varV s)) ∧ Rd 130 g (Vi.varT s) (bad || !Vi.varO s) w1 ∧ w.grownBy w1 (some g)) := by
              intro e he
              obtain ⟨y1, y2, y3⟩ := HY.out
              rw [y1, y2, y3, he, Bool.not_true, Bool.or_false]
              exact ⟨rfl, h1, hb'⟩
            have HF := Lib.hid hfin
            clear hfin HY
            generalize (Vi.nums s).getD k 0 = b at *
            rcases Nat.eq_zero_or_pos k with h0 | h0
            · have hk0 : ¬ ((0 : Int) < k) := by omega
              have hk9 : ((k : Int) == 9) = false := by rw [beq_eq_false_iff_ne]; omega
              have HK := Lib.hid h0
              clear h0 hc
              go_wp2
              go_ret
              exact HF.out _ (HS.out _ HB.out)
            · have hb0 : ((b : Int) == 0) = false := by rw [beq_eq_false_iff_ne]; omega
              have hk0 : ((0 : Int) < k) := by omega
              rcases Nat.lt_or_ge k 9 with h9 | h9
              · have hk9 : ((k : Int) == 9) = false := by rw [beq_eq_false_iff_ne]; omega
                clear hc
                go_wp2
                go_ret
                exact HF.out _ (HS.out _ HB.out)
              · have hk9 : ((k : Int) == 9) = true := by rw [beq_iff_eq]; omega
                have hb2 : (b : Int) ≤ 1 := by have := hc.2 (by omega); omega
                clear hc
                go_wp2
                go_ret
                exact HF.out _ (HS.out _ HB.out)
          · have HY := Lib.hid (Vi.var_no_at s k HG.out hlt (by omega) (by omega) hc)
            have hb1 : (Vi.nums s).getD k 0 < 128 := by omega
            clear HG
            have hfin : ∀ w', Rd 130 g ⟨#[]⟩ true w' → w1.grownBy w' (some g) → ((0 : Int) = (Vi.varV s : Int) ∧ Rd 130 g (Vi.varT s) (bad || !Vi.varO s) w' ∧ w.grownBy w' (some g)) := by
              intro w' h1' h2'
              obtain ⟨y1, y2, y3⟩ := HY.out
              rw [y1, y2, y3, Bool.not_false, Bool.or_true]
              exact ⟨rfl, h1', hb'.trans h2'⟩
            have HF := Lib.hid hfin
            clear hfin HY
            generalize (Vi.nums s).getD k 0 = b at *
            have hk0 : ((0 : Int) < k) := by omega
            by_cases hb0 : b = 0
            · have hb0' : ((b : Int) == 0) = true := by rw [beq_iff_eq]; omega
              have HB0 := Lib.hid hb0
              clear hb0 hc
              go_wp2_with fail
              refine (fail_any g _ bad _ h1).mono ?_
              rintro e w2 ⟨rfl, h3, h4⟩
              go_wp2
              go_ret
              exact ⟨ret_eq (HF.out w2 h3 h4).1, (HF.out w2 h3 h4).2⟩
            · have hb0' : ((b : Int) == 0) = false := by rw [beq_eq_false_iff_ne]; omega
              have hk9 : ((k : Int) == 9) = true := by rw [beq_iff_eq]; omega
              have hb2 : (1 : Int) < b := by omega
              clear hb0 hc
              go_wp2_with fail
              refine (fail_any g _ bad _ h1).mono ?_
              rintro e w2 ⟨rfl, h3, h4⟩
              go_wp2
              go_ret
              exact ⟨ret_eq (HF.out w2 h3 h4).1, (HF.out w2 h3 h4).2⟩
      · have hkk : k = s.size := by omega
        have he : s.extract k s.size = ⟨#[]⟩ := by
          apply ByteArray.ext; rw [hkk]; simp
        rw [he] at hr
        have hN := Lib.hid (next_none g bad wr hr)
        have HY := Lib.hid (Vi.var_no s (Vi.okL_no _ k HG.out (.inr (by omega))))
        have hfin : ∀ w', Rd 130 g ⟨#[]⟩ true w' → wr.grownBy w' (some g) → ((0 : Int) = (Vi.varV s : Int) ∧ Rd 130 g (Vi.varT s) (bad || !Vi.varO s) w' ∧ w.grownBy w' (some g)) := by
          intro w' h1' h2'
          obtain ⟨y1, y2, y3⟩ := HY.out
          rw [y1, y2, y3, Bool.not_false, Bool.or_true]
          exact ⟨rfl, h1', hb.trans h2'⟩
        have HF := Lib.hid hfin
        clear hfin HY HG hmf hr hb he
        unfold rdp at *
        have HZ : Hid (k = 0 → Vi.val ((Vi.nums s).take k) % 18446744073709551616 = 0) := by rintro rfl; simp [Vi.val]
        generalize Vi.val ((Vi.nums s).take k) % 18446744073709551616 = v at *
        have HKK := Lib.hid hkk
        clear hkk
        go_wp2_with fail
        refine hN.out.mono ?_
        rintro e w1 ⟨rfl, h1, h2⟩
        rcases Nat.eq_zero_or_pos k with h0 | h0
        · have hk0 : ¬ ((0 : Int) < k) := by omega
          have hk9 : ((k : Int) == 9) = false := by rw [beq_eq_false_iff_ne]; omega
          have HK := Lib.hid h0
          clear h0
          go_wp2
          go_ret
          have hz0 := HK.out
          have hv0 := HZ.out hz0
          have e0 : bits BinOp.or IntKind.u64 ((v : Nat) : Int) (IntKind.u64.wrap (IntKind.u64.wrap (bits BinOp.andNot IntKind.u8 0 128) * 2 ^ (7 * k))) = 0 := by
            rw [hv0, hz0]; decide
          exact ⟨ret_eq (e0.trans (HF.out w1 h1 h2).1), (HF.out w1 h1 h2).2⟩
        · have hk0 : ((0 : Int) < k) := by omega
          go_wp2_with fail
          refine (fail_any g _ true _ h1).mono ?_
          rintro e w2 ⟨rfl, h3, h4⟩
          go_wp2
          go_ret
          exact ⟨ret_eq (HF.out w2 h3 (h2.trans h4)).1, (HF.out w2 h3 (h2.trans h4)).2⟩
    · have hkk : k = 10 := by omega
      have HY := Lib.hid (Vi.var_no s (Vi.okL_no _ k HG.out (.inl hkk)))
      clear HG hmf
      generalize Vi.val ((Vi.nums s).take k) % 18446744073709551616 = v at *
      have HKK := Lib.hid hkk
      clear hkk
      unfold rdp at *
      go_wp2_with fail
      refine (fail_any g _ bad _ hr).mono ?_
      rintro e w2 ⟨rfl, h3, h4⟩
      go_wp2
      go_ret
      obtain ⟨y1, y2, y3⟩ := HY.out
      rw [y1, y2, y3, Bool.not_false, Bool.or_true]
      exact ⟨rfl, h3, hb.trans h4⟩
end Go.Proofs.Ytlmfnlaikdmphaa
namespace Go.Proofs.Ytlmfnlaikdmphaa
open Go.RowKit
namespace Vi
theorem valL_lt (l : List Nat) : valL l < 18446744073709551616 := by
  unfold valL
  split
  · rename_i ho
    have h : cnt l ≤ 9 ∧ cnt l < l.length ∧ (cnt l = 0 ∨ l.getD (cnt l) 0 ≠ 0) ∧ (cnt l = 9 → l.getD 9 0 ≤ 1) := of_decide_eq_true ho
    have e := val_ok l (cnt l) h.2.1 h.1 (fun h9 => by rw [h9]; exact h.2.2.2 h9)
    rw [← e]
    exact Nat.mod_lt _ (by omega)
  · omega
theorem varV_lt (s : ByteArray) : varV s < 18446744073709551616 := valL_lt _
theorem varT_size (s : ByteArray) : (varT s).size ≤ s.size := by unfold varT; rw [ByteArray.size_extract]; omega
end Vi
end Go.Proofs.Ytlmfnlaikdmphaa
