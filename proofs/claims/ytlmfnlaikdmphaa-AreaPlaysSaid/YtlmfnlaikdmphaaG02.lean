/-
  Texts of the layer below and of this one: VRef, VFix, VGet, Bend.
  Conditions: named in each theorem.
-/
import Derived.Test.YtlmfnlaikdmphaaG01
import Derived.Laws.BitsAllLaws
import Derived.RowKit
import Derived.Laws.BytesArg
import Derived.WalkKit
import Derived.WalkSpells
import Derived.WalkLawsBesides
import Derived.Lib.Hide
import Derived.Maps.AppendAt
import Derived.Deep.AppendLies
import Derived.Lib.ConvBytes
namespace Go.Proofs.Ytlmfnlaikdmphaa
open Go.RowKit
namespace Vi
theorem nums_inj {a b : ByteArray} (h : nums a = nums b) : a = b := by
  have hm : ∀ l m : List UInt8, l.map (·.toNat) = m.map (·.toNat) → l = m := by
    intro l
    induction l with
    | nil => intro m h; cases m with | nil => rfl | cons _ _ => simp at h
    | cons x l ih =>
      intro m h
      cases m with
      | nil => simp at h
      | cons y m =>
        rw [List.map_cons, List.map_cons, List.cons.injEq] at h
        rw [ih m h.2, UInt8.toNat_inj.1 h.1]
  have := hm _ _ h
  exact ByteArray.ext (Array.ext' this)
theorem nums_str (l : List Nat) (hl : ∀ x ∈ l, x < 256) : nums (str l) = l := by
  unfold nums str
  rw [strOfNums_data, List.map_map, List.map_map]
  conv => rhs; rw [← List.map_id l]
  refine List.map_congr_left fun x hx => ?_
  have := hl x hx
  simp
  omega
theorem beq_nums (a b : ByteArray) : (a.toList == b.toList) = decide (nums a = nums b) := by
  rw [Lib.toList_data, Lib.toList_data]
  by_cases h : nums a = nums b
  · rw [decide_eq_true h, nums_inj h]; simp
  · rw [decide_eq_false h, beq_eq_false_iff_ne]
    intro e
    exact h (by unfold nums; rw [e])
theorem step7b (l : List Nat) (k : Nat) (hk : k < l.length) (h9 : k ≤ 9) (Y : Int) (hY : Y = ((l.getD k 0 % 128 : Nat) : Int)) :
    bits BinOp.or IntKind.u64 ((val (l.take k) % 18446744073709551616 : Nat) : Int) (IntKind.u64.wrap (Y * 2 ^ (7 * k))) = ((val (l.take (k + 1)) % 18446744073709551616 : Nat) : Int) := by
  have h := step7 l k hk h9 Y hY
  rwa [IntWalk.u64_in Y (by omega)] at h
theorem rtest (s : ByteArray) (i : Nat) (h : ∀ j, j < i → 128 ≤ (nums s).getD j 0) (hi : i < s.size) (hb : (nums s).getD i 0 < 128) (h9 : i ≤ 9) :
    ((putB (val ((nums s).take (i + 1)) % 18446744073709551616)).toList == (s.extract 0 (i + 1)).toList) = okL (nums s) := by
  have hl := nums_length s
  rw [beq_nums, nums_extract, List.drop_zero, Nat.sub_zero]
  unfold putB
  rw [nums_str _ (put_lt _)]
  have ht := put_test (nums s) i (nums_lt s) h (by omega) hb h9
  cases ho : okL (nums s)
  · rw [decide_eq_false_iff_not, ht, ho]; decide
  · rw [decide_eq_true_iff, ht, ho]
end Vi
theorem rput_at (n : Nat) (g : Nat) (s : ByteArray) (w : World) (hn : n < 18446744073709551616) (hc : w.cell? ⟨g, 0, none⟩ = some (.string s)) :
    Calls Try.prog 36 #[.int .u64 n] w fun e w' => e = .returned (.string (Vi.putB n)) ∧ Below w.heap.size w w' ∧ w'.cell? ⟨g, 0, none⟩ = some (.string s) :=
  (rput_any n w hn).mono fun _ _ ⟨h1, h2⟩ => ⟨h1, h2, (h2.cell (World.block_lt_of_cell? w _ hc)).trans hc⟩
set_option maxHeartbeats 2000000 in
set_option maxRecDepth 100000 in
theorem rvar_any (g : Nat) (s : ByteArray) (bad : Bool) (w : World) (h : Rd 88 g s bad w) (hm : s.size ≤ 281474976710656) :
    Calls Try.prog 48 #[rdp g] w fun e w' => e = .returned (.int .u64 (Vi.varV s)) ∧ Rd 88 g (Vi.varT s) (bad || !Vi.varO s) w' ∧ w.grownBy w' (some g) := by
  have hl := Vi.nums_length s
  have c0 := h.cell0
  have f0 := h.frozen 0
  have hF := fun w' (hb : Below w.heap.size w w') => rfail_any g s bad w' (h.below hb h.lt)
  have HF := Lib.hid hF
  clear hF
  unfold rdp at *
  go_enter Try.func48, Try.ntmps48
  go_wp2
  go_loop [3, 4] (fun n c => ∃ k : Nat, k ≤ 10 ∧ k ≤ s.size ∧ c = .int .i64 k ∧ n = .int .u64 ((Vi.val ((Vi.nums s).take k) % 18446744073709551616 : Nat) : Int) ∧ Hid (∀ j, j < k → 128 ≤ (Vi.nums s).getD j 0)) (fun _ c => 10 - (Go.RowKit.intOf c).toNat)
  case atStart => exact ⟨0, by omega, by omega, rfl, rfl, fun j hj => by omega⟩
  case round =>
    obtain ⟨k, hk, hks, rfl, rfl, HG⟩ := hrel
    by_cases hk10 : k < 10
    · rcases Nat.lt_or_ge k s.size with hlt | hge
      · have hbt := Vi.nums_getD_lt s k
        have he : s[k].toNat = (Vi.nums s).getD k 0 := by
          unfold Vi.nums
          rw [List.getD_eq_getElem?_getD, List.getElem?_map, List.getElem?_eq_getElem (by simpa using hlt)]; rfl
        have HS := Lib.hid (fun Y hY => Vi.step7b (Vi.nums s) k (by omega) (by omega) Y hY)
        generalize hv : Vi.val ((Vi.nums s).take k) % 18446744073709551616 = v at *
        have HV := Lib.hid hv
        clear hv
        by_cases hb128 : 128 ≤ (Vi.nums s).getD k 0
        · have HG' : Hid (∀ j, j < k + 1 → 128 ≤ (Vi.nums s).getD j 0) := fun j hj => by
            rcases Nat.lt_or_ge j k with h | h
            · exact HG.out j h
            · obtain rfl : j = k := by omega
              exact hb128
          generalize (Vi.nums s).getD k 0 = b at *
          have hW : IntKind.u64.wrap (b : Int) = (b : Int) := IntWalk.u64_in _ (by omega)
          have hY : (b : Int) % 128 = ((b % 128 : Nat) : Int) := by omega
          have HY := Lib.hid hY
          clear hY
          have hb1 : (128 : Int) ≤ b := by omega
          go_wp2
          go_round
          case rel =>
            rw [HS.out _ HY.out]
            exact ⟨k + 1, by omega, by omega, by go_num, rfl, HG'⟩
          case measure => simp [Go.RowKit.intOf]; omega
        · have HR := Lib.hid (Vi.rtest s k HG.out hlt (by omega) (by omega))
          have HYes : Vi.okL (Vi.nums s) = true → Vi.varV s = Vi.val ((Vi.nums s).take (k + 1)) % 18446744073709551616 ∧ Vi.varO s = true ∧ Vi.varT s = s.extract (k + 1) s.size := by
            intro ho
            rw [Vi.okL_at _ k HG.out (by omega) (by omega) (by omega), decide_eq_true_iff] at ho
            exact Vi.var_yes s k HG.out hlt (by omega) (by omega) ho
          have HNo := Vi.var_no s
          have HV2 : Hid (Vi.val ((Vi.nums s).take (k + 1)) % 18446744073709551616 < 18446744073709551616) := Nat.mod_lt _ (by omega)
          generalize Vi.val ((Vi.nums s).take (k + 1)) % 18446744073709551616 = v2 at *
          generalize (Vi.nums s).getD k 0 = b at *
          have hW : IntKind.u64.wrap (b : Int) = (b : Int) := IntWalk.u64_in _ (by omega)
          have hY : (b : Int) % 128 = ((b % 128 : Nat) : Int) := by omega
          have HY := Lib.hid hY
          clear hY
          have hb1 : (b : Int) < 128 := by omega
          go_wp2
          rw [HS.out _ HY.out]
          have q1 : IntKind.i64.wrap ((k : Int) + 1) = (k : Int) + 1 := IntWalk.i64_in _ (by omega)
          have q2 : 0 ≤ (k : Int) + 1 := by omega
          have q3 : ((k : Int) + 1).toNat = k + 1 := by omega
          have q4 : (k : Int) + 1 ≤ s.size := by omega
          have hB : Below w.heap.size w w.drew := (Below.refl _ _).drew
          have HYes' := Lib.hid HYes
          have HNo' := Lib.hid HNo
          clear HS HY HV HG hW he HYes HNo
          go_region_held3 (fun w' => w'.cell? ⟨g, 0, none⟩ = some (.string s)) ((first | assumption | go_keep)) (first
            | (go_at_call 36; ((with_reducible refine (rput_at _ g s _ HV2.out ?_).mono ?_); (first | assumption | (simp [*]; done)); rintro e w4 ⟨rfl, hb4, hc4⟩; replace hB := hB.trans (hb4.mono hB.size); clear hb4)))
          rw [HR.out]
          have f4 : w4.frozen? ⟨g, 0, none⟩ = false := (hB.frozen (p := ⟨g, 0, none⟩) h.lt).trans f0
          cases ho : Vi.okL (Vi.nums s)
          · have HN := Lib.hid (HNo'.out ho)
            clear ho HR q1 q2 q3 q4 f0 c0
            go_wp2_with fail
            refine (HF.out w4 hB).mono ?_
            rintro e w5 ⟨rfl, h3, h4⟩
            go_wp2
            go_ret
            obtain ⟨y1, y2, y3⟩ := HN.out
            rw [y1, y2, y3, Bool.not_false, Bool.or_true]
            exact ⟨rfl, h3, (grownBy_below hB _).trans h4⟩
          · have HN := Lib.hid (HYes'.out ho)
            clear ho HR q1 q2 q3 q4 f0 c0
            have hk1 : (k : Int) + 1 ≤ s.size := by omega
            go_wp2
            go_ret
            obtain ⟨y1, y2, y3⟩ := HN.out
            rw [y1, y2, y3, Bool.not_true, Bool.or_false]
            exact ⟨rfl, (h.below hB h.lt).set0 _, (grownBy_below hB _).trans (grownBy_set _)⟩
      · have hkk : k = s.size := by omega
        have HY := Lib.hid (Vi.var_no s (Vi.okL_no _ k HG.out (.inr (by omega))))
        clear HG
        generalize Vi.val ((Vi.nums s).take k) % 18446744073709551616 = v at *
        have hks' : decide (k < s.size) = false := decide_eq_false (by omega)
        have HKK := Lib.hid hkk
        clear hkk
        go_wp2_with fail
        refine (HF.out w (Below.refl _ _)).mono ?_
        rintro e w5 ⟨rfl, h3, h4⟩
        go_wp2
        go_ret
        obtain ⟨y1, y2, y3⟩ := HY.out
        rw [y1, y2, y3, Bool.not_false, Bool.or_true]
        exact ⟨rfl, h3, h4⟩
    · have hkk : k = 10 := by omega
      have HY := Lib.hid (Vi.var_no s (Vi.okL_no _ k HG.out (.inl hkk)))
      clear HG
      generalize Vi.val ((Vi.nums s).take k) % 18446744073709551616 = v at *
      have HKK := Lib.hid hkk
      clear hkk
      go_wp2_with fail
      refine (HF.out w (Below.refl _ _)).mono ?_
      rintro e w5 ⟨rfl, h3, h4⟩
      go_wp2
      go_ret
      obtain ⟨y1, y2, y3⟩ := HY.out
      rw [y1, y2, y3, Bool.not_false, Bool.or_true]
      exact ⟨rfl, h3, h4⟩
theorem Vi.sane_var (s : ByteArray) (bad : Bool) (h : Vi.Sane s bad) : Vi.Sane (Vi.varT s) (bad || !Vi.varO s) := by
  intro hb
  cases ho : Vi.varO s
  · exact (Vi.var_no s ho).2.2
  · rw [ho] at hb
    have := h (by simpa using hb)
    subst this
    revert ho; decide
theorem Vi.sane_byt (s : ByteArray) (bad : Bool) (n : Int) (h : Vi.Sane s bad) : Vi.Sane (Vi.bytT s n) (bad || !Vi.hasB s n) := by
  intro hb
  unfold Vi.bytT
  cases ho : Vi.hasB s n
  · rfl
  · rw [ho] at hb
    have := h (by simpa using hb)
    subst this
    apply ByteArray.ext; simp
namespace Vi
theorem nums_append (a b : ByteArray) : nums (a ++ b) = nums a ++ nums b := by
  unfold nums
  rw [ByteArray.data_append, Array.toList_append, List.map_append]
theorem append_assoc3 (a b c : ByteArray) : a ++ b ++ c = a ++ (b ++ c) := by
  apply ByteArray.ext
  simp [ByteArray.data_append, Array.append_assoc]
theorem extract_left (a b : ByteArray) : (a ++ b).extract 0 a.size = a := by
  apply nums_inj
  rw [nums_extract, nums_append, List.drop_zero, Nat.sub_zero, List.take_left' (nums_length a)]
theorem extract_right (a b : ByteArray) : (a ++ b).extract a.size (a ++ b).size = b := by
  apply nums_inj
  rw [nums_extract, nums_append, List.drop_left' (nums_length a), List.take_of_length_le]
  rw [nums_length, ByteArray.size_append]; omega
end Vi
end Go.Proofs.Ytlmfnlaikdmphaa
namespace Go.Proofs.Ytlmfnlaikdmphaa
open Go.RowKit
set_option linter.unusedVariables false
namespace Vi
end Vi
namespace Vi
def fx (a : Nat) : Nat → List Nat
  | 0 => []
  | k + 1 => (a / 256 ^ k % 256) :: fx a k
def fxB (a : Nat) (k : Int) : ByteArray := if 0 ≤ k ∧ k ≤ 8 then str (fx a k.toNat) else ⟨#[]⟩
theorem fx_length (a : Nat) : ∀ k, (fx a k).length = k
  | 0 => rfl
  | k + 1 => by rw [fx, List.length_cons, fx_length a k]
def rowF (a s k : Nat) : List Nat := List.replicate (s - k) 0 ++ fx a k
theorem rowF_zero (a s : Nat) : rowF a s 0 = List.replicate s 0 := by simp [rowF, fx]
theorem rowF_full (a s : Nat) : rowF a s s = fx a s := by simp [rowF]
theorem rowF_set (a k j : Nat) : (rowF a (k + 1 + j) k).set j (a / 256 ^ k % 256) = rowF a (k + 1 + j) (k + 1) := by
  unfold rowF
  have e1 : k + 1 + j - k = j + 1 := by omega
  have e2 : k + 1 + j - (k + 1) = j := by omega
  rw [e1, e2, List.replicate_succ', List.append_assoc, List.set_append_right _ _ (by simp)]
  simp [fx]
theorem cells_set (l : List Nat) (j x : Nat) : (cells l).set j (Value.int .u8 (x : Int)) = cells (l.set j x) := by
  unfold cells; rw [List.map_set]
theorem div_pow (a k : Nat) : a / 256 ^ k / 256 = a / 256 ^ (k + 1) := by rw [Nat.div_div_eq_div_mul, Nat.pow_succ]
end Vi
theorem fixed_no (a : Nat) (s : Int) (w : World) (h : s < 0 ∨ 8 < s) :
    Calls Try.prog 74 #[.int .u64 a, .int .i64 s] w fun e w' => e = .returned (.string (Vi.fxB a s)) ∧ Below w.heap.size w w' := by
  have hz : Hid (Vi.fxB a s = ⟨#[]⟩) := by show _ = _; unfold Vi.fxB; rw [if_neg (by omega)]
  rcases h with h | h
  · go_enter Try.func74, Try.ntmps74
    go_wp2
    go_ret
    exact ⟨by rw [hz.out]; rfl, Below.refl _ _⟩
  · have h0 : ¬ s < 0 := by omega
    go_enter Try.func74, Try.ntmps74
    go_wp2
    go_ret
    exact ⟨by rw [hz.out]; rfl, Below.refl _ _⟩
set_option maxHeartbeats 1000000 in
set_option maxRecDepth 100000 in
theorem fixed_yes (a s : Nat) (w : World) (hs : s ≤ 8) :
    Calls Try.prog 74 #[.int .u64 a, .int .i64 s] w fun e w' => e = .returned (.string (Vi.fxB a s)) ∧ Below w.heap.size w w' := by
  obtain ⟨i0, hi, hz0, hz1, hz2⟩ := info_parts Try.info5
  go_enter Try.func74, Try.ntmps74
  go_wp2_with (at_make; refine wpList_make_full _ rfl _ _ 75 rfl w.heap.size 5 i0 (.int .u8 0) 1 Try.underlying75 hi hz0 hz1 .i64 .i64 _ _ s rfl rfl rfl rfl (by rw [hz2]; omega) (by unfold maxLen; omega) (Nat.le_refl _) ?_; intro w0 hown0 hgrow0)
  have hr0 : w0.ownsRow w.heap.size 5 1 (Value.slice (some ⟨w.heap.size, 0, none⟩) s s) s (Vi.cells (Vi.rowF a s 0)) := by
    have e : (madeCells (Value.int IntKind.u8 0).cells (s * 1)).toList = Vi.cells (Vi.rowF a s 0) := by
      rw [Vi.rowF_zero, Nat.mul_one]
      show (madeCells #[Value.int IntKind.u8 0] s).toList = _
      rw [toList_madeCells_one]; simp [Vi.cells]
    rw [← e]; exact hown0
  have hb0 : Below w.heap.size w w0 := (Below.refl _ _).grown hgrow0 (Nat.le_refl _) (by simp)
  clear hown0 hgrow0
  go_loopw [0, 16] (fun m c wr => ∃ k : Nat, k ≤ s ∧ m = .int .u64 ((a / 256 ^ k : Nat) : Int) ∧ c = .int .i64 k ∧ wr.ownsRow w.heap.size 5 1 (Value.slice (some ⟨w.heap.size, 0, none⟩) s s) s (Vi.cells (Vi.rowF a s k)) ∧ Below w.heap.size w wr) (fun _ c _ => s - (Go.RowKit.intOf c).toNat)
  case atStart => exact ⟨0, by omega, by simp, rfl, hr0, hb0⟩
  case round =>
    obtain ⟨k, hk, rfl, rfl, hr, hb⟩ := hrel
    have HD := Lib.hid (Vi.div_pow a k)
    generalize hm : a / 256 ^ k = m at *
    have HM := Lib.hid hm
    clear hm
    by_cases hlt : k < s
    · obtain ⟨j, hj⟩ : ∃ j, j = s - 1 - k := ⟨_, rfl⟩
      have hji : (s : Int) - 1 - k = (j : Int) := by omega
      have hc : wr.cell? ⟨w.heap.size, j, none⟩ = some (.int .u8 0) := by
        rw [hr.cellAt j (by omega)]
        have e : (Vi.cells (Vi.rowF a s k))[j]? = some (.int .u8 0) := by
          unfold Vi.cells Vi.rowF
          rw [List.getElem?_map, List.getElem?_append_left (by rw [List.length_replicate]; omega), List.getElem?_replicate, if_pos (by omega)]; rfl
        exact e
      have hf := hr.frozenAt j
      have HJ := Lib.hid hj
      clear hj
      go_wp2
      go_roundw
      case rel =>
        have hst := hr.stored j (Value.int .u8 ((m % 256 : Nat) : Int))
        have es : s = k + 1 + j := by have := HJ.out; omega
        refine ⟨k + 1, by omega, by rw [← HD.out, Int.natCast_ediv]; rfl, by go_num, ?_, hb.setCell (Nat.le_refl _) _⟩
        have e : Vi.cells (Vi.rowF a s (k + 1)) = (Vi.cells (Vi.rowF a s k)).set j (Value.int .u8 ((m % 256 : Nat) : Int)) := by
          rw [Vi.cells_set, es, ← Vi.rowF_set, HM.out]
        rw [e]
        exact hst.1
      case measure => simp [Go.RowKit.intOf]; omega
    · have hk' : k = s := by omega
      subst hk'
      have hcv := str_of_own (by rw [Vi.rowF_full] at hr; exact hr)
      have HS : Hid (Vi.fxB a k = Vi.str (Vi.fx a k)) := by show _ = _; unfold Vi.fxB; rw [if_pos (by omega), Int.toNat_natCast]
      go_wp2
      go_ret
      exact ⟨by rw [HS.out]; rfl, hb⟩
theorem fixed_any (a : Nat) (s : Int) (w : World) :
    Calls Try.prog 74 #[.int .u64 a, .int .i64 s] w fun e w' => e = .returned (.string (Vi.fxB a s)) ∧ Below w.heap.size w w' := by
  by_cases h : 0 ≤ s ∧ s ≤ 8
  · obtain ⟨k, rfl⟩ := Int.eq_ofNat_of_zero_le h.1
    exact fixed_yes a k w (by omega)
  · exact fixed_no a s w (by omega)
theorem rfixed_no (a : Nat) (s : Int) (w : World) (h : s < 0 ∨ 8 < s) :
    Calls Try.prog 37 #[.int .u64 a, .int .i64 s] w fun e w' => e = .returned (.string (Vi.fxB a s)) ∧ Below w.heap.size w w' := by
  have hz : Hid (Vi.fxB a s = ⟨#[]⟩) := by show _ = _; unfold Vi.fxB; rw [if_neg (by omega)]
  rcases h with h | h
  · go_enter Try.func37, Try.ntmps37
    go_wp2
    go_ret
    exact ⟨by rw [hz.out]; rfl, Below.refl _ _⟩
  · have h0 : ¬ s < 0 := by omega
    go_enter Try.func37, Try.ntmps37
    go_wp2
    go_ret
    exact ⟨by rw [hz.out]; rfl, Below.refl _ _⟩
set_option maxHeartbeats 1000000 in
set_option maxRecDepth 100000 in
theorem rfixed_yes (a s : Nat) (w : World) (ha : a < 18446744073709551616) (hs : s ≤ 8) :
    Calls Try.prog 37 #[.int .u64 a, .int .i64 s] w fun e w' => e = .returned (.string (Vi.fxB a s)) ∧ Below w.heap.size w w' := by
  obtain ⟨i0, hi, hz0, hz1, hz2⟩ := info_parts Try.info5
  have HA := Lib.hid ha
  clear ha
  go_enter Try.func37, Try.ntmps37
  go_wp2_with (at_make; refine wpList_make_full _ rfl _ _ 75 rfl w.heap.size 5 i0 (.int .u8 0) 1 Try.underlying75 hi hz0 hz1 .i64 .i64 _ _ s rfl rfl rfl rfl (by rw [hz2]; omega) (by unfold maxLen; omega) (Nat.le_refl _) ?_; intro w0 hown0 hgrow0)
  have hr0 : w0.ownsRow w.heap.size 5 1 (Value.slice (some ⟨w.heap.size, 0, none⟩) s s) s (Vi.cells (Vi.rowF a s 0)) := by
    have e : (madeCells (Value.int IntKind.u8 0).cells (s * 1)).toList = Vi.cells (Vi.rowF a s 0) := by
      rw [Vi.rowF_zero, Nat.mul_one]
      show (madeCells #[Value.int IntKind.u8 0] s).toList = _
      rw [toList_madeCells_one]; simp [Vi.cells]
    rw [← e]; exact hown0
  have hb0 : Below w.heap.size w w0 := (Below.refl _ _).grown hgrow0 (Nat.le_refl _) (by simp)
  clear hown0 hgrow0
  go_loopw [0, 6] (fun m c wr => ∃ k : Nat, k ≤ s ∧ m = .int .u64 ((a / 256 ^ k : Nat) : Int) ∧ c = .int .i64 ((s : Int) - 1 - k) ∧ wr.ownsRow w.heap.size 5 1 (Value.slice (some ⟨w.heap.size, 0, none⟩) s s) s (Vi.cells (Vi.rowF a s k)) ∧ Below w.heap.size w wr) (fun _ c _ => (Go.RowKit.intOf c + 1).toNat)
  case atStart => exact ⟨0, by omega, by simp, by simp, hr0, hb0⟩
  case round =>
    obtain ⟨k, hk, rfl, rfl, hr, hb⟩ := hrel
    have HD := Lib.hid (Vi.div_pow a k)
    have hmb : a / 256 ^ k ≤ a := Nat.div_le_self _ _
    generalize hm : a / 256 ^ k = m at *
    have HM := Lib.hid hm
    clear hm
    have hmi : (m : Int) ≤ 18446744073709551615 := by have := HA.out; omega
    clear hmb
    by_cases hlt : k < s
    · obtain ⟨j, hj⟩ : ∃ j, j = s - 1 - k := ⟨_, rfl⟩
      have hji : (s : Int) - 1 - k = (j : Int) := by omega
      have hjs : (j : Int) < s := by omega
      have hj8 : (j : Int) ≤ 7 := by omega
      have hc : wr.cell? ⟨w.heap.size, j, none⟩ = some (.int .u8 0) := by
        rw [hr.cellAt j (by omega)]
        have e : (Vi.cells (Vi.rowF a s k))[j]? = some (.int .u8 0) := by
          unfold Vi.cells Vi.rowF
          rw [List.getElem?_map, List.getElem?_append_left (by rw [List.length_replicate]; omega), List.getElem?_replicate, if_pos (by omega)]; rfl
        exact e
      have hf := hr.frozenAt j
      have HJ := Lib.hid hj
      clear hj
      rw [hji]
      have HI := Lib.hid hji
      clear hji
      go_wp2
      go_roundw
      case rel =>
        have hst := hr.stored j (Value.int .u8 ((m % 256 : Nat) : Int))
        have es : s = k + 1 + j := by have := HJ.out; omega
        refine ⟨k + 1, by omega, by rw [← HD.out, Int.natCast_ediv]; rfl, by have h := HI.out; congr 1; omega, ?_, hb.setCell (Nat.le_refl _) _⟩
        have e : Vi.cells (Vi.rowF a s (k + 1)) = (Vi.cells (Vi.rowF a s k)).set j (Value.int .u8 ((m % 256 : Nat) : Int)) := by
          rw [Vi.cells_set, es, ← Vi.rowF_set, HM.out]
        rw [e]
        exact hst.1
      case measure => (simp [Go.RowKit.intOf]; try omega)
    · have hk' : k = s := by omega
      subst hk'
      have hcv := str_of_own (by rw [Vi.rowF_full] at hr; exact hr)
      have HS : Hid (Vi.fxB a k = Vi.str (Vi.fx a k)) := by show _ = _; unfold Vi.fxB; rw [if_pos (by omega), Int.toNat_natCast]
      have hn1 : (k : Int) - 1 - k < 0 := by omega
      go_wp2
      go_ret
      exact ⟨by rw [HS.out]; rfl, hb⟩
theorem rfixed_any (a : Nat) (s : Int) (w : World) (ha : a < 18446744073709551616) :
    Calls Try.prog 37 #[.int .u64 a, .int .i64 s] w fun e w' => e = .returned (.string (Vi.fxB a s)) ∧ Below w.heap.size w w' := by
  by_cases h : 0 ≤ s ∧ s ≤ 8
  · obtain ⟨k, rfl⟩ := Int.eq_ofNat_of_zero_le h.1
    exact rfixed_yes a k w ha (by omega)
  · exact rfixed_no a s w (by omega)
end Go.Proofs.Ytlmfnlaikdmphaa
namespace Go.Proofs.Ytlmfnlaikdmphaa
open Go.RowKit
set_option linter.unusedVariables false
namespace Vi
end Vi
namespace Vi
def be (l : List Nat) : Nat := l.foldl (fun a b => a * 256 + b) 0
theorem be_snoc (l : List Nat) (b : Nat) : be (l ++ [b]) = be l * 256 + b := by unfold be; rw [List.foldl_append]; rfl
theorem be_take (l : List Nat) (k : Nat) (hk : k < l.length) : be (l.take (k + 1)) = be (l.take k) * 256 + l.getD k 0 := by
  rw [getD_take l k hk, be_snoc]
theorem be_take_lt (l : List Nat) (hl : ∀ j, l.getD j 0 < 256) : ∀ k, be (l.take k) < 256 ^ k
  | 0 => by simp [be]
  | k + 1 => by
    have ih := be_take_lt l hl k
    rw [Nat.pow_succ]
    rcases Nat.lt_or_ge k l.length with h | h
    · rw [be_take l k h]
      have := hl k
      omega
    · rw [List.take_of_length_le (by omega)]
      rw [List.take_of_length_le (by omega)] at ih
      omega
theorem be_take_le (l : List Nat) (hl : ∀ j, l.getD j 0 < 256) (k : Nat) (hk : k ≤ 7) : be (l.take k) < 72057594037927936 :=
  Nat.lt_of_lt_of_le (be_take_lt l hl k) (Nat.le_trans (Nat.pow_le_pow_right (by omega) hk) (by decide))
def hasF (s : ByteArray) (n : Int) : Bool := decide (0 ≤ n ∧ n ≤ 8 ∧ n ≤ s.size)
def fixV (s : ByteArray) (n : Int) : Nat := if hasF s n = true then be ((nums s).take n.toNat) else 0
def fixT (s : ByteArray) (n : Int) : ByteArray := if hasF s n = true then s.extract n.toNat s.size else ⟨#[]⟩
theorem byte8 (n b : Nat) (hn : n < 72057594037927936) (hb : b < 256) (X : Int) (hX : X = (b : Int)) : bits BinOp.or IntKind.u64 (IntKind.u64.wrap ((n : Int) * 256)) X = ((n * 256 + b : Nat) : Int) := by
  subst hX
  have h1 : IntKind.u64.wrap ((n : Int) * 256) = ((2 ^ 8 * n : Nat) : Int) := by
    rw [IntWalk.u64_in _ (by omega), Int.natCast_mul]
    have : ((2 ^ 8 : Nat) : Int) = 256 := by decide
    rw [this]; omega
  have hor := Nat.two_pow_add_eq_or_of_lt (show b < 2 ^ 8 from hb) n
  rw [h1, u64_or_nat (2 ^ 8 * n) b (by omega) (by omega), ← hor]
  congr 1; omega
end Vi
set_option maxHeartbeats 400000 in
theorem fixedr_no (g : Nat) (s : ByteArray) (bad : Bool) (n : Int) (w : World) (h : Rd 130 g s bad w) (hn : n < 0 ∨ 8 < n ∨ s.size < n) :
    Calls Try.prog 79 #[rdp g, .int .i64 n] w fun e w' => e = .returned (.int .u64 0) ∧ Rd 130 g ⟨#[]⟩ true w' ∧ w.grownBy w' (some g) := by
  have hL := Lib.hid (left_any g _ bad w h)
  have hF := Lib.hid (fail_any g _ bad w h)
  rcases (show n < 0 ∨ 8 < n ∨ (0 ≤ n ∧ n ≤ 8 ∧ s.size < n) by omega) with hn | hn | ⟨hn0, hn8, hn⟩
  · unfold rdp at *
    go_enter Try.func79, Try.ntmps79
    go_wp2_with fail
    refine hF.out.mono ?_
    rintro e w1 ⟨rfl, h1, h2⟩
    go_wp2
    go_ret
    exact ⟨rfl, h1, h2⟩
  · have hn0 : ¬ n < 0 := by omega
    unfold rdp at *
    go_enter Try.func79, Try.ntmps79
    go_wp2_with fail
    refine hF.out.mono ?_
    rintro e w1 ⟨rfl, h1, h2⟩
    go_wp2
    go_ret
    exact ⟨rfl, h1, h2⟩
  · have hn0' : ¬ n < 0 := by omega
    have hn8' : ¬ 8 < n := by omega
    unfold rdp at *
    go_enter Try.func79, Try.ntmps79
    go_wp2_with fail
    refine hL.out.mono ?_
    rintro e w1 ⟨rfl, rfl⟩
    go_wp2_with fail
    refine hF.out.mono ?_
    rintro e w1 ⟨rfl, h1, h2⟩
    go_wp2
    go_ret
    exact ⟨rfl, h1, h2⟩
set_option maxHeartbeats 1000000 in
set_option maxRecDepth 100000 in
theorem fixedr_yes (g : Nat) (s : ByteArray) (bad : Bool) (n : Nat) (w : World) (h : Rd 130 g s bad w) (hm : s.size ≤ 281474976710656) (hn : n ≤ 8) (hns : n ≤ s.size) :
    Calls Try.prog 79 #[rdp g, .int .i64 n] w fun e w' => e = .returned (.int .u64 (Vi.be ((Vi.nums s).take n))) ∧ Rd 130 g (s.extract n s.size) bad w' ∧ w.grownBy w' (some g) := by
  have hmf : ∀ (fn : Fn) (first cap : Array Value) (w : World), (Instr.makeFunc fn first cap).run Try.prog w = .ok (.func fn first cap) w := fun _ _ _ _ => rfl
  have hL := Lib.hid (left_any g _ bad w h)
  have hl := Vi.nums_length s
  have hn0 : ¬ ((n : Int) < 0) := by omega
  have hn8 : ¬ ((8 : Int) < n) := by omega
  have hns' : decide (s.size < n) = false := decide_eq_false (by omega)
  have HE : Hid (s.extract 0 s.size = s) := by show _ = _; apply ByteArray.ext; simp
  unfold rdp at *
  go_enter Try.func79, Try.ntmps79
  go_wp2_with fail
  refine hL.out.mono ?_
  rintro e w1 ⟨rfl, rfl⟩
  go_wp2
  go_loopw [6, 24] (fun v c wr => ∃ k : Nat, k ≤ n ∧ c = .int .i64 k ∧ v = .int .u64 ((Vi.be ((Vi.nums s).take k) : Nat) : Int) ∧ Rd 130 g (s.extract k s.size) bad wr ∧ w.grownBy wr (some g)) (fun _ c _ => n - (Go.RowKit.intOf c).toNat)
  case atStart => exact ⟨0, by omega, rfl, rfl, by rw [HE.out]; exact h, World.grownBy.refl _ _⟩
  case round =>
    obtain ⟨k, hk, rfl, rfl, hr, hb⟩ := hrel
    by_cases hlt : k < n
    · have hN := Lib.hid (next_some g _ bad wr hr (by rw [ByteArray.size_extract]; omega) (by rw [ByteArray.size_extract]; omega))
      have HH := Lib.hid (Vi.hdB_extract s k (by omega))
      have HT := Lib.hid (Vi.extract_extract s k (by omega))
      have HS := Lib.hid (fun X hX => Vi.byte8 _ _ (Vi.be_take_le (Vi.nums s) (Vi.nums_getD_lt s) k (by omega)) (Vi.nums_getD_lt s k) X hX)
      have HB := Lib.hid (Vi.be_take (Vi.nums s) k (by omega))
      clear hmf hL hl
      unfold rdp at *
      generalize Vi.be ((Vi.nums s).take k) = v at *
      go_wp2_with fail
      refine hN.out.mono ?_
      rintro e w1 ⟨rfl, h1, h2⟩
      rw [HT.out] at h1
      rw [HH.out]
      generalize hg : (Vi.nums s).getD k 0 = b at *
      have HG := Lib.hid hg
      clear hg
      have hbt : b < 256 := by rw [← HG.out]; exact Vi.nums_getD_lt s k
      have HW : Hid (IntKind.u64.wrap (b : Int) = (b : Int)) := IntWalk.u64_in _ (by omega)
      clear hbt
      go_wp2
      go_roundw
      case rel =>
        rw [HS.out _ HW.out]
        exact ⟨k + 1, by omega, by go_num, by rw [HB.out], h1, hb.trans h2⟩
      case measure => simp [Go.RowKit.intOf]; omega
    · have hk' : k = n := by omega
      subst hk'
      clear hmf hL
      go_wp2
      go_ret
      exact ⟨rfl, hr, hb⟩
theorem fixedr_any (g : Nat) (s : ByteArray) (bad : Bool) (n : Int) (w : World) (h : Rd 130 g s bad w) (hm : s.size ≤ 281474976710656) :
    Calls Try.prog 79 #[rdp g, .int .i64 n] w fun e w' => e = .returned (.int .u64 (Vi.fixV s n)) ∧ Rd 130 g (Vi.fixT s n) (bad || !Vi.hasF s n) w' ∧ w.grownBy w' (some g) := by
  by_cases hn : 0 ≤ n ∧ n ≤ 8 ∧ n ≤ s.size
  · have e : Vi.hasF s n = true := decide_eq_true hn
    unfold Vi.fixV Vi.fixT
    rw [if_pos e, if_pos e, e, Bool.not_true, Bool.or_false]
    obtain ⟨k, rfl⟩ := Int.eq_ofNat_of_zero_le hn.1
    exact fixedr_yes g s bad k w h hm (by omega) (by omega)
  · have e : Vi.hasF s n = false := decide_eq_false hn
    unfold Vi.fixV Vi.fixT
    rw [e, if_neg (by decide), if_neg (by decide), Bool.not_false, Bool.or_true]
    exact fixedr_no g s bad n w h (by omega)
namespace Vi
end Vi
set_option maxHeartbeats 400000 in
theorem rfixedr_no (g : Nat) (s : ByteArray) (bad : Bool) (n : Int) (w : World) (h : Rd 88 g s bad w) (hn : n < 0 ∨ 8 < n) :
    Calls Try.prog 47 #[rdp g, .int .i64 n] w fun e w' => e = .returned (.int .u64 0) ∧ Rd 88 g ⟨#[]⟩ true w' ∧ w.grownBy w' (some g) := by
  have hF := Lib.hid (rfail_any g _ bad w h)
  rcases (show n < 0 ∨ 8 < n by omega) with hn | hn
  · unfold rdp at *
    go_enter Try.func47, Try.ntmps47
    go_wp2_with fail
    refine hF.out.mono ?_
    rintro e w1 ⟨rfl, h1, h2⟩
    go_wp2
    go_ret
    exact ⟨rfl, h1, h2⟩
  · have hn0 : ¬ n < 0 := by omega
    unfold rdp at *
    go_enter Try.func47, Try.ntmps47
    go_wp2_with fail
    refine hF.out.mono ?_
    rintro e w1 ⟨rfl, h1, h2⟩
    go_wp2
    go_ret
    exact ⟨rfl, h1, h2⟩
set_option maxHeartbeats 1000000 in
set_option maxRecDepth 100000 in
theorem rfixedr_yes (g : Nat) (s : ByteArray) (bad : Bool) (n : Nat) (w : World) (h : Rd 88 g s bad w) (hs : Vi.Sane s bad) (hm : s.size ≤ 281474976710656) (hn : n ≤ 8) :
    Calls Try.prog 47 #[rdp g, .int .i64 n] w fun e w' => e = .returned (.int .u64 (Vi.be (Vi.nums (Vi.bytV s n)))) ∧ Rd 88 g (Vi.bytT s n) (bad || !Vi.hasB s n) w' ∧ w.grownBy w' (some g) := by
  have hB := Lib.hid (rbytes_any g s bad n w h hs hm)
  have hsz : (Vi.bytV s n).size ≤ 8 := by
    unfold Vi.bytV
    split
    · rw [ByteArray.size_extract]; omega
    · exact Nat.zero_le _
  have hl := Vi.nums_length (Vi.bytV s n)
  generalize Vi.bytV s n = t at *
  have hn0 : ¬ ((n : Int) < 0) := by omega
  have hn8 : ¬ ((8 : Int) < n) := by omega
  unfold rdp at *
  go_enter Try.func47, Try.ntmps47
  go_wp2_with fail
  refine hB.out.mono ?_
  rintro e w1 ⟨rfl, h1, h2⟩
  clear hB
  go_wp2
  go_loop [6, 7] (fun v c => ∃ k : Nat, k ≤ t.size ∧ c = .int .i64 k ∧ v = .int .u64 ((Vi.be ((Vi.nums t).take k) : Nat) : Int)) (fun _ c => t.size - (Go.RowKit.intOf c).toNat)
  case atStart => exact ⟨0, by omega, rfl, rfl⟩
  case round =>
    obtain ⟨k, hk, rfl, rfl⟩ := hrel
    by_cases hlt : k < t.size
    · have he : t[k].toNat = (Vi.nums t).getD k 0 := by
        unfold Vi.nums
        rw [List.getD_eq_getElem?_getD, List.getElem?_map, List.getElem?_eq_getElem (by simpa using hlt)]; rfl
      have hbt := Vi.nums_getD_lt t k
      have hvt := Vi.be_take_le (Vi.nums t) (Vi.nums_getD_lt t) k (by omega)
      have HB := Lib.hid (Vi.be_take (Vi.nums t) k (by omega))
      generalize Vi.be ((Vi.nums t).take k) = v at *
      generalize (Vi.nums t).getD k 0 = b at *
      have hv1 : (v : Int) ≤ 72057594037927935 := by omega
      clear hvt
      have hW : IntKind.u64.wrap (b : Int) = (b : Int) := IntWalk.u64_in _ (by omega)
      have HW2 : Hid (IntKind.u64.wrap ((v : Int) * 256) = (v : Int) * 256) := IntWalk.u64_in _ (by omega)
      have HW3 : Hid (IntKind.u64.wrap ((v : Int) * 256 + b) = (v : Int) * 256 + b) := IntWalk.u64_in _ (by omega)
      go_wp2
      go_round
      case rel =>
        exact ⟨k + 1, by omega, by go_num, by rw [HB.out]; first | rfl | (push_cast; rfl)⟩
      case measure => simp [Go.RowKit.intOf]; omega
    · have hk' : k = t.size := by omega
      subst hk'
      have HT : Hid ((Vi.nums t).take t.size = Vi.nums t) := by show _ = _; rw [List.take_of_length_le (by omega)]
      go_wp2
      go_ret
      rw [HT.out]
      exact ⟨rfl, h1, h2⟩
theorem rfixedr_any (g : Nat) (s : ByteArray) (bad : Bool) (n : Int) (w : World) (h : Rd 88 g s bad w) (hs : Vi.Sane s bad) (hm : s.size ≤ 281474976710656) :
    Calls Try.prog 47 #[rdp g, .int .i64 n] w fun e w' => e = .returned (.int .u64 (Vi.fixV s n)) ∧ Rd 88 g (Vi.fixT s n) (bad || !Vi.hasF s n) w' ∧ w.grownBy w' (some g) := by
  by_cases hn : 0 ≤ n ∧ n ≤ 8
  · obtain ⟨k, rfl⟩ := Int.eq_ofNat_of_zero_le hn.1
    have hc := rfixedr_yes g s bad k w h hs hm (by omega)
    by_cases hks : k ≤ s.size
    · have e1 : Vi.hasF s k = true := decide_eq_true (by omega)
      have e2 : Vi.hasB s k = true := decide_eq_true (by omega)
      unfold Vi.fixV Vi.fixT
      unfold Vi.bytV Vi.bytT at hc
      rw [if_pos e2, if_pos e2, e2, Vi.nums_extract, List.drop_zero, Nat.sub_zero] at hc
      rw [if_pos e1, if_pos e1, e1]
      exact hc
    · have e1 : Vi.hasF s k = false := decide_eq_false (by omega)
      have e2 : Vi.hasB s k = false := decide_eq_false (by omega)
      unfold Vi.fixV Vi.fixT
      unfold Vi.bytV Vi.bytT at hc
      rw [e2, if_neg (by decide), if_neg (by decide)] at hc
      rw [e1, if_neg (by decide), if_neg (by decide)]
      exact hc
  · have e : Vi.hasF s n = false := decide_eq_false (by omega)
    unfold Vi.fixV Vi.fixT
    rw [e, if_neg (by decide), if_neg (by decide), Bool.not_false, Bool.or_true]
    exact rfixedr_no g s bad n w h (by omega)
theorem Vi.sane_fix (s : ByteArray) (bad : Bool) (n : Int) (h : Vi.Sane s bad) : Vi.Sane (Vi.fixT s n) (bad || !Vi.hasF s n) := by
  intro hb
  unfold Vi.fixT
  cases ho : Vi.hasF s n
  · rfl
  · rw [ho] at hb
    have := h (by simpa using hb)
    subst this
    apply ByteArray.ext; simp
namespace Vi
theorem be_fx (a : Nat) : ∀ k, be (fx a k) = a % 256 ^ k
  | 0 => by simp [fx, be, Nat.mod_one]
  | k + 1 => by
    have hc : ∀ (l : List Nat) (x : Nat), l.foldl (fun a b => a * 256 + b) x = x * 256 ^ l.length + be l := by
      intro l
      induction l with
      | nil => intro x; simp [be]
      | cons y l ih =>
        intro x
        have e : be (y :: l) = y * 256 ^ l.length + be l := by
          show l.foldl (fun a b => a * 256 + b) (0 * 256 + y) = _
          rw [Nat.zero_mul, Nat.zero_add]; exact ih y
        rw [List.foldl_cons, ih, e, List.length_cons, Nat.pow_succ, Nat.add_mul, Nat.mul_comm (256 ^ l.length) 256, Nat.mul_assoc, Nat.add_assoc]
    have e : be (fx a (k + 1)) = (a / 256 ^ k % 256) * 256 ^ (fx a k).length + be (fx a k) := by
      show (fx a k).foldl (fun a b => a * 256 + b) (0 * 256 + a / 256 ^ k % 256) = _
      rw [Nat.zero_mul, Nat.zero_add]; exact hc _ _
    rw [e, fx_length, be_fx a k, Nat.mod_pow_succ, Nat.mul_comm, Nat.add_comm]
theorem fx_lt (a : Nat) : ∀ k, ∀ x ∈ fx a k, x < 256
  | 0 => by simp [fx]
  | k + 1 => by
    intro x hx
    rw [fx] at hx
    rcases List.mem_cons.1 hx with rfl | hx
    · exact Nat.mod_lt _ (by omega)
    · exact fx_lt a k x hx
theorem fxB_eq (a k : Nat) (hk : k ≤ 8) : fxB a (k : Int) = str (fx a k) := by unfold fxB; rw [if_pos (by omega), Int.toNat_natCast]
theorem fxB_size (a k : Nat) (hk : k ≤ 8) : (fxB a (k : Int)).size = k := by rw [fxB_eq a k hk, str_size, fx_length]
theorem fix_put (a k : Nat) (hk : k ≤ 8) (t : ByteArray) : fixV (fxB a k ++ t) k = a % 256 ^ k ∧ fixT (fxB a k ++ t) k = t ∧ hasF (fxB a k ++ t) k = true := by
  have hz := fxB_size a k hk
  have hh : hasF (fxB a k ++ t) k = true := decide_eq_true (by rw [ByteArray.size_append]; omega)
  unfold fixV fixT
  rw [hh, if_pos rfl, if_pos rfl, Int.toNat_natCast]
  refine ⟨?_, ?_, rfl⟩
  · have e : nums (fxB a k) = fx a k := by rw [fxB_eq a k hk, nums_str _ (fx_lt a k)]
    rw [nums_append, e, List.take_left' (fx_length a k), be_fx]
  · have := extract_right (fxB a k) t
    rw [hz] at this
    exact this
end Vi
end Go.Proofs.Ytlmfnlaikdmphaa
namespace Go.Proofs.Ytlmfnlaikdmphaa
open Go.RowKit
set_option linter.unusedVariables false
namespace Crc
def nums (n : Nat) (x : Nat → Nat) : List Int := (List.range n).map fun j => (x j : Int)
theorem nums_length (n : Nat) (x : Nat → Nat) : (nums n x).length = n := by simp [nums]
theorem nums_getD (n : Nat) (x : Nat → Nat) (i : Nat) (h : i < n) : (nums n x).getD i 0 = (x i : Int) := by simp [nums, List.getD, h]
theorem str_size (n : Nat) (x : Nat → Nat) : (strOfNums (nums n x)).size = n := by rw [strOfNums_size, nums_length]
def byteAt (s : ByteArray) (j : Nat) : Nat := (s.data.toList.getD j 0).toNat
theorem byteAt_lt (s : ByteArray) (j : Nat) : byteAt s j < 256 := UInt8.toNat_lt _
def turned (t : ByteArray) (p by_ : Nat) (j : Nat) : Nat := if j = p then byteAt t p ^^^ by_ else byteAt t j
end Crc
def BRow (g n : Nat) (x : Nat → Nat) (w : World) : Prop := ∀ j, j < n → w.cell? ⟨g, j, none⟩ = some (.int .u8 (x j)) ∧ w.frozen? ⟨g, j, none⟩ = false
theorem BRow.cell {g n : Nat} {x : Nat → Nat} {w : World} (h : BRow g n x w) (j : Nat) (hj : j < n) : w.cell? ⟨g, j, none⟩ = some (.int .u8 (x j)) := (h j hj).1
theorem BRow.free {g n : Nat} {x : Nat → Nat} {w : World} (h : BRow g n x w) (j : Nat) (hj : j < n) : w.frozen? ⟨g, j, none⟩ = false := (h j hj).2
theorem BRow.drew {g n : Nat} {x : Nat → Nat} {w : World} (h : BRow g n x w) : BRow g n x w.drew := h
theorem BRow.same {g n : Nat} {x y : Nat → Nat} {w : World} (h : BRow g n x w) (hxy : ∀ j, j < n → y j = x j) : BRow g n y w := fun j hj => by rw [hxy j hj]; exact h j hj
theorem BRow.set {g n : Nat} {x y : Nat → Nat} {w : World} (h : BRow g n x w) (k : Nat) (v : Nat) (hy : ∀ j, j < n → y j = if j = k then v else x j) : BRow g n y (w.setCell ⟨g, k, none⟩ (.int .u8 (v : Int))) := by
  intro j hj
  rw [World.frozen?_setCell, hy j hj]
  refine ⟨?_, (h j hj).2⟩
  by_cases e : j = k
  · subst e
    rw [if_pos rfl]
    exact World.cell?_setCell_same _ _ _ (h j hj).1
  · rw [if_neg e, World.cell?_setCell_other _ _ _ _ (by intro hh; cases hh; exact e rfl)]
    exact (h j hj).1
theorem BRow.below {g n B : Nat} {x : Nat → Nat} {w w' : World} (h : BRow g n x w) (hb : Below B w w') (hg : g < B) : BRow g n x w' := fun j hj => by
  rw [hb.cell hg, hb.frozen hg]; exact h j hj
theorem BRow.conv (w : World) (s : ByteArray) : BRow w.heap.size s.size (Crc.byteAt s) (Lib.bytesWorld w 5 s) := by
  intro j hj
  refine ⟨Lib.bytesWorld_cell w 5 s j hj, ?_⟩
  have h := Lib.bytesWorld_at_new w 5 s
  have hz : s.size ≤ (Lib.bytesCells w 5 s).size := by simp [Lib.bytesCells]
  simp only [World.frozen?, h]
  simp; omega
theorem below_conv (w : World) (s : ByteArray) : Below w.heap.size w (Lib.bytesWorld w 5 s) :=
  Lib.below_freeze (((Below.refl _ w).drew).alloc (Nat.le_refl _) _) (p := ⟨w.heap.size, _, none⟩) (Nat.le_refl _) _
theorem BRow.str {g n : Nat} {x : Nat → Nat} {w : World} (h : BRow g n x w) (cap : Nat) : (convert 75 9 (.slice (some ⟨g, 0, none⟩) n cap)).run Try.prog w = .ok (.string (strOfNums (Crc.nums n x))) w :=
  run_convert_bytes_arg (P := Try.prog) w 75 5 Try.underlying75 Try.underlying5 g 0 n cap (Crc.nums n x) (Crc.nums_length n x)
    (fun i hi => by rw [Crc.nums_getD n x i hi, Nat.zero_add]; exact h.cell i hi) 9 Try.underlying9
set_option maxHeartbeats 2000000 in
set_option maxRecDepth 100000 in
theorem bend_any (s : ByteArray) (at_ : Int) (by_ : Nat) (w : World) (hm : s.size ≤ 140737488351232) (hat : -9223372036854775808 ≤ at_ ∧ at_ ≤ 9223372036854775807) (hby : by_ < 256) :
    Calls Try.prog 12 #[.string s, .int .i64 at_, .int .u8 by_] w fun e w' => ∃ t : ByteArray, e = .returned (.string t) ∧ t.size = s.size ∧ Below w.heap.size w w' := by
  by_cases h0 : s.size = 0
  · have he : s = ⟨#[]⟩ := ByteArray.ext (Array.eq_empty_of_size_eq_zero h0)
    subst he
    go_enter Try.func12, Try.ntmps12
    go_wp2
    go_ret
    exact ⟨_, rfl, rfl, Below.refl _ _⟩
  · have hne : s.toList.isEmpty = false := by
      rw [Lib.toList_data, List.isEmpty_eq_false_iff]
      intro hn
      have h2 : s.size = s.data.toList.length := by simp
      rw [hn, List.length_nil] at h2; omega
    have hn0 : 0 < s.size := by omega
    have hcv := fun (W : World) (t : ByteArray) => Lib.run_convert_string_bytes (P := Try.prog) W 9 75 5 t Try.underlying9 Try.underlying75 Try.underlying5
    obtain ⟨a, ha⟩ : ∃ a : Nat, (if at_ < 0 then -(at_ + 1) else at_) = (a : Int) := by
      split
      · exact ⟨(-(at_ + 1)).toNat, by omega⟩
      · exact ⟨at_.toNat, by omega⟩
    have ha2 : (a : Int) ≤ 9223372036854775807 := by split at ha <;> omega
    have HA := Lib.hid ha
    clear ha
    by_cases hneg : at_ < 0
    all_goals
      have ha : (if at_ < 0 then -(at_ + 1) else at_) = (a : Int) := HA.out
      first | rw [if_pos hneg] at ha | rw [if_neg hneg] at ha
      have HB := Lib.hid ha
      clear ha HA
      go_enter Try.func12, Try.ntmps12
      go_wp2
      try rw [HB.out]
      clear hcv
      have hI := BRow.conv w s
      have hB : Below w.heap.size w (Lib.bytesWorld w 5 s) := below_conv w s
      generalize Lib.bytesWorld w 5 s = w3 at *
      generalize grownCap w s.size 0 5 = cap at *
      obtain ⟨p, hp1⟩ : ∃ p : Nat, p = a % s.size := ⟨_, rfl⟩
      have hp : p < s.size := by rw [hp1]; exact Nat.mod_lt _ (by omega)
      have hp2 : (a : Int) % (s.size : Int) = (p : Int) := by rw [hp1, Int.natCast_emod]
      clear hp1
      have hc := hI.cell p hp
      have hf := hI.free p hp
      have hbx := Crc.byteAt_lt s p
      have hX := Lib.hid (u8_xor_nat (Crc.byteAt s p) by_ hbx hby)
      go_region
      rw [hX.out]
      have hI4 := (hI.set (y := Crc.turned s p by_) p _ (fun j hj => by unfold Crc.turned; rfl)).drew
      have hb1 := (hB.setCell (p := ⟨w.heap.size, p, none⟩) (Nat.le_refl _) (.int .u8 ((Crc.byteAt s p ^^^ by_ : Nat) : Int))).drew
      clear hI hc hf hB
      generalize (World.setCell w3 ⟨w.heap.size, p, none⟩ (.int .u8 ((Crc.byteAt s p ^^^ by_ : Nat) : Int))).drew = w1 at *
      have hstr := hI4.str cap
      have hbz := Crc.str_size s.size (Crc.turned s p by_)
      go_wp2
      go_ret
      exact ⟨_, rfl, hbz, hb1⟩
end Go.Proofs.Ytlmfnlaikdmphaa
