/-
  The contracts of the document's own reader: Var, Fixed, Text.
  Conditions: named in each theorem.
-/
import Derived.Test.YtdoombcihobejaaGreatVTex
namespace Go.Proofs.YtdoombcihobejaaGreat
open Go.RowKit
namespace Vi
theorem nums_inj {a b : ByteArray} (h : nums a = nums b) : a = b := by
  have hm : ∀ l m : List UInt8, l.map (·.toNat) = m.map (·.toNat) → l = m := by
    intro l
    induction l with
    | nil => intro m h; cases m with | nil => rfl | cons _ _ => simp at h
    | cons x l ih =>
      intro m h
      cases m with
      | nil => simp at h
      | cons y m =>
        rw [List.map_cons, List.map_cons, List.cons.injEq] at h
        rw [ih m h.2, UInt8.toNat_inj.1 h.1]
  have := hm _ _ h
  exact ByteArray.ext (Array.ext' this)
theorem nums_str (l : List Nat) (hl : ∀ x ∈ l, x < 256) : nums (str l) = l := by
  unfold nums str
  rw [strOfNums_data, List.map_map, List.map_map]
  conv => rhs; rw [← List.map_id l]
  refine List.map_congr_left fun x hx => ?_
  have := hl x hx
  simp
  omega
/-- Whether two texts are the same, by their bytes. -/
theorem beq_nums (a b : ByteArray) : (a.toList == b.toList) = decide (nums a = nums b) := by
  rw [Lib.toList_data, Lib.toList_data]
  by_cases h : nums a = nums b
  · rw [decide_eq_true h, nums_inj h]; simp
  · rw [decide_eq_false h, beq_eq_false_iff_ne]
    intro e
    exact h (by unfold nums; rw [e])
theorem step7b (l : List Nat) (k : Nat) (hk : k < l.length) (h9 : k ≤ 9) (Y : Int) (hY : Y = ((l.getD k 0 % 128 : Nat) : Int)) :
    bits BinOp.or IntKind.u64 ((val (l.take k) % 18446744073709551616 : Nat) : Int) (IntKind.u64.wrap (Y * 2 ^ (7 * k))) = ((val (l.take (k + 1)) % 18446744073709551616 : Nat) : Int) := by
  have h := step7 l k hk h9 Y hY
  rwa [IntWalk.u64_in Y (by omega)] at h
/-- The document's test of what it read. -/
theorem rtest (s : ByteArray) (i : Nat) (h : ∀ j, j < i → 128 ≤ (nums s).getD j 0) (hi : i < s.size) (hb : (nums s).getD i 0 < 128) (h9 : i ≤ 9) :
    ((putB (val ((nums s).take (i + 1)) % 18446744073709551616)).toList == (s.extract 0 (i + 1)).toList) = okL (nums s) := by
  have hl := nums_length s
  rw [beq_nums, nums_extract, List.drop_zero, Nat.sub_zero]
  unfold putB
  rw [nums_str _ (put_lt _)]
  have ht := put_test (nums s) i (nums_lt s) h (by omega) hb h9
  cases ho : okL (nums s)
  · rw [decide_eq_false_iff_not, ht, ho]; decide
  · rw [decide_eq_true_iff, ht, ho]
end Vi

theorem rput_at (n : Nat) (g : Nat) (s : ByteArray) (w : World) (hn : n < 18446744073709551616) (hc : w.cell? ⟨g, 0, none⟩ = some (.string s)) :
    Calls Tryz.prog 60 #[.int .u64 n] w fun e w' => e = .returned (.string (Vi.putB n)) ∧ Below w.heap.size w w' ∧ w'.cell? ⟨g, 0, none⟩ = some (.string s) :=
  (rput_any n w hn).mono fun _ _ ⟨h1, h2⟩ => ⟨h1, h2, (h2.cell (World.block_lt_of_cell? w _ hc)).trans hc⟩

set_option maxHeartbeats 2000000 in
set_option maxRecDepth 100000 in
theorem rvar_any (g : Nat) (s : ByteArray) (bad : Bool) (w : World) (h : Rd 156 g s bad w) (hm : s.size ≤ 281474976710656) :
    Calls Tryz.prog 99 #[rdp g] w fun e w' => e = .returned (.int .u64 (Vi.varV s)) ∧ Rd 156 g (Vi.varT s) (bad || !Vi.varO s) w' ∧ w.grownBy w' (some g) := by
  have hl := Vi.nums_length s
  have c0 := h.cell0
  have f0 := h.frozen 0
  have hF := fun w' (hb : Below w.heap.size w w') => rfail_any g s bad w' (h.below hb h.lt)
  have HF := Lib.hid hF
  clear hF
  unfold rdp at *
  go_enter Tryz.func99, Tryz.ntmps99
  go_wp2
  go_loop [3, 4] (fun n c => ∃ k : Nat, k ≤ 10 ∧ k ≤ s.size ∧ c = .int .i64 k ∧ n = .int .u64 ((Vi.val ((Vi.nums s).take k) % 18446744073709551616 : Nat) : Int) ∧ Hid (∀ j, j < k → 128 ≤ (Vi.nums s).getD j 0)) (fun _ c => 10 - (intOf c).toNat)
  case atStart => exact ⟨0, by omega, by omega, rfl, rfl, fun j hj => by omega⟩
  case round =>
    obtain ⟨k, hk, hks, rfl, rfl, HG⟩ := hrel
    by_cases hk10 : k < 10
    · rcases Nat.lt_or_ge k s.size with hlt | hge
      · have hbt := Vi.nums_getD_lt s k
        have he : s[k].toNat = (Vi.nums s).getD k 0 := by
          unfold Vi.nums
          rw [List.getD_eq_getElem?_getD, List.getElem?_map, List.getElem?_eq_getElem (by simpa using hlt)]; rfl
        have HS := Lib.hid (fun Y hY => Vi.step7b (Vi.nums s) k (by omega) (by omega) Y hY)
        generalize hv : Vi.val ((Vi.nums s).take k) % 18446744073709551616 = v at *
        have HV := Lib.hid hv
        clear hv
        by_cases hb128 : 128 ≤ (Vi.nums s).getD k 0
        · have HG' : Hid (∀ j, j < k + 1 → 128 ≤ (Vi.nums s).getD j 0) := fun j hj => by
            rcases Nat.lt_or_ge j k with h | h
            · exact HG.out j h
            · obtain rfl : j = k := by omega
              exact hb128
          generalize (Vi.nums s).getD k 0 = b at *
          have hW : IntKind.u64.wrap (b : Int) = (b : Int) := IntWalk.u64_in _ (by omega)
          have hY : (b : Int) % 128 = ((b % 128 : Nat) : Int) := by omega
          have HY := Lib.hid hY
          clear hY
          have hb1 : (128 : Int) ≤ b := by omega
          go_wp2
          go_round
          case rel =>
            rw [HS.out _ HY.out]
            exact ⟨k + 1, by omega, by omega, by go_num, rfl, HG'⟩
          case measure => simp [intOf]; omega
        · have HR := Lib.hid (Vi.rtest s k HG.out hlt (by omega) (by omega))
          have HYes : Vi.okL (Vi.nums s) = true → Vi.varV s = Vi.val ((Vi.nums s).take (k + 1)) % 18446744073709551616 ∧ Vi.varO s = true ∧ Vi.varT s = s.extract (k + 1) s.size := by
            intro ho
            rw [Vi.okL_at _ k HG.out (by omega) (by omega) (by omega), decide_eq_true_iff] at ho
            exact Vi.var_yes s k HG.out hlt (by omega) (by omega) ho
          have HNo := Vi.var_no s
          have HV2 : Hid (Vi.val ((Vi.nums s).take (k + 1)) % 18446744073709551616 < 18446744073709551616) := Nat.mod_lt _ (by omega)
          generalize Vi.val ((Vi.nums s).take (k + 1)) % 18446744073709551616 = v2 at *
          generalize (Vi.nums s).getD k 0 = b at *
          have hW : IntKind.u64.wrap (b : Int) = (b : Int) := IntWalk.u64_in _ (by omega)
          have hY : (b : Int) % 128 = ((b % 128 : Nat) : Int) := by omega
          have HY := Lib.hid hY
          clear hY
          have hb1 : (b : Int) < 128 := by omega
          go_wp2
          rw [HS.out _ HY.out]
          have q1 : IntKind.i64.wrap ((k : Int) + 1) = (k : Int) + 1 := IntWalk.i64_in _ (by omega)
          have q2 : 0 ≤ (k : Int) + 1 := by omega
          have q3 : ((k : Int) + 1).toNat = k + 1 := by omega
          have q4 : (k : Int) + 1 ≤ s.size := by omega
          have hB : Below w.heap.size w w.drew := (Below.refl _ _).drew
          have HYes' := Lib.hid HYes
          have HNo' := Lib.hid HNo
          clear HS HY HV HG hW he HYes HNo
          go_region_held3 (fun w' => w'.cell? ⟨g, 0, none⟩ = some (.string s)) ((first | assumption | go_keep)) (first
            | (go_at_call 60; ((with_reducible refine (rput_at _ g s _ HV2.out ?_).mono ?_); (first | assumption | (simp [*]; done)); rintro e w4 ⟨rfl, hb4, hc4⟩; replace hB := hB.trans (hb4.mono hB.size); clear hb4)))
          rw [HR.out]
          have f4 : w4.frozen? ⟨g, 0, none⟩ = false := (hB.frozen (p := ⟨g, 0, none⟩) h.lt).trans f0
          cases ho : Vi.okL (Vi.nums s)
          · have HN := Lib.hid (HNo'.out ho)
            clear ho HR q1 q2 q3 q4 f0 c0
            go_wp2_with fail
            refine (HF.out w4 hB).mono ?_
            rintro e w5 ⟨rfl, h3, h4⟩
            go_wp2
            go_ret
            obtain ⟨y1, y2, y3⟩ := HN.out
            rw [y1, y2, y3, Bool.not_false, Bool.or_true]
            exact ⟨rfl, h3, (grownBy_below hB _).trans h4⟩
          · have HN := Lib.hid (HYes'.out ho)
            clear ho HR q1 q2 q3 q4 f0 c0
            have hk1 : (k : Int) + 1 ≤ s.size := by omega
            go_wp2
            go_ret
            obtain ⟨y1, y2, y3⟩ := HN.out
            rw [y1, y2, y3, Bool.not_true, Bool.or_false]
            exact ⟨rfl, (h.below hB h.lt).set0 _, (grownBy_below hB _).trans (grownBy_set _)⟩
      · have hkk : k = s.size := by omega
        have HY := Lib.hid (Vi.var_no s (Vi.okL_no _ k HG.out (.inr (by omega))))
        clear HG
        generalize Vi.val ((Vi.nums s).take k) % 18446744073709551616 = v at *
        have hks' : decide (k < s.size) = false := decide_eq_false (by omega)
        have HKK := Lib.hid hkk
        clear hkk
        go_wp2_with fail
        refine (HF.out w (Below.refl _ _)).mono ?_
        rintro e w5 ⟨rfl, h3, h4⟩
        go_wp2
        go_ret
        obtain ⟨y1, y2, y3⟩ := HY.out
        rw [y1, y2, y3, Bool.not_false, Bool.or_true]
        exact ⟨rfl, h3, h4⟩
    · have hkk : k = 10 := by omega
      have HY := Lib.hid (Vi.var_no s (Vi.okL_no _ k HG.out (.inl hkk)))
      clear HG
      generalize Vi.val ((Vi.nums s).take k) % 18446744073709551616 = v at *
      have HKK := Lib.hid hkk
      clear hkk
      go_wp2_with fail
      refine (HF.out w (Below.refl _ _)).mono ?_
      rintro e w5 ⟨rfl, h3, h4⟩
      go_wp2
      go_ret
      obtain ⟨y1, y2, y3⟩ := HY.out
      rw [y1, y2, y3, Bool.not_false, Bool.or_true]
      exact ⟨rfl, h3, h4⟩

theorem Vi.sane_var (s : ByteArray) (bad : Bool) (h : Vi.Sane s bad) : Vi.Sane (Vi.varT s) (bad || !Vi.varO s) := by
  intro hb
  cases ho : Vi.varO s
  · exact (Vi.var_no s ho).2.2
  · rw [ho] at hb
    have := h (by simpa using hb)
    subst this
    revert ho; decide
theorem Vi.sane_byt (s : ByteArray) (bad : Bool) (n : Int) (h : Vi.Sane s bad) : Vi.Sane (Vi.bytT s n) (bad || !Vi.hasB s n) := by
  intro hb
  unfold Vi.bytT
  cases ho : Vi.hasB s n
  · rfl
  · rw [ho] at hb
    have := h (by simpa using hb)
    subst this
    apply ByteArray.ext; simp
namespace Vi
theorem nums_append (a b : ByteArray) : nums (a ++ b) = nums a ++ nums b := by
  unfold nums
  rw [ByteArray.data_append, Array.toList_append, List.map_append]
theorem append_assoc3 (a b c : ByteArray) : a ++ b ++ c = a ++ (b ++ c) := by
  apply ByteArray.ext
  simp [ByteArray.data_append, Array.append_assoc]
theorem extract_left (a b : ByteArray) : (a ++ b).extract 0 a.size = a := by
  apply nums_inj
  rw [nums_extract, nums_append, List.drop_zero, Nat.sub_zero, List.take_left' (nums_length a)]
theorem extract_right (a b : ByteArray) : (a ++ b).extract a.size (a ++ b).size = b := by
  apply nums_inj
  rw [nums_extract, nums_append, List.drop_left' (nums_length a), List.take_of_length_le]
  rw [nums_length, ByteArray.size_append]; omega
end Vi
end Go.Proofs.YtdoombcihobejaaGreat
