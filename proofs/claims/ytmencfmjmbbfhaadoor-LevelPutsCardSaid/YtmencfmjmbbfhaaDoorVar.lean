/-
  The contracts of (*varint.Reader).Var, and of the document's own.
  Conditions: named in each theorem.
-/
import Derived.Test.YtmencfmjmbbfhaaDoorVRd
namespace Go.Proofs.YtmencfmjmbbfhaaDoor
open Go.RowKit
namespace Vi
def nums (s : ByteArray) : List Nat := s.data.toList.map (·.toNat)
theorem nums_length (s : ByteArray) : (nums s).length = s.size := by simp [nums]
theorem nums_lt (s : ByteArray) : ∀ x ∈ nums s, x < 256 := by
  intro x hx
  obtain ⟨b, _, rfl⟩ := List.mem_map.1 hx
  exact b.toNat_lt
theorem nums_getD_lt (s : ByteArray) (k : Nat) : (nums s).getD k 0 < 256 := by
  rw [List.getD_eq_getElem?_getD]
  rcases h : (nums s)[k]? with _ | x
  · decide
  · exact nums_lt s x (List.mem_of_getElem? h)
theorem extract_extract (s : ByteArray) (k : Nat) (h : k ≤ s.size) : tlB (s.extract k s.size) = s.extract (k + 1) s.size := by
  unfold tlB
  apply ByteArray.ext
  have e : min (k + (s.size - k)) s.size = s.size := by omega
  simp [ByteArray.data_extract, Array.extract_extract, e]
theorem nums_extract (s : ByteArray) (a b : Nat) : nums (s.extract a b) = ((nums s).drop a).take (b - a) := by
  unfold nums
  rw [ByteArray.data_extract, Array.toList_extract, List.extract_eq_take_drop, List.map_take, List.map_drop]
theorem hdB_eq (s : ByteArray) : hdB s = (nums s).getD 0 0 := by
  unfold hdB nums
  rw [List.getD_eq_getElem?_getD, List.getD_eq_getElem?_getD, List.getElem?_map]
  cases s.data.toList[0]? <;> rfl
theorem hdB_extract (s : ByteArray) (k : Nat) (h : k < s.size) : hdB (s.extract k s.size) = (nums s).getD k 0 := by
  rw [hdB_eq, nums_extract, List.getD_eq_getElem?_getD, List.getElem?_take, if_pos (by omega), List.getElem?_drop, Nat.add_zero, List.getD_eq_getElem?_getD]
def varV (s : ByteArray) : Nat := valL (nums s)
def varO (s : ByteArray) : Bool := okL (nums s)
def varT (s : ByteArray) : ByteArray := s.extract (lenL (nums s)) s.size
theorem low7 (b : Nat) (h : b < 256) : bits BinOp.andNot IntKind.u8 (b : Int) 128 = ((b % 128 : Nat) : Int) := by
  have h2 : bits BinOp.andNot IntKind.u8 (b : Int) 128 = ((b &&& (255 - 128) : Nat) : Int) := u8_andNot_nat b 128 h (by omega)
  rw [h2]
  congr 1
  exact Nat.and_two_pow_sub_one_eq_mod b 7
theorem val_ok (l : List Nat) (i : Nat) (hi : i < l.length) (h9 : i ≤ 9) (hb : i = 9 → l.getD i 0 ≤ 1) : val (l.take (i + 1)) % 18446744073709551616 = val (l.take (i + 1)) := by
  refine Nat.mod_eq_of_lt ?_
  rcases Nat.lt_or_ge i 9 with h | h
  · exact Nat.lt_trans (val_take_le l (i + 1) (by omega)) (by omega)
  · obtain rfl : i = 9 := by omega
    have h1 := val_take l 9 hi
    have h2 := val_take_lt l 9
    have h3 := hb rfl
    have h4 : (128 : Nat) ^ 9 = 9223372036854775808 := by decide
    rw [h4] at h1 h2
    have h5 : l.getD 9 0 % 128 ≤ 1 := Nat.le_trans (Nat.mod_le _ _) h3
    omega
theorem step7 (l : List Nat) (k : Nat) (hk : k < l.length) (h9 : k ≤ 9) (X : Int) (hX : X = ((l.getD k 0 % 128 : Nat) : Int)) :
    bits BinOp.or IntKind.u64 ((val (l.take k) % 18446744073709551616 : Nat) : Int) (IntKind.u64.wrap (IntKind.u64.wrap X * 2 ^ (7 * k))) = ((val (l.take (k + 1)) % 18446744073709551616 : Nat) : Int) := by
  subst hX
  have hc : l.getD k 0 % 128 < 128 := Nat.mod_lt _ (by omega)
  have hv := val_take_lt l k
  have hs := val_take l k hk
  have hle := val_take_le l k h9
  rw [hs]
  generalize val (l.take k) = V at *
  generalize l.getD k 0 % 128 = c at *
  have hp : (128 : Nat) ^ k = 2 ^ (7 * k) := by rw [Nat.pow_mul]
  rw [hp] at hv ⊢
  have hpq : 2 ^ (7 * k) * 2 ^ (64 - 7 * k) = 18446744073709551616 := by
    rw [← Nat.pow_add]
    have : 7 * k + (64 - 7 * k) = 64 := by omega
    rw [this]
  have hq0 : 0 < 2 ^ (64 - 7 * k) := Nat.pow_pos (by omega)
  have hw1 : IntKind.u64.wrap ((c : Nat) : Int) = ((c : Nat) : Int) := IntWalk.u64_in _ (by omega)
  have hw2 : IntKind.u64.wrap (((c : Nat) : Int) * 2 ^ (7 * k)) = ((2 ^ (7 * k) * (c % 2 ^ (64 - 7 * k)) : Nat) : Int) := by
    have e : ((c : Nat) : Int) * 2 ^ (7 * k) = ((2 ^ (7 * k) * c : Nat) : Int) := by
      rw [Int.natCast_mul, Int.natCast_pow, Int.mul_comm]; rfl
    have e2 : IntKind.u64.wrap ((2 ^ (7 * k) * c : Nat) : Int) = ((2 ^ (7 * k) * c : Nat) : Int) % 18446744073709551616 := by
      rw [IntKind.wrap_u64]
    rw [e, e2]
    have e3 : ((2 ^ (7 * k) * c : Nat) : Int) % 18446744073709551616 = (((2 ^ (7 * k) * c) % 18446744073709551616 : Nat) : Int) := by
      rw [Int.natCast_emod]; rfl
    rw [e3, ← hpq, Nat.mul_mod_mul_left]
  rw [hw1, hw2, Nat.mod_eq_of_lt (Nat.lt_trans hle (by omega))]
  have hcq : c % 2 ^ (64 - 7 * k) < 2 ^ (64 - 7 * k) := Nat.mod_lt _ hq0
  have hlt : V + 2 ^ (7 * k) * (c % 2 ^ (64 - 7 * k)) < 18446744073709551616 := by
    rw [← hpq]
    have h1 : 2 ^ (7 * k) * (c % 2 ^ (64 - 7 * k) + 1) ≤ 2 ^ (7 * k) * 2 ^ (64 - 7 * k) := Nat.mul_le_mul_left _ hcq
    rw [Nat.mul_add, Nat.mul_one] at h1
    omega
  have hor := Nat.two_pow_add_eq_or_of_lt hv (c % 2 ^ (64 - 7 * k))
  have hb := u64_or_nat V (2 ^ (7 * k) * (c % 2 ^ (64 - 7 * k))) (by omega) (by omega)
  rw [hb, Nat.or_comm, ← hor]
  congr 1
  have hdm : 2 ^ (7 * k) * c = 2 ^ (7 * k) * (c % 2 ^ (64 - 7 * k)) + 18446744073709551616 * (c / 2 ^ (64 - 7 * k)) := by
    rw [← hpq, Nat.mul_assoc, ← Nat.mul_add, Nat.mod_add_div]
  rw [hdm, ← Nat.add_assoc, Nat.add_mul_mod_self_left, Nat.mod_eq_of_lt hlt, Nat.add_comm]
theorem var_yes (s : ByteArray) (k : Nat) (h : ∀ j, j < k → 128 ≤ (nums s).getD j 0) (hk : k < s.size) (hb : (nums s).getD k 0 < 128) (h9 : k ≤ 9) (hc : (k = 0 ∨ (nums s).getD k 0 ≠ 0) ∧ (k = 9 → (nums s).getD k 0 ≤ 1)) :
    varV s = val ((nums s).take (k + 1)) % 18446744073709551616 ∧ varO s = true ∧ varT s = s.extract (k + 1) s.size := by
  have hl := nums_length s
  have ho : okL (nums s) = true := by rw [okL_at _ k h (by omega) hb h9]; exact decide_eq_true hc
  have hv := valL_at _ k h (by omega) hb ho
  unfold varV varO varT
  exact ⟨by rw [hv.1, val_ok _ k (by omega) h9 hc.2], ho, by rw [hv.2]⟩
theorem var_no (s : ByteArray) (h : okL (nums s) = false) : varV s = 0 ∧ varO s = false ∧ varT s = ⟨#[]⟩ := by
  unfold varV varO varT valL lenL
  rw [h, if_neg (by decide), if_neg (by decide), nums_length]
  refine ⟨rfl, rfl, ?_⟩
  apply ByteArray.ext
  simp
theorem var_no_at (s : ByteArray) (k : Nat) (h : ∀ j, j < k → 128 ≤ (nums s).getD j 0) (hk : k < s.size) (hb : (nums s).getD k 0 < 128) (h9 : k ≤ 9) (hc : ¬ ((k = 0 ∨ (nums s).getD k 0 ≠ 0) ∧ (k = 9 → (nums s).getD k 0 ≤ 1))) :
    varV s = 0 ∧ varO s = false ∧ varT s = ⟨#[]⟩ := by
  have hl := nums_length s
  refine var_no s ?_
  rw [okL_at _ k h (by omega) hb h9]; exact decide_eq_false hc
end Vi
theorem ret_eq {k : IntKind} {a b : Int} (h : a = b) : Ending.returned (.int k a) = .returned (.int k b) := by rw [h]
set_option maxHeartbeats 2000000 in
set_option maxRecDepth 100000 in
theorem var_any (g : Nat) (s : ByteArray) (bad : Bool) (w : World) (h : Rd 94 g s bad w) (hm : s.size ≤ 281474976710656) :
    Calls Tryd.prog 38 #[rdp g] w fun e w' => e = .returned (.int .u64 (Vi.varV s)) ∧ Rd 94 g (Vi.varT s) (bad || !Vi.varO s) w' ∧ w.grownBy w' (some g) := by
  have hmf : ∀ (fn : Fn) (first cap : Array Value) (w : World), (Instr.makeFunc fn first cap).run Tryd.prog w = .ok (.func fn first cap) w := fun _ _ _ _ => rfl
  have hl := Vi.nums_length s
  unfold rdp
  go_enter Tryd.func38, Tryd.ntmps38
  go_wp2
  go_loopw [4, 9] (fun n c wr => ∃ k : Nat, k ≤ 10 ∧ k ≤ s.size ∧ c = .int .i64 k ∧ n = .int .u64 ((Vi.val ((Vi.nums s).take k) % 18446744073709551616 : Nat) : Int) ∧ Hid (∀ j, j < k → 128 ≤ (Vi.nums s).getD j 0) ∧ Rd 94 g (s.extract k s.size) bad wr ∧ w.grownBy wr (some g)) (fun _ c _ => 10 - (intOf c).toNat)
  case atStart =>
    refine ⟨0, by omega, by omega, rfl, rfl, fun j hj => by omega, ?_, World.grownBy.refl _ _⟩
    have e : s.extract 0 s.size = s := by apply ByteArray.ext; simp
    rw [e]; exact h
  case round =>
    obtain ⟨k, hk, hks, rfl, rfl, HG, hr, hb⟩ := hrel
    by_cases hk10 : k < 10
    · rcases Nat.lt_or_ge k s.size with hlt | hge
      · have hN := Lib.hid (next_some g _ bad wr hr (by rw [ByteArray.size_extract]; omega) (by rw [ByteArray.size_extract]; omega))
        have hbt := Vi.nums_getD_lt s k
        have HH := Lib.hid (Vi.hdB_extract s k hlt)
        have HT := Lib.hid (Vi.extract_extract s k hks)
        have HB := Lib.hid (Vi.low7 _ hbt)
        clear hmf
        unfold rdp at *
        generalize hv : Vi.val ((Vi.nums s).take k) % 18446744073709551616 = v at *
        have HV := Lib.hid hv
        clear hv
        go_wp2_with fail
        refine hN.out.mono ?_
        rintro e w1 ⟨rfl, h1, h2⟩
        rw [HT.out] at h1
        rw [HH.out]
        clear HH HT hN
        have hb' := hb.trans h2
        clear h2 hb hr
        have HS := Lib.hid (fun X hX => Vi.step7 (Vi.nums s) k (by omega) (by omega) X hX)
        rw [HV.out] at HS
        by_cases hb128 : 128 ≤ (Vi.nums s).getD k 0
        · have HG' : Hid (∀ j, j < k + 1 → 128 ≤ (Vi.nums s).getD j 0) := fun j hj => by
            rcases Nat.lt_or_ge j k with h | h
            · exact HG.out j h
            · obtain rfl : j = k := by omega
              exact hb128
          generalize (Vi.nums s).getD k 0 = b at *
          go_wp2
          go_roundw
          case rel =>
            rw [HS.out _ HB.out]
            exact ⟨k + 1, by omega, by omega, by go_num, rfl, HG', h1, hb'⟩
          case measure => simp [intOf]; omega
        · by_cases hc : (k = 0 ∨ (Vi.nums s).getD k 0 ≠ 0) ∧ (k = 9 → (Vi.nums s).getD k 0 ≤ 1)
          · have HY := Lib.hid (Vi.var_yes s k HG.out hlt (by omega) (by omega) hc)
            have hb1 : (Vi.nums s).getD k 0 < 128 := by omega
            clear HG
            have hfin : ∀ e : Int, e = ((Vi.val ((Vi.nums s).take (k + 1)) % 18446744073709551616 : Nat) : Int) → (Ending.returned (.int .u64 e) = .returned (.int .u64 (Vi.varV s)) ∧ Rd 94 g (Vi.varT s) (bad || !Vi.varO s) w1 ∧ w.grownBy w1 (some g)) := by
              intro e he
              obtain ⟨y1, y2, y3⟩ := HY.out
              rw [y1, y2, y3, he, Bool.not_true, Bool.or_false]
              exact ⟨rfl, h1, hb'⟩
            have HF := Lib.hid hfin
            clear hfin HY
            generalize (Vi.nums s).getD k 0 = b at *
            rcases Nat.eq_zero_or_pos k with h0 | h0
            · have hk0 : ¬ ((0 : Int) < k) := by omega
              have hk9 : ((k : Int) == 9) = false := by rw [beq_eq_false_iff_ne]; omega
              have HK := Lib.hid h0
              clear h0 hc
              go_wp2
              go_ret
              exact HF.out _ (HS.out _ HB.out)
            · have hb0 : ((b : Int) == 0) = false := by rw [beq_eq_false_iff_ne]; omega
              have hk0 : ((0 : Int) < k) := by omega
              rcases Nat.lt_or_ge k 9 with h9 | h9
              · have hk9 : ((k : Int) == 9) = false := by rw [beq_eq_false_iff_ne]; omega
                clear hc
                go_wp2
                go_ret
                exact HF.out _ (HS.out _ HB.out)
              · have hk9 : ((k : Int) == 9) = true := by rw [beq_iff_eq]; omega
                have hb2 : (b : Int) ≤ 1 := by have := hc.2 (by omega); omega
                clear hc
                go_wp2
                go_ret
                exact HF.out _ (HS.out _ HB.out)
          · have HY := Lib.hid (Vi.var_no_at s k HG.out hlt (by omega) (by omega) hc)
            have hb1 : (Vi.nums s).getD k 0 < 128 := by omega
            clear HG
            have hfin : ∀ w', Rd 94 g ⟨#[]⟩ true w' → w1.grownBy w' (some g) → ((0 : Int) = (Vi.varV s : Int) ∧ Rd 94 g (Vi.varT s) (bad || !Vi.varO s) w' ∧ w.grownBy w' (some g)) := by
              intro w' h1' h2'
              obtain ⟨y1, y2, y3⟩ := HY.out
              rw [y1, y2, y3, Bool.not_false, Bool.or_true]
              exact ⟨rfl, h1', hb'.trans h2'⟩
            have HF := Lib.hid hfin
            clear hfin HY
            generalize (Vi.nums s).getD k 0 = b at *
            have hk0 : ((0 : Int) < k) := by omega
            by_cases hb0 : b = 0
            · have hb0' : ((b : Int) == 0) = true := by rw [beq_iff_eq]; omega
              have HB0 := Lib.hid hb0
              clear hb0 hc
              go_wp2_with fail
              refine (fail_any g _ bad _ h1).mono ?_
              rintro e w2 ⟨rfl, h3, h4⟩
              go_wp2
              go_ret
              exact ⟨ret_eq (HF.out w2 h3 h4).1, (HF.out w2 h3 h4).2⟩
            · have hb0' : ((b : Int) == 0) = false := by rw [beq_eq_false_iff_ne]; omega
              have hk9 : ((k : Int) == 9) = true := by rw [beq_iff_eq]; omega
              have hb2 : (1 : Int) < b := by omega
              clear hb0 hc
              go_wp2_with fail
              refine (fail_any g _ bad _ h1).mono ?_
              rintro e w2 ⟨rfl, h3, h4⟩
              go_wp2
              go_ret
              exact ⟨ret_eq (HF.out w2 h3 h4).1, (HF.out w2 h3 h4).2⟩
      · have hkk : k = s.size := by omega
        have he : s.extract k s.size = ⟨#[]⟩ := by
          apply ByteArray.ext; rw [hkk]; simp
        rw [he] at hr
        have hN := Lib.hid (next_none g bad wr hr)
        have HY := Lib.hid (Vi.var_no s (Vi.okL_no _ k HG.out (.inr (by omega))))
        have hfin : ∀ w', Rd 94 g ⟨#[]⟩ true w' → wr.grownBy w' (some g) → ((0 : Int) = (Vi.varV s : Int) ∧ Rd 94 g (Vi.varT s) (bad || !Vi.varO s) w' ∧ w.grownBy w' (some g)) := by
          intro w' h1' h2'
          obtain ⟨y1, y2, y3⟩ := HY.out
          rw [y1, y2, y3, Bool.not_false, Bool.or_true]
          exact ⟨rfl, h1', hb.trans h2'⟩
        have HF := Lib.hid hfin
        clear hfin HY HG hmf hr hb he
        unfold rdp at *
        have HZ : Hid (k = 0 → Vi.val ((Vi.nums s).take k) % 18446744073709551616 = 0) := by rintro rfl; simp [Vi.val]
        generalize Vi.val ((Vi.nums s).take k) % 18446744073709551616 = v at *
        have HKK := Lib.hid hkk
        clear hkk
        go_wp2_with fail
        refine hN.out.mono ?_
        rintro e w1 ⟨rfl, h1, h2⟩
        rcases Nat.eq_zero_or_pos k with h0 | h0
        · have hk0 : ¬ ((0 : Int) < k) := by omega
          have hk9 : ((k : Int) == 9) = false := by rw [beq_eq_false_iff_ne]; omega
          have HK := Lib.hid h0
          clear h0
          go_wp2
          go_ret
          have hz0 := HK.out
          have hv0 := HZ.out hz0
          have e0 : bits BinOp.or IntKind.u64 ((v : Nat) : Int) (IntKind.u64.wrap (IntKind.u64.wrap (bits BinOp.andNot IntKind.u8 0 128) * 2 ^ (7 * k))) = 0 := by
            rw [hv0, hz0]; decide
          exact ⟨ret_eq (e0.trans (HF.out w1 h1 h2).1), (HF.out w1 h1 h2).2⟩
        · have hk0 : ((0 : Int) < k) := by omega
          go_wp2_with fail
          refine (fail_any g _ true _ h1).mono ?_
          rintro e w2 ⟨rfl, h3, h4⟩
          go_wp2
          go_ret
          exact ⟨ret_eq (HF.out w2 h3 (h2.trans h4)).1, (HF.out w2 h3 (h2.trans h4)).2⟩
    · have hkk : k = 10 := by omega
      have HY := Lib.hid (Vi.var_no s (Vi.okL_no _ k HG.out (.inl hkk)))
      clear HG hmf
      generalize Vi.val ((Vi.nums s).take k) % 18446744073709551616 = v at *
      have HKK := Lib.hid hkk
      clear hkk
      unfold rdp at *
      go_wp2_with fail
      refine (fail_any g _ bad _ hr).mono ?_
      rintro e w2 ⟨rfl, h3, h4⟩
      go_wp2
      go_ret
      obtain ⟨y1, y2, y3⟩ := HY.out
      rw [y1, y2, y3, Bool.not_false, Bool.or_true]
      exact ⟨rfl, h3, hb.trans h4⟩
end Go.Proofs.YtmencfmjmbbfhaaDoor
