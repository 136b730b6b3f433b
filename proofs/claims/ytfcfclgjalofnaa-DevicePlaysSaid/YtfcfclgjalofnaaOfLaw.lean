/-
  The walk of the law DeviceOf.
  Conditions: none but the number's and the string's bounds.
-/
import Derived.Test.YtfcfclgjalofnaaRo2
import Derived.Test.YtfcfclgjalofnaaTwice
import Derived.Test.YtfcfclgjalofnaaBounds
namespace Go.Proofs.Ytfcfclgjalofnaa
open Go.RowKit Dk
set_option linter.unusedVariables false
theorem fresh_image (l : List UInt8) (n : Nat) (h : l.length = n * 64) : (St.fresh n (segF l n)).image = l := by
  show catS (segF l n) n = l
  rw [catS_seg l n h n (Nat.le_refl _), List.take_of_length_le (by omega)]
theorem cut_600 (s : ByteArray) : ∃ a : List UInt8, a.length ≤ 600 ∧ s.extract 0 (min (s.size : Int) 600).toNat = txt a := by
  refine ⟨s.data.toList.take 600, by simp; omega, ?_⟩
  have e : (min (s.size : Int) 600).toNat = min s.size 600 := by omega
  rw [e]
  conv => lhs; rw [← txt_of s]
  rw [txt_extract, List.drop_zero, txt_of]
  congr 1
  have : s.data.toList.length = s.size := by simp
  rcases Nat.lt_or_ge 600 s.size with h | h
  · rw [Nat.min_eq_right (by omega)]
  · rw [Nat.min_eq_left h, List.take_of_length_le (by omega), List.take_of_length_le (by omega)]
set_option maxHeartbeats 4000000 in
set_option maxRecDepth 100000 in
theorem ofl_any (s : ByteArray) (m : Nat) (b : Bool) (w : World) (hs : s.size ≤ 140737488351232) (hm : m < 256) :
    Calls Try.prog 4 #[.string s, .int .u8 m, .bool b] w fun e w' => e = .returned (.bool true) ∧ Below w.heap.size w w' := by
  obtain ⟨a, ha, he⟩ := cut_600 s
  have HE := Lib.hid he
  clear he
  cases b
  case false =>
    go_enter Try.func4, Try.ntmps4
    go_wp2_with fail
    refine (examples_any w).mono ?_
    rintro e w0 ⟨rfl, hb0⟩
    go_wp2_with fail
    rw [HE.out]
    clear HE
    obtain ⟨l, hla⟩ : ∃ l, l = a := ⟨_, rfl⟩
    rw [← hla]
    have hl : l.length ≤ 600 := by rw [hla]; exact ha
    clear hla ha
    by_cases hrem : l.length % 64 = 0
    case neg =>
      have HR := Lib.hid (fun wx => of_rem l wx hrem)
      have HQ := Lib.hid (fun wx => rof_rem l wx hrem)
      clear hrem
      go_wp2_with fail
      refine (HR.out w0).mono ?_
      rintro e w1 ⟨rfl, rfl⟩
      go_wp2_with fail
      refine (HQ.out w0).mono ?_
      rintro e w1 ⟨rfl, rfl⟩
      go_wp2
      go_ret
      exact ⟨rfl, hb0⟩
    case pos =>
      by_cases h0 : l.length / 64 < 1
      · have HR := Lib.hid (fun wx => of_size l wx hrem (.inl h0) (by have := hl; omega))
        have HQ := Lib.hid (fun wx => rof_size l wx hrem (.inl h0) (by have := hl; omega))
        clear hrem h0
        go_wp2_with fail
        refine (HR.out w0).mono ?_
        rintro e w1 ⟨rfl, rfl⟩
        go_wp2_with fail
        refine (HQ.out w0).mono ?_
        rintro e w1 ⟨rfl, rfl⟩
        go_wp2
        go_ret
        exact ⟨rfl, hb0⟩
      · obtain ⟨k, hk⟩ : ∃ k, k = l.length / 64 := ⟨_, rfl⟩
        have HK := Lib.hid (show l.length = k * 64 by omega)
        have hk1 : 1 ≤ k := by omega
        have hk2 : k ≤ 4096 := by omega
        clear hk hrem h0
        go_wp2_with fail
        refine (of_yes l k w0 HK.out hk1 hk2).mono ?_
        rintro e w1 ⟨g, L, rfl, hD1, hL1, hb1⟩
        have hb01 := hb0.trans (hb1.mono hb0.size)
        unfold ptr at *
        go_wp2_with fail
        refine (rof_yes l k w1 HK.out hk1 hk2).mono ?_
        rintro e w2 ⟨gr, Lr, rfl, hR2, hb2⟩
        have hD2 := hD1.below hb2
        have hb02 := hb01.trans (hb2.mono hb01.size)
        have HIM := Lib.hid (image_any g L _ w2 hD2)
        rw [fresh_image l k HK.out] at HIM
        have HW := Lib.hid (fun wx (hx : Dv wx g L (St.fresh k (segF l k))) => waiting_any g L _ wx hx)
        rw [waits_fresh] at HW
        have hszl : (txt l).size = l.length := txt_size l
        unfold ptr at *
        go_wp2_with fail
        refine HIM.out.mono ?_
        rintro e w3 ⟨rfl, hb3⟩
        have hD3 := hD2.below hb3
        have hb03 := hb02.trans (hb3.mono hb02.size)
        go_wp2_with fail
        refine (HW.out w3 hD3).mono ?_
        rintro e w4 ⟨v, rfl, hown, hb4⟩
        obtain ⟨A, c, rfl⟩ := slice_of_row hown
        go_wp2
        go_ret
        exact ⟨rfl, hb03.trans (hb4.mono hb03.size)⟩
  case true =>
    obtain ⟨i0, hi, hz0, hz1, hz2⟩ := info_parts Try.info5
    obtain ⟨q, hq⟩ : ∃ q, q = m % 9 := ⟨_, rfl⟩
    have hqi : (m : Int) % 9 = (q : Int) := by rw [hq]; push_cast; rfl
    obtain ⟨n, hn⟩ : ∃ n, n = 64 * q := ⟨_, rfl⟩
    have hni : 64 * (q : Int) = (n : Int) := by rw [hn]; push_cast; rfl
    have hq9 : q < 9 := by omega
    have hq8 : (q : Int) ≤ 8 := by omega
    have hq0 : (0 : Int) ≤ q := by omega
    have hn8 : (n : Int) ≤ 512 := by omega
    have HN := Lib.hid hn
    obtain ⟨p, hp⟩ : ∃ p, p = a.length := ⟨_, rfl⟩
    have hsz : (txt a).size = p := by rw [hp]; exact txt_size a
    have hp6 : (p : Int) ≤ 600 := by omega
    have hp0 : (0 : Int) ≤ p := by omega
    have hzz : (txt (Dk.zeros 600)).size = 600 := by rw [txt_size]; simp [Dk.zeros]
    clear hq hn
    go_enter Try.func4, Try.ntmps4
    go_wp2_with fail
    refine (examples_any w).mono ?_
    rintro e w0 ⟨rfl, hb0⟩
    go_wp2_with (at_make; refine wpList_make_full _ rfl _ _ 44 rfl w.heap.size 5 i0 (.int .u8 0) 1 Try.underlying44 hi hz0 hz1 .i64 .i64 _ _ 600 rfl rfl rfl rfl (by rw [hz2]; omega) (by unfold maxLen; omega) hb0.size ?_; intro w0' hown0 hgrow0)
    rw [HE.out]
    clear HE
    have hcv := conv_made hown0 (by omega)
    have hb0' : Below w.heap.size w w0' := hb0.grown hgrow0 hb0.size (by simp)
    clear hown0 hgrow0 hb0
    go_wp2_with fail
    rw [hcv]
    go_wp2_with fail
    obtain ⟨l, hla⟩ : ∃ l, l = (a ++ Dk.zeros 600).take n := ⟨_, rfl⟩
    have hex : (txt a ++ txt (Dk.zeros 600)).extract 0 n = txt l := by
      rw [txt_append, txt_extract, List.drop_zero, hla]
    have hl : l.length ≤ 600 := by rw [hla, List.length_take]; omega
    rw [hex]
    have hb0 := hb0'
    clear hla hex hcv hb0' ha hp
    generalize w0' = w0 at *
    by_cases hrem : l.length % 64 = 0
    case neg =>
      have HR := Lib.hid (fun wx => of_rem l wx hrem)
      have HQ := Lib.hid (fun wx => rof_rem l wx hrem)
      clear hrem
      go_wp2_with fail
      refine (HR.out w0).mono ?_
      rintro e w1 ⟨rfl, rfl⟩
      go_wp2_with fail
      refine (HQ.out w0).mono ?_
      rintro e w1 ⟨rfl, rfl⟩
      go_wp2
      go_ret
      exact ⟨rfl, hb0⟩
    case pos =>
      by_cases h0 : l.length / 64 < 1
      · have HR := Lib.hid (fun wx => of_size l wx hrem (.inl h0) (by have := hl; omega))
        have HQ := Lib.hid (fun wx => rof_size l wx hrem (.inl h0) (by have := hl; omega))
        clear hrem h0
        go_wp2_with fail
        refine (HR.out w0).mono ?_
        rintro e w1 ⟨rfl, rfl⟩
        go_wp2_with fail
        refine (HQ.out w0).mono ?_
        rintro e w1 ⟨rfl, rfl⟩
        go_wp2
        go_ret
        exact ⟨rfl, hb0⟩
      · obtain ⟨k, hk⟩ : ∃ k, k = l.length / 64 := ⟨_, rfl⟩
        have HK := Lib.hid (show l.length = k * 64 by omega)
        have hk1 : 1 ≤ k := by omega
        have hk2 : k ≤ 4096 := by omega
        clear hk hrem h0
        go_wp2_with fail
        refine (of_yes l k w0 HK.out hk1 hk2).mono ?_
        rintro e w1 ⟨g, L, rfl, hD1, hL1, hb1⟩
        have hb01 := hb0.trans (hb1.mono hb0.size)
        unfold ptr at *
        go_wp2_with fail
        refine (rof_yes l k w1 HK.out hk1 hk2).mono ?_
        rintro e w2 ⟨gr, Lr, rfl, hR2, hb2⟩
        have hD2 := hD1.below hb2
        have hb02 := hb01.trans (hb2.mono hb01.size)
        have HIM := Lib.hid (image_any g L _ w2 hD2)
        rw [fresh_image l k HK.out] at HIM
        have HW := Lib.hid (fun wx (hx : Dv wx g L (St.fresh k (segF l k))) => waiting_any g L _ wx hx)
        rw [waits_fresh] at HW
        have hszl : (txt l).size = l.length := txt_size l
        unfold ptr at *
        go_wp2_with fail
        refine HIM.out.mono ?_
        rintro e w3 ⟨rfl, hb3⟩
        have hD3 := hD2.below hb3
        have hb03 := hb02.trans (hb3.mono hb02.size)
        go_wp2_with fail
        refine (HW.out w3 hD3).mono ?_
        rintro e w4 ⟨v, rfl, hown, hb4⟩
        obtain ⟨A, c, rfl⟩ := slice_of_row hown
        go_wp2
        go_ret
        exact ⟨rfl, hb03.trans (hb4.mono hb03.size)⟩

end Go.Proofs.Ytfcfclgjalofnaa
