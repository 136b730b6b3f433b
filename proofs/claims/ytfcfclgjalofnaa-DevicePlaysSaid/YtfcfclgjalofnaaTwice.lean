/-
  The walk of the law DeviceTwice.
  Conditions: none but the strings' bounds.
-/
import Derived.Test.YtfcfclgjalofnaaEx
namespace Go.Proofs.Ytfcfclgjalofnaa
open Go.RowKit Dk
set_option linter.unusedVariables false
/-- A text cut to 64 bytes. -/
theorem cut_of (s : ByteArray) : ∃ a : List UInt8, a.length ≤ 64 ∧ s.extract 0 (min (s.size : Int) 64).toNat = txt a := by
  refine ⟨s.data.toList.take 64, by simp; omega, ?_⟩
  have e : (min (s.size : Int) 64).toNat = min s.size 64 := by omega
  rw [e]
  conv => lhs; rw [← txt_of s]
  rw [txt_extract, List.drop_zero, txt_of]
  congr 1
  have : s.data.toList.length = s.size := by simp
  rcases Nat.lt_or_ge 64 s.size with h | h
  · rw [Nat.min_eq_right (by omega)]
  · rw [Nat.min_eq_left h, List.take_of_length_le (by omega), List.take_of_length_le (by omega)]
theorem after_now (d : St) (l : List Int) (i : Nat) : (d.after l).now i = if (i : Int) ∈ l then d.fl i else d.now i := by
  show (if (i : Int) ∈ l then none else d.wt i).getD (d.fl i) = _
  split
  · rfl
  · rfl
theorem put_now_same (d : St) (i : Nat) (s : Sec) : (d.put i s).now i = s := by
  show (if i = i then some s else d.wt i).getD _ = _
  rw [if_pos rfl]; rfl
theorem settle_now (d : St) (i : Nat) : d.settle.now i = d.now i := rfl
set_option maxHeartbeats 4000000 in
set_option maxRecDepth 100000 in
theorem twice_any (s t u : ByteArray) (w : World) (hs : s.size ≤ 140737488351232) (ht : t.size ≤ 140737488351232) (hu : u.size ≤ 140737488351232) :
    Calls Try.prog 8 #[.string s, .string t, .string u] w fun e w' => e = .returned (.bool true) ∧ Below w.heap.size w w' := by
  obtain ⟨a, ha, he1⟩ := cut_of s
  obtain ⟨b, hb, he2⟩ := cut_of t
  obtain ⟨c, hc, he3⟩ := cut_of u
  have HE1 := Lib.hid he1
  have HE2 := Lib.hid he2
  have HE3 := Lib.hid he3
  clear he1 he2 he3
  go_enter Try.func8, Try.ntmps8
  go_wp2_with fail
  refine (examples_any w).mono ?_
  rintro e w0 ⟨rfl, hb0⟩
  go_wp2_with fail
  refine (new_yes 1 w0 (by omega) (by omega)).mono ?_
  rintro e w1 ⟨g, L, rfl, hD1, hL1, hb1⟩
  have hb01 := hb0.trans (hb1.mono hb0.size)
  have hLB : ∀ k ∈ L, w.heap.size ≤ k := fun k hk => Nat.le_trans hb0.size (hL1 k hk)
  rw [HE1.out, HE2.out, HE3.out]
  clear HE1 HE2 HE3
  -- write a
  have HW1 := Lib.hid (write_any g L _ 0 a w1 hD1)
  rw [show ((0 : Int) = ((0 : Nat) : Int)) from rfl, write_ok_eq (by decide) rfl (by decide) ha] at HW1
  obtain ⟨d1, hd1⟩ : ∃ d1, d1 = (St.fresh 1 fun x => zsec).put 0 (pad a) := ⟨_, rfl⟩
  rw [← hd1] at HW1
  unfold ptr at *
  go_wp2_with fail
  refine HW1.out.mono ?_
  rintro e w2 ⟨rfl, hMv⟩
  obtain ⟨L2, hD2, hL2, hb2, hs2, _, _⟩ := hMv.below hb01 hb01.size hLB
  clear hMv HW1
  -- flush
  have HF := Lib.hid (flush_any g L2 d1 w2 hD2)
  rw [flush_ok_eq (by rw [hd1]; show (-1 : Int) < 0; decide) (by rw [hd1]; rfl)] at HF
  unfold ptr at *
  go_wp2_with fail
  refine HF.out.mono ?_
  rintro e w3 ⟨rfl, hMv⟩
  obtain ⟨L3, hD3, hL3, hb3, hs3, _, _⟩ := hMv.below hb2 hs2 hL2
  clear hMv HF
  -- write b
  have HW2 := Lib.hid (write_any g L3 _ 0 b w3 hD3)
  rw [show ((0 : Int) = ((0 : Nat) : Int)) from rfl, write_ok_eq (by rw [hd1]; show (-1 : Int) < 0; decide) (by rw [hd1]; rfl) (by rw [hd1]; show 0 < 1; decide) hb] at HW2
  unfold ptr at *
  go_wp2_with fail
  refine HW2.out.mono ?_
  rintro e w4 ⟨rfl, hMv⟩
  obtain ⟨L4, hD4, hL4, hb4, hs4, _, _⟩ := hMv.below hb3 hs3 hL3
  clear hMv HW2
  -- write c
  have HW3 := Lib.hid (write_any g L4 _ 0 c w4 hD4)
  rw [show ((0 : Int) = ((0 : Nat) : Int)) from rfl, write_ok_eq (by rw [hd1]; show (-1 : Int) < 0; decide) (by rw [hd1]; rfl) (by rw [hd1]; show 0 < 1; decide) hc] at HW3
  obtain ⟨d2, hd2⟩ : ∃ d2, d2 = ((d1.settle.put 0 (pad b)).put 0 (pad c)) := ⟨_, rfl⟩
  rw [← hd2] at HW3
  unfold ptr at *
  go_wp2_with fail
  refine HW3.out.mono ?_
  rintro e w5 ⟨rfl, hMv⟩
  obtain ⟨L5, hD5, hL5, hb5, hs5, _, _⟩ := hMv.below hb4 hs4 hL4
  clear hMv HW3
  have f1 : d2.n = 1 := by rw [hd2, hd1]; rfl
  have f2 : d2.dead = false := by rw [hd2, hd1]; rfl
  have f3 : d2.now 0 = pad c := by rw [hd2]; exact put_now_same _ _ _
  have f4 : d2.fl 0 = pad a := by rw [hd2, hd1]; show ((St.fresh 1 fun x => zsec).put 0 (pad a)).now 0 = pad a; exact put_now_same _ _ _
  have f5 : d2.waits.length = 1 := by rw [hd2, hd1]; rfl
  have F1 := Lib.hid f1
  have F2 := Lib.hid f2
  have F3 := Lib.hid f3
  have F4 := Lib.hid f4
  have F5 := Lib.hid f5
  clear f1 f2 f3 f4 f5 hd1 hd2 hD1 hD2 hD3 hD4
  -- read
  have HR := Lib.hid (read_any g L5 d2 0 w5 hD5)
  rw [show ((0 : Int) = ((0 : Nat) : Int)) from rfl, readS_eq F2.out (by rw [F1.out]; omega), refuses_yes_eq F2.out (by omega) (by rw [F1.out]; decide), F3.out] at HR
  unfold ptr at *
  go_wp2_with fail
  refine HR.out.mono ?_
  rintro e w6 ⟨rfl, hb6⟩
  have hD6 := hD5.below hb6
  have hb16 := hb5.trans (hb6.mono hs5)
  clear HR
  -- nothing is lost
  have HA := Lib.hid (after_any g L5 d2 none [] 0 w6 hD6 (fun j x h => by cases h) (by simp))
  unfold ptr at *
  go_wp2_with fail
  refine HA.out.mono ?_
  rintro e w7 ⟨gx, Lx, rfl, hDx, hLx, hb7⟩
  have hD7 := hD6.below hb7
  have hb17 := hb16.trans (hb7.mono hb16.size)
  clear HA
  -- much is lost
  have hal : Below w7.heap.size w7 (w7.alloc (.cells #[.int .i64 0, .int .i64 0, .int .i64 5, .int .i64 (-1)] 3)) := (Below.refl _ _).alloc (Nat.le_refl _) _
  have hI : IntsAt (w7.alloc (.cells #[.int .i64 0, .int .i64 0, .int .i64 5, .int .i64 (-1)] 3)) (some ⟨w7.heap.size, 0, none⟩) [0, 0, 5, -1] := by
    intro j x hj
    have hh := heap_alloc_new w7 (.cells #[.int .i64 0, .int .i64 0, .int .i64 5, .int .i64 (-1)] 3)
    refine ⟨?_, _, rfl, by simp, ?_⟩
    · match j, hj with
      | 0, hj => cases hj; decide
      | 1, hj => cases hj; decide
      | 2, hj => cases hj; decide
      | 3, hj => cases hj; decide
    · rw [Addr.add_mid, Nat.zero_add, cell_of_row _ _ j _ 3 (0, 0) hh]
      match j, hj with
      | 0, hj => cases hj; rfl
      | 1, hj => cases hj; rfl
      | 2, hj => cases hj; rfl
      | 3, hj => cases hj; rfl
  have HA2 := Lib.hid (after_any g L5 d2 (some ⟨w7.heap.size, 0, none⟩) [0, 0, 5, -1] 4 _ (hD7.below hal) hI (by simp [maxLen]))
  have HALB := Lib.hid (hb17.trans (hal.mono hb17.size))
  unfold ptr at *
  clear hI
  go_wp2_with fail
  refine HA2.out.mono ?_
  rintro e w8 ⟨gy, Ly, rfl, hDy, hLy, hb8⟩
  have hb18 := HALB.out.trans (hb8.mono HALB.out.size)
  have hs17 := hb17.size
  have hD8 : Dv w8 g L5 d2 := hD7.below (hal.trans (hb8.mono hal.size))
  have hDx8 : Dv w8 gx Lx (d2.after []) := hDx.below (hal.trans (hb8.mono hal.size))
  clear HA2 HALB hal hD7
  have HRx := Lib.hid (read_any gx Lx _ 0 w8 hDx8)
  rw [show ((0 : Int) = ((0 : Nat) : Int)) from rfl, readS_eq rfl (by show 0 < d2.n; rw [F1.out]; omega), refuses_yes_eq rfl (by omega) (by show (0 : Int) < d2.n; rw [F1.out]; decide), after_now, if_neg (by simp), F3.out] at HRx
  unfold ptr at *
  go_wp2_with fail
  refine HRx.out.mono ?_
  rintro e w9 ⟨rfl, hb9⟩
  have hDy9 := hDy.below hb9
  have HRy := Lib.hid (read_any gy Ly _ 0 w9 hDy9)
  rw [show ((0 : Int) = ((0 : Nat) : Int)) from rfl, readS_eq rfl (by show 0 < d2.n; rw [F1.out]; omega), refuses_yes_eq rfl (by omega) (by show (0 : Int) < d2.n; rw [F1.out]; decide), after_now, if_pos (by simp), F4.out] at HRy
  unfold ptr at *
  go_wp2_with fail
  refine HRy.out.mono ?_
  rintro e w10 ⟨rfl, hb10⟩
  have hb20 := (hb18.trans (hb9.mono hb18.size)).trans (hb10.mono (Nat.le_trans hb18.size hb9.size))
  have hD10 := (hD8.below hb9).below hb10
  clear HRx HRy
  go_wp2_with fail
  refine (lwhole_any c _ hc).mono ?_
  rintro e w11 ⟨rfl, hb11⟩
  go_wp2_with fail
  refine (lwhole_any c _ hc).mono ?_
  rintro e w12 ⟨rfl, hb12⟩
  go_wp2_with fail
  refine (lwhole_any a _ ha).mono ?_
  rintro e w13 ⟨rfl, hb13⟩
  have hb23 := ((hb20.trans (hb11.mono hb20.size)).trans (hb12.mono (Nat.le_trans hb20.size hb11.size))).trans (hb13.mono (Nat.le_trans hb20.size (Nat.le_trans hb11.size hb12.size)))
  have HWT := Lib.hid (waiting_any g L5 d2 w13 (((hD10.below hb11).below hb12).below hb13))
  rw [F5.out] at HWT
  unfold ptr at *
  go_wp2_with fail
  refine HWT.out.mono ?_
  rintro e w14 ⟨v, rfl, hrow, hb14⟩
  obtain ⟨gg, cc, rfl, _⟩ := hrow.form (by omega)
  go_wp2
  go_ret
  exact ⟨rfl, hb23.trans (hb14.mono hb23.size)⟩
end Go.Proofs.Ytfcfclgjalofnaa
