/-
  The walk of the law DeviceCrashes.
  Conditions: none but the byte's bound.
-/
import Derived.Test.YtfcfclgjalofnaaTwice
namespace Go.Proofs.Ytfcfclgjalofnaa
open Go.RowKit Dk
set_option linter.unusedVariables false
namespace Dk
/-- A device of 30 sectors, armed with m, behind i writes. -/
def cst (m i : Nat) : St := ⟨30, fun _ => zsec, fun j => if j < min i m then some (pad [120]) else none, (m : Int) - (min i m : Nat), decide (m < i)⟩
theorem cst_zero (m : Nat) : (St.fresh 30 fun _ => zsec).arm m = cst m 0 := by
  unfold St.arm St.fresh cst
  simp
theorem cst_step (m i : Nat) (hm : m ≤ 20) (hi : i < 30) : (cst m i).write i [120] = (cst m (i + 1), if i < m then 0 else 7) := by
  unfold St.write
  by_cases h : m < i
  · have hr : (cst m i).refuses i = 7 := by
      unfold St.refuses
      rw [if_pos (by show decide (m < i) = true; exact decide_eq_true h)]
    rw [if_pos (by rw [hr]; decide), hr, if_neg (by omega)]
    congr 1
    unfold cst
    have e1 : min i m = m := by omega
    have e2 : min (i + 1) m = m := by omega
    rw [e1, e2, decide_eq_true h, decide_eq_true (show m < i + 1 by omega)]
  · have hr : (cst m i).refuses i = 0 := by
      refine refuses_yes_eq ?_ (by omega) (by show (i : Int) < 30; omega)
      show decide (m < i) = false
      exact decide_eq_false h
    rw [if_neg (by rw [hr]; simp), if_neg (by simp)]
    unfold St.try_
    by_cases e : i = m
    · subst e
      rw [if_pos (by show (i : Int) - (min i i : Nat) = 0; rw [Nat.min_self]; omega), if_neg (by omega)]
      congr 1
      unfold St.die cst
      have e2 : min (i + 1) i = i := by omega
      rw [Nat.min_self, e2]
      simp
    · have hlt : i < m := by omega
      have e1 : min i m = i := by omega
      have e2 : min (i + 1) m = i + 1 := by omega
      rw [if_neg (by show ¬ ((m : Int) - (min i m : Nat) = 0); rw [e1]; omega), if_neg (by show ¬ (decide (m < i) = true); simp; omega), if_pos hlt]
      congr 1
      unfold St.step St.put cst
      rw [e1, e2]
      have hl : (0 : Int) < (m : Int) - (i : Nat) := by omega
      simp only [if_pos hl, Int.toNat_natCast]
      congr 1
      · funext j
        by_cases e3 : j = i
        · subst e3; rw [if_pos rfl, if_pos (by omega)]
        · rw [if_neg e3]
          by_cases h4 : j < i
          · rw [if_pos h4, if_pos (by omega)]
          · rw [if_neg h4, if_neg (by omega)]
      · omega
      · rw [decide_eq_false (show ¬ m < i by omega), decide_eq_false (show ¬ m < i + 1 by omega)]
theorem cst_now (m i : Nat) (hm : m ≤ 20) : (cst m 30).now i = if i < m then pad [120] else zsec := by
  show (if i < min 30 m then some (pad [120]) else none).getD zsec = _
  have e1 : min 30 m = m := by omega
  rw [e1]
  split <;> rfl
end Dk
set_option maxHeartbeats 4000000 in
set_option maxRecDepth 100000 in
theorem crashes_any (n : Nat) (w : World) (hn : n < 256) :
    Calls Try.prog 6 #[.int .u8 n] w fun e w' => e = .returned (.bool true) ∧ Below w.heap.size w w' := by
  obtain ⟨m, hm⟩ : ∃ m, m = n % 21 := ⟨_, rfl⟩
  have hmi : (n : Int) % 21 = (m : Int) := by rw [hm]; push_cast; rfl
  have hm20 : m ≤ 20 := by omega
  clear hm
  go_enter Try.func6, Try.ntmps6
  go_wp2_with fail
  refine (examples_any w).mono ?_
  rintro e w0 ⟨rfl, hb0⟩
  go_wp2_with fail
  refine (new_yes 30 w0 (by omega) (by omega)).mono ?_
  rintro e w1 ⟨g, L, rfl, hD1, hL1, hb1⟩
  have hb01 := hb0.trans (hb1.mono hb0.size)
  have hLB : ∀ k ∈ L, w.heap.size ≤ k := fun k hk => Nat.le_trans hb0.size (hL1 k hk)
  have HA := Lib.hid (arm_any g L _ m w1 hD1 (by omega) (by omega))
  rw [cst_zero] at HA
  unfold ptr at *
  go_wp2_with fail
  refine HA.out.mono ?_
  rintro e w2 ⟨rfl, hMv⟩
  obtain ⟨L2, hD2, hL2, hb2, hs2, _, _⟩ := hMv.below hb01 hb01.size hLB
  clear hMv HA hD1
  go_wp2_with fail
  go_loopw [7] (fun i wr => ∃ (k : Nat) (L : List Nat), k ≤ 30 ∧ i = .int .i64 k ∧ Dv wr g L (cst m k) ∧ (∀ j ∈ L, w.heap.size ≤ j) ∧ Below w.heap.size w wr) (fun i _ => 30 - (RowKit.intOf i).toNat)
  case atStart => exact ⟨0, L2, by omega, rfl, hD2, hL2, hb2⟩
  case round =>
    obtain ⟨k, Lr, hk, rfl, hDr, hLr, hbr⟩ := hrel
    have hsr := hbr.size
    by_cases hlt : k < 30
    · have HW := Lib.hid (write_any g Lr _ k [120] _ hDr)
      rw [cst_step m k hm20 hlt] at HW
      have HC := Lib.hid (fun L1 w1 (h1 : Dv w1 g L1 (cst m (k + 1))) => crashed_any g L1 (cst m (k + 1)) w1 h1)
      unfold ptr at *
      by_cases hkm : k < m
      · have HC2 : Hid ((cst m (k + 1)).dead = false) := by show decide (m < k + 1) = false; exact decide_eq_false (by omega)
        rw [if_pos hkm] at HW
        have hge : ¬ (m : Int) ≤ k := by omega
        have hlt2 : (k : Int) < m := by omega
        rw [HC2.out] at HC
        go_wp2_with fail
        refine HW.out.mono ?_
        rintro e w3 ⟨rfl, hMv⟩
        obtain ⟨L3, hD3, hL3, hb3, hs3, _, _⟩ := hMv.below hbr hsr hLr
        clear hMv HW hDr
        go_wp2_with fail
        refine (HC.out _ _ hD3).mono ?_
        rintro e w4 ⟨rfl, rfl⟩
        go_wp2
        go_roundw
        case rel => exact ⟨k + 1, L3, by omega, by go_num, hD3, hL3, hb3⟩
        case measure => simp [RowKit.intOf]; omega
      · have HC2 : Hid ((cst m (k + 1)).dead = true) := by show decide (m < k + 1) = true; exact decide_eq_true (by omega)
        rw [if_neg hkm] at HW
        have hge : (m : Int) ≤ k := by omega
        have hlt2 : ¬ (k : Int) < m := by omega
        have hlt3 : decide ((k : Int) < m) = false := decide_eq_false hlt2
        rw [HC2.out] at HC
        go_wp2_with fail
        refine HW.out.mono ?_
        rintro e w3 ⟨rfl, hMv⟩
        obtain ⟨L3, hD3, hL3, hb3, hs3, _, _⟩ := hMv.below hbr hsr hLr
        clear hMv HW hDr
        go_wp2_with fail
        refine (HC.out _ _ hD3).mono ?_
        rintro e w4 ⟨rfl, rfl⟩
        go_wp2
        go_roundw
        case rel => exact ⟨k + 1, L3, by omega, by go_num, hD3, hL3, hb3⟩
        case measure => simp [RowKit.intOf]; omega
    · have hk30 : k = 30 := by omega
      subst hk30
      obtain ⟨d, hd⟩ : ∃ d, d = cst m 30 := ⟨_, rfl⟩
      have F : Hid (d.n = 30 ∧ d.dead = true ∧ d.refuses 0 = 7 ∧ d.flush.2 = 7 ∧ ∀ i, d.now i = if i < m then pad [120] else zsec) := by
        have hdd : d.dead = true := by rw [hd]; show decide (m < 30) = true; exact decide_eq_true (by omega)
        refine ⟨by rw [hd]; rfl, hdd, ?_, ?_, fun i => by rw [hd]; exact cst_now m i hm20⟩
        · unfold St.refuses; rw [if_pos hdd]
        · unfold St.flush St.try_
          split
          · rfl
          · rfl
      rw [← hd] at hDr
      clear hd hD2
      obtain ⟨q1, q2, q3, q4, q5⟩ := F.out
      have HR := Lib.hid (read_any g Lr d 0 _ hDr)
      rw [q3] at HR
      obtain ⟨t0, ht0⟩ : ∃ t0, t0 = txt (d.readS 0) := ⟨_, rfl⟩
      rw [← ht0] at HR
      clear q1 q2 q3 q4 q5 ht0
      unfold ptr at *
      go_wp2_with fail
      refine HR.out.mono ?_
      rintro e w3 ⟨rfl, hb3⟩
      have hD3 := hDr.below hb3
      have hbb3 := hbr.trans (hb3.mono hsr)
      have HAf := Lib.hid (after_any g Lr d none [] 0 w3 hD3 (fun j x h => by cases h) (by simp))
      clear HR hDr
      unfold ptr at *
      go_wp2_with fail
      refine HAf.out.mono ?_
      rintro e w4 ⟨gx, Lx, rfl, hDx, hLx, hb4⟩
      have hD4 := hD3.below hb4
      have hbb4 := hbb3.trans (hb4.mono hbb3.size)
      clear HAf hD3
      obtain ⟨d2, hd2⟩ : ∃ d2, d2 = d.after [] := ⟨_, rfl⟩
      have F2 : Hid (d2.n = 30 ∧ d2.dead = false ∧ ∀ i, d2.now i = if i < m then pad [120] else zsec) := by
        obtain ⟨q1, q2, q3, q4, q5⟩ := F.out
        rw [hd2]
        exact ⟨q1, rfl, fun i => by rw [after_now, if_neg (by simp)]; exact q5 i⟩
      rw [← hd2] at hDx
      clear hd2
      have HX := Lib.hid (fun w1 => lwhole_any [120] w1 (by decide))
      obtain ⟨t1, ht1⟩ : ∃ t1, t1 = txt (pad [120]) := ⟨_, rfl⟩
      obtain ⟨t2, ht2⟩ : ∃ t2, t2 = txt zsec := ⟨_, rfl⟩
      have hne : (t2.toList == t1.toList) = false := by
        rw [ht1, ht2, Lib.toList_data, Lib.toList_data, txt_list, txt_list]; decide
      rw [← ht1] at HX
      go_wp2_with fail
      go_loopw [12, 13] (fun f i wr => ∃ k : Nat, k ≤ 30 ∧ i = .int .i64 k ∧ f = .int .i64 ((min k m : Nat) : Int) ∧ Dv wr gx Lx d2 ∧ Dv wr g Lr d ∧ Below w.heap.size w wr) (fun _ i _ => 30 - (RowKit.intOf i).toNat)
      case atStart => exact ⟨0, by omega, rfl, by simp, hDx, hD4, hbb4⟩
      case round =>
        obtain ⟨k, hk, rfl, rfl, hDxr, hDgr, hbr⟩ := hrel
        have hsr := hbr.size
        by_cases hlt : k < 30
        · obtain ⟨q1, q2, q3⟩ := F2.out
          have HR := Lib.hid (read_any gx Lx d2 k _ hDxr)
          rw [readS_eq q2 (by rw [q1]; exact hlt), refuses_yes_eq q2 (by omega) (by rw [q1]; omega), q3 k] at HR
          clear q1 q2 q3
          unfold ptr at *
          by_cases hkm : k < m
          · rw [if_pos hkm, ← ht1] at HR
            obtain ⟨z, hz⟩ : ∃ z, z = min k m := ⟨_, rfl⟩
            have hzk : Hid (z = k) := by show _ = _; omega
            rw [← hz]
            have hz30 : z ≤ 30 := by omega
            have HZ := Lib.hid hz
            clear hz
            have HT1 := Lib.hid ht1
            have HT2 := Lib.hid ht2
            clear ht1 ht2
            go_wp2_with fail
            refine HR.out.mono ?_
            rintro e w5 ⟨rfl, hb5⟩
            have hbb5 := hbr.trans (hb5.mono hsr)
            go_wp2_with fail
            refine (HX.out _).mono ?_
            rintro e w6 ⟨rfl, hb6⟩
            have hbb6 := hbb5.trans (hb6.mono hbb5.size)
            go_wp2
            go_roundw
            case rel => exact ⟨k + 1, by omega, by go_num, by have := hzk.out; have e : min (k + 1) m = z + 1 := (by omega); rw [e]; go_num, (hDxr.below hb5).below hb6, (hDgr.below hb5).below hb6, hbb6⟩
            case measure => simp [RowKit.intOf]; omega
          · rw [if_neg hkm, ← ht2] at HR
            obtain ⟨z, hz⟩ : ∃ z, z = min k m := ⟨_, rfl⟩
            have hzk : Hid (z = m) := by show _ = _; omega
            rw [← hz]
            have HZ := Lib.hid hz
            clear hz
            have HT1 := Lib.hid ht1
            have HT2 := Lib.hid ht2
            clear ht1 ht2
            go_wp2_with fail
            refine HR.out.mono ?_
            rintro e w5 ⟨rfl, hb5⟩
            have hbb5 := hbr.trans (hb5.mono hsr)
            go_wp2_with fail
            refine (HX.out _).mono ?_
            rintro e w6 ⟨rfl, hb6⟩
            have hbb6 := hbb5.trans (hb6.mono hbb5.size)
            go_wp2
            go_roundw
            case rel => exact ⟨k + 1, by omega, by go_num, by have := hzk.out; have e : min (k + 1) m = z := (by omega); rw [e], (hDxr.below hb5).below hb6, (hDgr.below hb5).below hb6, hbb6⟩
            case measure => simp [RowKit.intOf]; omega
        · have hk30 : k = 30 := by omega
          subst hk30
          have e30 : min 30 m = m := by omega
          rw [e30]
          clear e30
          have HF := Lib.hid (flush_any g Lr d _ hDgr)
          rw [F.out.2.2.2.1] at HF
          unfold ptr at *
          go_wp2_with fail
          refine HF.out.mono ?_
          rintro e w5 ⟨rfl, hMv⟩
          obtain ⟨L5, hD5, hL5, hb5, hs5, _, _⟩ := hMv.below hbr hsr hLr
          clear hMv
          go_wp2
          go_ret
          exact ⟨rfl, hb5⟩
end Go.Proofs.Ytfcfclgjalofnaa
