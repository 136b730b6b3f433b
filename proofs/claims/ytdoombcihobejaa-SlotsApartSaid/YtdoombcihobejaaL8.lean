/-
  The walk of the law SlotsRight: a super is put just if each of its fields is in its bounds.
  Conditions: fields of 64 bits.
-/
import Derived.Test.YtdoombcihobejaaL7
import Derived.Deep.CutRange
namespace Go.Proofs.Ytdoombcihobejaa
open Go.RowKit Vi Sl
set_option linter.unusedVariables false
set_option linter.unusedSimpArgs false
structure Sl.Su.Ok (s : Su) : Prop where
  b0 : -9223372036854775808 ≤ s.v ∧ s.v ≤ 9223372036854775807
  b1 : -9223372036854775808 ≤ s.sn ∧ s.sn ≤ 9223372036854775807
  b2 : -9223372036854775808 ≤ s.lg ∧ s.lg ≤ 9223372036854775807
  b3 : -9223372036854775808 ≤ s.ar ∧ s.ar ≤ 9223372036854775807
  b4 : -9223372036854775808 ≤ s.hf ∧ s.hf ≤ 9223372036854775807
  b5 : -9223372036854775808 ≤ s.gl ∧ s.gl ≤ 9223372036854775807
  b6 : -9223372036854775808 ≤ s.sp ∧ s.sp ≤ 9223372036854775807
theorem in27_any (n lo hi : Int) (w : World) : Calls Try.prog 27 #[.int .i64 n, .int .i64 lo, .int .i64 hi] w fun e w' => e = .returned (.bool (ins n lo hi)) ∧ w' = w := by
  unfold ins
  by_cases h1 : lo ≤ n
  · have d1 : decide (lo ≤ n) = true := decide_eq_true h1
    rw [d1, Bool.true_and]
    by_cases h2 : n ≤ hi
    · have d2 : decide (n ≤ hi) = true := decide_eq_true h2
      rw [d2]
      go_enter Try.func27, Try.ntmps27
      go_wp2
      go_ret
      exact ⟨rfl, rfl⟩
    · have d2 : decide (n ≤ hi) = false := decide_eq_false h2
      rw [d2]
      go_enter Try.func27, Try.ntmps27
      go_wp2
      go_ret
      exact ⟨rfl, rfl⟩
  · have d1 : decide (lo ≤ n) = false := decide_eq_false h1
    rw [d1, Bool.false_and]
    go_enter Try.func27, Try.ntmps27
    go_wp2
    go_ret
    exact ⟨rfl, rfl⟩
set_option maxHeartbeats 800000 in
set_option maxRecDepth 100000 in
theorem small_any (s : Su) (w : World) (hs : s.Ok) : Calls Try.prog 9 #[s.val] w fun e w' => e = .returned (smS s).val ∧ Below w.heap.size w w' := by
  obtain ⟨b0, b1, b2, b3, b4, b5, b6⟩ := hs
  unfold Su.val Su.c
  go_enter Try.func9, Try.ntmps9
  go_wp2
  refine bodyPost_ret (v := .agg (smS s).c) (results_cell_row Try.results9 _ _ (w.heap.size + 1) 23 _ (0, 0) _ rfl (heap_alloc2_new w _ _) Try.underlying23 rfl Try.su7) rfl ⟨rfl, ((Below.refl _ _).alloc (Nat.le_refl _) _).alloc (by simp) _⟩
theorem smS_ok {s : Su} (h : s.Ok) : (smS s).Ok := by
  obtain ⟨b0, b1, b2, b3, b4, b5, b6⟩ := h
  have t : ∀ (x k : Int), 0 < k → k ≤ 2000 → -9223372036854775808 ≤ x.tmod k ∧ x.tmod k ≤ 9223372036854775807 := by
    intro x k h1 h2
    have h3 := Int.tmod_lt_of_pos x h1
    have h4 := Int.lt_tmod_of_pos x h1
    omega
  exact ⟨t _ 4 (by omega) (by omega), t _ 1003 (by omega) (by omega), t _ 1003 (by omega) (by omega), t _ 3 (by omega) (by omega), t _ 3 (by omega) (by omega), t _ 4 (by omega) (by omega), t _ 11 (by omega) (by omega)⟩
theorem num_small (v : Int) (n k : Nat) (hk : k = 1 ∨ k = 2) (h : n < 128 ^ k) : (num v n k).size ≤ k := by
  unfold num
  split
  · rw [fxB_size n k (by omega)]; omega
  · unfold putB
    rw [str_size]
    rcases hk with rfl | rfl
    · exact put_length_le n 0 (by simpa using h)
    · exact put_length_le n 1 (by simpa using h)
theorem supB_11 {s : Su} (h : rgt s = true) : (supB s).size ≤ 11 := by
  obtain ⟨h1, h2, h3, h4, h5, h6, h7, _⟩ := (rgt_iff _).1 h
  have e1 : (fxB s.v.toNat 1).size = 1 := fxB_size s.v.toNat 1 (by omega)
  have e2 := num_small s.v s.sn.toNat 2 (.inr rfl) (by omega)
  have e3 := num_small s.v s.lg.toNat 2 (.inr rfl) (by omega)
  have e4 := num_small s.v s.ar.toNat 1 (.inl rfl) (by omega)
  have e5 := num_small s.v s.hf.toNat 1 (.inl rfl) (by omega)
  have e6 := num_small s.v s.gl.toNat 1 (.inl rfl) (by omega)
  have e7 := num_small s.v s.sp.toNat 1 (.inl rfl) (by omega)
  unfold supB
  simp only [ByteArray.size_append, e1]
  omega
theorem nonempty_list (p : ByteArray) (h : 0 < p.size) : (!p.toList.isEmpty) = true := by
  rw [Lib.toList_data]
  have h2 : p.size = p.data.toList.length := by simp
  cases hl : p.data.toList with
  | nil => rw [hl, List.length_nil] at h2; omega
  | cons a b => rfl
set_option maxHeartbeats 2000000 in
set_option maxRecDepth 100000 in
theorem lright_any (s : Su) (w : World) (hs : s.Ok) : Calls Try.prog 6 #[s.val] w fun e w' => e = .returned (.bool true) ∧ Below w.heap.size w w' := by
  have hb := sbx_below w s
  have hc := sbx_cells w s
  have hxl := (examples_any (sbx w s))
  obtain ⟨W, hW⟩ : ∃ W, W = sbx w s := ⟨_, rfl⟩
  rw [← hW] at hb hc hxl
  have KE := Lib.hid hxl
  have KS := Lib.hid (fun (W : World) => small_any s W hs)
  have hok := smS_ok hs
  obtain ⟨x, hx⟩ : ∃ x, x = smS s := ⟨_, rfl⟩
  rw [← hx] at KS hok
  have HC := Lib.hid hc
  have HB := Lib.hid hb
  have HW := Lib.hid hW

  have K0 := fun (W : World) => in27_any x.v 1 2 W
  obtain ⟨b0, hb0⟩ : ∃ b, b = ins x.v 1 2 := ⟨_, rfl⟩
  rw [← hb0] at K0
  have HK0 := Lib.hid K0
  have K1 := fun (W : World) => in27_any x.sn 1 1000 W
  obtain ⟨b1, hb1⟩ : ∃ b, b = ins x.sn 1 1000 := ⟨_, rfl⟩
  rw [← hb1] at K1
  have HK1 := Lib.hid K1
  have K2 := fun (W : World) => in27_any x.lg 1 1000 W
  obtain ⟨b2, hb2⟩ : ∃ b, b = ins x.lg 1 1000 := ⟨_, rfl⟩
  rw [← hb2] at K2
  have HK2 := Lib.hid K2
  have K3 := fun (W : World) => in27_any x.ar 0 1 W
  obtain ⟨b3, hb3⟩ : ∃ b, b = ins x.ar 0 1 := ⟨_, rfl⟩
  rw [← hb3] at K3
  have HK3 := Lib.hid K3
  have K4 := fun (W : World) => in27_any x.hf 0 1 W
  obtain ⟨b4, hb4⟩ : ∃ b, b = ins x.hf 0 1 := ⟨_, rfl⟩
  rw [← hb4] at K4
  have HK4 := Lib.hid K4
  have K5 := fun (W : World) => in27_any x.gl 0 2 W
  obtain ⟨b5, hb5⟩ : ∃ b, b = ins x.gl 0 2 := ⟨_, rfl⟩
  rw [← hb5] at K5
  have HK5 := Lib.hid K5
  have K6 := fun (W : World) => in27_any x.sp 0 9 W
  obtain ⟨b6, hb6⟩ : ∃ b, b = ins x.sp 0 9 := ⟨_, rfl⟩
  rw [← hb6] at K6
  have HK6 := Lib.hid K6
  have HR : Hid (rgt x = (b0 && (b1 && (b2 && (b3 && (b4 && (b5 && (b6 && (decide (x.gl ≠ 0) || decide (x.sp = 0)))))))))) := by show _ = _; rw [hb0, hb1, hb2, hb3, hb4, hb5, hb6]; rfl
  have HG5 : Hid (b5 = true → 0 ≤ x.gl) := fun h => by rw [hb5] at h; unfold ins at h; simp at h; omega
  have KP := Lib.hid (fun (W : World) => putSuper_any x W)
  have KC := Lib.hid (fun (W : World) => sectors_any x W)
  have HS : Hid (sec x = if rgt x then 4 + 2 * (x.sn + x.lg) else 0) := rfl
  have HI := Lib.hid (rgt_iff x)
  have HP : Hid (rgt x = true → (supS x).size ≤ 11 ∧ (!(supS x).toList.isEmpty) = true) := fun h => by
    have e : supS x = supB x := by unfold supS; rw [if_pos h]
    rw [e]
    exact ⟨supB_11 h, nonempty_list _ (supB_size h).2⟩
  have HP0 : Hid (rgt x = false → supS x = ⟨#[]⟩) := fun h => by unfold supS; rw [h]; rfl
  obtain ⟨r, hr⟩ : ∃ r, r = rgt x := ⟨_, rfl⟩
  obtain ⟨p, hp⟩ : ∃ p, p = supS x := ⟨_, rfl⟩
  obtain ⟨n, hn⟩ : ∃ n, n = sec x := ⟨_, rfl⟩
  rw [← hr] at HR HS HI KP HP HP0
  rw [← hp] at KP HP HP0
  rw [← hn] at KC HS
  clear hr hp hn hb hc hW hxl hx hok hs K0 K1 K2 K3 K4 K5 K6 hb0 hb1 hb2 hb3 hb4 hb5 hb6
  unfold sbx Su.val at *
  unfold Su.c at HW KS KP KC HC ⊢
  go_enter Try.func6, Try.ntmps6
  go_wp2_with fail
  rw [← HW.out]
  refine KE.out.mono ?_
  rintro e w1 ⟨rfl, b1_⟩
  have HB1 := Lib.hid (HB.out.trans (b1_.mono HB.out.size))
  have HC1 : Hid (w1.heap[w.heap.size]? = some (.cells s.c 23 (0, 0))) := (b1_.block _ (Array.getElem?_eq_some_iff.1 HC.out).1).trans HC.out
  obtain ⟨c0, c1, c2, c3, c4, c5, c6⟩ := su_cells HC1.out
  clear b1_ KE HB HC HW
  go_wp2_with fail
  refine (KS.out _).mono ?_
  rintro e w2 ⟨rfl, b2_⟩
  obtain ⟨W2, hW2⟩ : ∃ W2, W2 = w2.alloc (.cells x.c 23) := ⟨_, rfl⟩
  have HC2 : Hid (W2.heap[w2.heap.size]? = some (.cells x.c 23 (0, 0))) := by show _ = _; rw [hW2]; exact heap_alloc_new w2 _
  have hB2 := HB1.out.trans (b2_.mono HB1.out.size)
  have HB2 : Hid (Below w.heap.size w W2) := by rw [hW2]; exact hB2.alloc hB2.size _
  unfold Su.c at hW2
  have HW2 := Lib.hid hW2
  clear b2_ hW2 hB2 c0 c1 c2 c3 c4 c5 c6 KS HC1 HB1
  go_upto_region 6 with fail
  rw [← HW2.out]
  clear HW2
  obtain ⟨q, hq⟩ : ∃ q, q = w2.heap.size := ⟨_, rfl⟩
  rw [← hq] at HC2 ⊢
  have HQ := Lib.hid hq
  clear hq
  obtain ⟨c0, c1, c2, c3, c4, c5, c6⟩ := su_cells HC2.out
  go_cut [6] from 14 to 63 (fun s6 wx => s6 = .bool r ∧ wx = W2)
  case first =>
    go_wp2_with fail
    refine (HK0.out _).mono ?_
    rintro e wy ⟨rfl, rfl⟩
    cases b0 with
    | false =>
      obtain rfl : r = false := HR.out
      go_wp2_with fail
      go_meet
      exact ⟨rfl, rfl⟩
    | true =>
      go_wp2_with fail
      refine (HK1.out _).mono ?_
      rintro e wy ⟨rfl, rfl⟩
      cases b1 with
      | false =>
        obtain rfl : r = false := HR.out
        go_wp2_with fail
        go_meet
        exact ⟨rfl, rfl⟩
      | true =>
        go_wp2_with fail
        refine (HK2.out _).mono ?_
        rintro e wy ⟨rfl, rfl⟩
        cases b2 with
        | false =>
          obtain rfl : r = false := HR.out
          go_wp2_with fail
          go_meet
          exact ⟨rfl, rfl⟩
        | true =>
          go_wp2_with fail
          refine (HK3.out _).mono ?_
          rintro e wy ⟨rfl, rfl⟩
          cases b3 with
          | false =>
            obtain rfl : r = false := HR.out
            go_wp2_with fail
            go_meet
            exact ⟨rfl, rfl⟩
          | true =>
            go_wp2_with fail
            refine (HK4.out _).mono ?_
            rintro e wy ⟨rfl, rfl⟩
            cases b4 with
            | false =>
              obtain rfl : r = false := HR.out
              go_wp2_with fail
              go_meet
              exact ⟨rfl, rfl⟩
            | true =>
              go_wp2_with fail
              refine (HK5.out _).mono ?_
              rintro e wy ⟨rfl, rfl⟩
              cases b5 with
              | false =>
                obtain rfl : r = false := HR.out
                go_wp2_with fail
                go_meet
                exact ⟨rfl, rfl⟩
              | true =>
                have hg5 := HG5.out rfl
                clear HG5
                go_wp2_with fail
                refine (HK6.out _).mono ?_
                rintro e wy ⟨rfl, rfl⟩
                cases b6 with
                | false =>
                  obtain rfl : r = false := HR.out
                  go_wp2_with fail
                  go_meet
                  exact ⟨rfl, rfl⟩
                | true =>
                  by_cases h : x.gl = 0
                  · have e1 : decide (0 < x.gl) = false := decide_eq_false (by omega)
                    by_cases h2 : x.sp = 0
                    · obtain rfl : r = true := by have := HR.out; rw [decide_eq_true h2, Bool.or_true] at this; exact this
                      have e2 : (x.sp == 0) = true := by simpa using h2
                      clear h h2 hg5 HR
                      go_wp2_with fail
                      go_meet
                      exact ⟨rfl, rfl⟩
                    · obtain rfl : r = false := by have := HR.out; rw [decide_eq_false h2, decide_eq_false (by simpa using h)] at this; exact this
                      have e2 : (x.sp == 0) = false := by simpa using h2
                      clear h h2 hg5 HR
                      go_wp2_with fail
                      go_meet
                      exact ⟨rfl, rfl⟩
                  · have e1 : decide (0 < x.gl) = true := decide_eq_true (by omega)
                    have e1' : 0 < x.gl := by omega
                    obtain rfl : r = true := by have := HR.out; rw [decide_eq_true (by simpa using h)] at this; exact this
                    go_wp2_with fail
                    go_meet
                    exact ⟨rfl, rfl⟩
  case rest =>
    obtain ⟨rfl, rfl⟩ := hcut
    clear HK0 HK1 HK2 HK3 HK4 HK5 HK6 HR HG5
    go_wp2_with fail
    refine (KP.out _).mono ?_
    rintro e w5 ⟨rfl, b5⟩
    have HC5 : Hid (w5.heap[q]? = some (.cells x.c 23 (0, 0))) := (b5.block _ (Array.getElem?_eq_some_iff.1 HC2.out).1).trans HC2.out
    have HB5 := Lib.hid (HB2.out.trans (b5.mono HB2.out.size))
    clear c0 c1 c2 c3 c4 c5 c6
    obtain ⟨c0, c1, c2, c3, c4, c5, c6⟩ := su_cells HC5.out
    clear HC5 HB2 b5 KP HC2
    cases r with
    | false =>
      obtain rfl : p = ⟨#[]⟩ := HP0.out rfl
      obtain rfl : n = 0 := HS.out
      go_wp2_with fail
      refine (KC.out _).mono ?_
      rintro e w6 ⟨rfl, b6⟩
      have HB6 := Lib.hid (HB5.out.trans (b6.mono HB5.out.size))
      clear HP HP0 HI HS KC b6
      go_wp2
      go_ret
      exact ⟨rfl, HB6.out⟩
    | true =>
      obtain ⟨p1, p2⟩ := HP.out rfl
      have hn : n = 4 + 2 * (x.sn + x.lg) := HS.out
      obtain ⟨_, h2, h3, _⟩ := HI.out.1 rfl
      have hn0 : 0 < n := by omega
      have p3 : (p.size : Int) ≤ 11 := by omega
      clear hn h2 h3 HI HS HP HP0 p1
      go_wp2_with fail
      refine (KC.out _).mono ?_
      rintro e w6 ⟨rfl, b6⟩
      have HB6 := Lib.hid (HB5.out.trans (b6.mono HB5.out.size))
      clear KC b6
      go_wp2
      go_ret
      exact ⟨rfl, HB6.out⟩
end Go.Proofs.Ytdoombcihobejaa