/-
  The package's small functions of slots: within, right, Sectors, the maps of how a version puts and takes a number.
  Conditions: named in each theorem.
-/
import Derived.Test.YtdoombcihobejaaL1
import Derived.Test.YtdoombcihobejaaFW
import Derived.Test.YtdoombcihobejaaW2
namespace Go.Proofs.Ytdoombcihobejaa
open Go.RowKit Vi Sl
set_option linter.unusedVariables false
set_option linter.unusedSimpArgs false
theorem within_any (n lo hi : Int) (w : World) : Calls Try.prog 37 #[.int .i64 n, .int .i64 lo, .int .i64 hi] w fun e w' => e = .returned (.bool (ins n lo hi)) ∧ w' = w := by
  unfold ins
  by_cases h1 : lo ≤ n
  · have d1 : decide (lo ≤ n) = true := decide_eq_true h1
    rw [d1, Bool.true_and]
    by_cases h2 : n ≤ hi
    · have d2 : decide (n ≤ hi) = true := decide_eq_true h2
      rw [d2]
      go_enter Try.func37, Try.ntmps37
      go_wp2
      go_ret
      exact ⟨rfl, rfl⟩
    · have d2 : decide (n ≤ hi) = false := decide_eq_false h2
      rw [d2]
      go_enter Try.func37, Try.ntmps37
      go_wp2
      go_ret
      exact ⟨rfl, rfl⟩
  · have d1 : decide (lo ≤ n) = false := decide_eq_false h1
    rw [d1, Bool.false_and]
    go_enter Try.func37, Try.ntmps37
    go_wp2
    go_ret
    exact ⟨rfl, rfl⟩
/-- A Super in a block of its own. -/
def sbx (w : World) (s : Su) : World := w.alloc (.cells s.c 23)
theorem sbx_cells (w : World) (s : Su) : (sbx w s).heap[w.heap.size]? = some (.cells s.c 23 (0, 0)) := heap_alloc_new w _
theorem sbx_below (w : World) (s : Su) : Below w.heap.size w (sbx w s) := (Below.refl _ _).alloc (Nat.le_refl _) _
theorem su_cells {w : World} {g : Nat} {s : Su} (h : w.heap[g]? = some (.cells s.c 23 (0, 0))) :
    w.cell? ⟨g, 0, none⟩ = some (.int .i64 s.v) ∧ w.cell? ⟨g, 1, none⟩ = some (.int .i64 s.sn) ∧ w.cell? ⟨g, 2, none⟩ = some (.int .i64 s.lg) ∧ w.cell? ⟨g, 3, none⟩ = some (.int .i64 s.ar) ∧ w.cell? ⟨g, 4, none⟩ = some (.int .i64 s.hf) ∧ w.cell? ⟨g, 5, none⟩ = some (.int .i64 s.gl) ∧ w.cell? ⟨g, 6, none⟩ = some (.int .i64 s.sp) :=
  ⟨cell_of_row w g 0 _ 23 (0, 0) h, cell_of_row w g 1 _ 23 (0, 0) h, cell_of_row w g 2 _ 23 (0, 0) h, cell_of_row w g 3 _ 23 (0, 0) h, cell_of_row w g 4 _ 23 (0, 0) h, cell_of_row w g 5 _ 23 (0, 0) h, cell_of_row w g 6 _ 23 (0, 0) h⟩

set_option maxHeartbeats 2000000 in
set_option maxRecDepth 100000 in
theorem right_any (s : Su) (w : World) : Calls Try.prog 28 #[s.val] w fun e w' => e = .returned (.bool (rgt s)) ∧ Below w.heap.size w w' := by
  obtain ⟨W, hW⟩ : ∃ W, W = sbx w s := ⟨_, rfl⟩
  obtain ⟨c0, c1, c2, c3, c4, c5, c6⟩ := su_cells (sbx_cells w s)
  have hb := sbx_below w s
  rw [← hW] at c0 c1 c2 c3 c4 c5 c6 hb
  have K0 := fun (W : World) => within_any s.v 1 2 W
  obtain ⟨b0, hb0⟩ : ∃ b, b = ins s.v 1 2 := ⟨_, rfl⟩
  rw [← hb0] at K0
  have HK0 := Lib.hid K0
  have K1 := fun (W : World) => within_any s.sn 1 1000 W
  obtain ⟨b1, hb1⟩ : ∃ b, b = ins s.sn 1 1000 := ⟨_, rfl⟩
  rw [← hb1] at K1
  have HK1 := Lib.hid K1
  have K2 := fun (W : World) => within_any s.lg 1 1000 W
  obtain ⟨b2, hb2⟩ : ∃ b, b = ins s.lg 1 1000 := ⟨_, rfl⟩
  rw [← hb2] at K2
  have HK2 := Lib.hid K2
  have K3 := fun (W : World) => within_any s.ar 0 1 W
  obtain ⟨b3, hb3⟩ : ∃ b, b = ins s.ar 0 1 := ⟨_, rfl⟩
  rw [← hb3] at K3
  have HK3 := Lib.hid K3
  have K4 := fun (W : World) => within_any s.hf 0 1 W
  obtain ⟨b4, hb4⟩ : ∃ b, b = ins s.hf 0 1 := ⟨_, rfl⟩
  rw [← hb4] at K4
  have HK4 := Lib.hid K4
  have K5 := fun (W : World) => within_any s.gl 0 2 W
  obtain ⟨b5, hb5⟩ : ∃ b, b = ins s.gl 0 2 := ⟨_, rfl⟩
  rw [← hb5] at K5
  have HK5 := Lib.hid K5
  have K6 := fun (W : World) => within_any s.sp 0 9 W
  obtain ⟨b6, hb6⟩ : ∃ b, b = ins s.sp 0 9 := ⟨_, rfl⟩
  rw [← hb6] at K6
  have HK6 := Lib.hid K6
  have HR : Hid (rgt s = (b0 && (b1 && (b2 && (b3 && (b4 && (b5 && (b6 && (decide (s.gl ≠ 0) || decide (s.sp = 0)))))))))) := by show _ = _; rw [hb0, hb1, hb2, hb3, hb4, hb5, hb6]; rfl
  obtain ⟨r, hr⟩ : ∃ r, r = rgt s := ⟨_, rfl⟩
  rw [← hr] at HR ⊢
  have HW := Lib.hid hW
  have HB := Lib.hid hb
  clear hr hb hW K0 K1 K2 K3 K4 K5 K6 hb0 hb1 hb2 hb3 hb4 hb5 hb6
  unfold sbx Su.val Su.c at *
  go_enter Try.func28, Try.ntmps28
  go_wp2_with fail
  rw [← HW.out]
  refine (HK0.out _).mono ?_
  rintro e w1 ⟨rfl, rfl⟩
  cases b0 with
  | false =>
    obtain rfl : r = false := HR.out
    go_wp2
    go_ret
    exact ⟨rfl, HB.out⟩
  | true =>
    go_wp2_with fail
    refine (HK1.out _).mono ?_
    rintro e w1 ⟨rfl, rfl⟩
    cases b1 with
    | false =>
      obtain rfl : r = false := HR.out
      go_wp2
      go_ret
      exact ⟨rfl, HB.out⟩
    | true =>
      go_wp2_with fail
      refine (HK2.out _).mono ?_
      rintro e w1 ⟨rfl, rfl⟩
      cases b2 with
      | false =>
        obtain rfl : r = false := HR.out
        go_wp2
        go_ret
        exact ⟨rfl, HB.out⟩
      | true =>
        go_wp2_with fail
        refine (HK3.out _).mono ?_
        rintro e w1 ⟨rfl, rfl⟩
        cases b3 with
        | false =>
          obtain rfl : r = false := HR.out
          go_wp2
          go_ret
          exact ⟨rfl, HB.out⟩
        | true =>
          go_wp2_with fail
          refine (HK4.out _).mono ?_
          rintro e w1 ⟨rfl, rfl⟩
          cases b4 with
          | false =>
            obtain rfl : r = false := HR.out
            go_wp2
            go_ret
            exact ⟨rfl, HB.out⟩
          | true =>
            go_wp2_with fail
            refine (HK5.out _).mono ?_
            rintro e w1 ⟨rfl, rfl⟩
            cases b5 with
            | false =>
              obtain rfl : r = false := HR.out
              go_wp2
              go_ret
              exact ⟨rfl, HB.out⟩
            | true =>
              go_wp2_with fail
              refine (HK6.out _).mono ?_
              rintro e w1 ⟨rfl, rfl⟩
              cases b6 with
              | false =>
                obtain rfl : r = false := HR.out
                go_wp2
                go_ret
                exact ⟨rfl, HB.out⟩
              | true =>
                by_cases h : s.gl = 0
                · have e1 : (s.gl != 0) = false := by simpa using h
                  by_cases h2 : s.sp = 0
                  · obtain rfl : r = true := by have := HR.out; rw [decide_eq_true h2, Bool.or_true] at this; exact this
                    have e2 : (s.sp == 0) = true := by simpa using h2
                    go_wp2
                    go_ret
                    exact ⟨rfl, HB.out⟩
                  · obtain rfl : r = false := by have := HR.out; rw [decide_eq_false h2, decide_eq_false (by simpa using h)] at this; exact this
                    have e2 : (s.sp == 0) = false := by simpa using h2
                    go_wp2
                    go_ret
                    exact ⟨rfl, HB.out⟩
                · have e1 : (s.gl != 0) = true := by simpa using h
                  obtain rfl : r = true := by have := HR.out; rw [decide_eq_true (by simpa using h)] at this; exact this
                  go_wp2
                  go_ret
                  exact ⟨rfl, HB.out⟩
set_option maxHeartbeats 1000000 in
set_option maxRecDepth 100000 in
theorem puts_any (w : World) :
    Calls Try.prog 29 #[] w fun r w' => r = .returned (.map (some w.heap.size)) ∧ w'.heap[w.heap.size]? = some (.map (two (fv 32) (fv 50)) 2) ∧ Below w.heap.size w w' ∧ w'.heap.size = w.heap.size + 1 := by
  have hmm := @run_makeMap Try.prog
  obtain ⟨w1, e1, h1, b1, _, s1⟩ := ins_step (T := 67) 1 (fv 32) Try.underlying67 (heap_alloc_new w (.map #[] 0)) rfl ((Below.refl _ _).alloc (Nat.le_refl _) _) (Nat.le_refl _)
  obtain ⟨w2, e2, h2, b2, _, s2⟩ := ins_step (T := 67) 2 (fv 50) Try.underlying67 h1 rfl b1 (Nat.le_refl _)
  have H2 : Hid (w2.heap[w.heap.size]? = some (.map (two (fv 32) (fv 50)) 2)) := h2
  have B2 := Lib.hid b2
  have S2 : Hid (w2.heap.size = w.heap.size + 1) := by show _ = _; rw [s2, s1]; simp
  clear h1 h2 b1 b2 s1 s2
  go_enter Try.func29, Try.ntmps29
  go_wp2
  go_ret
  exact ⟨rfl, H2.out, B2.out, S2.out⟩
set_option maxHeartbeats 1000000 in
set_option maxRecDepth 100000 in
theorem takes_any (w : World) :
    Calls Try.prog 40 #[] w fun r w' => r = .returned (.map (some w.heap.size)) ∧ w'.heap[w.heap.size]? = some (.map (two (fv 39) (fv 58)) 2) ∧ Below w.heap.size w w' ∧ w'.heap.size = w.heap.size + 1 := by
  have hmm := @run_makeMap Try.prog
  obtain ⟨w1, e1, h1, b1, _, s1⟩ := ins_step (T := 89) 1 (fv 39) Try.underlying89 (heap_alloc_new w (.map #[] 0)) rfl ((Below.refl _ _).alloc (Nat.le_refl _) _) (Nat.le_refl _)
  obtain ⟨w2, e2, h2, b2, _, s2⟩ := ins_step (T := 89) 2 (fv 58) Try.underlying89 h1 rfl b1 (Nat.le_refl _)
  have H2 : Hid (w2.heap[w.heap.size]? = some (.map (two (fv 39) (fv 58)) 2)) := h2
  have B2 := Lib.hid b2
  have S2 : Hid (w2.heap.size = w.heap.size + 1) := by show _ = _; rw [s2, s1]; simp
  clear h1 h2 b1 b2 s1 s2
  go_enter Try.func40, Try.ntmps40
  go_wp2
  go_ret
  exact ⟨rfl, H2.out, B2.out, S2.out⟩
set_option maxHeartbeats 1000000 in
set_option maxRecDepth 100000 in
/-- The number of version 2, put. -/
theorem wvar_any (B b n : Nat) (k : Int) (x : ByteArray) (w : World) (h : Wt B b x w) (hlen : x.size ≤ 140737488000000) (hB : B ≤ w.heap.size) (hn : n < 18446744073709551616) :
    Calls Try.prog 50 #[.pointer (some ⟨b, 0, none⟩), .int .u64 n, .int .i64 k] w fun e w' => e = .returned (.tuple #[]) ∧ Ws w B b (x ++ Vi.putB n) w' := by
  have hfs := putB_size n hn
  obtain ⟨s, hs⟩ : ∃ s, s = Vi.putB n := ⟨_, rfl⟩
  have K1 : Hid (∀ W, Ws w B b x W → Calls Try.prog 52 #[.int .u64 n] W fun e w' => e = .returned (.string s) ∧ Ws w B b x w') := fun W hW => (put_any n W hn).mono fun e w' ⟨h1, h2⟩ => ⟨by rw [h1, hs], hW.below h2⟩
  have K2 : Hid (∀ W, Ws w B b x W → Calls Try.prog 51 #[.pointer (some ⟨b, 0, none⟩), .string s] W fun e w' => e = .returned (.tuple #[.int .i64 s.size, .nilIface]) ∧ Ws w B b (x ++ s) w') := fun W hW => (wwrite B b x s W hW.t (by rw [hs]; omega) hW.sz).mono fun e w' ⟨h1, h2, h3, h4⟩ => ⟨h1, h2, hW.be.trans h3, hW.ok.trans h4, Nat.le_trans hW.sz h3.size, Nat.le_trans hW.sw h3.size⟩
  have S0 : Ws w B b x w := Ws.start h hB
  have S1 := S0.drew
  rw [← hs]
  clear h hlen hB hn hfs hs
  go_enter Try.func50, Try.ntmps50
  go_region_held3 (fun _ => True) (trivial) (first
    | (go_at_call 52; (with_reducible refine (K1.out _ (by assumption)).mono ?_); rintro r w6 ⟨rfl, s5⟩)
    | (go_at_call 51; (with_reducible refine (K2.out _ (by assumption)).mono ?_); rintro r w7 ⟨rfl, s6⟩))
  all_goals
    go_wp2
    go_end0
    exact ⟨rfl, s6⟩
set_option maxHeartbeats 1000000 in
set_option maxRecDepth 100000 in
theorem sectors_any (s : Su) (w : World) : Calls Try.prog 21 #[s.val] w fun e w' => e = .returned (.int .i64 (sec s)) ∧ Below w.heap.size w w' := by
  obtain ⟨W, hW⟩ : ∃ W, W = sbx w s := ⟨_, rfl⟩
  obtain ⟨c0, c1, c2, c3, c4, c5, c6⟩ := su_cells (sbx_cells w s)
  have hc := sbx_cells w s
  have hb := sbx_below w s
  have hsz : (sbx w s).heap.size = w.heap.size + 1 := by simp [sbx]
  rw [← hW] at c0 c1 c2 c3 c4 c5 c6 hb hc hsz
  have HK := Lib.hid (fun (W : World) => right_any s W)
  have HI := Lib.hid (rgt_iff s)
  have HS : Hid (sec s = if rgt s then 4 + 2 * (s.sn + s.lg) else 0) := rfl
  obtain ⟨r, hr⟩ : ∃ r, r = rgt s := ⟨_, rfl⟩
  rw [← hr] at HK HS HI
  have HC := Lib.hid hc
  have HZ := Lib.hid hsz
  have HW := Lib.hid hW
  have HB := Lib.hid hb
  clear hr hb hW c0 c1 c2 c3 c4 c5 c6 hc hsz
  unfold sbx Su.val Su.c at *
  go_enter Try.func21, Try.ntmps21
  go_wp2_with fail
  rw [← HW.out]
  refine (HK.out _).mono ?_
  rintro e w1 ⟨rfl, b1⟩
  have HB1 := Lib.hid (HB.out.trans (b1.mono HB.out.size))
  cases r with
  | false =>
    have hs : Hid (sec s = 0) := HS.out
    go_wp2
    go_ret
    exact ⟨by rw [hs.out]; rfl, HB1.out⟩
  | true =>
    have hs : Hid (sec s = 4 + 2 * (s.sn + s.lg)) := HS.out
    obtain ⟨_, h2, h3, _⟩ := HI.out.1 rfl
    have hc1 : w1.heap[w.heap.size]? = some (.cells s.c 23 (0, 0)) := (b1.block _ (by have := HZ.out; omega)).trans HC.out
    obtain ⟨c0, c1, c2, c3, c4, c5, c6⟩ := su_cells hc1
    clear HC HZ HW HB b1 hc1
    go_wp2
    go_ret
    exact ⟨by rw [hs.out]; rfl, HB1.out⟩
end Go.Proofs.Ytdoombcihobejaa