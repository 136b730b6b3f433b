/-
  Texts of the layer below and of this one: WWk, WBm.
  Conditions: named in each theorem.
-/
import Derived.Test.YtnobeoppffoomaaGreatG39
import Derived.Test.YtnobeoppffoomaaGreatG03
import Derived.Test.YtnobeoppffoomaaGreatG37
namespace Go.Proofs.YtnobeoppffoomaaGreat
open Go.RowKit
set_option linter.unusedVariables false
set_option linter.unusedSimpArgs false
open Dk
theorem wi_key (g : Nat) (L : List Nat) (d : St) (at_ m U b3 b7 : Nat) (v : Int) (w W : World) (T : St × Int × Bool) (hT : T = wiL at_ U (m - U / 64) (U / 64) d false) (hb : Below w.heap.size w W) (h : Dv w g L d) (e3 : b3 = w.heap.size) (h3 : W.heap[b3]? = some (.cells #[ptr g] 42 (0, 0)))
    (h4 : W.heap[b3 + 1]? = some (.cells (rgc at_ m v) 40 (0, 0))) (h5 : W.heap[b3 + 1 + 1]? = some (.cells #[.int .i64 U] 3 (0, 0))) (h7 : W.heap[b7]? = some (.cells #[.bool false] 4 (0, 0))) (hb7 : b3 + 1 + 1 < b7) (ha : at_ ≤ 1048576) (hm : m ≤ 1048576) (hU : U ≤ m * 64) :
    Calls Tryz.prog 73 #[.int .i64 (U / 64 : Nat), .int .i64 m, .func (.func 74) #[] #[ptr b3, ptr (b3 + 1), ptr (b3 + 1 + 1), ptr b7]] W fun e w' => e = .returned (.int .i64 T.2.1) ∧ ∃ L', Dv w' g L' T.1 ∧ Keep (b7 :: L) W w' ∧ Fresh W L L' ∧ w'.heap[b7]? = some (.cells #[.bool T.2.2] 4 (0, 0)) ∧ b7 ∉ L' := by
  have hLw := h.lt
  have hn7 : b7 ∉ L := fun hm => by have := hLw _ hm; omega
  have hD := h.below hb
  refine (each4_any (ptr b3) (ptr (b3 + 1)) (ptr (b3 + 1 + 1)) (ptr b7) (U / 64) m
    (fun k w1 => ∃ L' d' b, Dv w1 g L' d' ∧ Keep (b7 :: L) W w1 ∧ Fresh W L L' ∧ w1.heap[b7]? = some (.cells #[.bool b] 4 (0, 0)) ∧ b7 ∉ L' ∧ wiL at_ U (m - k) k d' b = T)
    (fun z w1 => z = T.2.1 ∧ ∃ L', Dv w1 g L' T.1 ∧ Keep (b7 :: L) W w1 ∧ Fresh W L L' ∧ w1.heap[b7]? = some (.cells #[.bool T.2.2] 4 (0, 0)) ∧ b7 ∉ L') W (by omega) (by omega) ⟨L, d, false, hD, Keep.refl _ _, Fresh.refl _ _, h7, hn7, hT.symm⟩ ?_).mono ?_
  · rintro k w1 hk0 hk ⟨L1, d1, b, hD1, hK1, hF1, h71, hn1, hw1⟩
    have hst : wiL at_ U (m - k) k d1 b = if (wiStep d1 at_ U k).2.1 = 0 then wiL at_ U (m - (k + 1)) (k + 1) (wiStep d1 at_ U k).1 (b || (wiStep d1 at_ U k).2.2) else ((wiStep d1 at_ U k).1, (wiStep d1 at_ U k).2.1, b || (wiStep d1 at_ U k).2.2) := by
      rw [show m - k = (m - (k + 1)) + 1 by omega]
      rfl
    rw [hw1] at hst
    have hbl : ∀ j, w.heap.size ≤ j → j < W.heap.size → j ≠ b7 → w1.heap[j]? = W.heap[j]? := fun j a1 a2 a3 => hK1.block j a2 fun hm => by
      rcases List.mem_cons.1 hm with e | hm
      · exact a3 e
      · have := hLw _ hm; omega
    refine (wicl_any g L1 d1 b3 (b3 + 1) (b3 + 1 + 1) b7 at_ U k m v b w1 hD1 ((hbl b3 (by omega) (Array.getElem?_eq_some_iff.1 h3).1 (by omega)).trans h3) ((hbl (b3 + 1) (by omega) (Array.getElem?_eq_some_iff.1 h4).1 (by omega)).trans h4) ((hbl (b3 + 1 + 1) (by omega) (Array.getElem?_eq_some_iff.1 h5).1 (by omega)).trans h5) h71 (by omega) (by omega) hn1 ha (by omega) (by omega) (by omega)).mono ?_
    rintro e w2 ⟨rfl, L2, hD2, hK2, hF2, h72, hn2⟩
    have hF12 : Fresh W (b7 :: L) (b7 :: L1) := fun j hj => by
      rcases List.mem_cons.1 hj with e | hj
      · exact .inl (by rw [e]; simp)
      · exact (hF1 j hj).elim (fun h => .inl (List.mem_cons_of_mem _ h)) .inr
    have hK3 : Keep (b7 :: L) W w2 := hK1.trans' hK2 hF12
    have hF3 : Fresh W L L2 := hF1.trans hF2 hK1.size
    refine ⟨_, rfl, fun hz => ?_, fun hz => ?_⟩
    · rw [if_pos hz] at hst
      exact ⟨L2, _, _, hD2, hK3, hF3, h72, hn2, hst.symm⟩
    · rw [if_neg hz] at hst
      rw [hst]
      exact ⟨rfl, L2, hD2, hK3, hF3, h72, hn2⟩
  · rintro e w1 ⟨z, rfl, hz0, hz1⟩
    by_cases hz : z = 0
    · obtain ⟨L1, d1, b, hD1, hK1, hF1, h71, hn1, hw1⟩ := hz0 hz
      rw [Nat.sub_self] at hw1
      have hT2 : T = (d1, 0, b) := hw1.symm
      rw [hT2]
      exact ⟨by rw [hz], L1, hD1, hK1, hF1, h71, hn1⟩
    · obtain ⟨h1, h2⟩ := hz1 hz
      exact ⟨by rw [h1], h2⟩
theorem keep_drop {L : List Nat} {b : Nat} {w W w' : World} (hb : Below w.heap.size w W) (hk : Keep (b :: L) W w') (hbw : w.heap.size ≤ b) : Keep L w w' :=
  ⟨hk.os.trans hb.os, hk.tape.trans hb.tape, hk.output.trans hb.output, Nat.le_trans hb.size hk.size, fun k hk1 hk2 => (hk.block k (Nat.lt_of_lt_of_le hk1 hb.size) (fun hm => by
    rcases List.mem_cons.1 hm with e | hm
    · omega
    · exact hk2 hm)).trans (hb.block k hk1)⟩
set_option maxHeartbeats 4000000 in
set_option maxRecDepth 100000 in
theorem rwipe_any (g : Nat) (L : List Nat) (d : St) (at_ m : Nat) (v u : Int) (w : World) (h : Dv w g L d) (ha : at_ ≤ 1048576) (hm : m ≤ 1048576) :
    Calls Tryz.prog 30 #[ptr g, RG at_ m v, .int .i64 u] w fun e w' => e = .returned (.int .i64 (wipS d at_ m v u).2) ∧ Moves g L (wipS d at_ m v u).1 w w' := by
  obtain ⟨W, hW⟩ : ∃ W, W = ((w.alloc (.cells #[ptr g] 42)).alloc (.cells (rgc at_ m v) 40)).alloc (.cells #[.int .i64 u] 3) := ⟨_, rfl⟩
  have hB : Below w.heap.size w W := by rw [hW]; exact (((Below.refl _ w).alloc (Nat.le_refl _) _).alloc (by simp) _).alloc (by simp; omega) _
  have hc3 : W.heap[w.heap.size]? = some (.cells #[ptr g] 42 (0, 0)) := by rw [hW]; exact (heap3 w _ _ _).1
  have hc4 : W.heap[w.heap.size + 1]? = some (.cells (rgc at_ m v) 40 (0, 0)) := by rw [hW]; exact (heap3 w _ _ _).2.1
  have hc5 : W.heap[w.heap.size + 1 + 1]? = some (.cells #[.int .i64 u] 3 (0, 0)) := by rw [hW]; exact (heap3 w _ _ _).2.2
  have K1 := Lib.hid (ron_any g L d at_ m v W (h.below hB) ha hm)
  have K2 := Lib.hid (fun W => rhas_any at_ v u m W hm)
  obtain ⟨WP, hWP⟩ : ∃ x, x = wipS d at_ m v u := ⟨_, rfl⟩
  rw [← hWP]
  unfold wipS at hWP
  obtain ⟨b1, hb1⟩ : ∃ b, b = onB d.n at_ m v := ⟨_, rfl⟩
  obtain ⟨b2, hb2⟩ : ∃ b, b = hasB m u := ⟨_, rfl⟩
  rw [← hb1] at K1 hWP
  rw [← hb2] at K2 hWP
  have fin : Hid (∀ W', Below w.heap.size w W' → Moves g L d w W') := fun W' hb => ⟨L, h.below hb, Keep.of_below hb, Fresh.refl _ _⟩
  have HB := Lib.hid hB
  have HW := Lib.hid hW
  have H3 := Lib.hid hc3
  have H4 := Lib.hid hc4
  have H5 := Lib.hid hc5
  have HWP := Lib.hid hWP
  have HD := Lib.hid h
  have c3 : W.cell? ⟨w.heap.size, 0, none⟩ = some (ptr g) := cell_of_row W _ 0 _ 42 (0, 0) hc3
  have c5 : W.cell? ⟨w.heap.size + 1 + 1, 0, none⟩ = some (.int .i64 u) := cell_of_row W _ 0 _ 3 (0, 0) hc5
  obtain ⟨c40, c41, c42⟩ := rgc_cells hc4
  clear hB hW hc3 hc4 hc5 hWP hb1 h
  have hu0 := hb2
  unfold ptr at *
  cases b1 with
  | false =>
    obtain rfl : WP = (d, 1) := by rw [HWP.out, if_neg (by simp)]
    clear HWP hb2 hu0
    go_enter Tryz.func30, Tryz.ntmps30
    go_upto_region 1 with fail
    refine wp_at (w := W) HW.out.symm ?_
    go_wp2_with (go_at_call 64; (with_reducible refine K1.out.mono ?_); rintro q w1 ⟨rfl, b1⟩)
    go_ret
    exact ⟨rfl, fin.out _ (HB.out.trans (b1.mono HB.out.size))⟩
  | true =>
    cases b2 with
    | false =>
      obtain rfl : WP = (d, 1) := by rw [HWP.out, if_neg (by simp)]
      clear HWP hb2 hu0
      go_enter Tryz.func30, Tryz.ntmps30
      go_upto_region 1 with fail
      refine wp_at (w := W) HW.out.symm ?_
      go_wp2_with (first
        | (go_at_call 64; (with_reducible refine K1.out.mono ?_); rintro q w1 ⟨rfl, b1⟩; have HB1 : Hid (Below w.heap.size w w1) := HB.out.trans (b1.mono HB.out.size); obtain ⟨e0, e1, e2⟩ := rgc_cells ((b1.block _ (Array.getElem?_eq_some_iff.1 H4.out).1).trans H4.out); have e5 : w1.cell? ⟨w.heap.size + 1 + 1, 0, none⟩ = some (.int .i64 u) := cell_of_row w1 _ 0 _ 3 (0, 0) ((b1.block _ (Array.getElem?_eq_some_iff.1 H5.out).1).trans H5.out); clear b1)
        | (go_at_call 68; (with_reducible refine (K2.out _).mono ?_); rintro q w2 ⟨rfl, b2⟩))
      go_ret
      exact ⟨rfl, fin.out _ (HB1.out.trans (b2.mono HB1.out.size))⟩
    | true =>
      have hu : 0 ≤ u ∧ u ≤ ((m * 64 : Nat) : Int) := of_decide_eq_true hb2.symm
      obtain ⟨U, rfl⟩ := Int.eq_ofNat_of_zero_le hu.1
      have hU : U ≤ m * 64 := by omega
      obtain ⟨T, hT⟩ : ∃ T, T = wiL at_ U (m - U / 64) (U / 64) d false := ⟨_, rfl⟩
      have HW2 : Hid (WP = if T.2.1 ≠ 0 ∨ T.2.2 = false then (T.1, T.2.1) else T.1.flush) := by
        show _ = _
        rw [HWP.out, if_pos ⟨rfl, rfl⟩, Int.toNat_natCast, hT]
        rfl
      have KEY := Lib.hid (fun (W1 : World) (b7 : Nat) (hb : Below w.heap.size w W1) (h3 : W1.heap[w.heap.size]? = some (.cells #[.pointer (some ⟨g, 0, none⟩)] 42 (0, 0))) (h4 : W1.heap[w.heap.size + 1]? = some (.cells (rgc at_ m v) 40 (0, 0))) (h5 : W1.heap[w.heap.size + 1 + 1]? = some (.cells #[.int .i64 U] 3 (0, 0))) (h7 : W1.heap[b7]? = some (.cells #[.bool false] 4 (0, 0))) (hb7 : w.heap.size + 1 + 1 < b7) => wi_key g L d at_ m U w.heap.size b7 v w W1 T hT hb HD.out rfl h3 h4 h5 h7 hb7 ha hm hU)
      have KF := Lib.hid (fun (L' : List Nat) (W1 : World) (h : Dv W1 g L' T.1) => flush_any g L' T.1 W1 h)
      have i1 : ((U / 64 : Nat) : Int) = (U : Int) / 64 := by omega
      rw [i1] at KEY
      clear HWP hb2 hu0 hT i1 hu
      unfold ptr at *
      go_enter Tryz.func30, Tryz.ntmps30
      go_upto_region 1 with fail
      refine wp_at (w := W) HW.out.symm ?_
      go_upto_region 3 with (first
        | (go_at_call 64; (with_reducible refine K1.out.mono ?_); rintro q w1 ⟨rfl, b1⟩; have HB1 : Hid (Below w.heap.size w w1) := HB.out.trans (b1.mono HB.out.size); have H31 : Hid (w1.heap[w.heap.size]? = some (.cells #[.pointer (some ⟨g, 0, none⟩)] 42 (0, 0))) := (b1.block _ (Array.getElem?_eq_some_iff.1 H3.out).1).trans H3.out; have H41 : Hid (w1.heap[w.heap.size + 1]? = some (.cells (rgc at_ m v) 40 (0, 0))) := (b1.block _ (Array.getElem?_eq_some_iff.1 H4.out).1).trans H4.out; have H51 : Hid (w1.heap[w.heap.size + 1 + 1]? = some (.cells #[.int .i64 U] 3 (0, 0))) := (b1.block _ (Array.getElem?_eq_some_iff.1 H5.out).1).trans H5.out; obtain ⟨e0, e1, e2⟩ := rgc_cells H41.out; have e5 : w1.cell? ⟨w.heap.size + 1 + 1, 0, none⟩ = some (.int .i64 U) := cell_of_row w1 _ 0 _ 3 (0, 0) H51.out; clear b1)
        | (go_at_call 68; (with_reducible refine (K2.out _).mono ?_); rintro q w2 ⟨rfl, b2⟩))
      have HB2 : Hid (Below w.heap.size w w2) := HB1.out.trans (b2.mono HB1.out.size)
      have H32 : Hid (w2.heap[w.heap.size]? = some (.cells #[.pointer (some ⟨g, 0, none⟩)] 42 (0, 0))) := (b2.block _ (Array.getElem?_eq_some_iff.1 H31.out).1).trans H31.out
      have H42 : Hid (w2.heap[w.heap.size + 1]? = some (.cells (rgc at_ m v) 40 (0, 0))) := (b2.block _ (Array.getElem?_eq_some_iff.1 H41.out).1).trans H41.out
      have H52 : Hid (w2.heap[w.heap.size + 1 + 1]? = some (.cells #[.int .i64 U] 3 (0, 0))) := (b2.block _ (Array.getElem?_eq_some_iff.1 H51.out).1).trans H51.out
      clear b2 c3 c5 c40 c41 c42 e0 e1 e2 e5
      obtain ⟨P, hP⟩ : ∃ P, P = w2.heap.size := ⟨_, rfl⟩
      have hPs : w.heap.size + 1 + 1 < P := by rw [hP]; exact (Array.getElem?_eq_some_iff.1 H52.out).1
      obtain ⟨W3, hW3⟩ : ∃ W3, W3 = w2.alloc (.cells #[.bool false] 4) := ⟨_, rfl⟩
      have HB3 : Hid (Below w.heap.size w W3) := by show Below _ _ _; rw [hW3]; exact HB2.out.alloc HB2.out.size _
      have H33 : Hid (W3.heap[w.heap.size]? = some (.cells #[.pointer (some ⟨g, 0, none⟩)] 42 (0, 0))) := by show _ = _; rw [hW3]; exact (Lib.alloc_old _ _ _ (Array.getElem?_eq_some_iff.1 H32.out).1).trans H32.out
      have H43 : Hid (W3.heap[w.heap.size + 1]? = some (.cells (rgc at_ m v) 40 (0, 0))) := by show _ = _; rw [hW3]; exact (Lib.alloc_old _ _ _ (Array.getElem?_eq_some_iff.1 H42.out).1).trans H42.out
      have H53 : Hid (W3.heap[w.heap.size + 1 + 1]? = some (.cells #[.int .i64 U] 3 (0, 0))) := by show _ = _; rw [hW3]; exact (Lib.alloc_old _ _ _ (Array.getElem?_eq_some_iff.1 H52.out).1).trans H52.out
      have H73 : Hid (W3.heap[P]? = some (.cells #[.bool false] 4 (0, 0))) := by show _ = _; rw [hW3, hP]; exact heap_alloc_new w2 _
      have KK := Lib.hid (KEY.out W3 P HB3.out H33.out H43.out H53.out H73.out hPs)
      have c5 : W3.cell? ⟨w.heap.size + 1 + 1, 0, none⟩ = some (.int .i64 U) := cell_of_row W3 _ 0 _ 3 (0, 0) H53.out
      obtain ⟨c40, c41, c42⟩ := rgc_cells H43.out
      go_upto_region 4 with fail
      refine wp_at (w := W3) hW3.symm ?_
      rw [← hP]
      clear hW3 hP KEY
      go_upto_region 5 with (go_at_call 73; (with_reducible refine KK.out.mono ?_); rintro q w5 ⟨rfl, L5, hD5, hK5, hF5, h75, hn5⟩)
      have HKL : Hid (Keep L w w5) := keep_drop HB3.out hK5 (by omega)
      have HFL : Hid (Fresh w L L5) := fun k hk => (hF5 k hk).elim .inl (fun h => .inr (Nat.le_trans HB3.out.size h))
      have HD5 := Lib.hid hD5
      have HS5 : Hid (w.heap.size ≤ w5.heap.size) := HKL.out.size
      have h35 : w5.heap[w.heap.size]? = some (.cells #[.pointer (some ⟨g, 0, none⟩)] 42 (0, 0)) := (hK5.block _ (Array.getElem?_eq_some_iff.1 H33.out).1 (fun hm => by
        rcases List.mem_cons.1 hm with e | hm
        · omega
        · have := HD.out.lt _ hm; omega)).trans H33.out
      have f3 : w5.cell? ⟨w.heap.size, 0, none⟩ = some (.pointer (some ⟨g, 0, none⟩)) := cell_of_row w5 _ 0 _ 42 (0, 0) h35
      have f7 : w5.cell? ⟨P, 0, none⟩ = some (.bool T.2.2) := cell_of_row w5 _ 0 _ 4 (0, 0) h75
      clear hD5 hK5 hF5 h75 hn5 h35 c40 c41 c42 c5
      obtain ⟨t1, t2, t3⟩ := T
      dsimp only at *
      by_cases hz : t2 = 0
      rotate_left
      · have q1 : (t2 == 0) = false := beqF hz
        have q2 : (t2 != 0) = true := by unfold bne; rw [q1]; rfl
        obtain rfl : WP = (t1, t2) := by rw [HW2.out, if_pos (.inl hz)]
        clear hz HW2
        go_wp2
        go_ret
        exact ⟨rfl, L5, HD5.out, HKL.out, HFL.out⟩
      subst hz
      cases t3 with
      | false =>
        obtain rfl : WP = (t1, 0) := by rw [HW2.out, if_pos (.inr rfl)]
        clear HW2
        go_wp2
        go_ret
        exact ⟨rfl, L5, HD5.out, HKL.out, HFL.out⟩
      | true =>
        obtain rfl : WP = t1.flush := by rw [HW2.out, if_neg (by simp)]
        clear HW2
        go_wp2_with (go_at_call 28; (with_reducible refine (KF.out _ _ HD5.out).mono ?_); rintro q w6 ⟨rfl, hM⟩)
        go_ret
        obtain ⟨L6, m1, m2, m3⟩ := hM
        exact ⟨rfl, L6, m1, HKL.out.trans' m2 HFL.out, HFL.out.trans m3 HS5.out⟩
end Go.Proofs.YtnobeoppffoomaaGreat
namespace Go.Proofs.YtnobeoppffoomaaGreat
open Go.RowKit
set_option linter.unusedVariables false
set_option linter.unusedSimpArgs false
open Dk
/-- The i-th sector of a text. -/
def sx (T : List UInt8) (i : Nat) : Sec := pad ((T.drop (i * 64)).take 64)
theorem put_now (d : St) (i j : Nat) (s : Sec) : (d.step.put i s).now j = if j = i then s else d.now j := by
  unfold St.put St.now
  by_cases h : j = i
  · simp [h]
  · simp only [h, if_false]
    rfl
theorem wrL_now (first : Nat) (l : List UInt8) (n : Nat) : ∀ (r k : Nat) (d : St), Alv d n → first + k + r ≤ n → ∀ j, (wrL first l r k d).1.now j = if first + k ≤ j ∧ j < first + k + r then sx l (j - first) else d.now j
  | 0, k, d, h, _, j => by rw [if_neg (by omega)]; rfl
  | r + 1, k, d, h, hk, j => by
    obtain ⟨h1, h2⟩ := h.write (i := first + k) (by omega) ((l.drop (k * 64)).take 64) (by rw [List.length_take]; omega)
    have ih := wrL_now first l n r (k + 1) _ h2 (by omega) j
    have e : wrL first l (r + 1) k d = wrL first l r (k + 1) (d.step.put (first + k) (pad ((l.drop (k * 64)).take 64))) := by
      rw [wrL, h1, if_pos rfl]
    rw [e, ih, put_now]
    by_cases hj : j = first + k
    · rw [if_neg (by omega), if_pos hj, if_pos (by omega)]
      unfold sx
      rw [show j - first = k by omega]
    · rw [if_neg hj]
      by_cases h3 : first + (k + 1) ≤ j ∧ j < first + (k + 1) + r
      · rw [if_pos h3, if_pos (by omega)]
      · rw [if_neg h3, if_neg (by omega)]
theorem wrS_now {d : St} {n : Nat} (h : Alv d n) (first : Nat) (l : List UInt8) (hf : first + (l.length + 63) / 64 ≤ n) (j : Nat) : (wrS d first l).1.now j = if first ≤ j ∧ j < first + (l.length + 63) / 64 then sx l (j - first) else d.now j := by
  have := wrL_now first l n ((l.length + 63) / 64) 0 d h (by omega) j
  rw [Nat.add_zero] at this
  exact this
theorem sx_far {T : List UInt8} {i : Nat} (h : T.length ≤ i * 64) : sx T i = zsec := by
  unfold sx pad zsec
  rw [List.drop_eq_nil_of_le h]
  rfl
/-- The region's sectors hold the text, and zeros behind it. -/
def Holds (d : St) (at_ m : Nat) (T : List UInt8) : Prop := ∀ i, i < m → d.now (at_ + i) = sx T i
theorem sx_add (T s : List UInt8) (i : Nat) (hi : i < T.length / 64) : sx (T ++ s) i = sx T i := by
  unfold sx
  congr 1
  rw [List.drop_append_of_le_length (by omega), List.take_append_of_le_length (by rw [List.length_drop]; omega)]
theorem sx_tail (T s : List UInt8) (q i : Nat) (hq : q * 64 ≤ T.length) : sx ((T.drop (q * 64)) ++ s) i = sx (T ++ s) (q + i) := by
  unfold sx
  congr 2
  rw [show (q + i) * 64 = q * 64 + i * 64 by omega, ← List.drop_drop, List.drop_append_of_le_length hq]
theorem ah_holds {d : St} {n at_ m : Nat} {T : List UInt8} (h : Alv d n) (hn : at_ + m ≤ n) (hT : T.length ≤ m * 64) (hH : Holds d at_ m T) : ahL d at_ T.length = T.drop (T.length / 64 * 64) := by
  unfold ahL
  by_cases h0 : T.length % 64 = 0
  · rw [if_pos h0, List.drop_eq_nil_of_le (by omega)]
  · rw [if_neg h0, h.refuses (by omega), if_pos rfl, hH _ (by omega)]
    unfold sx pad
    have hl : (T.drop (T.length / 64 * 64)).length = T.length % 64 := by rw [List.length_drop]; omega
    rw [List.take_of_length_le (l := T.drop (T.length / 64 * 64)) (by omega), List.take_append_of_le_length (by omega), List.take_of_length_le (by omega)]
/-- Add puts the records behind the text. -/
theorem add_holds {d : St} {n at_ m : Nat} {v : Int} {es : List En} {T : List UInt8} (h : Alv d n) (ok : d.Ok) (hv : v = 1 ∨ v = 2) (hg : ∀ e ∈ es, Good v e) (hf : T.length + (rcA v (pS v) es).size ≤ m * 64) (hn : at_ + m ≤ n) (hH : Holds d at_ m T) :
    ∃ d', addG d at_ m v T.length es = (d', ((T.length + (rcA v (pS v) es).size : Nat) : Int), 0) ∧ Alv d' n ∧ Holds d' at_ m (T ++ (rcA v (pS v) es).data.toList) ∧ ∀ j, j < at_ ∨ at_ + m ≤ j → d'.now j = d.now j := by
  obtain ⟨r1, r2⟩ := rgS_fit (m := m) (u := T.length) hv hg hf
  have hlz : (rcA v (pS v) es).data.toList.length = (rcA v (pS v) es).size := by rw [Array.length_toList]; rfl
  by_cases hz : rcA v (pS v) es = ⟨#[]⟩
  · refine ⟨d, ?_, h, ?_, fun _ _ => rfl⟩
    · unfold addG
      rw [r1, r2, if_neg (by simp), if_pos hz, hz]
      rfl
    · rw [hz]
      show Holds d at_ m (T ++ [])
      rw [List.append_nil]
      exact hH
  obtain ⟨a1, a2⟩ := ahL_size (at_ := at_) (u := T.length) h ok (fun _ => by omega)
  have ae := ah_holds h hn (by omega) hH
  obtain ⟨s, hs⟩ : ∃ s, s = rcA v (pS v) es := ⟨_, rfl⟩
  rw [← hs] at r1 hz hf hlz ⊢
  have hlen : (ahL d at_ T.length ++ s.data.toList).length = T.length % 64 + s.size := by rw [List.length_append, a1, hlz]
  have e1 : T.length - T.length % 64 = T.length / 64 * 64 := by omega
  have e2 : T.length / 64 * 64 / 64 = T.length / 64 := by omega
  have hcap : at_ + T.length / 64 + (T.length % 64 + s.size + 63) / 64 ≤ at_ + m := by omega
  obtain ⟨w1, w2⟩ := wrS_ok h (at_ + T.length / 64) (ahL d at_ T.length ++ s.data.toList) (by rw [hlen]; omega)
  have wn := wrS_now h (at_ + T.length / 64) (ahL d at_ T.length ++ s.data.toList) (by rw [hlen]; omega)
  refine ⟨(wrS d (at_ + T.length / 64) (ahL d at_ T.length ++ s.data.toList)).1, ?_, w2, ?_, ?_⟩
  · unfold addG
    rw [r1, r2, a1, a2, e1, e2, if_neg (by simp), if_neg hz, if_neg (by simp), if_neg (by rw [w1]; simp)]
  · intro i hi
    rw [wn, hlen]
    by_cases h1 : at_ + T.length / 64 ≤ at_ + i ∧ at_ + i < at_ + T.length / 64 + (T.length % 64 + s.size + 63) / 64
    · rw [if_pos h1, ae, show at_ + i - (at_ + T.length / 64) = i - T.length / 64 by omega, sx_tail _ _ _ _ (by omega), show T.length / 64 + (i - T.length / 64) = i by omega]
    · rw [if_neg h1, hH i hi]
      by_cases h2 : i < T.length / 64
      · rw [sx_add _ _ _ h2]
      · rw [sx_far (T := T) (by omega), sx_far (by rw [List.length_append, hlz]; omega)]
  · intro j hj
    rw [wn, hlen, if_neg (by omega)]
theorem holds_nil {d : St} {at_ m : Nat} (h : ∀ i, i < m → d.now (at_ + i) = zsec) : Holds d at_ m [] := fun i hi => by rw [h i hi, sx_far (by simp)]
/-- The region's bytes. -/
theorem cat_sx (F : Nat → Sec) (T : List UInt8) : ∀ m, (∀ i, i < m → F i = sx T i) → catS F m = (T ++ List.replicate (m * 64 - T.length) 0).take (m * 64)
  | 0, _ => by simp [catS]
  | m + 1, h => by
    have ih := cat_sx F T m fun i hi => h i (by omega)
    rw [catS, ih, h m (by omega)]
    have e0 : (T ++ List.replicate (m * 64 - T.length) (0 : UInt8)).take (m * 64) = (T ++ List.replicate ((m + 1) * 64 - T.length) 0).take (m * 64) := by
      by_cases h1 : m * 64 ≤ T.length
      · rw [List.take_append_of_le_length h1, List.take_append_of_le_length h1]
      · rw [List.take_append, List.take_append, List.take_replicate, List.take_replicate]
        congr 2
        omega
    rw [e0, show (m + 1) * 64 = m * 64 + 64 by omega, List.take_add]
    congr 1
    unfold sx pad
    by_cases h1 : T.length ≤ m * 64
    · rw [List.drop_eq_nil_of_le h1, List.drop_append, List.drop_eq_nil_of_le h1, List.drop_replicate, List.nil_append, List.take_replicate]
      show List.replicate 64 (0 : UInt8) = _
      congr 1
      omega
    · rw [List.drop_append_of_le_length (by omega), List.take_append, List.take_replicate, List.length_take, List.length_drop]
      congr 2
      omega
theorem rdB_holds {d : St} {at_ m : Nat} {T : List UInt8} (hT : T.length ≤ m * 64) (h : Holds d at_ m T) : rdB d at_ m = txt T ++ zz (m * 64 - T.length) := by
  unfold rdB
  rw [cat_sx _ T m h, List.take_of_length_le (by rw [List.length_append, List.length_replicate]; omega), txt_app, zz_list]
theorem pad_take_zero {l : List UInt8} (hl : l.length = 64) {k : Nat} (hk : k ≤ 64) (h : l.drop k = List.replicate (64 - k) 0) : pad (l.take k) = l := by
  unfold pad
  rw [List.length_take, hl, Nat.min_eq_left hk, ← h, List.take_append_drop]
theorem wi_step {d : St} {n at_ u k : Nat} (h : Alv d n) (ok : d.Ok) (hk : at_ + k < n) (huk : u ≤ k * 64 + 63) :
    (wiStep d at_ u k).2.1 = 0 ∧ Alv (wiStep d at_ u k).1 n ∧ (∀ j, (wiStep d at_ u k).1.now j = if j = at_ + k then pad ((d.now (at_ + k)).take (u - k * 64)) else d.now j) ∧ (wiStep d at_ u k).1.Ok := by
  unfold wiStep
  rw [h.refuses hk, if_neg (by simp)]
  by_cases hz : (d.now (at_ + k)).drop (u - k * 64) = List.replicate (64 - (u - k * 64)) 0
  · rw [if_pos hz]
    refine ⟨rfl, h, fun j => ?_, ok⟩
    by_cases hj : j = at_ + k
    · rw [if_pos hj, hj, pad_take_zero (ok.now _) (by omega) hz]
    · rw [if_neg hj]
  · rw [if_neg hz]
    have hl : ((d.now (at_ + k)).take (u - k * 64)).length ≤ 64 := by rw [List.length_take]; omega
    obtain ⟨h1, h2⟩ := h.write (i := at_ + k) hk ((d.now (at_ + k)).take (u - k * 64)) hl
    rw [h1]
    exact ⟨rfl, h2, fun j => put_now _ _ _ _, ok.step.put (show at_ + k < d.n by rw [h.n]; exact hk) (pad_length _ hl)⟩
theorem wiL_now (at_ u n : Nat) : ∀ (r k : Nat) (d : St) (b : Bool), Alv d n → d.Ok → at_ + k + r ≤ n → u ≤ k * 64 + 63 →
    (wiL at_ u r k d b).2.1 = 0 ∧ Alv (wiL at_ u r k d b).1 n ∧ ∀ j, (wiL at_ u r k d b).1.now j = if at_ + k ≤ j ∧ j < at_ + k + r then pad ((d.now j).take (u - (j - at_) * 64)) else d.now j
  | 0, k, d, b, h, _, _, _ => ⟨rfl, h, fun j => by rw [if_neg (by omega)]; rfl⟩
  | r + 1, k, d, b, h, ok, hk, hu => by
    obtain ⟨s1, s2, s3, s4⟩ := wi_step (u := u) h ok (show at_ + k < n by omega) hu
    obtain ⟨i1, i2, i3⟩ := wiL_now at_ u n r (k + 1) (wiStep d at_ u k).1 (b || (wiStep d at_ u k).2.2) s2 s4 (by omega) (by omega)
    have e : wiL at_ u (r + 1) k d b = wiL at_ u r (k + 1) (wiStep d at_ u k).1 (b || (wiStep d at_ u k).2.2) := by
      rw [wiL, if_pos s1]
    rw [e]
    refine ⟨i1, i2, fun j => ?_⟩
    rw [i3, s3]
    by_cases hj : j = at_ + k
    · rw [if_neg (by omega), if_pos hj, if_pos (by omega), hj, show at_ + k - at_ = k by omega]
    · rw [if_neg hj]
      by_cases h3 : at_ + (k + 1) ≤ j ∧ j < at_ + (k + 1) + r
      · rw [if_pos h3, if_pos (by omega)]
      · rw [if_neg h3, if_neg (by omega)]
theorem flush_now {d : St} {n : Nat} (h : Alv d n) : d.flush.2 = 0 ∧ Alv d.flush.1 n ∧ ∀ j, d.flush.1.now j = d.now j := by
  have hl : d.step.left = -1 := by show (if 0 < d.left then d.left - 1 else d.left) = -1; rw [h.l]; rfl
  have e : d.flush = (d.step.settle, 0) := by
    unfold St.flush St.try_
    rw [if_neg (by rw [h.l]; decide), if_neg (by rw [h.x]; decide)]
  rw [e]
  exact ⟨rfl, ⟨h.n, hl, h.x⟩, fun j => rfl⟩
theorem wipG_now {d : St} {n at_ m u : Nat} (h : Alv d n) (ok : d.Ok) (hn : at_ + m ≤ n) (hu : u ≤ m * 64) :
    (wipG d at_ m u).2 = 0 ∧ Alv (wipG d at_ m u).1 n ∧ ∀ j, (wipG d at_ m u).1.now j = if at_ + u / 64 ≤ j ∧ j < at_ + m then pad ((d.now j).take (u - (j - at_) * 64)) else d.now j := by
  obtain ⟨i1, i2, i3⟩ := wiL_now at_ u n (m - u / 64) (u / 64) d false h ok (by omega) (by omega)
  rw [show at_ + u / 64 + (m - u / 64) = at_ + m by omega] at i3
  unfold wipG
  split
  · exact ⟨i1, i2, i3⟩
  · obtain ⟨f1, f2, f3⟩ := flush_now i2
    exact ⟨f1, f2, fun j => (f3 j).trans (i3 j)⟩
/-- What stands behind the text is wiped. -/
theorem wip_holds {d : St} {n at_ m : Nat} {T : List UInt8} (h : Alv d n) (ok : d.Ok) (hn : at_ + m ≤ n) (hT : T.length ≤ m * 64) (hH : ∀ i, i < m → i * 64 < T.length → d.now (at_ + i) = sx T i) :
    (wipG d at_ m T.length).2 = 0 ∧ Alv (wipG d at_ m T.length).1 n ∧ Holds (wipG d at_ m T.length).1 at_ m T ∧ ∀ j, j < at_ ∨ at_ + m ≤ j → (wipG d at_ m T.length).1.now j = d.now j := by
  obtain ⟨i1, i2, i3⟩ := wipG_now h ok hn hT
  refine ⟨i1, i2, fun i hi => ?_, fun j hj => ?_⟩
  · rw [i3]
    by_cases h1 : at_ + T.length / 64 ≤ at_ + i ∧ at_ + i < at_ + m
    · rw [if_pos h1, show at_ + i - at_ = i by omega]
      by_cases h2 : i * 64 < T.length
      · rw [hH i hi h2]
        unfold sx
        have hl : (T.drop (i * 64)).length ≤ 64 := by rw [List.length_drop]; omega
        have hl2 : (T.drop (i * 64)).length = T.length - i * 64 := List.length_drop
        rw [List.take_of_length_le hl]
        congr 1
        unfold pad
        rw [List.take_append_of_le_length (by omega), List.take_of_length_le (by omega)]
      · rw [show T.length - i * 64 = 0 by omega, sx_far (by omega)]
        rfl
    · rw [if_neg h1, hH i hi (by omega)]
  · rw [i3, if_neg (by omega)]
theorem rcA_app {v : Int} {S : En → ByteArray} (a b : List En) (hv : v ≠ 1 ∨ (rcA v S a).size % 64 = 0) : rcA v S (a ++ b) = rcA v S a ++ rcA v S b := by
  have key : ∀ (b : List En) (s t : ByteArray), (v ≠ 1 ∨ s.size % 64 = 0) → b.foldl (fun s e => padv v (s ++ S e)) (s ++ t) = s ++ b.foldl (fun s e => padv v (s ++ S e)) t := by
    intro b
    induction b with
    | nil => intro s t _; rfl
    | cons e b ih =>
      intro s t h
      rw [List.foldl_cons, List.foldl_cons, ← ih s _ h]
      congr 1
      unfold padv
      have h1 : bgn v (s ++ t ++ S e).size - (s ++ t ++ S e).size = bgn v (t ++ S e).size - (t ++ S e).size := by
        simp only [ByteArray.size_append]
        unfold bgn
        rcases h with h | h
        · rw [if_neg h, if_neg h]; omega
        · split <;> omega
      rw [h1]
      apply ByteArray.ext
      simp [ByteArray.data_append, Array.append_assoc]
  unfold rcA
  rw [List.foldl_append]
  have := key b (rcA v S a) ⟨#[]⟩ hv
  have e0 : rcA v S a ++ (⟨#[]⟩ : ByteArray) = rcA v S a := by apply ByteArray.ext; simp [ByteArray.data_append]
  rw [e0] at this
  exact this
theorem rcA1_mod (a : List En) : (rcA 1 (pS 1) a).size % 64 = 0 := by
  rcases List.eq_nil_or_concat a with rfl | ⟨l, e, rfl⟩
  · rfl
  · rw [List.concat_eq_append, rcA_snoc, padv_size]
    unfold bgn
    rw [if_pos rfl]
    omega
/-- Bytes 0 are no frame. -/
theorem nOk_zz (n : Nat) : nOk (zz n) = false := by
  cases n with
  | zero => exact nOk_nil rfl
  | succ n =>
    have hf : Vi.fixV (zz (n + 1)) 1 = 0 := by
      unfold Vi.fixV
      split
      · have hn : Vi.nums (zz (n + 1)) = 0 :: Vi.nums (zz n) := by
          unfold Vi.nums
          rw [zz_list, zz_list]
          rfl
        rw [hn]
        rfl
      · rfl
    unfold nOk nV
    rw [hf]
    rfl
end Go.Proofs.YtnobeoppffoomaaGreat
