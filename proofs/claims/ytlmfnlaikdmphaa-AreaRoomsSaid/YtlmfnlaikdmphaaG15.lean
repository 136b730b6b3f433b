/-
  Texts of the layer below and of this one: LRomA.
  Conditions: named in each theorem.
-/
import Derived.Test.YtlmfnlaikdmphaaG14
import Derived.Test.YtlmfnlaikdmphaaG04
namespace Go.Proofs.Ytlmfnlaikdmphaa
open Go.RowKit Vi Dk
set_option linter.unusedVariables false
set_option linter.unusedSimpArgs false
theorem own_slice {w : World} {B e z n : Nat} {v : Value} {xs : List Value} (h : w.ownsRow B e z v n xs) : ∃ A c, v = .slice A n c := by
  rcases h.2 with ⟨rfl, h0⟩ | ⟨g, c, cur, rfl, _⟩
  · exact ⟨none, 0, by rw [h0]⟩
  · exact ⟨_, c, rfl⟩
theorem Qx.wait {w W : World} {g : Nat} {K : List (Nat × Obj)} {d : St} (h : Qx w g K d W) (n : Nat) (hn : d.waits.length = n) :
    Calls Try.prog 33 #[ptr g] W fun x w' => ∃ A c, x = .returned (.slice A n c) ∧ Qx w g K d w' := by
  have h0 := h
  obtain ⟨L, h1, h3, h4, h5⟩ := h
  refine (waiting_any g L d W h1).mono fun x w' ⟨v, hx, ho, hb⟩ => ?_
  rw [hn] at ho
  obtain ⟨A, c, rfl⟩ := own_slice ho
  exact ⟨A, c, hx, h0.below hb⟩
theorem catS_zero (F : Nat → Sec) : ∀ m, (∀ i, i < m → F i = zsec) → catS F m = List.replicate (m * 64) 0
  | 0, _ => rfl
  | m + 1, h => by
    rw [catS, catS_zero F m (fun i hi => h i (by omega)), h m (by omega), zsec, List.replicate_append_replicate]
    congr 1
    omega
theorem filter_lt (n : Nat) : ∀ m, n ≤ m → ((List.range m).filter fun i => decide (i < n)).length = n
  | 0, h => by simp; omega
  | m + 1, h => by
    rw [List.range_succ, List.filter_append, List.length_append]
    by_cases hm : n ≤ m
    · rw [filter_lt n m hm]
      have : decide (m < n) = false := decide_eq_false (by omega)
      simp [this]
    · have e : n = m + 1 := by omega
      have h2 : ((List.range m).filter fun i => decide (i < n)) = List.range m := List.filter_eq_self.2 fun x hx => decide_eq_true (by have := List.mem_range.1 hx; omega)
      rw [h2]
      have : decide (m < n) = true := decide_eq_true (by omega)
      simp [this]
      omega
/-- The devices of AreaRooms. -/
theorem room_math {v : Int} {s : Sn} (oks : s.Ok) (hv : v = 1 ∨ v = 2) (hs : s.da.size ≤ 300) :
    ∃ (n : Nat) (d1 : St) (X : Sn × Int × Int), n = ((snS v s).size + 63) / 64 ∧ 1 ≤ n ∧ n ≤ 6 ∧ (snS v s).size ≤ 327 ∧ snO v s = true ∧ rmB v n s = true ∧ rmB v ((n : Int) - 1) s = false ∧
      arW (St.fresh 10 fun _ => zsec) 0 ((n : Int) - 1) v s = (St.fresh 10 fun _ => zsec, if 1 < n then 4 else 1) ∧ (St.fresh 10 fun _ => zsec).waits.length = 0 ∧
      arW (St.fresh 10 fun _ => zsec) 0 n v s = (d1, 0) ∧ d1.waits.length = n ∧ arR d1 5 5 = X ∧ (n ≤ 5 → X.2.2 = 2) := by
  obtain ⟨o1, z1⟩ := snS_fits oks hv hs
  have hpos : 1 ≤ (snS v s).size := by
    rcases hv with rfl | rfl
    · rw [snS1_size o1]; omega
    · rw [snS2_size o1]; omega
  obtain ⟨n, hn⟩ : ∃ n, n = ((snS v s).size + 63) / 64 := ⟨_, rfl⟩
  have hn1 : 1 ≤ n := by omega
  have hn6 : n ≤ 6 := by omega
  obtain ⟨a1, a2, a3, a4, a5, a6⟩ := arW_alv (d := St.fresh 10 fun _ => zsec) (a := 0) (M := n) (v := v) (fresh_alv 10) o1 (by omega) hn1 (by omega)
  obtain ⟨D1, hD1⟩ : ∃ D, D = (arW (St.fresh 10 fun _ => zsec) ((0 : Nat) : Int) (n : Int) v s).1 := ⟨_, rfl⟩
  rw [← hD1] at a2 a3 a4 a5 a6
  refine ⟨n, D1, arR D1 5 5, hn, hn1, hn6, z1, o1, ?_, ?_, ?_, rfl, Prod.ext hD1.symm a1, ?_, rfl, fun h5 => ?_⟩
  · unfold rmB
    rw [o1, ← hn, decide_eq_true (by omega)]; rfl
  · unfold rmB
    rw [o1, ← hn, decide_eq_false (by omega)]; rfl
  · unfold arW
    by_cases h1 : 1 < n
    · have hon : onA 10 0 ((n : Int) - 1) = true := onA_iff.2 ⟨by omega, by omega, by omega⟩
      rw [o1, show (St.fresh 10 fun _ => zsec).n = 10 from rfl, hon, Bool.and_self, if_pos rfl, ← hn, if_neg (by omega), if_pos h1]
    · have hon : onA 10 0 ((n : Int) - 1) = false := by
        cases hq : onA 10 0 ((n : Int) - 1) with
        | false => rfl
        | true => obtain ⟨_, h2, _⟩ := onA_iff.1 hq; omega
      rw [o1, show (St.fresh 10 fun _ => zsec).n = 10 from rfl, hon, Bool.and_false, if_neg (by decide), if_neg h1]
  · unfold St.waits
    rw [a2.n]
    have he : (fun i => (D1.wt i).isSome) = fun i => decide (i < n) := by
      funext i
      rw [a6 i]
      show (decide (0 ≤ i ∧ i < 0 + n) || (none : Option Sec).isSome) = _
      rw [show (none : Option Sec).isSome = false from rfl, Bool.or_false, decide_eq_decide]
      omega
    rw [he]
    exact filter_lt n 10 (by omega)
  · have hb : rdB D1 5 5 = zz 320 := by
      unfold rdB
      rw [catS_zero _ 5 fun i hi => (a4 (5 + i) (by omega)).trans rfl]
      rfl
    have hg : gtO (rdB D1 5 5) = false := by rw [hb]; exact gt_nx (nOk_zz 320)
    have hon : onA D1.n 5 5 = true := onA_iff.2 ⟨by omega, by omega, by rw [a2.n]; decide⟩
    unfold arR
    rw [hon, if_pos rfl, a2.x, if_neg (by decide)]
    show (if gtO (rdB D1 5 5) = true then (0 : Int) else 2) = 2
    rw [hg]; rfl
set_option maxHeartbeats 4000000 in
set_option maxRecDepth 100000 in
theorem lrooms_any (s : Sn) (two : Bool) (w : World) (oks : s.Ok) :
    Calls Try.prog 6 #[s.v, .bool two] w fun e w' => e = .returned (.bool true) ∧ Below w.heap.size w w' := by
  obtain ⟨W, hW⟩ : ∃ W, W = w.alloc (.cells s.c 24) := ⟨_, rfl⟩
  have hB : Below w.heap.size w W := by rw [hW]; exact (Below.refl _ w).alloc (Nat.le_refl _) _
  have h1 : W.heap[w.heap.size]? = some (.cells s.c 24 (0, 0)) := by rw [hW]; exact heap_alloc_new w _
  have KE := Lib.hid (examples_any W)
  have HB := Lib.hid hB
  have H1 := Lib.hid h1
  have HW := Lib.hid hW
  have HOS := Lib.hid (cutS_ok oks)
  have hd1 := cutD_size s.da
  have HD1 := Lib.hid hd1
  have HC1 : Hid (s.da.extract 0 (min s.da.size 300) = cutD s.da) := rfl
  have hk1 : min (s.da.size : Int) 300 = ((min s.da.size 300 : Nat) : Int) := by omega
  obtain ⟨k1, hk1'⟩ : ∃ k, k = min s.da.size 300 := ⟨_, rfl⟩
  rw [← hk1'] at HC1 hk1
  have hl1 : (k1 : Int) ≤ (s.da.size : Int) := by omega
  clear hB h1 hW oks hd1 hk1'
  obtain ⟨ix, tm, D⟩ := s
  unfold Sn.v Sn.c cutS at *
  dsimp only at *
  go_enter Try.func6, Try.ntmps6
  go_upto_region 1 with fail
  refine wp_at (w := W) HW.out.symm ?_
  go_upto_region 4 with (go_at_call 8; (with_reducible refine KE.out.mono ?_); rintro r w1 ⟨rfl, b1⟩)
  have HB1 : Hid (Below w.heap.size w w1) := HB.out.trans (b1.mono HB.out.size)
  have G1 : Hid (w1.heap[w.heap.size]? = some (.cells (Sn.c ⟨ix, tm, D⟩) 24 (0, 0))) := (b1.block _ (Array.getElem?_eq_some_iff.1 H1.out).1).trans H1.out
  clear b1 H1 HB KE HW
  obtain ⟨v, hv, hv12⟩ : ∃ v : Int, v = (if two then 2 else 1) ∧ (v = 1 ∨ v = 2) := ⟨_, rfl, by cases two <;> simp⟩
  go_upto_if 22 with fail
  go_cut [6, 22] from 23 to 23 (fun s6 s22 wx => s22 = s22 ∧ s6 = .int .i64 v ∧ w1 = wx)
  case first =>
    cases two
    · obtain rfl : v = 1 := hv
      go_wp2_with fail
      go_meet
      exact ⟨trivial, rfl, rfl⟩
    · obtain rfl : v = 2 := hv
      go_wp2_with fail
      go_meet
      exact ⟨trivial, rfl, rfl⟩
  case rest =>
    obtain ⟨_, rfl, rfl⟩ := hcut
    have HV12 := Lib.hid hv12
    clear hv hv12
    obtain ⟨x0, x1, x2⟩ := sn_cells (s := ⟨ix, tm, D⟩) G1.out
    have xf : w1.frozen? ⟨w.heap.size, 2, none⟩ = false := Lib.frozen_of_heap G1.out 2
    obtain ⟨W3, hW3⟩ : ∃ W3, W3 = w1.setCell ⟨w.heap.size, 2, none⟩ (.string (cutD D)) := ⟨_, rfl⟩
    have G13 : Hid (W3.heap[w.heap.size]? = some (.cells (Sn.c ⟨ix, tm, cutD D⟩) 24 (0, 0))) := by show _ = _; rw [hW3]; exact heap_setCell_same _ w.heap.size 2 _ 24 (.string (cutD D)) G1.out
    have HB3 : Hid (Below w.heap.size w W3) := by show Below _ _ _; rw [hW3]; exact HB1.out.setCell (p := ⟨w.heap.size, 2, none⟩) (Nat.le_refl _) _
    have HW3 := Lib.hid hW3
    clear hW3
    go_upto_region 8 with fail
    rw [HC1.out, ← HW3.out]
    clear x0 x1 x2 xf HC1 hk1 hl1 HW3 G1 HB1
    obtain ⟨n, d1, X, m0, m1, m2, mz, mo, m3, m4, m5, m6, m7, m8, m9, m10⟩ := room_math HOS.out HV12.out HD1.out
    have KP := Lib.hid (fun (W : World) => aput_any v ⟨ix, tm, cutD D⟩ W HOS.out)
    have KR1 := Lib.hid (fun (W : World) => aroom_any v n ⟨ix, tm, cutD D⟩ W HOS.out)
    have KR2 := Lib.hid (fun (W : World) => aroom_any v ((n : Int) - 1) ⟨ix, tm, cutD D⟩ W HOS.out)
    have K1 := Lib.hid (fun (g : Nat) (K : List (Nat × Obj)) (W : World) (hp : Qx w g K (St.fresh 10 fun _ => zsec) W) => hp.c1 fun L hD => awrite_any g L _ 0 ((n : Int) - 1) v ⟨ix, tm, cutD D⟩ W hD HOS.out (by omega))
    have K2 := Lib.hid (fun (g : Nat) (K : List (Nat × Obj)) (W : World) (hp : Qx w g K (St.fresh 10 fun _ => zsec) W) => hp.wait 0 m6)
    have K3 := Lib.hid (fun (g : Nat) (K : List (Nat × Obj)) (W : World) (hp : Qx w g K (St.fresh 10 fun _ => zsec) W) => hp.c1 fun L hD => awrite_any g L _ 0 n v ⟨ix, tm, cutD D⟩ W hD HOS.out (by omega))
    have K4 := Lib.hid (fun (g : Nat) (K : List (Nat × Obj)) (W : World) (hp : Qx w g K d1 W) => hp.q1 fun L hD => aread_any g L d1 5 5 W hD (by omega))
    have K5 := Lib.hid (fun (g : Nat) (K : List (Nat × Obj)) (W : World) (hp : Qx w g K d1 W) => hp.wait n m8)
    rw [mo] at KP
    rw [m3] at KR1
    rw [m4] at KR2
    rw [m5] at K1
    rw [m7] at K3
    rw [m9] at K4
    obtain ⟨less, hless⟩ : ∃ x : Int, x = if 1 < n then 4 else 1 := ⟨_, rfl⟩
    rw [← hless] at K1
    generalize snS v ⟨ix, tm, cutD D⟩ = b at *
    have q2 : wrap64 ((b.size : Int) + 63) = (b.size : Int) + 63 := by unfold wrap64; omega
    have q3 : wrap64 (((b.size : Int) + 63).tdiv 64) = (n : Int) := by
      rw [Int.tdiv_eq_ediv_of_nonneg (by omega)]; unfold wrap64; omega
    have q4 : wrap64 ((n : Int) - 1) = (n : Int) - 1 := by unfold wrap64; omega
    have q5 : decide ((n : Int) < 1) = false := decide_eq_false (by omega)
    have HM := Lib.hid (⟨m1, m2⟩ : _ ∧ _)
    have HX := Lib.hid m10
    have HL := Lib.hid hless
    have HG : Hid (∀ g d W, Qx w g [(w.heap.size, Obj.cells (Sn.c ⟨ix, tm, cutD D⟩) 24 (0, 0))] d W → W.heap[w.heap.size]? = some (.cells (Sn.c ⟨ix, tm, cutD D⟩) 24 (0, 0))) := fun g d W hp => hp.get (by simp)
    obtain ⟨K0, hK0⟩ : ∃ K0, K0 = [(w.heap.size, Obj.cells (Sn.c ⟨ix, tm, cutD D⟩) 24 (0, 0))] := ⟨_, rfl⟩
    rw [← hK0] at HG
    generalize cutD D = E1 at *
    obtain ⟨⟨Xi, Xt, Xd⟩, Xv, Xe⟩ := X
    clear m0 m1 m2 mz m3 m4 m5 m6 m7 m8 m9 m10 hless mo
    unfold Sn.v at *
    unfold ptr at *
    dsimp only at *
    obtain ⟨c0, c1, c2⟩ := sn_cells (s := ⟨ix, tm, E1⟩) G13.out
    go_upto_region 10 with (go_at_call 9; (with_reducible refine (KP.out _).mono ?_); rintro r w4 ⟨rfl, b4⟩)
    have G4 : w4.heap[w.heap.size]? = some (.cells (Sn.c ⟨ix, tm, E1⟩) 24 (0, 0)) := (b4.block _ (Array.getElem?_eq_some_iff.1 G13.out).1).trans G13.out
    have KN := Lib.hid (Qx.new (w := w) (W := w4) (K := K0) 10 (by omega) (by omega) (HB3.out.trans (b4.mono HB3.out.size)) (by
      intro p hp
      rw [hK0] at hp
      simp at hp
      rcases hp with rfl
      exact ⟨G4, Nat.le_refl _⟩))
    clear b4 G4 c0 c1 c2 hK0 KP G13 HB3
    go_wp2_with fail
    refine KN.out.mono ?_
    rintro e w5 ⟨g, rfl, P5⟩
    have HP5 := Lib.hid P5
    clear P5 KN
    unfold ptr at *
    go_upto_if 60 with fail
    go_cut [12, 60] from 61 to 61 (fun s12 s60 wx => s60 = s60 ∧ s12 = .int .i64 less ∧ w5 = wx)
    case first =>
      by_cases h1 : 1 < n
      · have hl : less = 4 := by rw [HL.out, if_pos h1]
        have t1 : decide ((1 : Int) < (n : Int)) = true := decide_eq_true (by omega)
        subst hl
        go_wp2_with fail
        go_meet
        exact ⟨trivial, rfl, rfl⟩
      · have hl : less = 1 := by rw [HL.out, if_neg h1]
        have t1 : decide ((1 : Int) < (n : Int)) = false := decide_eq_false (by omega)
        subst hl
        go_wp2_with fail
        go_meet
        exact ⟨trivial, rfl, rfl⟩
    case rest =>
      obtain ⟨_, rfl, rfl⟩ := hcut
      obtain ⟨c0, c1, c2⟩ := sn_cells (s := ⟨ix, tm, E1⟩) (HG.out _ _ _ HP5.out)
      go_wp2_with fail
      refine (K1.out _ _ _ HP5.out).mono ?_
      rintro e w6 ⟨rfl, P6⟩
      have HP6 := Lib.hid P6
      clear P6 HP5 K1 c0 c1 c2
      go_wp2_with fail
      refine (K2.out _ _ _ HP6.out).mono ?_
      rintro e w7 ⟨A7, k7, rfl, P7⟩
      have HP7 := Lib.hid P7
      obtain ⟨c0, c1, c2⟩ := sn_cells (s := ⟨ix, tm, E1⟩) (HG.out _ _ _ P7)
      clear P7 HP6 K2
      go_wp2_with fail
      refine (K3.out _ _ _ HP7.out).mono ?_
      rintro e w8 ⟨rfl, P8⟩
      have HP8 := Lib.hid P8
      clear P8 HP7 K3 c0 c1 c2
      go_upto_region 20 with (go_at_call 27; (with_reducible refine (K4.out _ _ _ HP8.out).mono ?_); rintro e w9 ⟨rfl, P9, b9⟩)
      obtain ⟨W10, hW10⟩ : ∃ W, W = w9.alloc (.cells #[.int .u64 Xi, .int .u64 Xt, .string Xd] 24) := ⟨_, rfl⟩
      have HP10 : Hid (Qx w g K0 d1 W10) := by show Qx _ _ _ _ _; rw [hW10]; exact P9.below ((Below.refl _ _).alloc (Nat.le_refl _) _)
      rw [← hW10]
      clear P9 b9 hW10 HP8 K4
      obtain ⟨c0, c1, c2⟩ := sn_cells (s := ⟨ix, tm, E1⟩) (HG.out _ _ _ HP10.out)
      have ql : (less == less) = true := beq_self_eq_true _
      go_wp2_with fail
      refine (KR1.out _).mono ?_
      rintro e w11 ⟨rfl, b11⟩
      have HP11 := Lib.hid (HP10.out.below b11)
      clear b11 c0 c1 c2 HP10
      obtain ⟨c0, c1, c2⟩ := sn_cells (s := ⟨ix, tm, E1⟩) (HG.out _ _ _ HP11.out)
      go_wp2_with fail
      refine (KR2.out _).mono ?_
      rintro e w12 ⟨rfl, b12⟩
      have HP12 := Lib.hid (HP11.out.below b12)
      clear b12 c0 c1 c2 HP11
      go_wp2_with fail
      refine (K5.out _ _ _ HP12.out).mono ?_
      rintro e w13 ⟨A13, k13, rfl, P13⟩
      have HB13 := Lib.hid P13.be
      clear P13 HP12 K5
      have qn : ((n : Int) == (n : Int)) = true := beq_self_eq_true _
      by_cases h5 : n ≤ 5
      · have t5 : decide ((5 : Int) < (n : Int)) = false := decide_eq_false (by omega)
        have hx := HX.out h5
        subst hx
        go_wp2
        go_ret
        exact ⟨rfl, HB13.out⟩
      · have t5 : decide ((5 : Int) < (n : Int)) = true := decide_eq_true (by omega)
        go_wp2
        go_ret
        exact ⟨rfl, HB13.out⟩
end Go.Proofs.Ytlmfnlaikdmphaa
