/-
  The walk of the law SlotsLoads: what is written is loaded as the document loads it, on both devices alike.
  Conditions: numbers of their types.
-/
import Derived.Test.YtdoombcihobejaaGreatSlD
import Derived.Deep.RegionHeld3
import Derived.Deep.QuietTactic
import Derived.BigQuiet
namespace Go.Proofs.YtdoombcihobejaaGreat
open Go.RowKit Vi Sl Dk
set_option linter.unusedVariables false
set_option linter.unusedSimpArgs false
set_option maxHeartbeats 4000000 in
set_option maxRecDepth 100000 in
theorem lloads_any (n : Nat) (a b : ByteArray) (s : Su) (h : Hd) (bb : Bool) (arm : Int) (w : World) (zn : n < 256) (hs : s.Ok) (hh : h.Ok) (za1 : -9223372036854775808 ≤ arm) (za2 : arm ≤ 9223372036854775807) :
    Calls Tryz.prog 3 #[.int .u8 n, .string a, .string b, s.val, h.val, .bool bb, .int .i64 arm] w fun e w' => e = .returned (.bool true) ∧ Below w.heap.size w w' := by
  have hb : Below w.heap.size w ((w.alloc (.cells s.c 23)).alloc (.cells h.c 26)) := ((Below.refl _ _).alloc (Nat.le_refl _) _).alloc (by simp) _
  have hc1 : ((w.alloc (.cells s.c 23)).alloc (.cells h.c 26)).heap[w.heap.size]? = some (.cells s.c 23 (0, 0)) := (Lib.alloc_old _ _ _ (by simp)).trans (heap_alloc_new w _)
  have hc2 : ((w.alloc (.cells s.c 23)).alloc (.cells h.c 26)).heap[w.heap.size + 1]? = some (.cells h.c 26 (0, 0)) := heap_alloc2_new w _ _
  obtain ⟨W, hW⟩ : ∃ W, W = (w.alloc (.cells s.c 23)).alloc (.cells h.c 26) := ⟨_, rfl⟩
  rw [← hW] at hb hc1 hc2
  have KE := Lib.hid (examples_any W)
  have KSM := Lib.hid (fun (W : World) => small_any s W hs)
  obtain ⟨N, hN, hN1, hN2⟩ : ∃ N : Nat, 4 + (n : Int) % 37 = N ∧ 4 ≤ N ∧ N ≤ 40 := ⟨4 + n % 37, by omega, by omega, by omega⟩
  have KN1 := Lib.hid (fun (W : World) => new_yes N W (by omega) (by omega))
  have KN2 := Lib.hid (fun (W : World) => rnew_yes N W (by omega) (by omega))
  have HB := Lib.hid hb
  have HC1 := Lib.hid hc1
  have HC2 := Lib.hid hc2
  have HH := Lib.hid hh
  have HA : Hid (-9223372036854775808 ≤ arm ∧ arm ≤ 9223372036854775807) := ⟨za1, za2⟩
  obtain ⟨t, ht⟩ : ∃ t, t = smS s := ⟨_, rfl⟩
  rw [← ht] at KSM
  have HTB : Hid ((-9223372036854775808 ≤ t.sn ∧ t.sn ≤ 9223372036854775807) ∧ (-9223372036854775808 ≤ t.lg ∧ t.lg ≤ 9223372036854775807)) := by
    show _ ∧ _
    rw [ht]
    unfold smS
    dsimp only
    have p1 := Int.tmod_lt_of_pos s.sn (b := 1003) (by omega)
    have p2 := Int.tmod_lt_of_pos s.lg (b := 1003) (by omega)
    have p3 := Int.lt_tmod_of_pos s.sn (b := 1003) (by omega)
    have p4 := Int.lt_tmod_of_pos s.lg (b := 1003) (by omega)
    omega
  clear ht hs hh za1 za2 hb hc1 hc2
  unfold Su.val Hd.val at *
  unfold Su.c at KSM
  unfold Su.c Hd.c at hW ⊢
  have HW := Lib.hid hW
  clear hW
  go_enter Tryz.func3, Tryz.ntmps3
  go_wp2_with fail
  rw [← HW.out]
  refine KE.out.mono ?_
  rintro e w1 ⟨rfl, b1⟩
  have HB1 := Lib.hid (HB.out.trans (b1.mono HB.out.size))
  have HD1 : Hid (w1.heap[w.heap.size]? = some (.cells s.c 23 (0, 0))) := (b1.block _ (Array.getElem?_eq_some_iff.1 HC1.out).1).trans HC1.out
  have HD2 : Hid (w1.heap[w.heap.size + 1]? = some (.cells h.c 26 (0, 0))) := (b1.block _ (Array.getElem?_eq_some_iff.1 HC2.out).1).trans HC2.out
  clear b1 KE HB HC1 HC2 HW
  go_wp2_with fail
  refine (KN1.out _).mono ?_
  rintro e w2 ⟨g, L, rfl, D2, l2, b2⟩
  have HD2_ := Lib.hid D2
  have HL2 := Lib.hid l2
  have HB2 := Lib.hid b2
  clear D2 l2 b2 KN1
  unfold ptr at *
  go_wp2_with fail
  refine (KN2.out _).mono ?_
  rintro e w3 ⟨gr, Lr, rfl, R3, b3⟩
  have HP : Hid (Px w g gr [(w.heap.size, .cells s.c 23 (0, 0)), (w.heap.size + 1, .cells h.c 26 (0, 0))] (St.fresh N fun _ => zsec) (St.fresh N fun _ => zsec) w3) := by
    have s1 := HB1.out.size
    have s2 := HB2.out.size
    have b13 : Below w1.heap.size w1 w3 := HB2.out.trans (b3.mono s2)
    have q1 := (Array.getElem?_eq_some_iff.1 HD1.out).1
    have q2 := (Array.getElem?_eq_some_iff.1 HD2.out).1
    have low : ∀ k ∈ Lr, w2.heap.size ≤ k := R3.low
    refine ⟨L, Lr, HD2_.out.below b3, R3.base (Nat.le_trans s1 s2), fun x hx => Nat.le_trans s1 (HL2.out x hx), HB1.out.trans (b13.mono s1), ?_⟩
    intro p hp
    simp at hp
    rcases hp with rfl | rfl
    · exact ⟨(b13.block _ q1).trans HD1.out, fun hm => by have := HL2.out _ hm; simp at this; omega, fun hm => by have := low _ hm; simp at this; omega⟩
    · exact ⟨(b13.block _ q2).trans HD2.out, fun hm => by have := HL2.out _ hm; simp at this; omega, fun hm => by have := low _ hm; simp at this; omega⟩
  clear R3 b3 KN2 HD2_ HL2 HB2 HD1 HD2 HB1
  unfold ptr at *
  go_upto_if 50 with fail
  go_cut [1, 2, 50] from 51 to 72 (fun s1 s2 s50 wx => s50 = s50 ∧ ∃ (a' b' : ByteArray) (s' : Su), s1 = .string a' ∧ s2 = .string b' ∧ Px w g gr [(w.heap.size, .cells s'.c 23 (0, 0)), (w.heap.size + 1, .cells h.c 26 (0, 0))] (St.fresh N fun _ => zsec) (St.fresh N fun _ => zsec) wx)
  case first =>
    cases bb
    · go_wp2_with fail
      go_meet
      exact ⟨trivial, a, b, s, rfl, rfl, HP.out⟩
    · obtain ⟨x0, x1, x2, x3, x4, x5, x6⟩ := su_cells (HP.out.get (by simp) : w3.heap[w.heap.size]? = some (.cells s.c 23 (0, 0)))
      go_wp2_with fail
      refine (KSM.out _).mono ?_
      rintro e w4 ⟨rfl, b4⟩
      have HP4 := Lib.hid (HP.out.below b4)
      clear x0 x1 x2 x3 x4 x5 x6 b4 HP KSM
      have G4 : w4.heap[w.heap.size]? = some (.cells s.c 23 (0, 0)) := HP4.out.get (by simp)
      obtain ⟨x0, x1, x2, x3, x4, x5, x6⟩ := su_cells G4
      have f : ∀ i, w4.frozen? ⟨w.heap.size, i, none⟩ = false := fun i => Lib.frozen_of_heap G4 i
      have f0 := f 0
      have f1 := f 1
      have f2 := f 2
      have f3 := f 3
      have f4 := f 4
      have f5 := f 5
      have f6 := f 6
      have HG4 := Lib.hid G4
      clear f G4
      go_upto_region 11 with fail
      obtain ⟨p1, hp1⟩ : ∃ p1, p1 = t.sn.tmod 9 := ⟨_, rfl⟩
      obtain ⟨p2, hp2⟩ : ∃ p2, p2 = t.lg.tmod 9 := ⟨_, rfl⟩
      obtain ⟨w5, hw5⟩ : ∃ Z, Z = set7 w4 w.heap.size t := ⟨_, rfl⟩
      have HP5 : Hid (Px w g gr [(w.heap.size, .cells t.c 23 (0, 0)), (w.heap.size + 1, .cells h.c 26 (0, 0))] (St.fresh N fun _ => zsec) (St.fresh N fun _ => zsec) w5) := by
        show Px _ _ _ _ _ _ _
        rw [hw5]
        exact HP4.out.put (by simp) (Nat.le_refl _) (set7_same t HG4.out) (fun j hj => set7_other w4 w.heap.size t j hj) (set7_below t HP4.out.be (Nat.le_refl _))
      have G5 : Hid (w5.heap[w.heap.size]? = some (.cells t.c 23 (0, 0))) := HP5.out.get (by simp)
      obtain ⟨w6, hw6⟩ : ∃ Z, Z = w5.setCell ⟨w.heap.size, 1, none⟩ (.int .i64 p1) := ⟨_, rfl⟩
      have G6 : Hid (w6.heap[w.heap.size]? = some (.cells (Su.c ⟨t.v, p1, t.lg, t.ar, t.hf, t.gl, t.sp⟩) 23 (0, 0))) := by show _ = _; rw [hw6]; exact heap_setCell_same _ w.heap.size 1 _ 23 (.int .i64 p1) G5.out
      have HP6 : Hid (Px w g gr [(w.heap.size, .cells (Su.c ⟨t.v, p1, t.lg, t.ar, t.hf, t.gl, t.sp⟩) 23 (0, 0)), (w.heap.size + 1, .cells h.c 26 (0, 0))] (St.fresh N fun _ => zsec) (St.fresh N fun _ => zsec) w6) :=
        HP5.out.put (by simp) (Nat.le_refl _) G6.out (fun j hj => by rw [hw6]; exact heap_setCell_other w5 ⟨w.heap.size, 1, none⟩ j _ hj) (by rw [hw6]; exact HP5.out.be.setCell (p := ⟨w.heap.size, 1, none⟩) (Nat.le_refl _) _)
      obtain ⟨w7, hw7⟩ : ∃ Z, Z = w6.setCell ⟨w.heap.size, 2, none⟩ (.int .i64 p2) := ⟨_, rfl⟩
      have G7 : Hid (w7.heap[w.heap.size]? = some (.cells (Su.c ⟨t.v, p1, p2, t.ar, t.hf, t.gl, t.sp⟩) 23 (0, 0))) := by show _ = _; rw [hw7]; exact heap_setCell_same _ w.heap.size 2 _ 23 (.int .i64 p2) G6.out
      have HP7 : Hid (Px w g gr [(w.heap.size, .cells (Su.c ⟨t.v, p1, p2, t.ar, t.hf, t.gl, t.sp⟩) 23 (0, 0)), (w.heap.size + 1, .cells h.c 26 (0, 0))] (St.fresh N fun _ => zsec) (St.fresh N fun _ => zsec) w7) :=
        HP6.out.put (by simp) (Nat.le_refl _) G7.out (fun j hj => by rw [hw7]; exact heap_setCell_other w6 ⟨w.heap.size, 2, none⟩ j _ hj) (by rw [hw7]; exact HP6.out.be.setCell (p := ⟨w.heap.size, 2, none⟩) (Nat.le_refl _) _)
      unfold YtdoombcihobejaaGreat.set7 at hw5
      rw [← hw5]
      clear x0 x1 x2 x3 x4 x5 x6 f0 f1 f2 f3 f4 f5 f6 hw5 HP4 HG4 HP5
      have HP1 := Lib.hid hp1
      have HP2 := Lib.hid hp2
      have HW6 := Lib.hid hw6
      have HW7 := Lib.hid hw7
      clear hp1 hp2 hw6 hw7
      obtain ⟨x0, x1, x2, x3, x4, x5, x6⟩ := su_cells G5.out
      have f1 : w5.frozen? ⟨w.heap.size, 1, none⟩ = false := Lib.frozen_of_heap G5.out 1
      have hb1 := HTB.out.1
      go_upto_region 12 with fail
      rw [← HP1.out, ← HW6.out]
      clear x0 x1 x2 x3 x4 x5 x6 f1 hb1 HW6 G5
      obtain ⟨x0, x1, x2, x3, x4, x5, x6⟩ := su_cells G6.out
      dsimp only at x0 x1 x2 x3 x4 x5 x6
      have f2 : w6.frozen? ⟨w.heap.size, 2, none⟩ = false := Lib.frozen_of_heap G6.out 2
      have hb2 := HTB.out.2
      go_upto_region 13 with fail
      rw [← HP2.out, ← HW7.out]
      clear x0 x1 x2 x3 x4 x5 x6 f2 hb2 HW7 G6 HTB HP1 HP2 HP6
      obtain ⟨s', hs'⟩ : ∃ s' : Su, s' = ⟨t.v, p1, p2, t.ar, t.hf, t.gl, t.sp⟩ := ⟨_, rfl⟩
      rw [← hs'] at HP7 G7
      clear hs'
      have KA := Lib.hid (fun (W : World) => ref_any s' W)
      have KB := Lib.hid (fun (W : World) => rputSuper_any s' W)
      have KC := Lib.hid (fun (W : World) => refHard_any h W)
      have KD := Lib.hid (fun (W : World) => rputHard_any 2 h W HH.out)
      generalize supS s' = a' at *
      generalize rgt s' = o1 at *
      generalize hS 2 h = b' at *
      generalize hO 2 h = o2 at *
      unfold Su.val at KA KB
      unfold Su.c at KA KB
      unfold Hd.val at KC KD
      unfold Hd.c at KC KD
      obtain ⟨x0, x1, x2, x3, x4, x5, x6⟩ := su_cells G7.out
      go_wp2_with fail
      refine (KA.out _).mono ?_
      rintro e w8 ⟨rfl, b8⟩
      have HP8 := Lib.hid (HP7.out.below b8)
      clear x0 x1 x2 x3 x4 x5 x6 b8 HP7 G7 KA
      go_wp2_with fail
      refine (KB.out _).mono ?_
      rintro e w9 ⟨rfl, b9⟩
      have HP9 := Lib.hid (HP8.out.below b9)
      clear b9 HP8 KB
      obtain ⟨y0, y1, y2⟩ := hd_cells (HP9.out.get (by simp) : w9.heap[w.heap.size + 1]? = some (.cells h.c 26 (0, 0)))
      go_wp2_with fail
      refine (KC.out _).mono ?_
      rintro e w10 ⟨rfl, b10⟩
      have HP10 := Lib.hid (HP9.out.below b10)
      clear y0 y1 y2 b10 HP9 KC
      go_wp2_with fail
      refine (KD.out _).mono ?_
      rintro e w11 ⟨rfl, b11⟩
      have HP11 := Lib.hid (HP10.out.below b11)
      clear b11 HP10 KD
      go_wp2_with fail
      go_meet
      exact ⟨trivial, a', b', s', rfl, rfl, HP11.out⟩
  case rest =>
    obtain ⟨_, a', b', s', rfl, rfl, hP⟩ := hcut
    have HQ := Lib.hid hP
    clear HP hP KSM HTB
    obtain ⟨d0, hd0_⟩ : ∃ d0, d0 = (St.fresh N fun _ => zsec) := ⟨_, rfl⟩
    rw [← hd0_] at HQ
    clear hd0_ hN hN1 hN2
    generalize w.heap.size + 1 = ph at *
    obtain ⟨K0, hK0⟩ : ∃ K0, K0 = [(w.heap.size, Obj.cells s'.c 23 (0, 0)), (ph, Obj.cells h.c 26 (0, 0))] := ⟨_, rfl⟩
    have GS : Hid (∀ d e W, Px w g gr K0 d e W → W.heap[w.heap.size]? = some (.cells s'.c 23 (0, 0)) ∧ W.heap[ph]? = some (.cells h.c 26 (0, 0))) := fun d e W hp => by rw [hK0] at hp; exact ⟨hp.get (by simp), hp.get (by simp)⟩
    rw [← hK0] at HQ
    clear hK0
    have KW1 := Lib.hid (fun (W : World) (d e : St) (hp : Px w g gr K0 d e W) => hp.c1 fun L hD => swrite_any g L d 0 a' W hD (by omega) (by omega))
    have KW2 := Lib.hid (fun (W : World) (d e : St) (hp : Px w g gr K0 d e W) => hp.c2 fun L hR => rswrite_any w.heap.size gr L e 0 a' W hR (by omega) (by omega))
    have KV1 := Lib.hid (fun (W : World) (d e : St) (hp : Px w g gr K0 d e W) => hp.c1 fun L hD => swrite_any g L d 2 b' W hD (by omega) (by omega))
    have KV2 := Lib.hid (fun (W : World) (d e : St) (hp : Px w g gr K0 d e W) => hp.c2 fun L hR => rswrite_any w.heap.size gr L e 2 b' W hR (by omega) (by omega))
    have KA1 := Lib.hid (fun (W : World) (d e : St) (hp : Px w g gr K0 d e W) => hp.c1 fun L hD => arm_any g L d arm W hD HA.out.1 HA.out.2)
    have KA2 := Lib.hid (fun (W : World) (d e : St) (hp : Px w g gr K0 d e W) => hp.c2 fun L hR => rarm_any w.heap.size gr L e arm W hR HA.out.1 HA.out.2)
    have KL1 := Lib.hid (fun (W : World) (d e : St) (hp : Px w g gr K0 d e W) => hp.q1 fun L hD => load_any g L d W hD)
    have KL2 := Lib.hid (fun (W : World) (d e : St) (hp : Px w g gr K0 d e W) => hp.q2 fun L hR => rload_any w.heap.size gr L e W hR)
    unfold Su.val Hd.val Su.c Hd.c at KL1 KL2
    unfold ptr at *
    go_wp2_with fail
    refine (KW1.out _ _ _ HQ.out).mono ?_
    rintro e w4 ⟨rfl, P4⟩
    have HQ4 := Lib.hid P4
    clear P4 HQ KW1
    go_wp2_with fail
    refine (KW2.out _ _ _ HQ4.out).mono ?_
    rintro e w5 ⟨rfl, P5⟩
    generalize (wr d0 0 a').1 = d1 at *
    generalize (wr d0 0 a').2 = r1 at *
    have HQ5 := Lib.hid P5
    clear P5 HQ4 KW2
    go_wp2_with fail
    refine (KV1.out _ _ _ HQ5.out).mono ?_
    rintro e w6 ⟨rfl, P6⟩
    have HQ6 := Lib.hid P6
    clear P6 HQ5 KV1
    go_wp2_with fail
    refine (KV2.out _ _ _ HQ6.out).mono ?_
    rintro e w7 ⟨rfl, P7⟩
    generalize (wr d1 2 b').1 = d2 at *
    generalize (wr d1 2 b').2 = r2 at *
    have HQ7 := Lib.hid P7
    clear P7 HQ6 KV2
    go_wp2_with fail
    refine (KA1.out _ _ _ HQ7.out).mono ?_
    rintro e w8 ⟨rfl, P8⟩
    have HQ8 := Lib.hid P8
    clear P8 HQ7 KA1
    go_wp2_with fail
    refine (KA2.out _ _ _ HQ8.out).mono ?_
    rintro e w9 ⟨rfl, P9⟩
    generalize d2.arm arm = d3 at *
    have HQ9 := Lib.hid P9
    clear P9 HQ8 KA2
    go_wp2_with fail
    have KR2 := Lib.hid (fun (K : List (Nat × Obj)) (W : World) (hp : Px w g gr K d3 d3 W) => hp.q2 fun L hR => rload_any w.heap.size gr L d3 W hR)
    have KR1 := Lib.hid (fun (W : World) (hp : Px w g gr K0 d3 d3 W) => hp.q1 fun L hD => load_any g L d3 W hD)
    generalize ldS d3 = x at *
    generalize ldH d3 = y at *
    generalize ldE d3 = r3 at *
    clear KL1 KL2
    unfold Su.val Hd.val Su.c Hd.c at KR1 KR2
    unfold ptr at *
    refine (KR1.out _ HQ9.out).mono ?_
    rintro e w10 ⟨rfl, P10, b10⟩
    have hq1 : w.heap.size < w10.heap.size ∧ ph < w10.heap.size := ⟨(Array.getElem?_eq_some_iff.1 (GS.out _ _ _ P10).1).1, (Array.getElem?_eq_some_iff.1 (GS.out _ _ _ P10).2).1⟩
    obtain ⟨V10, hV10⟩ : ∃ Z, Z = (w10.alloc (.cells #[.int .i64 x.v, .int .i64 x.sn, .int .i64 x.lg, .int .i64 x.ar, .int .i64 x.hf, .int .i64 x.gl, .int .i64 x.sp] 23)).alloc (.cells #[.int .u64 y.tm, .int .i64 y.vo, .int .u64 y.cm] 26) := ⟨_, rfl⟩
    have PA : Px w g gr ((w10.heap.size, Obj.cells x.c 23 (0, 0)) :: K0) d3 d3 (w10.alloc (.cells #[.int .i64 x.v, .int .i64 x.sn, .int .i64 x.lg, .int .i64 x.ar, .int .i64 x.hf, .int .i64 x.gl, .int .i64 x.sp] 23)) := P10.add ((Below.refl _ _).alloc (Nat.le_refl _) _) (Nat.le_refl _) (heap_alloc_new w10 _)
    have PB : Hid (Px w g gr ((w10.heap.size + 1, Obj.cells y.c 26 (0, 0)) :: (w10.heap.size, Obj.cells x.c 23 (0, 0)) :: K0) d3 d3 V10) := by
      show Px _ _ _ _ _ _ _
      rw [hV10]
      refine PA.add ((Below.refl _ _).alloc (Nat.le_refl _) _) (by simp) ?_
      have kk := heap_alloc_new (w10.alloc (.cells #[.int .i64 x.v, .int .i64 x.sn, .int .i64 x.lg, .int .i64 x.ar, .int .i64 x.hf, .int .i64 x.gl, .int .i64 x.sp] 23)) (.cells #[.int .u64 y.tm, .int .i64 y.vo, .int .u64 y.cm] 26)
      rw [show (w10.alloc (.cells #[.int .i64 x.v, .int .i64 x.sn, .int .i64 x.lg, .int .i64 x.ar, .int .i64 x.hf, .int .i64 x.gl, .int .i64 x.sp] 23)).heap.size = w10.heap.size + 1 by simp] at kk
      exact kk
    have HV10 := Lib.hid hV10
    clear hV10 PA P10 b10 hq1 HQ9 KR1
    go_upto_region 20 with fail
    rw [← HV10.out]
    clear HV10
    generalize w10.heap.size = q1 at *
    go_wp2_with fail
    refine (KR2.out _ _ PB.out).mono ?_
    rintro e w11 ⟨rfl, P11, b11⟩
    obtain ⟨V11, hV11⟩ : ∃ Z, Z = (w11.alloc (.cells #[.int .i64 x.v, .int .i64 x.sn, .int .i64 x.lg, .int .i64 x.ar, .int .i64 x.hf, .int .i64 x.gl, .int .i64 x.sp] 37)).alloc (.cells #[.int .u64 y.tm, .int .i64 y.vo, .int .u64 y.cm] 40) := ⟨_, rfl⟩
    have PC := P11.add (W' := w11.alloc (.cells #[.int .i64 x.v, .int .i64 x.sn, .int .i64 x.lg, .int .i64 x.ar, .int .i64 x.hf, .int .i64 x.gl, .int .i64 x.sp] 37)) ((Below.refl _ _).alloc (Nat.le_refl _) _) (Nat.le_refl _) (heap_alloc_new w11 (.cells x.c 37))
    have PD : Px w g gr ((w11.heap.size + 1, Obj.cells y.c 40 (0, 0)) :: (w11.heap.size, Obj.cells x.c 37 (0, 0)) :: (q1 + 1, Obj.cells y.c 26 (0, 0)) :: (q1, Obj.cells x.c 23 (0, 0)) :: K0) d3 d3 V11 := by
      rw [hV11]
      refine PC.add ((Below.refl _ _).alloc (Nat.le_refl _) _) (by simp) ?_
      have kk := heap_alloc_new (w11.alloc (.cells #[.int .i64 x.v, .int .i64 x.sn, .int .i64 x.lg, .int .i64 x.ar, .int .i64 x.hf, .int .i64 x.gl, .int .i64 x.sp] 37)) (.cells #[.int .u64 y.tm, .int .i64 y.vo, .int .u64 y.cm] 40)
      rw [show (w11.alloc (.cells #[.int .i64 x.v, .int .i64 x.sn, .int .i64 x.lg, .int .i64 x.ar, .int .i64 x.hf, .int .i64 x.gl, .int .i64 x.sp] 37)).heap.size = w11.heap.size + 1 by simp] at kk
      exact kk
    have HV11 := Lib.hid hV11
    have PE := Lib.hid PD
    clear hV11 PC P11 b11 PB KR2 PD
    go_upto_region 21 with fail
    rw [← HV11.out]
    clear HV11
    generalize w11.heap.size = q2 at *
    have GT : Hid (∀ d e W, Px w g gr ((q2 + 1, Obj.cells y.c 40 (0, 0)) :: (q2, Obj.cells x.c 37 (0, 0)) :: (q1 + 1, Obj.cells y.c 26 (0, 0)) :: (q1, Obj.cells x.c 23 (0, 0)) :: K0) d e W → Px w g gr K0 d e W ∧ W.heap[q1]? = some (.cells x.c 23 (0, 0)) ∧ W.heap[q1 + 1]? = some (.cells y.c 26 (0, 0)) ∧ W.heap[q2]? = some (.cells x.c 37 (0, 0)) ∧ W.heap[q2 + 1]? = some (.cells y.c 40 (0, 0))) := fun d e W hp => by
      refine ⟨?_, hp.get (by simp), hp.get (by simp), hp.get (by simp), hp.get (by simp)⟩
      obtain ⟨L, Lr, h1, h2, h3, h4, h5⟩ := hp
      exact ⟨L, Lr, h1, h2, h3, h4, fun p hp => h5 p (by simp [hp])⟩
    generalize ((q2 + 1, Obj.cells y.c 40 (0, 0)) :: (q2, Obj.cells x.c 37 (0, 0)) :: (q1 + 1, Obj.cells y.c 26 (0, 0)) :: (q1, Obj.cells x.c 23 (0, 0)) :: K0) = K1 at *
    have G1 : Hid (∀ (d e : St) (Z : World), Px w g gr K1 d e Z → Z.cell? ⟨w.heap.size, 0, none⟩ = some (.int .i64 s'.v) ∧ Z.cell? ⟨w.heap.size, 1, none⟩ = some (.int .i64 s'.sn) ∧ Z.cell? ⟨w.heap.size, 2, none⟩ = some (.int .i64 s'.lg) ∧ Z.cell? ⟨w.heap.size, 3, none⟩ = some (.int .i64 s'.ar) ∧ Z.cell? ⟨w.heap.size, 4, none⟩ = some (.int .i64 s'.hf) ∧ Z.cell? ⟨w.heap.size, 5, none⟩ = some (.int .i64 s'.gl) ∧ Z.cell? ⟨w.heap.size, 6, none⟩ = some (.int .i64 s'.sp)) := fun d e Z hp => su_cells (GS.out _ _ _ (GT.out _ _ _ hp).1).1
    have G2 : Hid (∀ (d e : St) (Z : World), Px w g gr K1 d e Z → Z.cell? ⟨w.heap.size, 0, none⟩ = some (.int .i64 s'.v) ∧ Z.cell? ⟨w.heap.size, 1, none⟩ = some (.int .i64 s'.sn) ∧ Z.cell? ⟨w.heap.size, 2, none⟩ = some (.int .i64 s'.lg) ∧ Z.cell? ⟨w.heap.size, 3, none⟩ = some (.int .i64 s'.ar) ∧ Z.cell? ⟨w.heap.size, 4, none⟩ = some (.int .i64 s'.hf) ∧ Z.cell? ⟨w.heap.size, 5, none⟩ = some (.int .i64 s'.gl) ∧ Z.cell? ⟨w.heap.size, 6, none⟩ = some (.int .i64 s'.sp) ∧ Z.cell? ⟨ph, 0, none⟩ = some (.int .u64 (h.tm : Nat)) ∧ Z.cell? ⟨ph, 1, none⟩ = some (.int .i64 h.vo) ∧ Z.cell? ⟨ph, 2, none⟩ = some (.int .u64 (h.cm : Nat))) := fun d e Z hp => by
      obtain ⟨a0, a1, a2, a3, a4, a5, a6⟩ := su_cells (GS.out _ _ _ (GT.out _ _ _ hp).1).1
      obtain ⟨b0, b1, b2⟩ := hd_cells (GS.out _ _ _ (GT.out _ _ _ hp).1).2
      exact ⟨a0, a1, a2, a3, a4, a5, a6, b0, b1, b2⟩
    have G3 : Hid (∀ (d e : St) (Z : World), Px w g gr K1 d e Z → Z.cell? ⟨q1, 0, none⟩ = some (.int .i64 x.v) ∧ Z.cell? ⟨q1, 1, none⟩ = some (.int .i64 x.sn) ∧ Z.cell? ⟨q1, 2, none⟩ = some (.int .i64 x.lg) ∧ Z.cell? ⟨q1, 3, none⟩ = some (.int .i64 x.ar) ∧ Z.cell? ⟨q1, 4, none⟩ = some (.int .i64 x.hf) ∧ Z.cell? ⟨q1, 5, none⟩ = some (.int .i64 x.gl) ∧ Z.cell? ⟨q1, 6, none⟩ = some (.int .i64 x.sp) ∧ Z.cell? ⟨q1 + 1, 0, none⟩ = some (.int .u64 (y.tm : Nat)) ∧ Z.cell? ⟨q1 + 1, 1, none⟩ = some (.int .i64 y.vo) ∧ Z.cell? ⟨q1 + 1, 2, none⟩ = some (.int .u64 (y.cm : Nat)) ∧ Z.cell? ⟨q2, 0, none⟩ = some (.int .i64 x.v) ∧ Z.cell? ⟨q2, 1, none⟩ = some (.int .i64 x.sn) ∧ Z.cell? ⟨q2, 2, none⟩ = some (.int .i64 x.lg) ∧ Z.cell? ⟨q2, 3, none⟩ = some (.int .i64 x.ar) ∧ Z.cell? ⟨q2, 4, none⟩ = some (.int .i64 x.hf) ∧ Z.cell? ⟨q2, 5, none⟩ = some (.int .i64 x.gl) ∧ Z.cell? ⟨q2, 6, none⟩ = some (.int .i64 x.sp) ∧ Z.cell? ⟨q2 + 1, 0, none⟩ = some (.int .u64 (y.tm : Nat)) ∧ Z.cell? ⟨q2 + 1, 1, none⟩ = some (.int .i64 y.vo) ∧ Z.cell? ⟨q2 + 1, 2, none⟩ = some (.int .u64 (y.cm : Nat))) := fun d e Z hp => by
      obtain ⟨_, g1, g2, g3, g4⟩ := GT.out _ _ _ hp
      obtain ⟨a0, a1, a2, a3, a4, a5, a6⟩ := su_cells g1
      obtain ⟨b0, b1, b2⟩ := hd_cells g2
      obtain ⟨c0, c1, c2, c3, c4, c5, c6⟩ := ru_cells g3
      obtain ⟨d0, d1, d2⟩ := rh_cells g4
      exact ⟨a0, a1, a2, a3, a4, a5, a6, b0, b1, b2, c0, c1, c2, c3, c4, c5, c6, d0, d1, d2⟩
    clear GS GT
    have KA := Lib.hid (fun (W : World) (e : St) (hp : Px w g gr K1 d3 e W) => hp.c1 fun L hD => setSuper_any g L d3 s' W hD)
    have KB := Lib.hid (fun (W : World) (d e : St) (hp : Px w g gr K1 d e W) => (ref_any s' W).mono fun _ w' ⟨h1, h2⟩ => (⟨h1, hp.below h2⟩ : _ ∧ Px w g gr K1 d e w'))
    have KC := Lib.hid (fun (W : World) (d : St) (hp : Px w g gr K1 d d3 W) => hp.c2 fun L hR => rsetSuper_any w.heap.size gr L d3 s' W hR)
    obtain ⟨d4, hd4⟩ : ∃ d, d = (setS d3 s').1 := ⟨_, rfl⟩
    obtain ⟨r4, hr4⟩ : ∃ r, r = (setS d3 s').2 := ⟨_, rfl⟩
    rw [← hd4, ← hr4] at KA KC
    clear hd4 hr4
    have KD := Lib.hid (fun (W : World) (e : St) (hp : Px w g gr K1 d4 e W) => hp.c1 fun L hD => setHard_any g L d4 s'.v h W hD HH.out)
    have KE := Lib.hid (fun (W : World) (d e : St) (hp : Px w g gr K1 d e W) => (refHard_any h W).mono fun _ w' ⟨h1, h2⟩ => (⟨h1, hp.below h2⟩ : _ ∧ Px w g gr K1 d e w'))
    have KF := Lib.hid (fun (W : World) (d : St) (hp : Px w g gr K1 d d4 W) => hp.c2 fun L hR => rsetHard_any w.heap.size gr L d4 s'.v h W hR HH.out)
    obtain ⟨d5, hd5⟩ : ∃ d, d = (setH d4 s'.v h).1 := ⟨_, rfl⟩
    obtain ⟨r5, hr5⟩ : ∃ r, r = (setH d4 s'.v h).2 := ⟨_, rfl⟩
    rw [← hd5, ← hr5] at KD KF
    clear hd5 hr5
    have KG := Lib.hid (fun (W : World) (d e : St) (hp : Px w g gr K1 d e W) => (ref_any x W).mono fun _ w' ⟨h1, h2⟩ => (⟨h1, hp.below h2⟩ : _ ∧ Px w g gr K1 d e w'))
    have KI := Lib.hid (fun (W : World) (d e : St) (hp : Px w g gr K1 d e W) => (refHard_any y W).mono fun _ w' ⟨h1, h2⟩ => (⟨h1, hp.below h2⟩ : _ ∧ Px w g gr K1 d e w'))
    have KJ := Lib.hid (fun (W : World) (hp : Px w g gr K1 d5 d5 W) => (hp.q1 fun L hD => image_any g L d5 W hD).mono fun _ w' ⟨h1, h2, _⟩ => (⟨h1, h2⟩ : _ ∧ Px w g gr K1 d5 d5 w'))
    have KK := Lib.hid (fun (W : World) (hp : Px w g gr K1 d5 d5 W) => (hp.q2 fun L hR => (rimage_any w.heap.size gr L d5 W hR).mono fun _ w' ⟨h1, h2⟩ => (⟨h1, by rw [← h2]; exact Below.refl _ _⟩ : _ ∧ Below W.heap.size W w')).mono fun _ w' ⟨h1, h2, _⟩ => (⟨h1, h2⟩ : _ ∧ Px w g gr K1 d5 d5 w'))
    generalize txt d5.image = im at *
    have qb : (im.toList == im.toList) = true := beq_self_eq_true _
    unfold Su.val at KA KB KC KG
    unfold Su.c at KA KB KC KG
    unfold Hd.val at KD KE KF KI
    unfold Hd.c at KD KE KF KI
    unfold ptr at *
    have PF := PE.out.drew
    obtain ⟨a0, a1, a2, a3, a4, a5, a6⟩ := G1.out _ _ _ PE.out
    clear PE
    go_region_held3 (fun w' => w'.cell? ⟨w.heap.size, 0, none⟩ = some (.int .i64 s'.v) ∧ w'.cell? ⟨w.heap.size, 1, none⟩ = some (.int .i64 s'.sn) ∧ w'.cell? ⟨w.heap.size, 2, none⟩ = some (.int .i64 s'.lg) ∧ w'.cell? ⟨w.heap.size, 3, none⟩ = some (.int .i64 s'.ar) ∧ w'.cell? ⟨w.heap.size, 4, none⟩ = some (.int .i64 s'.hf) ∧ w'.cell? ⟨w.heap.size, 5, none⟩ = some (.int .i64 s'.gl) ∧ w'.cell? ⟨w.heap.size, 6, none⟩ = some (.int .i64 s'.sp)) (first | exact ⟨a0, a1, a2, a3, a4, a5, a6⟩ | exact (G1.out _ _ _ (by assumption))) (first
      | (go_at_call 18; (with_reducible refine (KA.out _ _ PF).mono ?_); rintro e v1 ⟨rfl, Q1⟩)
      | (go_at_call 9; (with_reducible refine (KB.out _ _ _ Q1).mono ?_); rintro e v2 ⟨rfl, Q2⟩)
      | (go_at_call 19; (with_reducible refine (KC.out _ _ Q2).mono ?_); rintro e v3 ⟨rfl, Q3⟩))
    have HQ3 := Lib.hid Q3
    clear a0 a1 a2 a3 a4 a5 a6 PF Q1 Q2 Q3 KA KB KC G1
    go_upto_region 22 with fail
    obtain ⟨a0, a1, a2, a3, a4, a5, a6, b0, b1, b2⟩ := G2.out _ _ _ HQ3.out
    have PG := HQ3.out.drew
    clear HQ3
    go_region_held3 (fun w' => w'.cell? ⟨w.heap.size, 0, none⟩ = some (.int .i64 s'.v) ∧ w'.cell? ⟨w.heap.size, 1, none⟩ = some (.int .i64 s'.sn) ∧ w'.cell? ⟨w.heap.size, 2, none⟩ = some (.int .i64 s'.lg) ∧ w'.cell? ⟨w.heap.size, 3, none⟩ = some (.int .i64 s'.ar) ∧ w'.cell? ⟨w.heap.size, 4, none⟩ = some (.int .i64 s'.hf) ∧ w'.cell? ⟨w.heap.size, 5, none⟩ = some (.int .i64 s'.gl) ∧ w'.cell? ⟨w.heap.size, 6, none⟩ = some (.int .i64 s'.sp) ∧ w'.cell? ⟨ph, 0, none⟩ = some (.int .u64 (h.tm : Nat)) ∧ w'.cell? ⟨ph, 1, none⟩ = some (.int .i64 h.vo) ∧ w'.cell? ⟨ph, 2, none⟩ = some (.int .u64 (h.cm : Nat))) (first | exact ⟨a0, a1, a2, a3, a4, a5, a6, b0, b1, b2⟩ | exact (G2.out _ _ _ (by assumption))) (first
      | (go_at_call 20; (with_reducible refine (KD.out _ _ PG).mono ?_); rintro e v4 ⟨rfl, Q4⟩)
      | (go_at_call 11; (with_reducible refine (KE.out _ _ _ Q4).mono ?_); rintro e v5 ⟨rfl, Q5⟩)
      | (go_at_call 21; (with_reducible refine (KF.out _ _ Q5).mono ?_); rintro e v6 ⟨rfl, Q6⟩))
    have HQ6 := Lib.hid Q6
    clear a0 a1 a2 a3 a4 a5 a6 b0 b1 b2 PG Q4 Q5 Q6 KD KE KF G2
    go_upto_region 23 with fail
    obtain ⟨a0, a1, a2, a3, a4, a5, a6, b0, b1, b2, c0, c1, c2, c3, c4, c5, c6, d0, d1, d2⟩ := G3.out _ _ _ HQ6.out
    have PH := HQ6.out.drew
    clear HQ6
    go_region_held3 (fun w' => w'.cell? ⟨q1, 0, none⟩ = some (.int .i64 x.v) ∧ w'.cell? ⟨q1, 1, none⟩ = some (.int .i64 x.sn) ∧ w'.cell? ⟨q1, 2, none⟩ = some (.int .i64 x.lg) ∧ w'.cell? ⟨q1, 3, none⟩ = some (.int .i64 x.ar) ∧ w'.cell? ⟨q1, 4, none⟩ = some (.int .i64 x.hf) ∧ w'.cell? ⟨q1, 5, none⟩ = some (.int .i64 x.gl) ∧ w'.cell? ⟨q1, 6, none⟩ = some (.int .i64 x.sp) ∧ w'.cell? ⟨q1 + 1, 0, none⟩ = some (.int .u64 (y.tm : Nat)) ∧ w'.cell? ⟨q1 + 1, 1, none⟩ = some (.int .i64 y.vo) ∧ w'.cell? ⟨q1 + 1, 2, none⟩ = some (.int .u64 (y.cm : Nat)) ∧ w'.cell? ⟨q2, 0, none⟩ = some (.int .i64 x.v) ∧ w'.cell? ⟨q2, 1, none⟩ = some (.int .i64 x.sn) ∧ w'.cell? ⟨q2, 2, none⟩ = some (.int .i64 x.lg) ∧ w'.cell? ⟨q2, 3, none⟩ = some (.int .i64 x.ar) ∧ w'.cell? ⟨q2, 4, none⟩ = some (.int .i64 x.hf) ∧ w'.cell? ⟨q2, 5, none⟩ = some (.int .i64 x.gl) ∧ w'.cell? ⟨q2, 6, none⟩ = some (.int .i64 x.sp) ∧ w'.cell? ⟨q2 + 1, 0, none⟩ = some (.int .u64 (y.tm : Nat)) ∧ w'.cell? ⟨q2 + 1, 1, none⟩ = some (.int .i64 y.vo) ∧ w'.cell? ⟨q2 + 1, 2, none⟩ = some (.int .u64 (y.cm : Nat))) (first | exact ⟨a0, a1, a2, a3, a4, a5, a6, b0, b1, b2, c0, c1, c2, c3, c4, c5, c6, d0, d1, d2⟩ | exact (G3.out _ _ _ (by assumption))) (first
      | (go_at_call 9; (with_reducible refine (KG.out _ _ _ PH).mono ?_); rintro e v7 ⟨rfl, Q7⟩)
      | (go_at_call 11; (with_reducible refine (KI.out _ _ _ Q7).mono ?_); rintro e v8 ⟨rfl, Q8⟩)
      | (go_at_call 22; (with_reducible refine (KJ.out _ Q8).mono ?_); rintro e v9 ⟨rfl, Q9⟩)
      | (go_at_call 23; (with_reducible refine (KK.out _ Q9).mono ?_); rintro e v10 ⟨rfl, Q10⟩))
    all_goals
      have HQ10 := Lib.hid Q10
      clear a0 a1 a2 a3 a4 a5 a6 b0 b1 b2 c0 c1 c2 c3 c4 c5 c6 d0 d1 d2 PH Q7 Q8 Q9 Q10 KG KI KJ KK G3
      go_wp2
      go_ret
      exact ⟨rfl, HQ10.out.be⟩
end Go.Proofs.YtdoombcihobejaaGreat
