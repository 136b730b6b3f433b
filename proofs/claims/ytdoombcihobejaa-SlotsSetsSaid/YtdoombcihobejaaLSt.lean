/-
  The walk of the law SlotsSets: what was set is loaded.
  Conditions: numbers of their types.
-/
import Derived.Test.YtdoombcihobejaaS1
import Derived.Test.YtdoombcihobejaaLB
namespace Go.Proofs.Ytdoombcihobejaa
open Go.RowKit Vi Sl Dk
set_option linter.unusedVariables false
set_option linter.unusedSimpArgs false
/-- Two devices that lie apart, above what stood. -/
structure Two (a : World) (g g2 : Nat) (L L2 : List Nat) (D D2 : St) (W : World) : Prop where
  d1 : Dv W g L D
  d2 : Dv W g2 L2 D2
  l1 : ∀ j ∈ L, a.heap.size ≤ j
  l2 : ∀ j ∈ L2, a.heap.size ≤ j
  dis : ∀ k ∈ L2, k ∉ L
  be : Below a.heap.size a W
theorem Two.below {a W W' : World} {g g2 : Nat} {L L2 : List Nat} {D D2 : St} (t : Two a g g2 L L2 D D2 W) (hb : Below W.heap.size W W') : Two a g g2 L L2 D D2 W' :=
  ⟨t.d1.below hb, t.d2.below hb, t.l1, t.l2, t.dis, t.be.trans (hb.mono t.be.size)⟩
theorem Two.alloc {a W : World} {g g2 : Nat} {L L2 : List Nat} {D D2 : St} (t : Two a g g2 L L2 D D2 W) (o : Obj) : Two a g g2 L L2 D D2 (W.alloc o) := t.below ((Below.refl _ _).alloc (Nat.le_refl _) _)
theorem Two.move1 {a W W' : World} {g g2 : Nat} {L L2 : List Nat} {D D2 D' : St} (t : Two a g g2 L L2 D D2 W) (m : Moves g L D' W W') : ∃ L', Two a g g2 L' L2 D' D2 W' ∧ Keep L W W' := by
  obtain ⟨L', h1, h2, h3, h4, h5, h6⟩ := m.below t.be t.be.size t.l1
  refine ⟨L', ⟨h1, t.d2.keep h5 t.dis, h2, t.l2, fun k hk hk' => ?_, h3⟩, h5⟩
  rcases h6 k hk' with h | h
  · exact t.dis k hk h
  · have := t.d2.lt k hk; omega
theorem Two.move2 {a W W' : World} {g g2 : Nat} {L L2 : List Nat} {D D2 D' : St} (t : Two a g g2 L L2 D D2 W) (m : Moves g2 L2 D' W W') : ∃ L', Two a g g2 L L' D D' W' ∧ Keep L2 W W' := by
  obtain ⟨L', h1, h2, h3, h4, h5, h6⟩ := m.below t.be t.be.size t.l2
  refine ⟨L', ⟨t.d1.keep h5 (fun k hk hk2 => t.dis k hk2 hk), h1, t.l1, h2, fun k hk hk' => ?_, h3⟩, h5⟩
  rcases h6 k hk with h | h
  · exact t.dis k h hk'
  · have := t.d1.lt k hk'; omega
set_option maxHeartbeats 2000000 in
set_option maxRecDepth 100000 in
theorem lsets_any (n1 n2 : Nat) (h : Hd) (one two : Bool) (w : World) (z1 : n1 < 256) (z2 : n2 < 256) (hk : h.Ok) : Calls Try.prog 5 #[.int .u8 n1, .int .u8 n2, h.val, .bool one, .bool two] w fun e w' => e = .returned (.bool true) ∧ Below w.heap.size w w' := by
  have KE := Lib.hid (examples_any (hbx w h))
  have hb := hbx_below w h
  have hc := hbx_cells w h
  obtain ⟨W, hW⟩ : ∃ W, W = hbx w h := ⟨_, rfl⟩
  rw [← hW] at hb hc KE
  obtain ⟨a, ha, ha1⟩ : ∃ k : Nat, (n1 : Int) % 8 = k ∧ k < 8 := ⟨n1 % 8, by omega, by omega⟩
  obtain ⟨b, hb0, hb1⟩ : ∃ k : Nat, (n2 : Int) % 8 = k ∧ k < 8 := ⟨n2 % 8, by omega, by omega⟩
  have HC := Lib.hid hc
  have HB := Lib.hid hb
  have HW := Lib.hid hW
  have HKK := Lib.hid hk
  clear hb hc hW hk z1 z2
  unfold hbx Hd.val at *
  unfold Hd.c at HW ⊢
  go_enter Try.func5, Try.ntmps5
  go_wp2_with fail
  rw [← HW.out]
  refine KE.out.mono ?_
  rintro e w1 ⟨rfl, b1_⟩
  have HB1 := Lib.hid (HB.out.trans (b1_.mono HB.out.size))
  have HC1 : Hid (w1.heap[w.heap.size]? = some (.cells h.c 26 (0, 0))) := (b1_.block _ (Array.getElem?_eq_some_iff.1 HC.out).1).trans HC.out
  clear b1_ KE HB HC HW
  go_upto_if 40 with fail
  go_cut [40] from 28 to 41 (fun s40 wx => s40 = s40 ∧ ∃ V : Int, (V = 1 ∨ V = 2) ∧ wx = w1.alloc (.cells #[.int .i64 V, .int .i64 (1 + (a : Int)), .int .i64 (1 + (b : Int)), .int .i64 0, .int .i64 0, .int .i64 0, .int .i64 0] 23))
  case first =>
    cases one
    · go_wp2_with fail
      go_meet
      exact ⟨trivial, 1, .inl rfl, rfl⟩
    · go_wp2_with fail
      go_meet
      exact ⟨trivial, 2, .inr rfl, rfl⟩
  case rest =>
    obtain ⟨_, V, hV12, rfl⟩ := hcut
    go_upto_if 42 with fail
    go_cut [13] from 42 to 42 (fun s13 wx => ∃ v : Int, s13 = .int .i64 v ∧ (v = 1 ∨ v = 2) ∧ wx = w1.alloc (.cells #[.int .i64 V, .int .i64 (1 + (a : Int)), .int .i64 (1 + (b : Int)), .int .i64 0, .int .i64 0, .int .i64 0, .int .i64 0] 23))
    case first =>
      cases two
      · go_wp2_with fail
        go_meet
        exact ⟨1, rfl, .inl rfl, rfl⟩
      · go_wp2_with fail
        go_meet
        exact ⟨2, rfl, .inr rfl, rfl⟩
    case rest =>
      obtain ⟨v, rfl, hv12, rfl⟩ := hcut
      obtain ⟨g, hg1, hg2⟩ : ∃ g : Nat, (h.vo % 18446744073709551616) % 8 = (g : Int) ∧ g < 8 := ⟨((h.vo % 18446744073709551616) % 8).toNat, by omega, by omega⟩
      have HC2 : Hid ((w1.alloc (.cells #[.int .i64 V, .int .i64 (1 + (a : Int)), .int .i64 (1 + (b : Int)), .int .i64 0, .int .i64 0, .int .i64 0, .int .i64 0] 23)).heap[w.heap.size]? = some (.cells h.c 26 (0, 0))) := (Lib.alloc_old _ _ _ (Array.getElem?_eq_some_iff.1 HC1.out).1).trans HC1.out
      have x1 := (hd_cells HC2.out).2.1
      have fx : (w1.alloc (.cells #[.int .i64 V, .int .i64 (1 + (a : Int)), .int .i64 (1 + (b : Int)), .int .i64 0, .int .i64 0, .int .i64 0, .int .i64 0] 23)).frozen? ⟨w.heap.size, 1, none⟩ = false := Lib.frozen_of_heap HC2.out 1
      have hu : IntKind.u64.wrap h.vo = h.vo % 18446744073709551616 := IntKind.wrap_u64 _
      have HWd : Hid (∃ X, X = ((w1.alloc (.cells #[.int .i64 V, .int .i64 (1 + (a : Int)), .int .i64 (1 + (b : Int)), .int .i64 0, .int .i64 0, .int .i64 0, .int .i64 0] 23)).setCell ⟨w.heap.size, 1, none⟩ (.int .i64 g)) ∧
          Bk w w1.heap.size ⟨V, 1 + (a : Int), 1 + (b : Int), 0, 0, 0, 0⟩ ⟨h.tm, g, h.cm⟩ X) := by
        refine ⟨_, rfl, ?_⟩
        have hlt := (Array.getElem?_eq_some_iff.1 HC1.out).1
        refine ⟨(HB1.out.alloc HB1.out.size _).setCell (p := ⟨w.heap.size, 1, none⟩) (Nat.le_refl _) _, (heap_setCell_other _ ⟨w.heap.size, 1, none⟩ w1.heap.size _ (by simp; omega)).trans (heap_alloc_new w1 _), heap_setCell_same _ w.heap.size 1 _ 26 (.int .i64 g) HC2.out, hlt⟩
      have hs : rgt ⟨V, 1 + (a : Int), 1 + (b : Int), 0, 0, 0, 0⟩ = true := (rgt_iff _).2 ⟨⟨by dsimp only; omega, by dsimp only; omega⟩, ⟨by dsimp only; omega, by dsimp only; omega⟩, ⟨by dsimp only; omega, by dsimp only; omega⟩, ⟨by dsimp only; omega, by dsimp only; omega⟩, ⟨by dsimp only; omega, by dsimp only; omega⟩, ⟨by dsimp only; omega, by dsimp only; omega⟩, ⟨by dsimp only; omega, by dsimp only; omega⟩, .inr rfl⟩
      obtain ⟨N, hN⟩ : ∃ N : Nat, N = 8 + 2 * (a + b) := ⟨_, rfl⟩
      obtain ⟨M, hM⟩ : ∃ M : Nat, M = N - 1 := ⟨_, rfl⟩
      have hsec : sec ⟨V, 1 + (a : Int), 1 + (b : Int), 0, 0, 0, 0⟩ = (N : Int) := by unfold sec; rw [if_pos hs]; dsimp only; omega
      have hho : hO v ⟨h.tm, g, h.cm⟩ = true := (hO_iff _ _).2 ⟨hv12, by dsimp only; omega, by dsimp only; omega⟩
      have hok : Hd.Ok ⟨h.tm, g, h.cm⟩ := ⟨HKK.out.t, HKK.out.c, by dsimp only; omega, by dsimp only; omega⟩
      have HS := Lib.hid hs
      have HSEC := Lib.hid hsec
      have HHO := Lib.hid hho
      have HOK := Lib.hid hok
      have HNN : Hid (8 ≤ N ∧ N ≤ 36 ∧ M + 1 = N) := ⟨by omega, by omega, by omega⟩
      have hmax : max ((N : Int) - 1) 1 = (M : Int) := by omega
      go_upto_region 11 with fail
      obtain ⟨X, hX, BK⟩ := HWd.out
      rw [← hX]
      clear x1 fx hu HC2 HWd hX HC1 HB1 ha ha1 hb0 hb1 hg1 hg2 hV12 hv12 hs hsec hho hok hN hM HKK
      have HBK := Lib.hid BK
      clear BK
      generalize (1 + (a : Int)) = A at *
      generalize (1 + (b : Int)) = B at *
      generalize h.tm = tm at *
      generalize h.cm = cm at *
      obtain ⟨q, hq⟩ : ∃ q, q = w1.heap.size := ⟨_, rfl⟩
      rw [← hq] at HBK ⊢
      clear hq
      obtain ⟨s, hs0⟩ : ∃ s : Su, s = ⟨V, A, B, 0, 0, 0, 0⟩ := ⟨_, rfl⟩
      obtain ⟨y, hy0⟩ : ∃ y : Hd, y = ⟨tm, g, cm⟩ := ⟨_, rfl⟩
      rw [← hs0] at HBK HS HSEC
      rw [← hy0] at HBK HHO HOK
      clear hs0 hy0
      have hz : (supB s).size ≤ 51 := by have := supB_11 HS.out; omega
      obtain ⟨t1, t2⟩ := sts_new (n := N) (s := s) (by have := HNN.out; omega) HS.out hz
      obtain ⟨u1, u2⟩ := sts_new (n := M) (s := s) (by have := HNN.out; omega) HS.out hz
      obtain ⟨D1, hD1⟩ : ∃ D, D = wrD (St.fresh N fun _ => zsec) 0 (supB s) := ⟨_, rfl⟩
      obtain ⟨E1, hE1⟩ : ∃ D, D = wrD (St.fresh M fun _ => zsec) 0 (supB s) := ⟨_, rfl⟩
      rw [← hD1] at t1 t2
      rw [← hE1] at u1 u2
      obtain ⟨l1, l2, l3⟩ := t2.load (by rw [HSEC.out]; omega)
      obtain ⟨v1, v2⟩ := t2.setH HHO.out HOK.out (by omega)
      obtain ⟨D2, hD2⟩ : ∃ D, D = wrD D1 2 (hB v y) := ⟨_, rfl⟩
      rw [← hD2] at v1 v2
      obtain ⟨m1, m2, m3⟩ := v2.load (by rw [HSEC.out]; omega)
      have o1 : ldE E1 = 2 := u2.small (by rw [HSEC.out]; have := HNN.out; omega)
      have o2 : ldS E1 = su0 := by unfold ldS; rw [o1]; rfl
      have o3 : ldH E1 = hd0 := by unfold ldH; rw [o1]; rfl
      have v3 : setH D2 3 y = (D2, 1) := by unfold setH; rw [if_neg (by rw [show hO 3 y = false from rfl]; decide)]
      have KSEC := Lib.hid (fun (W : World) => sectors_any s W)
      rw [HSEC.out] at KSEC
      have KN1 := Lib.hid (fun (W : World) => new_yes N W (by have := HNN.out; omega) (by have := HNN.out; omega))
      have KN2 := Lib.hid (fun (W : World) => new_yes M W (by have := HNN.out; omega) (by have := HNN.out; omega))
      have KS1 : Hid (∀ (gd : Nat) (L : List Nat) (W : World), Dv W gd L (St.fresh N fun _ => zsec) → Calls Try.prog 24 #[ptr gd, s.val] W fun e w' => e = .returned (.int .i64 0) ∧ Moves gd L D1 W w') := fun gd L W hD => by
        have k := setSuper_any gd L _ s W hD
        rw [t1] at k; exact k
      have KS2 : Hid (∀ (gd : Nat) (L : List Nat) (W : World), Dv W gd L (St.fresh M fun _ => zsec) → Calls Try.prog 24 #[ptr gd, s.val] W fun e w' => e = .returned (.int .i64 0) ∧ Moves gd L E1 W w') := fun gd L W hD => by
        have k := setSuper_any gd L _ s W hD
        rw [u1] at k; exact k
      have KL1 : Hid (∀ (gd : Nat) (L : List Nat) (W : World), Dv W gd L D1 → Calls Try.prog 25 #[ptr gd] W fun e w' => e = .returned (.tuple #[s.val, hd0.val, .int .i64 0]) ∧ Below W.heap.size W w') := fun gd L W hD => by
        have k := load_any gd L _ W hD
        rw [l1, l2, l3] at k; exact k
      have KH1 : Hid (∀ (gd : Nat) (L : List Nat) (W : World), Dv W gd L D1 → Calls Try.prog 26 #[ptr gd, .int .i64 v, y.val] W fun e w' => e = .returned (.int .i64 0) ∧ Moves gd L D2 W w') := fun gd L W hD => by
        have k := setHard_any gd L _ v y W hD HOK.out
        rw [v1] at k; exact k
      have KL2 : Hid (∀ (gd : Nat) (L : List Nat) (W : World), Dv W gd L D2 → Calls Try.prog 25 #[ptr gd] W fun e w' => e = .returned (.tuple #[s.val, y.val, .int .i64 0]) ∧ Below W.heap.size W w') := fun gd L W hD => by
        have k := load_any gd L _ W hD
        rw [m1, m2, m3] at k; exact k
      have KL3 : Hid (∀ (gd : Nat) (L : List Nat) (W : World), Dv W gd L E1 → Calls Try.prog 25 #[ptr gd] W fun e w' => e = .returned (.tuple #[su0.val, hd0.val, .int .i64 2]) ∧ Below W.heap.size W w') := fun gd L W hD => by
        have k := load_any gd L _ W hD
        rw [o1, o2, o3] at k; exact k
      have KH3 : Hid (∀ (gd : Nat) (L : List Nat) (W : World), Dv W gd L D2 → Calls Try.prog 26 #[ptr gd, .int .i64 3, y.val] W fun e w' => e = .returned (.int .i64 1) ∧ Moves gd L D2 W w') := fun gd L W hD => by
        have k := setHard_any gd L _ 3 y W hD HOK.out
        rw [v3] at k; exact k
      clear hz t1 t2 u1 u2 hD1 hE1 l1 l2 l3 v1 v2 hD2 m1 m2 m3 o1 o2 o3 v3 HHO HOK HS HSEC
      generalize su0 = s0 at KL3
      generalize hd0 = z0 at KL3
      unfold Su.val at KSEC KS1 KS2 KL1 KL2 KL3
      unfold Hd.val at KL1 KH1 KL2 KL3 KH3
      unfold Su.c at KSEC KS1 KS2 KL1 KL2 KL3
      unfold Hd.c at KL1 KH1 KL2 KL3 KH3
      unfold hd0 at KL1
      dsimp only at KL1
      obtain ⟨x0, x1, x2, x3, x4, x5, x6⟩ := su_cells HBK.out.su
      go_wp2_with fail
      refine (KSEC.out _).mono ?_
      rintro e v1 ⟨rfl, t1⟩
      have HB1 := Lib.hid (HBK.out.below t1)
      clear x0 x1 x2 x3 x4 x5 x6 t1 HBK
      go_wp2_with fail
      refine (KN1.out _).mono ?_
      rintro e v2 ⟨g1, L1, rfl, DV1, f1, t2⟩
      unfold ptr at *
      have HB2 := Lib.hid (HB1.out.below t2)
      have HD1 := Lib.hid DV1
      have HF1 := Lib.hid f1
      have HT2 := Lib.hid t2
      clear t2 DV1 f1 KN1
      obtain ⟨x0, x1, x2, x3, x4, x5, x6⟩ := su_cells HB2.out.su
      have hn1 : 8 ≤ N := HNN.out.1
      have hn2 : N ≤ 36 := HNN.out.2.1
      go_wp2_with fail
      refine (KSEC.out _).mono ?_
      rintro e v3 ⟨rfl, t3⟩
      have HB3 := Lib.hid (HB2.out.below t3)
      have HD3 := Lib.hid (HD1.out.below t3)
      have HT3 := Lib.hid (HT2.out.trans (t3.mono HT2.out.size))
      clear t3 x0 x1 x2 x3 x4 x5 x6 KSEC HD1 HT2 HB2
      go_wp2_with fail
      try rw [hmax]
      refine (KN2.out _).mono ?_
      rintro e v4 ⟨g2, L2, rfl, DV2, f2, t4⟩
      have HT : Hid (Two v1 g1 g2 L1 L2 (St.fresh N fun _ => zsec) (St.fresh M fun _ => zsec) v4) := ⟨HD3.out.below t4, DV2, HF1.out, fun j hj => by have := f2 j hj; have := HT3.out.size; omega, fun k hk hk' => by have := f2 k hk; have := HD3.out.lt k hk'; omega, HT3.out.trans (t4.mono HT3.out.size)⟩
      have HB4 := Lib.hid (HB1.out.below HT.out.be)
      clear DV2 f2 t4 HF1 HT3 HD3 HB3 KN2 hmax hn1 hn2 HNN
      obtain ⟨x0, x1, x2, x3, x4, x5, x6⟩ := su_cells HB4.out.su
      go_wp2_with fail
      refine (KS1.out g1 L1 _ HT.out.d1).mono ?_
      rintro e v5 ⟨rfl, m5⟩
      obtain ⟨L1', hT5, _⟩ := HT.out.move1 m5
      have HT5 := Lib.hid hT5
      have HB5 := Lib.hid (HB1.out.below hT5.be)
      clear x0 x1 x2 x3 x4 x5 x6 m5 hT5 HT HB4 KS1
      obtain ⟨x0, x1, x2, x3, x4, x5, x6⟩ := su_cells HB5.out.su
      go_wp2_with fail
      refine (KS2.out g2 L2 _ HT5.out.d2).mono ?_
      rintro e v6 ⟨rfl, m6⟩
      obtain ⟨L2', hT6, _⟩ := HT5.out.move2 m6
      have HT6 := Lib.hid hT6
      have HB6 := Lib.hid (HB1.out.below hT6.be)
      clear x0 x1 x2 x3 x4 x5 x6 m6 hT6 HT5 HB5 KS2
      go_wp2_with fail
      refine (KL1.out g1 L1' _ HT6.out.d1).mono ?_
      rintro e v7 ⟨rfl, t7⟩
      have HT7 := Lib.hid (HT6.out.below t7)
      clear t7 HT6 HB6 KL1
      obtain ⟨V7, hV7⟩ : ∃ Z, Z = (v7.alloc (.cells #[.int .i64 s.v, .int .i64 s.sn, .int .i64 s.lg, .int .i64 s.ar, .int .i64 s.hf, .int .i64 s.gl, .int .i64 s.sp] 23)).alloc (.cells #[.int .u64 0, .int .i64 0, .int .u64 0] 26) := ⟨_, rfl⟩
      have TV7 : Hid (Two v1 g1 g2 L1' L2' D1 E1 V7) := by show Two _ _ _ _ _ _ _ _; rw [hV7]; exact (HT7.out.alloc _).alloc _
      have PV7 : Hid (V7.heap[v7.heap.size]? = some (.cells s.c 23 (0, 0))) := by show _ = _; rw [hV7]; exact (Lib.alloc_old _ _ _ (by simp)).trans (heap_alloc_new v7 _)
      have RV7 : Hid (V7.heap[v7.heap.size + 1]? = some (.cells (Hd.c hd0) 26 (0, 0))) := by show _ = _; rw [hV7]; have kk := heap_alloc_new (v7.alloc (.cells #[.int .i64 s.v, .int .i64 s.sn, .int .i64 s.lg, .int .i64 s.ar, .int .i64 s.hf, .int .i64 s.gl, .int .i64 s.sp] 23)) (.cells #[.int .u64 0, .int .i64 0, .int .u64 0] 26); rw [show (v7.alloc (.cells #[.int .i64 s.v, .int .i64 s.sn, .int .i64 s.lg, .int .i64 s.ar, .int .i64 s.hf, .int .i64 s.gl, .int .i64 s.sp] 23)).heap.size = v7.heap.size + 1 by simp] at kk; exact kk
      have ZV7 : Hid (Below v7.heap.size v7 V7) := by show Below _ _ _; rw [hV7]; exact ((Below.refl _ v7).alloc (Nat.le_refl _) _).alloc (by simp) _
      have HV7 := Lib.hid hV7
      clear hV7
      have n1 : v7.heap.size ∉ L1' := fun hk => by have := HT7.out.d1.lt _ hk; omega
      have n2 : v7.heap.size + 1 ∉ L1' := fun hk => by have := HT7.out.d1.lt _ hk; omega
      have HN : Hid (v7.heap.size ∉ L1' ∧ v7.heap.size + 1 ∉ L1') := ⟨n1, n2⟩
      clear n1 n2
      go_upto_region 16 with fail
      rw [← HV7.out]
      clear HV7 HT7
      generalize v7.heap.size = q1 at *
      have HB7 := Lib.hid (HB1.out.below TV7.out.be)
      obtain ⟨y0, y1, y2⟩ := hd_cells HB7.out.hd
      go_wp2_with fail
      refine (KH1.out g1 L1' _ TV7.out.d1).mono ?_
      rintro e v8 ⟨rfl, m8⟩
      obtain ⟨L1'', hT8, k8⟩ := TV7.out.move1 m8
      have HT8 := Lib.hid hT8
      have P8 : Hid (v8.heap[q1]? = some (.cells s.c 23 (0, 0))) := (k8.block _ (Array.getElem?_eq_some_iff.1 PV7.out).1 HN.out.1).trans PV7.out
      have R8 : Hid (v8.heap[q1 + 1]? = some (.cells (Hd.c hd0) 26 (0, 0))) := (k8.block _ (Array.getElem?_eq_some_iff.1 RV7.out).1 HN.out.2).trans RV7.out
      clear y0 y1 y2 m8 hT8 k8 TV7 PV7 RV7 ZV7 HN HB7 KH1
      go_wp2_with fail
      refine (KL2.out g1 L1'' _ HT8.out.d1).mono ?_
      rintro e v9 ⟨rfl, t9⟩
      have HT9 := Lib.hid (HT8.out.below t9)
      have P9 : Hid (v9.heap[q1]? = some (.cells s.c 23 (0, 0))) := (t9.block _ (Array.getElem?_eq_some_iff.1 P8.out).1).trans P8.out
      have R9 : Hid (v9.heap[q1 + 1]? = some (.cells (Hd.c hd0) 26 (0, 0))) := (t9.block _ (Array.getElem?_eq_some_iff.1 R8.out).1).trans R8.out
      clear t9 HT8 KL2 P8 R8
      obtain ⟨V9, hV9⟩ : ∃ Z, Z = (v9.alloc (.cells #[.int .i64 s.v, .int .i64 s.sn, .int .i64 s.lg, .int .i64 s.ar, .int .i64 s.hf, .int .i64 s.gl, .int .i64 s.sp] 23)).alloc (.cells #[.int .u64 y.tm, .int .i64 y.vo, .int .u64 y.cm] 26) := ⟨_, rfl⟩
      have TV9 : Hid (Two v1 g1 g2 L1'' L2' D2 E1 V9) := by show Two _ _ _ _ _ _ _ _; rw [hV9]; exact (HT9.out.alloc _).alloc _
      have PV9 : Hid (V9.heap[v9.heap.size]? = some (.cells s.c 23 (0, 0))) := by show _ = _; rw [hV9]; exact (Lib.alloc_old _ _ _ (by simp)).trans (heap_alloc_new v9 _)
      have RV9 : Hid (V9.heap[v9.heap.size + 1]? = some (.cells (Hd.c y) 26 (0, 0))) := by show _ = _; rw [hV9]; have kk := heap_alloc_new (v9.alloc (.cells #[.int .i64 s.v, .int .i64 s.sn, .int .i64 s.lg, .int .i64 s.ar, .int .i64 s.hf, .int .i64 s.gl, .int .i64 s.sp] 23)) (.cells #[.int .u64 y.tm, .int .i64 y.vo, .int .u64 y.cm] 26); rw [show (v9.alloc (.cells #[.int .i64 s.v, .int .i64 s.sn, .int .i64 s.lg, .int .i64 s.ar, .int .i64 s.hf, .int .i64 s.gl, .int .i64 s.sp] 23)).heap.size = v9.heap.size + 1 by simp] at kk; exact kk
      have ZV9 : Hid (Below v9.heap.size v9 V9) := by show Below _ _ _; rw [hV9]; exact ((Below.refl _ v9).alloc (Nat.le_refl _) _).alloc (by simp) _
      have HV9 := Lib.hid hV9
      clear hV9
      have PV : Hid (V9.heap[q1]? = some (.cells s.c 23 (0, 0))) := (ZV9.out.block _ (Array.getElem?_eq_some_iff.1 P9.out).1).trans P9.out
      have RV : Hid (V9.heap[q1 + 1]? = some (.cells (Hd.c hd0) 26 (0, 0))) := (ZV9.out.block _ (Array.getElem?_eq_some_iff.1 R9.out).1).trans R9.out
      clear P9 R9 ZV9
      go_upto_region 18 with fail
      rw [← HV9.out]
      clear HV9 HT9
      generalize v9.heap.size = q2 at *
      go_wp2_with fail
      refine (KL3.out g2 L2' _ TV9.out.d2).mono ?_
      rintro e v10 ⟨rfl, t10⟩
      have HT10 := Lib.hid (TV9.out.below t10)
      obtain ⟨V10, hV10⟩ : ∃ Z, Z = (v10.alloc (.cells s0.c 23)).alloc (.cells z0.c 26) := ⟨_, rfl⟩
      have HZ : Hid (Below V9.heap.size V9 V10) := by show Below _ _ _; rw [hV10]; exact (t10.alloc t10.size _).alloc (by simp; have := t10.size; omega) _
      have T10 : Hid (Two v1 g1 g2 L1'' L2' D2 E1 V10) := TV9.out.below HZ.out
      have C1 : V10.heap[q1]? = some (.cells s.c 23 (0, 0)) := (HZ.out.block _ (Array.getElem?_eq_some_iff.1 PV.out).1).trans PV.out
      have C2 : V10.heap[q1 + 1]? = some (.cells (Hd.c hd0) 26 (0, 0)) := (HZ.out.block _ (Array.getElem?_eq_some_iff.1 RV.out).1).trans RV.out
      have C3 : V10.heap[q2]? = some (.cells s.c 23 (0, 0)) := (HZ.out.block _ (Array.getElem?_eq_some_iff.1 PV9.out).1).trans PV9.out
      have C4 : V10.heap[q2 + 1]? = some (.cells (Hd.c y) 26 (0, 0)) := (HZ.out.block _ (Array.getElem?_eq_some_iff.1 RV9.out).1).trans RV9.out
      have HB10 := HB1.out.below T10.out.be
      have HC : Hid (V10.heap[q]? = some (.cells s.c 23 (0, 0)) ∧ V10.heap[w.heap.size]? = some (.cells y.c 26 (0, 0)) ∧ V10.heap[q1]? = some (.cells s.c 23 (0, 0)) ∧ V10.heap[q1 + 1]? = some (.cells (Hd.c hd0) 26 (0, 0)) ∧ V10.heap[q2]? = some (.cells s.c 23 (0, 0)) ∧ V10.heap[q2 + 1]? = some (.cells (Hd.c y) 26 (0, 0))) := ⟨HB10.su, HB10.hd, C1, C2, C3, C4⟩
      unfold Su.c Hd.c at hV10
      have HV10 := Lib.hid hV10
      clear hV10 C1 C2 C3 C4 HB10 PV RV PV9 RV9 t10 TV9 HZ KL3 HT10
      go_upto_region 19 with fail
      rw [← HV10.out]
      clear HV10
      obtain ⟨x0, x1, x2, x3, x4, x5, x6⟩ := su_cells HC.out.1
      obtain ⟨y0, y1, y2⟩ := hd_cells HC.out.2.1
      obtain ⟨a0, a1, a2, a3, a4, a5, a6⟩ := su_cells HC.out.2.2.1
      obtain ⟨c0, c1, c2⟩ := hd_cells HC.out.2.2.2.1
      obtain ⟨d0, d1, d2, d3, d4, d5, d6⟩ := su_cells HC.out.2.2.2.2.1
      obtain ⟨e0, e1, e2⟩ := hd_cells HC.out.2.2.2.2.2
      unfold hd0 at c0 c1 c2
      dsimp only at c0 c1 c2
      go_wp2_with fail
      refine (KH3.out g1 L1'' _ T10.out.d1).mono ?_
      rintro e v11 ⟨rfl, m11⟩
      obtain ⟨LZ, hT11, _⟩ := T10.out.move1 m11
      have HE : Hid (Below w.heap.size w v11) := HB1.out.be.trans (hT11.be.mono HB1.out.be.size)
      clear x0 x1 x2 x3 x4 x5 x6 y0 y1 y2 a0 a1 a2 a3 a4 a5 a6 c0 c1 c2 d0 d1 d2 d3 d4 d5 d6 e0 e1 e2 m11 hT11 T10 KH3 HC
      go_wp2
      go_ret
      exact ⟨rfl, HE.out⟩
end Go.Proofs.Ytdoombcihobejaa
