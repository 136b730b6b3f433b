/-
  The walk of the law SlotsBack: what was put is got, of both versions.
  Conditions: numbers of their types.
-/
import Derived.Test.YtdoombcihobejaaOpenL
import Derived.Deep.RegionHeld3
import Derived.Deep.CutRange
import Derived.Deep.CutRange
namespace Go.Proofs.Ytdoombcihobejaa
open Go.RowKit Vi Sl
set_option linter.unusedVariables false
set_option linter.unusedSimpArgs false
/-- A Super, and the Hard of the law, in memory. -/
structure Bk (w : World) (q : Nat) (s : Su) (h : Hd) (W : World) : Prop where
  be : Below w.heap.size w W
  su : W.heap[q]? = some (.cells s.c 23 (0, 0))
  hd : W.heap[w.heap.size]? = some (.cells h.c 26 (0, 0))
  lt : w.heap.size < q
theorem Bk.below {w W W' : World} {q : Nat} {s : Su} {h : Hd} (k : Bk w q s h W) (hb : Below W.heap.size W W') : Bk w q s h W' :=
  ⟨k.be.trans (hb.mono k.be.size), (hb.block _ (Array.getElem?_eq_some_iff.1 k.su).1).trans k.su, (hb.block _ (Array.getElem?_eq_some_iff.1 k.hd).1).trans k.hd, k.lt⟩
theorem Bk.alloc {w W : World} {q : Nat} {s : Su} {h : Hd} (k : Bk w q s h W) (o : Obj) : Bk w q s h (W.alloc o) := k.below ((Below.refl _ _).alloc (Nat.le_refl _) _)
theorem Bk.setv {w W : World} {q : Nat} {v v' sn lg ar hf gl sp : Int} {h : Hd} (k : Bk w q ⟨v, sn, lg, ar, hf, gl, sp⟩ h W) : Bk w q ⟨v', sn, lg, ar, hf, gl, sp⟩ h (W.setCell ⟨q, 0, none⟩ (.int .i64 v')) :=
  ⟨k.be.setCell (p := ⟨q, 0, none⟩) (by have := k.lt; show w.heap.size ≤ q; omega) _, heap_setCell_same W q 0 _ 23 (.int .i64 v') k.su, (heap_setCell_other W ⟨q, 0, none⟩ w.heap.size _ (by have := k.lt; simp; omega)).trans k.hd, k.lt⟩
structure Rk (w : World) (q qt qu : Nat) (s : Su) (h : Hd) (W : World) : Prop where
  bk : Bk w q s h W
  t : W.heap[qt]? = some (.cells s.c 23 (0, 0))
  u : W.heap[qu]? = some (.cells h.c 26 (0, 0))
theorem Rk.below {w W W' : World} {q qt qu : Nat} {s : Su} {h : Hd} (k : Rk w q qt qu s h W) (hb : Below W.heap.size W W') : Rk w q qt qu s h W' :=
  ⟨k.bk.below hb, (hb.block _ (Array.getElem?_eq_some_iff.1 k.t).1).trans k.t, (hb.block _ (Array.getElem?_eq_some_iff.1 k.u).1).trans k.u⟩
theorem Rk.all {w W : World} {q qt qu j c d e0 F tm g cm : Nat} {A B : Int} (k : Rk w q qt qu ⟨j, A, B, c, d, e0, F⟩ ⟨tm, g, cm⟩ W) :
    W.cell? ⟨q, 0, none⟩ = some (.int .i64 (j : Nat)) ∧ W.cell? ⟨q, 1, none⟩ = some (.int .i64 A) ∧ W.cell? ⟨q, 2, none⟩ = some (.int .i64 B) ∧ W.cell? ⟨q, 3, none⟩ = some (.int .i64 (c : Nat)) ∧ W.cell? ⟨q, 4, none⟩ = some (.int .i64 (d : Nat)) ∧ W.cell? ⟨q, 5, none⟩ = some (.int .i64 (e0 : Nat)) ∧ W.cell? ⟨q, 6, none⟩ = some (.int .i64 (F : Nat)) ∧ W.cell? ⟨w.heap.size, 0, none⟩ = some (.int .u64 (tm : Nat)) ∧ W.cell? ⟨w.heap.size, 1, none⟩ = some (.int .i64 (g : Nat)) ∧ W.cell? ⟨w.heap.size, 2, none⟩ = some (.int .u64 (cm : Nat)) ∧ W.cell? ⟨qt, 0, none⟩ = some (.int .i64 (j : Nat)) ∧ W.cell? ⟨qt, 1, none⟩ = some (.int .i64 A) ∧ W.cell? ⟨qt, 2, none⟩ = some (.int .i64 B) ∧ W.cell? ⟨qt, 3, none⟩ = some (.int .i64 (c : Nat)) ∧ W.cell? ⟨qt, 4, none⟩ = some (.int .i64 (d : Nat)) ∧ W.cell? ⟨qt, 5, none⟩ = some (.int .i64 (e0 : Nat)) ∧ W.cell? ⟨qt, 6, none⟩ = some (.int .i64 (F : Nat)) ∧ W.cell? ⟨qu, 0, none⟩ = some (.int .u64 (tm : Nat)) ∧ W.cell? ⟨qu, 1, none⟩ = some (.int .i64 (g : Nat)) ∧ W.cell? ⟨qu, 2, none⟩ = some (.int .u64 (cm : Nat)) := by
  obtain ⟨x0, x1, x2, x3, x4, x5, x6⟩ := su_cells k.bk.su
  obtain ⟨y0, y1, y2⟩ := hd_cells k.bk.hd
  obtain ⟨m0, m1, m2, m3, m4, m5, m6⟩ := su_cells k.t
  obtain ⟨o0, o1, o2⟩ := hd_cells k.u
  exact ⟨x0, x1, x2, x3, x4, x5, x6, y0, y1, y2, m0, m1, m2, m3, m4, m5, m6, o0, o1, o2⟩
set_option maxHeartbeats 2000000 in
set_option maxRecDepth 100000 in
theorem lback_any (n1 n2 n3 : Nat) (h : Hd) (w : World) (z1 : n1 < 65536) (z2 : n2 < 65536) (z3 : n3 < 256) (hk : h.Ok) : Calls Try.prog 4 #[.int .u16 n1, .int .u16 n2, .int .u8 n3, h.val] w fun e w' => e = .returned (.bool true) ∧ Below w.heap.size w w' := by
  have KE := Lib.hid (examples_any (hbx w h))
  have hb := hbx_below w h
  have hc := hbx_cells w h
  obtain ⟨W, hW⟩ : ∃ W, W = hbx w h := ⟨_, rfl⟩
  rw [← hW] at hb hc KE
  obtain ⟨a, ha, ha1⟩ : ∃ k : Nat, (n1 : Int) % 1000 = k ∧ k < 1000 := ⟨n1 % 1000, by omega, by omega⟩
  obtain ⟨b, hb0, hb1⟩ : ∃ k : Nat, (n2 : Int) % 1000 = k ∧ k < 1000 := ⟨n2 % 1000, by omega, by omega⟩
  obtain ⟨c, hc0, hc1⟩ : ∃ k : Nat, (n3 : Int) % 2 = k ∧ k < 2 := ⟨n3 % 2, by omega, by omega⟩
  obtain ⟨d, hd0, hd1⟩ : ∃ k : Nat, (n3 : Int) / 2 % 2 = k ∧ k < 2 := ⟨n3 / 2 % 2, by omega, by omega⟩
  obtain ⟨e0, he0, he1⟩ : ∃ k : Nat, (n3 : Int) / 4 % 3 = k ∧ k < 3 := ⟨n3 / 4 % 3, by omega, by omega⟩
  obtain ⟨f, hf0, hf1⟩ : ∃ k : Nat, (n3 : Int) / 16 % 10 = k ∧ k < 10 := ⟨n3 / 16 % 10, by omega, by omega⟩
  have HC := Lib.hid hc
  have HB := Lib.hid hb
  have HW := Lib.hid hW
  clear hb hc hW
  unfold hbx Hd.val at *
  unfold Hd.c at HW ⊢
  go_enter Try.func4, Try.ntmps4
  go_wp2_with fail
  rw [← HW.out]
  refine KE.out.mono ?_
  rintro e w1 ⟨rfl, b1_⟩
  have HB1 := Lib.hid (HB.out.trans (b1_.mono HB.out.size))
  have HC1 : Hid (w1.heap[w.heap.size]? = some (.cells h.c 26 (0, 0))) := (b1_.block _ (Array.getElem?_eq_some_iff.1 HC.out).1).trans HC.out
  obtain ⟨c0, c1, c2⟩ := hd_cells HC1.out
  have f1 : w1.frozen? ⟨w.heap.size, 1, none⟩ = false := Lib.frozen_of_heap HC1.out 1
  clear b1_ KE HB HC HW
  go_upto_if 46 with fail
  go_cut [46] from 24 to 51 (fun s46 wx => s46 = s46 ∧ ∃ F : Nat, F < 10 ∧ (e0 = 0 → F = 0) ∧ wx = w1.alloc (.cells #[.int .i64 1, .int .i64 (1 + (a : Int)), .int .i64 (1 + (b : Int)), .int .i64 c, .int .i64 d, .int .i64 e0, .int .i64 F] 23))
  case first =>
    by_cases h0 : 0 < e0
    · have h0' : (0 : Int) < e0 := by omega
      go_wp2_with fail
      go_meet
      exact ⟨trivial, f, hf1, by omega, rfl⟩
    · have h0' : decide ((0 : Int) < e0) = false := decide_eq_false (by omega)
      have h0'' : ¬ (0 : Int) < e0 := by omega
      go_wp2_with fail
      go_meet
      exact ⟨trivial, 0, by omega, fun _ => rfl, rfl⟩
  case rest =>
    obtain ⟨_, F, hF1, hF0, rfl⟩ := hcut
    obtain ⟨g, hg1, hg2⟩ : ∃ g : Nat, (h.vo % 18446744073709551616) % 8 = (g : Int) ∧ g < 8 := ⟨((h.vo % 18446744073709551616) % 8).toNat, by omega, by omega⟩
    have HC2 : Hid ((w1.alloc (.cells #[.int .i64 1, .int .i64 (1 + (a : Int)), .int .i64 (1 + (b : Int)), .int .i64 c, .int .i64 d, .int .i64 e0, .int .i64 F] 23)).heap[w.heap.size]? = some (.cells h.c 26 (0, 0))) := (Lib.alloc_old _ _ _ (Array.getElem?_eq_some_iff.1 HC1.out).1).trans HC1.out
    have x1 := (hd_cells HC2.out).2.1
    have fx : (w1.alloc (.cells #[.int .i64 1, .int .i64 (1 + (a : Int)), .int .i64 (1 + (b : Int)), .int .i64 c, .int .i64 d, .int .i64 e0, .int .i64 F] 23)).frozen? ⟨w.heap.size, 1, none⟩ = false := Lib.frozen_of_heap HC2.out 1
    have hu : IntKind.u64.wrap h.vo = h.vo % 18446744073709551616 := IntKind.wrap_u64 _
    have HWd : Hid (∃ V, V = ((w1.alloc (.cells #[.int .i64 1, .int .i64 (1 + (a : Int)), .int .i64 (1 + (b : Int)), .int .i64 c, .int .i64 d, .int .i64 e0, .int .i64 F] 23)).setCell ⟨w.heap.size, 1, none⟩ (.int .i64 g)) ∧
        Bk w w1.heap.size ⟨1, 1 + (a : Int), 1 + (b : Int), c, d, e0, F⟩ ⟨h.tm, g, h.cm⟩ V) := by
      refine ⟨_, rfl, ?_⟩
      have hlt := (Array.getElem?_eq_some_iff.1 HC1.out).1
      refine ⟨(HB1.out.alloc HB1.out.size _).setCell (p := ⟨w.heap.size, 1, none⟩) (Nat.le_refl _) _, (heap_setCell_other _ ⟨w.heap.size, 1, none⟩ w1.heap.size _ (by simp; omega)).trans (heap_alloc_new w1 _), heap_setCell_same _ w.heap.size 1 _ 26 (.int .i64 g) HC2.out, hlt⟩
    have HF : Hid (1 ≤ (1 + (a : Int)) ∧ (1 + (a : Int)) ≤ 1000 ∧ 1 ≤ (1 + (b : Int)) ∧ (1 + (b : Int)) ≤ 1000 ∧ c ≤ 1 ∧ d ≤ 1 ∧ e0 ≤ 2 ∧ F ≤ 9 ∧ (e0 ≠ 0 ∨ F = 0) ∧ g ≤ 7) := ⟨by omega, by omega, by omega, by omega, by omega, by omega, by omega, by omega, by omega, by omega⟩
    go_upto_region 8 with fail
    obtain ⟨V, hV, BK⟩ := HWd.out
    rw [← hV]
    clear x1 fx hu HC2 HWd hV HC1 HB1 c0 c1 c2 f1 z1 z2 z3 ha ha1 hb0 hb1 hc0 hc1 hd0 hd1 he0 he1 hf0 hf1 hg1 hg2 hF1 hF0
    have HBK := Lib.hid BK
    clear BK
    generalize (1 + (a : Int)) = A at *
    generalize (1 + (b : Int)) = B at *
    have HK : Hid (h.tm < 18446744073709551616 ∧ h.cm < 18446744073709551616) := ⟨hk.t, hk.c⟩
    clear hk
    generalize h.tm = tm at *
    generalize h.cm = cm at *
    obtain ⟨q, hq⟩ : ∃ q, q = w1.heap.size := ⟨_, rfl⟩
    rw [← hq] at HBK ⊢
    clear hq
    have KB : ∀ j : Nat, 1 ≤ j → j ≤ 2 → rgt ⟨j, A, B, c, d, e0, F⟩ = true ∧ hO j ⟨tm, g, cm⟩ = true := fun j h1 h2 => by
      obtain ⟨a1, a2, a3, a4, a5, a6, a7, a8, a9, a10⟩ := HF.out
      refine ⟨(rgt_iff _).2 ⟨⟨by dsimp only; omega, by dsimp only; omega⟩, ⟨a1, a2⟩, ⟨a3, a4⟩, ⟨by dsimp only; omega, by dsimp only; omega⟩, ⟨by dsimp only; omega, by dsimp only; omega⟩, ⟨by dsimp only; omega, by dsimp only; omega⟩, ⟨by dsimp only; omega, by dsimp only; omega⟩, by dsimp only; omega⟩, (hO_iff _ _).2 ⟨by omega, by dsimp only; omega, by dsimp only; omega⟩⟩
    have hok : Hd.Ok ⟨tm, g, cm⟩ := ⟨HK.out.1, HK.out.2, by dsimp only; omega, by have := HF.out; dsimp only; omega⟩
    have K1 : Hid (∀ j : Nat, 1 ≤ j → j ≤ 2 → ∀ W, Calls Try.prog 10 #[Su.val ⟨j, A, B, c, d, e0, F⟩] W fun e w' => e = .returned (.tuple #[.string (supB ⟨j, A, B, c, d, e0, F⟩), .bool true]) ∧ Below W.heap.size W w') := fun j h1 h2 W => by
      have k := putSuper_any ⟨j, A, B, c, d, e0, F⟩ W
      unfold supS at k
      rw [(KB j h1 h2).1, if_pos rfl] at k
      exact k
    have K2 : Hid (∀ j : Nat, 1 ≤ j → j ≤ 2 → ∀ W, Calls Try.prog 17 #[.string (supB ⟨j, A, B, c, d, e0, F⟩)] W fun e w' => e = .returned (.tuple #[Su.val ⟨j, A, B, c, d, e0, F⟩, .bool true]) ∧ Below W.heap.size W w') := fun j h1 h2 W => by
      have k := getSuper_any (supB ⟨j, A, B, c, d, e0, F⟩) W (by have := (supB_size (KB j h1 h2).1).1; omega)
      rw [gS_sup (KB j h1 h2).1, gO_sup (KB j h1 h2).1] at k
      exact k
    have K3 : Hid (∀ j : Nat, 1 ≤ j → j ≤ 2 → ∀ W, Calls Try.prog 13 #[.int .i64 j, Hd.val ⟨tm, g, cm⟩] W fun e w' => e = .returned (.tuple #[.string (hB j ⟨tm, g, cm⟩), .bool true]) ∧ Below W.heap.size W w') := fun j h1 h2 W => by
      have k := putHard_any j ⟨tm, g, cm⟩ W hok
      unfold hS at k
      rw [(KB j h1 h2).2, if_pos rfl] at k
      exact k
    have K4 : Hid (∀ j : Nat, 1 ≤ j → j ≤ 2 → ∀ W, Calls Try.prog 19 #[.string (hB j ⟨tm, g, cm⟩)] W fun e w' => e = .returned (.tuple #[Hd.val ⟨tm, g, cm⟩, .int .i64 j, .bool true]) ∧ Below W.heap.size W w') := fun j h1 h2 W => by
      have k := getHard_any (hB j ⟨tm, g, cm⟩) W (by have := (hB_size (KB j h1 h2).2 hok).1; omega)
      rw [(jH_hard (KB j h1 h2).2 hok).1, (jH_hard (KB j h1 h2).2 hok).2, jO_hard (KB j h1 h2).2 hok] at k
      exact k
    have K5 : Hid (∀ j : Nat, 1 ≤ j → j ≤ 2 → ∀ W, Calls Try.prog 21 #[Su.val ⟨j, A, B, c, d, e0, F⟩] W fun e w' => e = .returned (.int .i64 (4 + 2 * (A + B))) ∧ Below W.heap.size W w') := fun j h1 h2 W => by
      have k := sectors_any ⟨j, A, B, c, d, e0, F⟩ W
      unfold sec at k
      rw [(KB j h1 h2).1, if_pos rfl] at k
      exact k
    clear KB hok HK
    unfold Su.val Hd.val at *
    unfold Su.c at K1 K2 K5
    unfold Hd.c at K3 K4
    dsimp only at K1 K2 K3 K4 K5
    go_wp2_with fail
    go_loopw [11, 12, 13, 14, 15, 16, 17, 18, 19, 20] (fun v _ _ _ _ _ _ _ _ _ wr => ∃ (j : Nat) (vv : Int), v = .int .i64 j ∧ 1 ≤ j ∧ j ≤ 3 ∧ Bk w q ⟨vv, A, B, c, d, e0, F⟩ ⟨tm, g, cm⟩ wr) (fun v _ _ _ _ _ _ _ _ _ _ => 3 - (RowKit.intOf v).toNat)
    case atStart => exact ⟨1, _, rfl, by omega, by omega, HBK.out⟩
    case round =>
      obtain ⟨j, vv, rfl, hj1, hj3, BK⟩ := hrel
      clear HBK
      by_cases hj : j ≤ 2
      · have hj2 : (j : Int) ≤ 2 := by omega
        have L1 := Lib.hid (K1.out j hj1 hj)
        have L2 := Lib.hid (K2.out j hj1 hj)
        have L3 := Lib.hid (K3.out j hj1 hj)
        have L4 := Lib.hid (K4.out j hj1 hj)
        have L5 := Lib.hid (K5.out j hj1 hj)
        clear K1 K2 K3 K4 K5
        generalize supB ⟨j, A, B, c, d, e0, F⟩ = p at *
        generalize hB j ⟨tm, g, cm⟩ = r at *
        have BK1 := Lib.hid (BK.setv (v' := (j : Int)))
        have x0 := (su_cells BK.su).1
        have f0 : wr.frozen? ⟨q, 0, none⟩ = false := Lib.frozen_of_heap BK.su 0
        obtain ⟨y0, y1, y2, y3, y4, y5, y6⟩ := su_cells BK1.out.su
        obtain ⟨V1, hV1⟩ : ∃ V1, V1 = wr.setCell ⟨q, 0, none⟩ (.int .i64 j) := ⟨_, rfl⟩
        rw [← hV1] at BK1
        have HV1 := Lib.hid hV1
        clear BK hV1
        go_wp2_with fail
        rw [← HV1.out]
        refine (L1.out _).mono ?_
        rintro e v1 ⟨rfl, t1⟩
        have BK2 := Lib.hid (BK1.out.below t1)
        clear x0 f0 y0 y1 y2 y3 y4 y5 y6 t1 HV1 BK1 L1
        go_wp2_with fail
        refine (L2.out _).mono ?_
        rintro e v2 ⟨rfl, t2⟩
        have BK3 := BK2.out.below t2
        have BK4 := Lib.hid (BK3.alloc (.cells (Su.c ⟨j, A, B, c, d, e0, F⟩) 23))
        obtain ⟨V2, hV2⟩ : ∃ V2, V2 = v2.alloc (.cells (Su.c ⟨j, A, B, c, d, e0, F⟩) 23) := ⟨_, rfl⟩
        rw [← hV2] at BK4
        have hT : Hid (V2.heap[v2.heap.size]? = some (.cells (Su.c ⟨j, A, B, c, d, e0, F⟩) 23 (0, 0))) := by show _ = _; rw [hV2]; exact heap_alloc_new v2 _
        have C4 := Lib.hid BK4.out.hd
        rw [hV2] at C4
        unfold Su.c at C4 hV2
        dsimp only at C4 hV2
        obtain ⟨y0, y1, y2⟩ := hd_cells C4.out
        dsimp only at y0 y1 y2
        have HV2 := Lib.hid hV2
        clear BK3 t2 hV2 L2 BK2 C4
        go_wp2_with fail
        rw [← HV2.out]
        refine (L3.out _).mono ?_
        rintro e v3 ⟨rfl, t3⟩
        have BK5 := Lib.hid (BK4.out.below t3)
        have hT3 : Hid (v3.heap[v2.heap.size]? = some (.cells (Su.c ⟨j, A, B, c, d, e0, F⟩) 23 (0, 0))) := (t3.block _ (Array.getElem?_eq_some_iff.1 hT.out).1).trans hT.out
        clear y0 y1 y2 t3 HV2 BK4 hT L3
        go_wp2_with fail
        refine (L4.out _).mono ?_
        rintro e v4 ⟨rfl, t4⟩
        have BK6 := Lib.hid ((BK5.out.below t4).alloc (.cells (Hd.c ⟨tm, g, cm⟩) 26))
        obtain ⟨V4, hV4⟩ : ∃ V4, V4 = v4.alloc (.cells (Hd.c ⟨tm, g, cm⟩) 26) := ⟨_, rfl⟩
        rw [← hV4] at BK6
        have hU : Hid (V4.heap[v4.heap.size]? = some (.cells (Hd.c ⟨tm, g, cm⟩) 26 (0, 0))) := by show _ = _; rw [hV4]; exact heap_alloc_new v4 _
        have hT4 : Hid (V4.heap[v2.heap.size]? = some (.cells (Su.c ⟨j, A, B, c, d, e0, F⟩) 23 (0, 0))) := by
          have k : v4.heap[v2.heap.size]? = some (.cells (Su.c ⟨j, A, B, c, d, e0, F⟩) 23 (0, 0)) := (t4.block _ (Array.getElem?_eq_some_iff.1 hT3.out).1).trans hT3.out
          show _ = _; rw [hV4]; exact (Lib.alloc_old _ _ _ (Array.getElem?_eq_some_iff.1 k).1).trans k
        unfold Hd.c at hV4
        dsimp only at hV4
        have HV4 := Lib.hid hV4
        clear t4 hV4 L4 BK5 hT3
        go_upto_region 16 with fail
        rw [← HV4.out]
        clear HV4
        generalize v2.heap.size = qt at *
        generalize v4.heap.size = qu at *
        obtain ⟨x0, x1, x2, x3, x4, x5, x6⟩ := su_cells BK6.out.su
        obtain ⟨y0, y1, y2⟩ := hd_cells BK6.out.hd
        obtain ⟨m0, m1, m2, m3, m4, m5, m6⟩ := su_cells hT4.out
        obtain ⟨o0, o1, o2⟩ := hd_cells hU.out
        dsimp only at x0 x1 x2 x3 x4 x5 x6 y0 y1 y2 m0 m1 m2 m3 m4 m5 m6 o0 o1 o2
        have hwr : IntKind.i64.wrap (4 + IntKind.i64.wrap (2 * IntKind.i64.wrap (A + B))) = 4 + 2 * (A + B) := by
          have := HF.out
          rw [IntWalk.i64_in (A + B) (by omega), IntWalk.i64_in (2 * (A + B)) (by omega), IntWalk.i64_in (4 + 2 * (A + B)) (by omega)]
        rw [← hwr] at L5
        clear hwr
        have KK : Hid (∀ W, Rk w q qt qu ⟨j, A, B, c, d, e0, F⟩ ⟨tm, g, cm⟩ W → Calls Try.prog 21 _ W fun e w' => e = .returned (.int .i64 (IntKind.i64.wrap (4 + IntKind.i64.wrap (2 * IntKind.i64.wrap (A + B))))) ∧ Rk w q qt qu ⟨j, A, B, c, d, e0, F⟩ ⟨tm, g, cm⟩ w') := fun W hW => (L5.out W).mono fun e w' ⟨h1, h2⟩ => ⟨h1, hW.below h2⟩
        have RK : Rk w q qt qu ⟨j, A, B, c, d, e0, F⟩ ⟨tm, g, cm⟩ V4 := ⟨BK6.out, hT4.out, hU.out⟩
        have RKd : Rk w q qt qu ⟨j, A, B, c, d, e0, F⟩ ⟨tm, g, cm⟩ V4.drew := RK.below (Below.refl _ V4).drew
        clear BK6 hT4 hU L5
        go_region_held3 (fun w' => w'.cell? ⟨q, 0, none⟩ = some (.int .i64 (j : Nat)) ∧ w'.cell? ⟨q, 1, none⟩ = some (.int .i64 A) ∧ w'.cell? ⟨q, 2, none⟩ = some (.int .i64 B) ∧ w'.cell? ⟨q, 3, none⟩ = some (.int .i64 (c : Nat)) ∧ w'.cell? ⟨q, 4, none⟩ = some (.int .i64 (d : Nat)) ∧ w'.cell? ⟨q, 5, none⟩ = some (.int .i64 (e0 : Nat)) ∧ w'.cell? ⟨q, 6, none⟩ = some (.int .i64 (F : Nat)) ∧ w'.cell? ⟨w.heap.size, 0, none⟩ = some (.int .u64 (tm : Nat)) ∧ w'.cell? ⟨w.heap.size, 1, none⟩ = some (.int .i64 (g : Nat)) ∧ w'.cell? ⟨w.heap.size, 2, none⟩ = some (.int .u64 (cm : Nat)) ∧ w'.cell? ⟨qt, 0, none⟩ = some (.int .i64 (j : Nat)) ∧ w'.cell? ⟨qt, 1, none⟩ = some (.int .i64 A) ∧ w'.cell? ⟨qt, 2, none⟩ = some (.int .i64 B) ∧ w'.cell? ⟨qt, 3, none⟩ = some (.int .i64 (c : Nat)) ∧ w'.cell? ⟨qt, 4, none⟩ = some (.int .i64 (d : Nat)) ∧ w'.cell? ⟨qt, 5, none⟩ = some (.int .i64 (e0 : Nat)) ∧ w'.cell? ⟨qt, 6, none⟩ = some (.int .i64 (F : Nat)) ∧ w'.cell? ⟨qu, 0, none⟩ = some (.int .u64 (tm : Nat)) ∧ w'.cell? ⟨qu, 1, none⟩ = some (.int .i64 (g : Nat)) ∧ w'.cell? ⟨qu, 2, none⟩ = some (.int .u64 (cm : Nat))) (first | exact ⟨x0, x1, x2, x3, x4, x5, x6, y0, y1, y2, m0, m1, m2, m3, m4, m5, m6, o0, o1, o2⟩ | exact (Rk.all (by assumption))) (first
          | (go_at_call 21; (with_reducible refine (KK.out _ RKd).mono ?_); rintro e v5 ⟨rfl, RK5⟩))
        all_goals clear x0 x1 x2 x3 x4 x5 x6 y0 y1 y2 m0 m1 m2 m3 m4 m5 m6 o0 o1 o2 KK RK RKd
        go_wp2_with fail
        go_roundw
        case rel => exact ⟨j + 1, _, by go_num, by omega, by omega, RK5.bk⟩
        case measure => simp [RowKit.intOf]; omega
      · have hj2 : ¬ (j : Int) ≤ 2 := by omega
        have HBE := Lib.hid BK.be
        clear BK K1 K2 K3 K4 K5
        go_wp2
        go_ret
        exact ⟨rfl, HBE.out⟩
end Go.Proofs.Ytdoombcihobejaa
