/-
  Texts of the layer below and of this one: LCodA.
  Conditions: named in each theorem.
-/
import Derived.Test.YtlmfnlaikdmphaaG12
import Derived.Test.YtlmfnlaikdmphaaG02
import Derived.Deep.CutRange
namespace Go.Proofs.Ytlmfnlaikdmphaa
open Go.RowKit Vi Dk
set_option linter.unusedVariables false
set_option linter.unusedSimpArgs false
theorem wrap64_in (x : Int) : -9223372036854775808 ≤ wrap64 x ∧ wrap64 x ≤ 9223372036854775807 := by unfold wrap64; omega
set_option maxHeartbeats 4000000 in
set_option maxRecDepth 100000 in
theorem lcodes_any (v : Int) (kn : Bool) (s : Sn) (m : Int) (raw : ByteArray) (own : Bool) (at_ : Int) (by_ : Nat) (w : World) (zv : -9223372036854775808 ≤ v ∧ v ≤ 9223372036854775807) (ok : s.Ok) (zm : -9223372036854775808 ≤ m ∧ m ≤ 9223372036854775807) (zr : raw.size ≤ 140737488351232)
    (zat : -9223372036854775808 ≤ at_ ∧ at_ ≤ 9223372036854775807) (zby : by_ < 256) :
    Calls Try.prog 3 #[.int .i64 v, .bool kn, s.v, .int .i64 m, .string raw, .bool own, .int .i64 at_, .int .u8 by_] w fun e w' => e = .returned (.bool true) ∧ Below w.heap.size w w' := by
  obtain ⟨W, hW⟩ : ∃ W, W = w.alloc (.cells s.c 24) := ⟨_, rfl⟩
  have hB : Below w.heap.size w W := by rw [hW]; exact (Below.refl _ w).alloc (Nat.le_refl _) _
  have hc : W.heap[w.heap.size]? = some (.cells s.c 24 (0, 0)) := by rw [hW]; exact heap_alloc_new w _
  have KE := Lib.hid (examples_any W)
  have HB := Lib.hid hB
  have HC := Lib.hid hc
  have HW := Lib.hid hW
  have HOK := Lib.hid ok
  have HZR := Lib.hid zr
  have HBD := Lib.hid (⟨zat, zby⟩ : _ ∧ _)
  clear hB hc hW ok zr zat zby
  obtain ⟨ix, tm, D⟩ := s
  unfold Sn.c Sn.v at *
  dsimp only at *
  go_enter Try.func3, Try.ntmps3
  go_upto_region 1 with fail
  refine wp_at (w := W) HW.out.symm ?_
  go_upto_region 4 with (go_at_call 8; (with_reducible refine KE.out.mono ?_); rintro q w1 ⟨rfl, b1⟩)
  have HB1 : Hid (Below w.heap.size w w1) := HB.out.trans (b1.mono HB.out.size)
  have HC1 : Hid (w1.heap[w.heap.size]? = some (.cells (Sn.c ⟨ix, tm, D⟩) 24 (0, 0))) := (b1.block _ (Array.getElem?_eq_some_iff.1 HC.out).1).trans HC.out
  clear b1
  go_upto_if 31 with fail
  go_cut [0, 31] from 32 to 36 (fun s0 s31 wx => s31 = s31 ∧ ∃ v' : Int, s0 = .int .i64 v' ∧ (-9223372036854775808 ≤ v' ∧ v' ≤ 9223372036854775807) ∧ w1 = wx)
  case first =>
    cases kn
    · go_wp2_with fail
      go_meet
      exact ⟨trivial, v, rfl, zv, rfl⟩
    · go_wp2_with fail
      go_meet
      refine ⟨trivial, _, rfl, ?_, rfl⟩
      exact wrap64_in _
  case rest =>
    obtain ⟨_, v', rfl, hv', rfl⟩ := hcut
    have KA := Lib.hid (fun (W : World) => aput_any v' ⟨ix, tm, D⟩ W HOK.out)
    have KB := Lib.hid (fun (W : World) => ref_any ⟨ix, tm, D⟩ W)
    have KC := Lib.hid (fun (W : World) => rput_sn v' ⟨ix, tm, D⟩ W HOK.out)
    have KR := Lib.hid (fun (W : World) => aroom_any v' m ⟨ix, tm, D⟩ W HOK.out)
    have KX := Lib.hid (fun (W : World) => rroom_any v' m ⟨ix, tm, D⟩ W HOK.out)
    have hsz := snS_size v' ⟨ix, tm, D⟩ HOK.out
    unfold Sn.v at *
    dsimp only at *
    generalize snS v' ⟨ix, tm, D⟩ = y at *
    generalize snO v' ⟨ix, tm, D⟩ = o at *
    generalize rmB v' m ⟨ix, tm, D⟩ = rm at *
    have KD := Lib.hid (fun (W : World) => bend_any y at_ by_ W (by omega) HBD.out.1 HBD.out.2)
    obtain ⟨c0, c1, c2⟩ := sn_cells (s := ⟨ix, tm, D⟩) HC1.out
    have HY := Lib.hid hsz
    clear hsz HOK
    go_upto_region 7 with (go_at_call 9; (with_reducible refine (KA.out _).mono ?_); rintro q w2 ⟨rfl, b2⟩)
    have HB2 : Hid (Below w.heap.size w w2) := HB1.out.trans (b2.mono HB1.out.size)
    have HC2 : Hid (w2.heap[w.heap.size]? = some (.cells (Sn.c ⟨ix, tm, D⟩) 24 (0, 0))) := (b2.block _ (Array.getElem?_eq_some_iff.1 HC1.out).1).trans HC1.out
    clear b2 c0 c1 c2
    obtain ⟨c0, c1, c2⟩ := sn_cells (s := ⟨ix, tm, D⟩) HC2.out
    go_upto_if 50 with (first | (go_at_call 11; (with_reducible refine (KB.out _).mono ?_); rintro q w3 ⟨rfl, b3⟩) | (go_at_call 10; (with_reducible refine (KC.out _).mono ?_); rintro q w4 ⟨rfl, b4⟩))
    have b34 := b3.trans (b4.mono b3.size)
    have HB4 : Hid (Below w.heap.size w w4) := HB2.out.trans (b34.mono HB2.out.size)
    have HC4 : Hid (w4.heap[w.heap.size]? = some (.cells (Sn.c ⟨ix, tm, D⟩) 24 (0, 0))) := (b34.block _ (Array.getElem?_eq_some_iff.1 HC2.out).1).trans HC2.out
    clear b3 b4 b34 c0 c1 c2
    go_cut [4, 50] from 51 to 56 (fun s4 s50 wx => s50 = s50 ∧ ∃ raw' : ByteArray, s4 = .string raw' ∧ raw'.size ≤ 281474976710656 ∧ ∃ wy, wy = wx ∧ Below w4.heap.size w4 wy)
    case first =>
      have zr := HZR.out
      cases own
      · go_wp2_with fail
        go_meet
        exact ⟨trivial, raw, rfl, by omega, _, rfl, Below.refl _ _⟩
      · go_wp2_with fail
        refine (KD.out _).mono ?_
        rintro q w5 ⟨t, rfl, ht, b5⟩
        have hts : ¬ 9223372036854775807 < t.size + raw.size := by have := HY.out; omega
        go_wp2_with fail
        go_meet
        exact ⟨trivial, t ++ raw, rfl, by rw [ByteArray.size_append]; have := HY.out; omega, _, rfl, b5⟩
    case rest =>
      obtain ⟨_, r, rfl, hr, wx, hwx, b6⟩ := hcut
      subst hwx
      have HB6 : Hid (Below w.heap.size w wx) := HB4.out.trans (b6.mono HB4.out.size)
      have HC6 : Hid (wx.heap[w.heap.size]? = some (.cells (Sn.c ⟨ix, tm, D⟩) 24 (0, 0))) := (b6.block _ (Array.getElem?_eq_some_iff.1 HC4.out).1).trans HC4.out
      have KG := Lib.hid (fun (W : World) => aget_any r W hr)
      have KH := Lib.hid (fun (W : World) => rget_any r W hr)
      have KI := Lib.hid (fun (W : World) => ref_any (gtS r) W)
      have kq := fun (W : World) => eql_rn (gtS r) (gtS r) W
      rw [sameSn_self] at kq
      generalize gtS r = g at *
      generalize gtV r = gv at *
      generalize gtO r = go at *
      obtain ⟨gi, gt, gd⟩ := g
      unfold Sn.v at *
      dsimp only at *
      clear b6 hr KD KA KC HY HB4 HC4 HB2 HC2
      go_upto_region 11 with (go_at_call 13; (with_reducible refine (KG.out _).mono ?_); rintro q w7 ⟨rfl, b7⟩)
      obtain ⟨p, hp⟩ : ∃ p, p = w7.heap.size := ⟨_, rfl⟩
      obtain ⟨W8, hW8⟩ : ∃ W, W = w7.alloc (.cells #[.int .u64 gi, .int .u64 gt, .string gd] 24) := ⟨_, rfl⟩
      have hb8 : Below wx.heap.size wx W8 := by rw [hW8]; exact b7.alloc b7.size _
      have HB8 : Hid (Below w.heap.size w W8) := HB6.out.trans (hb8.mono HB6.out.size)
      have HC8 : Hid (W8.heap[w.heap.size]? = some (.cells (Sn.c ⟨ix, tm, D⟩) 24 (0, 0))) := (hb8.block _ (Array.getElem?_eq_some_iff.1 HC6.out).1).trans HC6.out
      have HP8 : Hid (W8.heap[p]? = some (.cells (Sn.c ⟨gi, gt, gd⟩) 24 (0, 0))) := by show _ = _; rw [hW8, hp]; exact heap_alloc_new w7 _
      rw [← hW8, ← hp]
      clear hW8 hp hb8 b7
      go_upto_region 12 with (go_at_call 14; (with_reducible refine (KH.out _).mono ?_); rintro q w9 ⟨rfl, b9⟩)
      obtain ⟨p2, hp2⟩ : ∃ p, p = w9.heap.size := ⟨_, rfl⟩
      obtain ⟨W10, hW10⟩ : ∃ W, W = w9.alloc (.cells #[.int .u64 gi, .int .u64 gt, .string gd] 30) := ⟨_, rfl⟩
      have hb10 : Below W8.heap.size W8 W10 := by rw [hW10]; exact b9.alloc b9.size _
      have HB10 : Hid (Below w.heap.size w W10.drew) := (HB8.out.trans (hb10.mono HB8.out.size)).drew
      have hc10 : W10.heap[w.heap.size]? = some (.cells (Sn.c ⟨ix, tm, D⟩) 24 (0, 0)) := (hb10.block _ (Array.getElem?_eq_some_iff.1 HC8.out).1).trans HC8.out
      have hp10 : W10.heap[p]? = some (.cells (Sn.c ⟨gi, gt, gd⟩) 24 (0, 0)) := (hb10.block _ (Array.getElem?_eq_some_iff.1 HP8.out).1).trans HP8.out
      have hq10 : W10.heap[p2]? = some (.cells (Sn.c ⟨gi, gt, gd⟩) 30 (0, 0)) := by rw [hW10, hp2]; exact heap_alloc_new w9 _
      rw [← hW10, ← hp2]
      have KC : Hid (∀ W', Below W10.heap.size W10.drew W' → (W'.cell? ⟨w.heap.size, 0, none⟩ = some (.int .u64 ix) ∧ W'.cell? ⟨w.heap.size, 1, none⟩ = some (.int .u64 tm) ∧ W'.cell? ⟨w.heap.size, 2, none⟩ = some (.string D)) ∧
          (W'.cell? ⟨p, 0, none⟩ = some (.int .u64 gi) ∧ W'.cell? ⟨p, 1, none⟩ = some (.int .u64 gt) ∧ W'.cell? ⟨p, 2, none⟩ = some (.string gd)) ∧
          (W'.cell? ⟨p2, 0, none⟩ = some (.int .u64 gi) ∧ W'.cell? ⟨p2, 1, none⟩ = some (.int .u64 gt) ∧ W'.cell? ⟨p2, 2, none⟩ = some (.string gd))) := fun W' hb =>
        ⟨sn_cells (s := ⟨ix, tm, D⟩) ((hb.block _ (Array.getElem?_eq_some_iff.1 hc10).1).trans hc10), sn_cells (s := ⟨gi, gt, gd⟩) ((hb.block _ (Array.getElem?_eq_some_iff.1 hp10).1).trans hp10), sn_cells (s := ⟨gi, gt, gd⟩) ((hb.block _ (Array.getElem?_eq_some_iff.1 hq10).1).trans hq10)⟩
      have PB : Below W10.heap.size W10.drew W10.drew := Below.refl _ _
      obtain ⟨⟨c0, c1, c2⟩, ⟨d0, d1, d2⟩, ⟨e0, e1, e2⟩⟩ := KC.out _ PB
      clear hc10 hp10 hq10 hW10 hp2 hb10 b9
      have qy : (y.toList == y.toList) = true := beq_self_eq_true _
      have qo : (o == o) = true := beq_self_eq_true _
      have qr : (rm == rm) = true := beq_self_eq_true _
      have qv : (gv == gv) = true := beq_self_eq_true _
      have qg : (go == go) = true := beq_self_eq_true _
      go_region_held3 (fun W' => (W'.cell? ⟨w.heap.size, 0, none⟩ = some (.int .u64 ix) ∧ W'.cell? ⟨w.heap.size, 1, none⟩ = some (.int .u64 tm) ∧ W'.cell? ⟨w.heap.size, 2, none⟩ = some (.string D)) ∧
          (W'.cell? ⟨p, 0, none⟩ = some (.int .u64 gi) ∧ W'.cell? ⟨p, 1, none⟩ = some (.int .u64 gt) ∧ W'.cell? ⟨p, 2, none⟩ = some (.string gd)) ∧
          (W'.cell? ⟨p2, 0, none⟩ = some (.int .u64 gi) ∧ W'.cell? ⟨p2, 1, none⟩ = some (.int .u64 gt) ∧ W'.cell? ⟨p2, 2, none⟩ = some (.string gd))) (first | exact ⟨⟨c0, c1, c2⟩, ⟨d0, d1, d2⟩, ⟨e0, e1, e2⟩⟩ | exact KC.out _ (by assumption)) (first
        | (go_at_call 15; (with_reducible refine (KR.out _).mono ?_); rintro q v1 ⟨rfl, a1⟩; have Q1 : Below W10.heap.size W10.drew v1 := PB.trans (a1.mono PB.size))
        | (go_at_call 11; (with_reducible refine (KB.out _).mono ?_); rintro q v2 ⟨rfl, a2⟩; have Q2 : Below W10.heap.size W10.drew v2 := Q1.trans (a2.mono Q1.size))
        | (go_at_call 16; (with_reducible refine (KX.out _).mono ?_); rintro q v3 ⟨rfl, a3⟩; have Q3 : Below W10.heap.size W10.drew v3 := Q2.trans (a3.mono Q2.size))
        | (go_at_call 11; (with_reducible refine (KI.out _).mono ?_); rintro q v4 ⟨rfl, a4⟩; have Q4 : Below W10.heap.size W10.drew v4 := Q3.trans (a4.mono Q3.size)))
      all_goals
        go_wp2
        go_ret
        exact ⟨rfl, HB10.out.trans (Q4.mono HB10.out.size)⟩
end Go.Proofs.Ytlmfnlaikdmphaa
