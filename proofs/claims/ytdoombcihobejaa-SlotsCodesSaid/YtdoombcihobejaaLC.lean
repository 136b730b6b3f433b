/-
  The walk of the law SlotsCodes: supers and hard states are put and got as the chapter says.
  Conditions: numbers of their types; a text of at most 2^47 - 4096 bytes.
-/
import Derived.Test.YtdoombcihobejaaR3
import Derived.Test.YtdoombcihobejaaOpenL
import Derived.Test.YtdoombcihobejaaBend
namespace Go.Proofs.Ytdoombcihobejaa
open Go.RowKit Vi Sl
set_option linter.unusedVariables false
set_option linter.unusedSimpArgs false
/-- The law's super and hard state in their blocks. -/
structure Qc (w : World) (s : Su) (h : Hd) (W : World) : Prop where
  be : Below w.heap.size w W
  su : W.heap[w.heap.size]? = some (.cells s.c 23 (0, 0))
  hd : W.heap[w.heap.size + 1]? = some (.cells h.c 26 (0, 0))
theorem Qc.below {w W W' : World} {s : Su} {h : Hd} (k : Qc w s h W) (hb : Below W.heap.size W W') : Qc w s h W' :=
  ⟨k.be.trans (hb.mono k.be.size), (hb.block _ (Array.getElem?_eq_some_iff.1 k.su).1).trans k.su, (hb.block _ (Array.getElem?_eq_some_iff.1 k.hd).1).trans k.hd⟩
theorem Qc.alloc {w W : World} {s : Su} {h : Hd} (k : Qc w s h W) (o : Obj) : Qc w s h (W.alloc o) := k.below ((Below.refl _ _).alloc (Nat.le_refl _) _)
theorem Qc.start (w : World) (s : Su) (h : Hd) : Qc w s h ((w.alloc (.cells s.c 23)).alloc (.cells h.c 26)) :=
  ⟨((Below.refl _ _).alloc (Nat.le_refl _) _).alloc (by simp) _, (Lib.alloc_old _ _ _ (by simp)).trans (heap_alloc_new w _), heap_alloc2_new w _ _⟩
theorem Qc.put {w W : World} {s s' : Su} {h : Hd} (k : Qc w s h W) : Qc w s' h (W.setRow w.heap.size s'.c) :=
  ⟨k.be.trans ⟨rfl, rfl, rfl, by simp, fun j hj => setRow_other _ _ _ _ (by omega)⟩, setRow_heap _ _ _ _ 23 (0, 0) k.su, (setRow_other _ _ _ _ (by omega)).trans k.hd⟩
theorem Qc.vote {w W : World} {s : Su} {tm cm : Nat} {vo vo' : Int} (k : Qc w s ⟨tm, vo, cm⟩ W) : Qc w s ⟨tm, vo', cm⟩ (W.setCell ⟨w.heap.size + 1, 1, none⟩ (.int .i64 vo')) :=
  ⟨k.be.setCell (p := ⟨w.heap.size + 1, 1, none⟩) (by show w.heap.size ≤ w.heap.size + 1; omega) _, (heap_setCell_other W ⟨w.heap.size + 1, 1, none⟩ w.heap.size _ (by simp)).trans k.su, heap_setCell_same W (w.heap.size + 1) 1 _ 26 (.int .i64 vo') k.hd⟩
/-- Behind all that was got. -/
structure Qe (w : World) (s : Su) (h : Hd) (x : Su) (y : Hd) (q1 q2 q3 q4 : Nat) (W : World) : Prop where
  q : Qc w s h W
  a : W.heap[q1]? = some (.cells x.c 23 (0, 0))
  b : W.heap[q2]? = some (.cells x.c 32 (0, 0))
  c : W.heap[q3]? = some (.cells y.c 26 (0, 0))
  d : W.heap[q4]? = some (.cells y.c 36 (0, 0))
theorem Qe.below {w W W' : World} {s : Su} {h : Hd} {x : Su} {y : Hd} {q1 q2 q3 q4 : Nat} (k : Qe w s h x y q1 q2 q3 q4 W) (hb : Below W.heap.size W W') : Qe w s h x y q1 q2 q3 q4 W' :=
  ⟨k.q.below hb, (hb.block _ (Array.getElem?_eq_some_iff.1 k.a).1).trans k.a, (hb.block _ (Array.getElem?_eq_some_iff.1 k.b).1).trans k.b, (hb.block _ (Array.getElem?_eq_some_iff.1 k.c).1).trans k.c, (hb.block _ (Array.getElem?_eq_some_iff.1 k.d).1).trans k.d⟩
theorem Qe.all {w W : World} {s : Su} {h : Hd} {x : Su} {y : Hd} {q1 q2 q3 q4 : Nat} (k : Qe w s h x y q1 q2 q3 q4 W) : W.cell? ⟨w.heap.size, 0, none⟩ = some (.int .i64 s.v) ∧ W.cell? ⟨w.heap.size, 1, none⟩ = some (.int .i64 s.sn) ∧ W.cell? ⟨w.heap.size, 2, none⟩ = some (.int .i64 s.lg) ∧ W.cell? ⟨w.heap.size, 3, none⟩ = some (.int .i64 s.ar) ∧ W.cell? ⟨w.heap.size, 4, none⟩ = some (.int .i64 s.hf) ∧ W.cell? ⟨w.heap.size, 5, none⟩ = some (.int .i64 s.gl) ∧ W.cell? ⟨w.heap.size, 6, none⟩ = some (.int .i64 s.sp) ∧ W.cell? ⟨q1, 0, none⟩ = some (.int .i64 x.v) ∧ W.cell? ⟨q1, 1, none⟩ = some (.int .i64 x.sn) ∧ W.cell? ⟨q1, 2, none⟩ = some (.int .i64 x.lg) ∧ W.cell? ⟨q1, 3, none⟩ = some (.int .i64 x.ar) ∧ W.cell? ⟨q1, 4, none⟩ = some (.int .i64 x.hf) ∧ W.cell? ⟨q1, 5, none⟩ = some (.int .i64 x.gl) ∧ W.cell? ⟨q1, 6, none⟩ = some (.int .i64 x.sp) ∧ W.cell? ⟨q2, 0, none⟩ = some (.int .i64 x.v) ∧ W.cell? ⟨q2, 1, none⟩ = some (.int .i64 x.sn) ∧ W.cell? ⟨q2, 2, none⟩ = some (.int .i64 x.lg) ∧ W.cell? ⟨q2, 3, none⟩ = some (.int .i64 x.ar) ∧ W.cell? ⟨q2, 4, none⟩ = some (.int .i64 x.hf) ∧ W.cell? ⟨q2, 5, none⟩ = some (.int .i64 x.gl) ∧ W.cell? ⟨q2, 6, none⟩ = some (.int .i64 x.sp) ∧ W.cell? ⟨q3, 0, none⟩ = some (.int .u64 (y.tm : Nat)) ∧ W.cell? ⟨q3, 1, none⟩ = some (.int .i64 y.vo) ∧ W.cell? ⟨q3, 2, none⟩ = some (.int .u64 (y.cm : Nat)) ∧ W.cell? ⟨q4, 0, none⟩ = some (.int .u64 (y.tm : Nat)) ∧ W.cell? ⟨q4, 1, none⟩ = some (.int .i64 y.vo) ∧ W.cell? ⟨q4, 2, none⟩ = some (.int .u64 (y.cm : Nat)) := by
  obtain ⟨a0, a1, a2, a3, a4, a5, a6⟩ := su_cells k.q.su
  obtain ⟨b0, b1, b2, b3, b4, b5, b6⟩ := su_cells k.a
  obtain ⟨c0, c1, c2, c3, c4, c5, c6⟩ := ru_cells k.b
  obtain ⟨d0, d1, d2⟩ := hd_cells k.c
  obtain ⟨e0, e1, e2⟩ := rh_cells k.d
  exact ⟨a0, a1, a2, a3, a4, a5, a6, b0, b1, b2, b3, b4, b5, b6, c0, c1, c2, c3, c4, c5, c6, d0, d1, d2, e0, e1, e2⟩
theorem supS_size (s : Su) : (supS s).size ≤ 61 := by
  unfold supS
  split
  · next h => exact (supB_size h).1
  · show 0 ≤ 61; omega
theorem hS_size (v : Int) (h : Hd) (ho : h.Ok) : (hS v h).size ≤ 31 := by
  unfold hS
  split
  · next hh => exact (hB_size hh ho).1
  · show 0 ≤ 31; omega
theorem rs_ok (b : ByteArray) : (rs b).Ok := by
  have h1 := fixV_lt1 b
  refine ⟨?_, w64_range _, w64_range _, w64_range _, w64_range _, w64_range _, w64_range _⟩
  show _ ≤ rv b ∧ rv b ≤ _
  unfold rv
  omega
set_option maxHeartbeats 2000000 in
set_option maxRecDepth 100000 in
theorem lcodes_any (s : Su) (near : Bool) (v : Int) (h : Hd) (raw : ByteArray) (own : Bool) (at_ : Int) (by_ : Nat) (w : World) (hs : s.Ok) (hv : -9223372036854775808 ≤ v ∧ v ≤ 9223372036854775807) (hh : h.Ok) (hr : raw.size ≤ 140737488351232) (hat : -9223372036854775808 ≤ at_ ∧ at_ ≤ 9223372036854775807) (hby : by_ < 256) :
    Calls Try.prog 3 #[s.val, .bool near, .int .i64 v, h.val, .string raw, .bool own, .int .i64 at_, .int .u8 by_] w fun e w' => e = .returned (.bool true) ∧ Below w.heap.size w w' := by
  have q0 := Qc.start w s h
  obtain ⟨W, hW⟩ : ∃ W, W = (w.alloc (.cells s.c 23)).alloc (.cells h.c 26) := ⟨_, rfl⟩
  rw [← hW] at q0
  have Q0 := Lib.hid q0
  have HW := Lib.hid hW
  have KS := Lib.hid (fun (W : World) => small_any s W hs)
  have HSO := Lib.hid hs
  have HHO := Lib.hid hh
  have HVO := Lib.hid hv
  have HA := Lib.hid hat
  have HBY := Lib.hid hby
  have HRR := Lib.hid hr
  obtain ⟨tm, vo, cm⟩ := h
  clear q0 hW hs hh hv hr hat hby
  unfold Su.val Hd.val at *
  unfold Su.c Hd.c at HW ⊢
  dsimp only at HW ⊢
  go_enter Try.func3, Try.ntmps3
  go_wp2_with fail
  rw [← HW.out]
  refine (examples_any _).mono ?_
  rintro e w1 ⟨rfl, b1⟩
  have Q1 := Lib.hid (Q0.out.below b1)
  clear Q0 HW b1
  go_upto_if 41 with fail
  go_cut [2] from 38 to 49 (fun s2 wx => ∃ (v' : Int) (s' : Su) (vo' : Int), s2 = .int .i64 v' ∧ s'.Ok ∧ (-9223372036854775808 ≤ v' ∧ v' ≤ 9223372036854775807) ∧ (-9223372036854775808 ≤ vo' ∧ vo' ≤ 9223372036854775807) ∧ Qc w s' ⟨tm, vo', cm⟩ wx)
  case first =>
    cases near with
    | false =>
      go_wp2_with fail
      go_meet
      exact ⟨v, s, vo, rfl, HSO.out, HVO.out, ⟨HHO.out.v1, HHO.out.v2⟩, Q1.out⟩
    | true =>
      obtain ⟨x0, x1, x2, x3, x4, x5, x6⟩ := su_cells Q1.out.su
      unfold Su.c at KS
      go_wp2_with fail
      refine (KS.out _).mono ?_
      rintro e w2 ⟨rfl, b2⟩
      have Q2 := Lib.hid (Q1.out.below b2)
      have Q3 : Hid (Qc w (smS s) ⟨tm, vo, cm⟩ (w2.setRow w.heap.size (smS s).c)) := Q2.out.put
      have K2 := Lib.hid Q2.out.su
      obtain ⟨V, hV⟩ : ∃ V, V = w2.setRow w.heap.size (smS s).c := ⟨_, rfl⟩
      rw [← hV] at Q3
      have HV := Lib.hid hV
      obtain ⟨y0, y1, y2⟩ := hd_cells Q3.out.hd
      have f1 : V.frozen? ⟨w.heap.size + 1, 1, none⟩ = false := Lib.frozen_of_heap Q3.out.hd 1
      dsimp only at y0 y1 y2
      have hvb := HVO.out
      have hob := HHO.out.v1
      have hob2 := HHO.out.v2
      dsimp only at hob hob2
      clear x0 x1 x2 x3 x4 x5 x6 b2 Q2 Q1 hV KS
      go_wp2_with (refine wpList_store_su rfl _ _ rfl _ _ (smS s) s rfl rfl K2.out ?_; refine wpList_at HV.out.symm ?_; go_frame)
      go_meet
      exact ⟨v.tmod 4, smS s, vo.tmod 9, rfl, smS_ok HSO.out, by have h1 := Int.tmod_lt_of_pos v (show (0 : Int) < 4 by omega); have h2 := Int.lt_tmod_of_pos v (show (0 : Int) < 4 by omega); omega, by have h1 := Int.tmod_lt_of_pos vo (show (0 : Int) < 9 by omega); have h2 := Int.lt_tmod_of_pos vo (show (0 : Int) < 9 by omega); omega, Q3.out.vote⟩
  case rest =>
    obtain ⟨v', s', vo', rfl, hs', hv', hvo', QQ⟩ := hcut
    have hok : Hd.Ok ⟨tm, vo', cm⟩ := ⟨HHO.out.t, HHO.out.c, hvo'.1, hvo'.2⟩
    have Q2 := Lib.hid QQ
    clear QQ Q1 KS HSO HVO HHO hvo' hs'
    have hbs : (supS s').size ≤ 61 := supS_size s'
    have hbh : (hS v' ⟨tm, vo', cm⟩).size ≤ 31 := hS_size v' _ hok
    have K10 := Lib.hid (fun (W : World) => putSuper_any s' W)
    have K11 := Lib.hid (fun (W : World) => rputSuper_any s' W)
    have K12 := Lib.hid (fun (W : World) => ref_any s' W)
    have K13 := Lib.hid (fun (W : World) => putHard_any v' ⟨tm, vo', cm⟩ W hok)
    have K14 := Lib.hid (fun (W : World) => rputHard_any v' ⟨tm, vo', cm⟩ W hok)
    have K15 := Lib.hid (fun (W : World) => refHard_any ⟨tm, vo', cm⟩ W)
    have K21 := Lib.hid (fun (W : World) => sectors_any s' W)
    have K22 := Lib.hid (fun (W : World) => rsectors_any s' W)
    generalize supS s' = p at *
    generalize hS v' ⟨tm, vo', cm⟩ = q at *
    generalize rgt s' = r at *
    generalize hO v' ⟨tm, vo', cm⟩ = t at *
    generalize sec s' = sx at *
    unfold Su.val at K10 K11 K12 K21 K22
    unfold Su.c at K10 K11 K12 K21 K22
    unfold Hd.val at K13 K14 K15
    unfold Hd.c at K13 K14 K15
    dsimp only at K13 K14 K15
    clear hok
    obtain ⟨x0, x1, x2, x3, x4, x5, x6⟩ := su_cells Q2.out.su
    go_wp2_with fail
    refine (K10.out _).mono ?_
    rintro e w3 ⟨rfl, b3⟩
    have Q3 := Lib.hid (Q2.out.below b3)
    clear x0 x1 x2 x3 x4 x5 x6 b3 Q2 K10
    obtain ⟨x0, x1, x2, x3, x4, x5, x6⟩ := su_cells Q3.out.su
    go_wp2_with fail
    refine (K12.out _).mono ?_
    rintro e w4 ⟨rfl, b4⟩
    have Q4 := Lib.hid (Q3.out.below b4)
    clear x0 x1 x2 x3 x4 x5 x6 b4 Q3
    go_wp2_with fail
    refine (K11.out _).mono ?_
    rintro e w5 ⟨rfl, b5⟩
    have Q5 := Lib.hid (Q4.out.below b5)
    clear b5 Q4 K11
    obtain ⟨y0, y1, y2⟩ := hd_cells Q5.out.hd
    dsimp only at y0 y1 y2
    go_wp2_with fail
    refine (K13.out _).mono ?_
    rintro e w6 ⟨rfl, b6⟩
    have Q6 := Lib.hid (Q5.out.below b6)
    clear y0 y1 y2 b6 Q5 K13
    obtain ⟨y0, y1, y2⟩ := hd_cells Q6.out.hd
    dsimp only at y0 y1 y2
    go_wp2_with fail
    refine (K15.out _).mono ?_
    rintro e w7 ⟨rfl, b7⟩
    have Q7 := Lib.hid (Q6.out.below b7)
    clear y0 y1 y2 b7 Q6 K15
    go_wp2_with fail
    refine (K14.out _).mono ?_
    rintro e w8 ⟨rfl, b8⟩
    have Q8 := Lib.hid (Q7.out.below b8)
    clear b8 Q7 K14
    go_upto_if 76 with fail
    go_cut [26, 27] from 38 to 84 (fun s26 s27 wx => ∃ a b : ByteArray, s26 = .string a ∧ s27 = .string b ∧ a.size ≤ 281474976710656 ∧ b.size ≤ 281474976710656 ∧ Qc w s' ⟨tm, vo', cm⟩ wx)
    case first =>
      cases own with
      | false =>
        go_wp2_with fail
        go_meet
        exact ⟨raw, raw, rfl, rfl, by have := HRR.out; omega, by have := HRR.out; omega, Q8.out⟩
      | true =>
        have KB1 := Lib.hid (fun (W : World) => bend_any p at_ by_ W (by omega) HA.out HBY.out)
        have KB2 := Lib.hid (fun (W : World) => bend_any q at_ by_ W (by omega) HA.out HBY.out)
        clear HA HBY
        go_wp2_with fail
        refine (KB1.out _).mono ?_
        rintro e w9 ⟨a, rfl, za, b9⟩
        have Q9 := Lib.hid (Q8.out.below b9)
        clear b9 Q8 KB1
        go_wp2_with fail
        refine (KB2.out _).mono ?_
        rintro e w10 ⟨b, rfl, zb, b10⟩
        have Q10 := Lib.hid (Q9.out.below b10)
        clear b10 Q9 KB2
        go_wp2_with fail
        go_meet
        exact ⟨a, b, rfl, rfl, by omega, by omega, Q10.out⟩
    case rest =>
      obtain ⟨a, b, rfl, rfl, za, zb, QQ⟩ := hcut
      have R1 := Lib.hid QQ
      clear QQ Q8 HA HBY HRR hbs hbh
      have K17 := Lib.hid (fun (W : World) => getSuper_any a W za)
      have K18 := Lib.hid (fun (W : World) => rgetSuper_any a W za)
      have K19 := Lib.hid (fun (W : World) => getHard_any b W zb)
      have K20 := Lib.hid (fun (W : World) => rgetHard_any b W zb)
      generalize gS a = x at *
      generalize gO a = go_ at *
      generalize jH b = y at *
      generalize jO b = jo at *
      generalize jV b = jv at *
      have K12b := Lib.hid (fun (W : World) => ref_any x W)
      have K15b := Lib.hid (fun (W : World) => refHard_any y W)
      clear za zb
      unfold Su.val at K17 K18 K12b
      unfold Su.c at K17 K18 K12b
      unfold Hd.val at K19 K20 K15b
      unfold Hd.c at K19 K20 K15b
      go_wp2_with fail
      refine (K17.out _).mono ?_
      rintro e w9 ⟨rfl, b9⟩
      have R2 := R1.out.below b9
      obtain ⟨V1, hV1⟩ : ∃ V1, V1 = w9.alloc (.cells x.c 23) := ⟨_, rfl⟩
      have R3 : Hid (Qc w s' ⟨tm, vo', cm⟩ V1) := by rw [hV1]; exact R2.alloc _
      have C1 : Hid (V1.heap[w9.heap.size]? = some (.cells x.c 23 (0, 0))) := by show _ = _; rw [hV1]; exact heap_alloc_new w9 _
      unfold Su.c at hV1
      have HV1 := Lib.hid hV1
      clear b9 R1 R2 hV1 K17
      go_wp2_with fail
      rw [← HV1.out]
      refine (K18.out _).mono ?_
      rintro e w10 ⟨rfl, b10⟩
      have R4 := R3.out.below b10
      have C2 := (b10.block _ (Array.getElem?_eq_some_iff.1 C1.out).1).trans C1.out
      obtain ⟨V2, hV2⟩ : ∃ V2, V2 = w10.alloc (.cells x.c 32) := ⟨_, rfl⟩
      have R5 : Hid (Qc w s' ⟨tm, vo', cm⟩ V2) := by rw [hV2]; exact R4.alloc _
      have C3 : Hid (V2.heap[w9.heap.size]? = some (.cells x.c 23 (0, 0))) := by show _ = _; rw [hV2]; exact (Lib.alloc_old _ _ _ (Array.getElem?_eq_some_iff.1 C2).1).trans C2
      have D3 : Hid (V2.heap[w10.heap.size]? = some (.cells x.c 32 (0, 0))) := by show _ = _; rw [hV2]; exact heap_alloc_new w10 _
      unfold Su.c at hV2
      have HV2 := Lib.hid hV2
      clear b10 R3 R4 C1 C2 hV2 K18 HV1
      go_wp2_with fail
      rw [← HV2.out]
      refine (K19.out _).mono ?_
      rintro e w11 ⟨rfl, b11⟩
      have R6 := R5.out.below b11
      have C4 := (b11.block _ (Array.getElem?_eq_some_iff.1 C3.out).1).trans C3.out
      have D4 := (b11.block _ (Array.getElem?_eq_some_iff.1 D3.out).1).trans D3.out
      obtain ⟨V3, hV3⟩ : ∃ V3, V3 = w11.alloc (.cells y.c 26) := ⟨_, rfl⟩
      have R7 : Hid (Qc w s' ⟨tm, vo', cm⟩ V3) := by rw [hV3]; exact R6.alloc _
      have C5 : Hid (V3.heap[w9.heap.size]? = some (.cells x.c 23 (0, 0))) := by show _ = _; rw [hV3]; exact (Lib.alloc_old _ _ _ (Array.getElem?_eq_some_iff.1 C4).1).trans C4
      have D5 : Hid (V3.heap[w10.heap.size]? = some (.cells x.c 32 (0, 0))) := by show _ = _; rw [hV3]; exact (Lib.alloc_old _ _ _ (Array.getElem?_eq_some_iff.1 D4).1).trans D4
      have E5 : Hid (V3.heap[w11.heap.size]? = some (.cells y.c 26 (0, 0))) := by show _ = _; rw [hV3]; exact heap_alloc_new w11 _
      unfold Hd.c at hV3
      have HV3 := Lib.hid hV3
      clear b11 R5 R6 C3 C4 D3 D4 hV3 K19 HV2
      go_wp2_with fail
      rw [← HV3.out]
      refine (K20.out _).mono ?_
      rintro e w12 ⟨rfl, b12⟩
      have R8 := R7.out.below b12
      have C6 := (b12.block _ (Array.getElem?_eq_some_iff.1 C5.out).1).trans C5.out
      have D6 := (b12.block _ (Array.getElem?_eq_some_iff.1 D5.out).1).trans D5.out
      have E6 := (b12.block _ (Array.getElem?_eq_some_iff.1 E5.out).1).trans E5.out
      obtain ⟨V4, hV4⟩ : ∃ V4, V4 = w12.alloc (.cells y.c 36) := ⟨_, rfl⟩
      have RE : Qe w s' ⟨tm, vo', cm⟩ x y w9.heap.size w10.heap.size w11.heap.size w12.heap.size V4 := by
        rw [hV4]
        exact ⟨R8.alloc _, (Lib.alloc_old _ _ _ (Array.getElem?_eq_some_iff.1 C6).1).trans C6, (Lib.alloc_old _ _ _ (Array.getElem?_eq_some_iff.1 D6).1).trans D6, (Lib.alloc_old _ _ _ (Array.getElem?_eq_some_iff.1 E6).1).trans E6, heap_alloc_new w12 _⟩
      unfold Hd.c at hV4
      have HV4 := Lib.hid hV4
      clear b12 R7 R8 C5 C6 D5 D6 E5 E6 hV4 K20 HV3
      generalize w9.heap.size = q1 at *
      generalize w10.heap.size = q2 at *
      generalize w11.heap.size = q3 at *
      generalize hq4 : w12.heap.size = q4 at *
      have HQ4 := Lib.hid hq4
      clear hq4
      go_upto_region 21 with fail
      rw [← HV4.out, HQ4.out]
      obtain ⟨a0, a1, a2, a3, a4, a5, a6, b0, b1, b2, b3, b4, b5, b6, c0, c1, c2, c3, c4, c5, c6, d0, d1, d2, e0, e1, e2⟩ := RE.all
      have Ed : Qe w s' ⟨tm, vo', cm⟩ x y q1 q2 q3 q4 V4.drew := RE.below (Below.refl _ V4).drew
      clear HV4 HQ4
      go_region_held3 (fun w' => w'.cell? ⟨w.heap.size, 0, none⟩ = some (.int .i64 s'.v) ∧ w'.cell? ⟨w.heap.size, 1, none⟩ = some (.int .i64 s'.sn) ∧ w'.cell? ⟨w.heap.size, 2, none⟩ = some (.int .i64 s'.lg) ∧ w'.cell? ⟨w.heap.size, 3, none⟩ = some (.int .i64 s'.ar) ∧ w'.cell? ⟨w.heap.size, 4, none⟩ = some (.int .i64 s'.hf) ∧ w'.cell? ⟨w.heap.size, 5, none⟩ = some (.int .i64 s'.gl) ∧ w'.cell? ⟨w.heap.size, 6, none⟩ = some (.int .i64 s'.sp) ∧ w'.cell? ⟨q1, 0, none⟩ = some (.int .i64 x.v) ∧ w'.cell? ⟨q1, 1, none⟩ = some (.int .i64 x.sn) ∧ w'.cell? ⟨q1, 2, none⟩ = some (.int .i64 x.lg) ∧ w'.cell? ⟨q1, 3, none⟩ = some (.int .i64 x.ar) ∧ w'.cell? ⟨q1, 4, none⟩ = some (.int .i64 x.hf) ∧ w'.cell? ⟨q1, 5, none⟩ = some (.int .i64 x.gl) ∧ w'.cell? ⟨q1, 6, none⟩ = some (.int .i64 x.sp) ∧ w'.cell? ⟨q2, 0, none⟩ = some (.int .i64 x.v) ∧ w'.cell? ⟨q2, 1, none⟩ = some (.int .i64 x.sn) ∧ w'.cell? ⟨q2, 2, none⟩ = some (.int .i64 x.lg) ∧ w'.cell? ⟨q2, 3, none⟩ = some (.int .i64 x.ar) ∧ w'.cell? ⟨q2, 4, none⟩ = some (.int .i64 x.hf) ∧ w'.cell? ⟨q2, 5, none⟩ = some (.int .i64 x.gl) ∧ w'.cell? ⟨q2, 6, none⟩ = some (.int .i64 x.sp) ∧ w'.cell? ⟨q3, 0, none⟩ = some (.int .u64 (y.tm : Nat)) ∧ w'.cell? ⟨q3, 1, none⟩ = some (.int .i64 y.vo) ∧ w'.cell? ⟨q3, 2, none⟩ = some (.int .u64 (y.cm : Nat)) ∧ w'.cell? ⟨q4, 0, none⟩ = some (.int .u64 (y.tm : Nat)) ∧ w'.cell? ⟨q4, 1, none⟩ = some (.int .i64 y.vo) ∧ w'.cell? ⟨q4, 2, none⟩ = some (.int .u64 (y.cm : Nat))) (first | exact ⟨a0, a1, a2, a3, a4, a5, a6, b0, b1, b2, b3, b4, b5, b6, c0, c1, c2, c3, c4, c5, c6, d0, d1, d2, e0, e1, e2⟩ | exact (Qe.all (by assumption))) (first
        | (go_at_call 12; (with_reducible refine (K12b.out _).mono ?_); rintro e v1 ⟨rfl, t1⟩; (have E1 := Ed.below t1))
        | (go_at_call 15; (with_reducible refine (K15b.out _).mono ?_); rintro e v2 ⟨rfl, t2⟩; (have E2 := E1.below t2))
        | (go_at_call 21; (with_reducible refine (K21.out _).mono ?_); rintro e v3 ⟨rfl, t3⟩; (have E3 := E2.below t3))
        | (go_at_call 12; (with_reducible refine (K12.out _).mono ?_); rintro e v4 ⟨rfl, t4⟩; (have E4 := E3.below t4))
        | (go_at_call 22; (with_reducible refine (K22.out _).mono ?_); rintro e v5 ⟨rfl, t5⟩; (have E5 := E4.below t5)))
      all_goals clear a0 a1 a2 a3 a4 a5 a6 b0 b1 b2 b3 b4 b5 b6 c0 c1 c2 c3 c4 c5 c6 d0 d1 d2 e0 e1 e2
      go_wp2_with fail
      go_ret
      exact ⟨rfl, E5.q.be⟩
end Go.Proofs.Ytdoombcihobejaa