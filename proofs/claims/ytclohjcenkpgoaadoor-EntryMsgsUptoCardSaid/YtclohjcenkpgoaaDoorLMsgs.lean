/-
  EntryMsgs, walked: true for every input whose texts are short.
  Conditions: the table of powers of ten lies as its initialiser lays it; what came in is as its types say, and short.
-/
import Derived.Test.YtclohjcenkpgoaaDoorLevels
import Derived.Test.YtclohjcenkpgoaaDoorBulkN
import Derived.Test.YtclohjcenkpgoaaDoorRMSame
import Derived.Test.YtclohjcenkpgoaaDoorRMText
import Derived.Test.YtclohjcenkpgoaaDoorRMRight
import Derived.Test.YtclohjcenkpgoaaDoorMRB01
import Derived.Test.YtclohjcenkpgoaaDoorMRB10
import Derived.Test.YtclohjcenkpgoaaDoorMRB00
namespace Go.Proofs.YtclohjcenkpgoaaDoor
open Go.RowKit
set_option linter.unusedVariables false

theorem mright_any (m : Ms) (w : World) (hE : Ents w.heap.size m.A m.n m.es w) (hn : (m.n : Int) ≤ 9223372036854775807) (hok : ∀ e ∈ m.es, e.Ok) :
    Calls Tryd.prog 24 #[mv m] w fun r w' => r = .returned (.bool (mrightB m)) ∧ Below w.heap.size w w' := by
  by_cases h1 : 1 ≤ m.frm <;> by_cases h2 : 1 ≤ m.to
  · exact mright_11 m w hE hn hok h1 h2
  · exact mright_10 m w hE hn hok h1 (by omega)
  · exact mright_01 m w hE hn hok (by omega) h2
  · exact mright_00 m w hE hn hok (by omega) (by omega)
theorem preB_self (es : List En) (k : Nat) : preB es es k = true := by
  unfold preB
  rw [List.zipWith_self, List.all_map, List.all_eq_true]
  intro e he
  exact (sameB_iff e e).2 rfl
theorem msame_self (m : Ms) : msameB m m = true := by
  unfold msameB scalB entsB
  simp [preB_self]
theorem wide_of_ok {m : Ms} (h : m.Ok) : m.Wide := by
  have h1 := h.s1
  have h2 := h.n1
  exact ⟨h.k0, h.k1, h.f0, h.f1, h.o0, h.o1, h.t0, h.t1, h.i0, h.i1, h.p0, h.p1, h.c0, h.c1, h.m0, h.m1, by omega, by omega, h.eo⟩
/-- What the law's note hands back, right or as it is. -/
structure MOut (M : Ms) (w : World) : Prop where
  ok : M.Ok
  en : Ents w.heap.size M.A M.n M.es w
theorem note_out {m : Ms} {L : List (En × Bool)} {M : Ms} {w : World} (wd : m.Wide) (h : NoteOut m L M w) : MOut M w := by
  have hn := h.n
  refine ⟨?_, h.en⟩
  have k1 := h.k1
  have k9 := h.k9
  have f1 := h.f1
  have f7 := h.f7
  have o1 := h.o1
  have o7 := h.o7
  have sn := h.sn
  exact ⟨by omega, by omega, by omega, by omega, by omega, by omega, h.t ▸ wd.t0, h.t ▸ wd.t1, h.i0, h.i1, h.p0, h.p1, h.c0, h.c1, h.m0, h.m1, by omega, by omega, fun e he => (h.es e he).1, fun e he => Nat.le_trans (h.es e he).2.2.1 (by omega), fun e he => Nat.le_trans (h.es e he).2.2.2 (by omega)⟩
theorem note_any (m : Ms) (own : Bool) (LA : Option Addr) (ln lc : Nat) (L : List (En × Bool)) (w : World) (h : NoteIn w m LA ln L) (hs : m.Short) :
    Calls Tryd.prog 21 #[nvv m own LA ln lc] w fun r w' => ∃ M, r = .returned (mv M) ∧ Hid (MOut M w') ∧ Below w.heap.size w w' := by
  cases own with
  | true =>
    refine (note_ok m LA ln lc L w h).mono fun r w' h2 => ?_
    obtain ⟨M, hr, hM, hb⟩ := h2
    exact ⟨M, hr, note_out h.wd hM.out, hb⟩
  | false =>
    refine (note_no m LA ln lc w).mono fun r w' h2 => ?_
    obtain ⟨hr, hb⟩ := h2
    have wd := h.wd
    exact ⟨m, hr, ⟨⟨wd.k0, wd.k1, wd.f0, wd.f1, wd.o0, wd.o1, wd.t0, wd.t1, wd.i0, wd.i1, wd.p0, wd.p1, wd.c0, wd.c1, wd.m0, wd.m1, hs.s, hs.n, wd.eo, hs.d, hs.o⟩, (h.en.below hb).mr hb.size⟩, hb⟩
/-- Both messages of the law lie where they lay. -/
structure Lm (w0 : World) (gx gy : Nat) (X Y : Ms) (w : World) : Prop where
  x : By gx X 38 w
  y : By gy Y 38 w
  ex : Ents w.heap.size X.A X.n X.es w
  ey : Ents w.heap.size Y.A Y.n Y.es w
  be : Below w0.heap.size w0 w
  tb : Tab w
section
variable {w0 : World} {gx gy : Nat} {X Y : Ms} {W w1 : World}
theorem Lm.on (h : Lm w0 gx gy X Y W) (hb : Below W.heap.size W w1) : Lm w0 gx gy X Y w1 := ⟨h.x.below hb, h.y.below hb, (h.ex.below hb).mr hb.size, (h.ey.below hb).mr hb.size, h.be.trans (hb.mono h.be.size), h.tb.below hb⟩
theorem Lm.drew (h : Lm w0 gx gy X Y W) : Lm w0 gx gy X Y W.drew := ⟨⟨h.x.bx⟩, ⟨h.y.bx⟩, h.ex.below (Below.refl _ W).drew, h.ey.below (Below.refl _ W).drew, h.be.drew, h.tb⟩
theorem Lm.all (h : Lm w0 gx gy X Y W) : Lm w0 gx gy X Y W ∧ W.cell? ⟨gx, 0, none⟩ = some (.int .i64 X.kind) ∧ W.cell? ⟨gx, 1, none⟩ = some (.int .i64 X.frm) ∧ W.cell? ⟨gx, 2, none⟩ = some (.int .i64 X.to) ∧ W.cell? ⟨gx, 3, none⟩ = some (.int .u64 X.term) ∧ W.cell? ⟨gx, 4, none⟩ = some (.int .u64 X.index) ∧ W.cell? ⟨gx, 5, none⟩ = some (.int .u64 X.prev) ∧ W.cell? ⟨gx, 6, none⟩ = some (.int .u64 X.commit) ∧ W.cell? ⟨gx, 7, none⟩ = some (.int .u64 X.mark) ∧ W.cell? ⟨gx, 8, none⟩ = some (.bool X.ok) ∧ W.cell? ⟨gx, 9, none⟩ = some (.slice X.A X.n X.c) ∧ W.cell? ⟨gx, 10, none⟩ = some (.string X.snap) ∧ W.cell? ⟨gy, 0, none⟩ = some (.int .i64 Y.kind) ∧ W.cell? ⟨gy, 1, none⟩ = some (.int .i64 Y.frm) ∧ W.cell? ⟨gy, 2, none⟩ = some (.int .i64 Y.to) ∧ W.cell? ⟨gy, 3, none⟩ = some (.int .u64 Y.term) ∧ W.cell? ⟨gy, 4, none⟩ = some (.int .u64 Y.index) ∧ W.cell? ⟨gy, 5, none⟩ = some (.int .u64 Y.prev) ∧ W.cell? ⟨gy, 6, none⟩ = some (.int .u64 Y.commit) ∧ W.cell? ⟨gy, 7, none⟩ = some (.int .u64 Y.mark) ∧ W.cell? ⟨gy, 8, none⟩ = some (.bool Y.ok) ∧ W.cell? ⟨gy, 9, none⟩ = some (.slice Y.A Y.n Y.c) ∧ W.cell? ⟨gy, 10, none⟩ = some (.string Y.snap) := ⟨h, h.x.cell 0, h.x.cell 1, h.x.cell 2, h.x.cell 3, h.x.cell 4, h.x.cell 5, h.x.cell 6, h.x.cell 7, h.x.cell 8, h.x.cell 9, h.x.cell 10, h.y.cell 0, h.y.cell 1, h.y.cell 2, h.y.cell 3, h.y.cell 4, h.y.cell 5, h.y.cell 6, h.y.cell 7, h.y.cell 8, h.y.cell 9, h.y.cell 10⟩
end

set_option maxRecDepth 100000 in
set_option maxHeartbeats 16000000 in
theorem lmsgs_any (m : Ms) (o : Bool) (A : Option Addr) (ln lc : Nat) (L : List (En × Bool)) (y : Ms) (q : Bool) (A' : Option Addr) (ln' lc' : Nat) (L' : List (En × Bool)) (kind : Int) (w : World) (hm : NoteIn w m A ln L) (sm : m.Short) (hy : NoteIn w y A' ln' L') (sy : y.Short) (hk : -9223372036854775808 ≤ kind ∧ kind ≤ 9223372036854775807) (ht : Tab w) :
    Calls Tryd.prog 4 #[nvv m o A ln lc, nvv y q A' ln' lc', .int .i64 kind] w fun r w' => r = .returned (.bool true) ∧ Below w.heap.size w w' := by
  obtain ⟨W0, hW0⟩ : ∃ W0, W0 = (w.alloc (Obj.cells (nvc m o A ln lc) 41)).alloc (Obj.cells (nvc y q A' ln' lc') 41) := ⟨_, rfl⟩
  have hb0 : Below w.heap.size w W0 := by rw [hW0]; exact ((Below.refl _ _).alloc (Nat.le_refl _) _).alloc (by simp) _
  have hk0 : W0.heap[w.heap.size]? = some (.cells (nvc m o A ln lc) 41 (0, 0)) := by
    rw [hW0]; exact (Lib.alloc_old _ _ _ (by simp)).trans (heap_alloc_new w _)
  have hk1 : W0.heap[w.heap.size + 1]? = some (.cells (nvc y q A' ln' lc') 41 (0, 0)) := by
    have h := heap_alloc_new (w.alloc (Obj.cells (nvc m o A ln lc) 41)) (Obj.cells (nvc y q A' ln' lc') 41)
    rw [show (w.alloc (Obj.cells (nvc m o A ln lc) 41)).heap.size = w.heap.size + 1 by simp] at h
    rw [hW0]; exact h
  have hs0 : W0.heap.size = w.heap.size + 1 + 1 := by rw [hW0]; simp
  have KE := Lib.hid (examples_any W0 (ht.below hb0))
  have KX := Lib.hid (fun (W : World) (hb : Below w.heap.size w W) => note_any m o A ln lc L W (hm.on hb) sm)
  have KY := Lib.hid (fun (W : World) (hb : Below w.heap.size w W) => note_any y q A' ln' lc' L' W (hy.on hb) sy)
  have HT := Lib.hid ht
  have HW0 := Lib.hid hW0
  have HB0 := Lib.hid hb0
  have HK0 := Lib.hid hk0
  have HK1 := Lib.hid hk1
  have HS0 := Lib.hid hs0
  clear hb0 hk0 hk1 hs0 hm sm hy sy ht hk
  go_enter Tryd.func4, Tryd.ntmps4
  go_upto_region 4 with (go_at_call 9; rw [← HW0.out]; (with_reducible refine KE.out.mono ?_); rintro r w1 ⟨rfl, hb1⟩)
  have hk0 : w1.heap[w.heap.size]? = some (.cells (nvc m o A ln lc) 41 (0, 0)) := (hb1.block _ (by have := HS0.out; omega)).trans HK0.out
  have hk1 : w1.heap[w.heap.size + 1]? = some (.cells (nvc y q A' ln' lc') 41 (0, 0)) := (hb1.block _ (by have := HS0.out; omega)).trans HK1.out
  have a0 : w1.cell? ⟨w.heap.size, 0, none⟩ = some (.int .i64 m.kind) := cell_of_row w1 _ 0 _ 41 (0, 0) hk0
  have a1 : w1.cell? ⟨w.heap.size, 1, none⟩ = some (.int .i64 m.frm) := cell_of_row w1 _ 1 _ 41 (0, 0) hk0
  have a2 : w1.cell? ⟨w.heap.size, 2, none⟩ = some (.int .i64 m.to) := cell_of_row w1 _ 2 _ 41 (0, 0) hk0
  have a3 : w1.cell? ⟨w.heap.size, 3, none⟩ = some (.int .u64 m.term) := cell_of_row w1 _ 3 _ 41 (0, 0) hk0
  have a4 : w1.cell? ⟨w.heap.size, 4, none⟩ = some (.int .u64 m.index) := cell_of_row w1 _ 4 _ 41 (0, 0) hk0
  have a5 : w1.cell? ⟨w.heap.size, 5, none⟩ = some (.int .u64 m.prev) := cell_of_row w1 _ 5 _ 41 (0, 0) hk0
  have a6 : w1.cell? ⟨w.heap.size, 6, none⟩ = some (.int .u64 m.commit) := cell_of_row w1 _ 6 _ 41 (0, 0) hk0
  have a7 : w1.cell? ⟨w.heap.size, 7, none⟩ = some (.int .u64 m.mark) := cell_of_row w1 _ 7 _ 41 (0, 0) hk0
  have a8 : w1.cell? ⟨w.heap.size, 8, none⟩ = some (.bool m.ok) := cell_of_row w1 _ 8 _ 41 (0, 0) hk0
  have a9 : w1.cell? ⟨w.heap.size, 9, none⟩ = some (.slice m.A m.n m.c) := cell_of_row w1 _ 9 _ 41 (0, 0) hk0
  have a10 : w1.cell? ⟨w.heap.size, 10, none⟩ = some (.string m.snap) := cell_of_row w1 _ 10 _ 41 (0, 0) hk0
  have a11 : w1.cell? ⟨w.heap.size, 11, none⟩ = some (.bool o) := cell_of_row w1 _ 11 _ 41 (0, 0) hk0
  have a12 : w1.cell? ⟨w.heap.size, 12, none⟩ = some (.slice A ln lc) := cell_of_row w1 _ 12 _ 41 (0, 0) hk0
  have HB1 : Hid (Below w.heap.size w w1) := HB0.out.trans (hb1.mono HB0.out.size)
  have HY1 := Lib.hid hk1
  clear hk0 hk1 hb1 hW0 HW0 KE HB0 HK0 HK1 HS0
  go_upto_region 8 with (first
    | (go_at_call 21; (with_reducible refine (KX.out _ HB1.out).mono ?_); rintro r w2 ⟨X, rfl, HMX, hb2⟩; have hbx : Below w.heap.size w (w2.alloc (Obj.cells (mc X) 38)) := ((HB1.out.trans (hb2.mono HB1.out.size)).alloc (Nat.le_trans HB1.out.size hb2.size) _); have hw2 : (w2.alloc (Obj.cells (mc X) 38)).heap[w.heap.size + 1]? = some (.cells (nvc y q A' ln' lc') 41 (0, 0)) := (Lib.alloc_old w2 _ _ (Nat.lt_of_lt_of_le (Array.getElem?_eq_some_iff.1 HY1.out).1 hb2.size)).trans ((hb2.block _ (Array.getElem?_eq_some_iff.1 HY1.out).1).trans HY1.out); have n0 : (w2.alloc (Obj.cells (mc X) 38)).cell? ⟨w.heap.size + 1, 0, none⟩ = some (.int .i64 y.kind) := cell_of_row _ _ 0 _ 41 (0, 0) hw2; have n1 : (w2.alloc (Obj.cells (mc X) 38)).cell? ⟨w.heap.size + 1, 1, none⟩ = some (.int .i64 y.frm) := cell_of_row _ _ 1 _ 41 (0, 0) hw2; have n2 : (w2.alloc (Obj.cells (mc X) 38)).cell? ⟨w.heap.size + 1, 2, none⟩ = some (.int .i64 y.to) := cell_of_row _ _ 2 _ 41 (0, 0) hw2; have n3 : (w2.alloc (Obj.cells (mc X) 38)).cell? ⟨w.heap.size + 1, 3, none⟩ = some (.int .u64 y.term) := cell_of_row _ _ 3 _ 41 (0, 0) hw2; have n4 : (w2.alloc (Obj.cells (mc X) 38)).cell? ⟨w.heap.size + 1, 4, none⟩ = some (.int .u64 y.index) := cell_of_row _ _ 4 _ 41 (0, 0) hw2; have n5 : (w2.alloc (Obj.cells (mc X) 38)).cell? ⟨w.heap.size + 1, 5, none⟩ = some (.int .u64 y.prev) := cell_of_row _ _ 5 _ 41 (0, 0) hw2; have n6 : (w2.alloc (Obj.cells (mc X) 38)).cell? ⟨w.heap.size + 1, 6, none⟩ = some (.int .u64 y.commit) := cell_of_row _ _ 6 _ 41 (0, 0) hw2; have n7 : (w2.alloc (Obj.cells (mc X) 38)).cell? ⟨w.heap.size + 1, 7, none⟩ = some (.int .u64 y.mark) := cell_of_row _ _ 7 _ 41 (0, 0) hw2; have n8 : (w2.alloc (Obj.cells (mc X) 38)).cell? ⟨w.heap.size + 1, 8, none⟩ = some (.bool y.ok) := cell_of_row _ _ 8 _ 41 (0, 0) hw2; have n9 : (w2.alloc (Obj.cells (mc X) 38)).cell? ⟨w.heap.size + 1, 9, none⟩ = some (.slice y.A y.n y.c) := cell_of_row _ _ 9 _ 41 (0, 0) hw2; have n10 : (w2.alloc (Obj.cells (mc X) 38)).cell? ⟨w.heap.size + 1, 10, none⟩ = some (.string y.snap) := cell_of_row _ _ 10 _ 41 (0, 0) hw2; have n11 : (w2.alloc (Obj.cells (mc X) 38)).cell? ⟨w.heap.size + 1, 11, none⟩ = some (.bool q) := cell_of_row _ _ 11 _ 41 (0, 0) hw2; have n12 : (w2.alloc (Obj.cells (mc X) 38)).cell? ⟨w.heap.size + 1, 12, none⟩ = some (.slice A' ln' lc') := cell_of_row _ _ 12 _ 41 (0, 0) hw2; have HBX := Lib.hid hbx; have HEX : Hid (Ents (w2.alloc (Obj.cells (mc X) 38)).heap.size X.A X.n X.es (w2.alloc (Obj.cells (mc X) 38))) := (HMX.out.en.below ((Below.refl _ w2).alloc (Nat.le_refl _) _)).mr (by simp); clear hb2 hw2 hbx)
    | (go_at_call 21; (with_reducible refine (KY.out _ HBX.out).mono ?_); rintro r w3 ⟨Y, rfl, HMY, hb3⟩; have S0 : Hid (Lm w w2.heap.size w3.heap.size X Y (w3.alloc (Obj.cells (mc Y) 38))) := ⟨⟨(Lib.alloc_old w3 _ _ (Nat.lt_of_lt_of_le (by simp) hb3.size)).trans ((hb3.block _ (by simp)).trans (heap_alloc_new w2 _))⟩, ⟨heap_alloc_new w3 _⟩, (((HEX.out.below hb3).mr hb3.size).below ((Below.refl _ w3).alloc (Nat.le_refl _) _)).mr (by simp), (HMY.out.en.below ((Below.refl _ w3).alloc (Nat.le_refl _) _)).mr (by simp), (HBX.out.trans (hb3.mono HBX.out.size)).alloc (Nat.le_trans HBX.out.size hb3.size) _, HT.out.below ((HBX.out.trans (hb3.mono HBX.out.size)).alloc (Nat.le_trans HBX.out.size hb3.size) _)⟩; clear hb3)
    | (go_at_call 22; (with_reducible refine (mfields_any kind _).mono ?_); rintro r w4 ⟨rfl, rfl⟩)
    | (go_at_call 23; (with_reducible refine (rmfields_any kind _).mono ?_); rintro r w5 ⟨rfl, hb5⟩; have S1 := Lib.hid (S0.out.on hb5); clear hb5))
  obtain ⟨gx, hgx⟩ : ∃ gx, gx = w2.heap.size := ⟨_, rfl⟩
  obtain ⟨gy, hgy⟩ : ∃ gy, gy = w3.heap.size := ⟨_, rfl⟩
  rw [← hgx, ← hgy] at S1
  rw [← hgx, ← hgy]
  clear hgx hgy a0 a1 a2 a3 a4 a5 a6 a7 a8 a9 a10 a11 a12 n0 n1 n2 n3 n4 n5 n6 n7 n8 n9 n10 n11 n12 HBX S0 HB1 HY1 KX KY HT HEX
  have okX := HMX.out.ok
  have okY := HMY.out.ok
  have nX := (wide_of_ok okX).n1
  have nY := (wide_of_ok okY).n1
  obtain ⟨rb, hrb⟩ : ∃ rb, rb = mrightB X := ⟨_, rfl⟩
  obtain ⟨lv, hlv⟩ : ∃ lv, lv = mlvl X := ⟨_, rfl⟩
  obtain ⟨TX, hTX⟩ : ∃ TX, TX = mtextS X := ⟨_, rfl⟩
  obtain ⟨sb, hsb⟩ : ∃ sb, sb = msameB X Y := ⟨_, rfl⟩
  obtain ⟨F, hF⟩ : ∃ F, F = mfl kind := ⟨_, rfl⟩
  obtain ⟨G, hG⟩ : ∃ G, G = mfb kind := ⟨_, rfl⟩
  have K24 := Lib.hid (fun (W : World) (h : Lm w gx gy X Y W) => (mright_any X W h.ex nX okX.eo).mono fun r w' ⟨h1, h2⟩ => And.intro (show r = Ending.returned (.bool rb) by rw [h1, hrb]) (h.on h2).all)
  have K25 := Lib.hid (fun (W : World) (h : Lm w gx gy X Y W) => (rmright_any X W h.ex (wide_of_ok okX)).mono fun r w' ⟨h1, h2⟩ => And.intro (show r = Ending.returned (.bool rb) by rw [h1, hrb]) (h.on h2).all)
  have K26 := Lib.hid (fun (W : World) (h : Lm w gx gy X Y W) => (mlevel_any X W h.ex nX).mono fun r w' ⟨h1, h2⟩ => And.intro (show r = Ending.returned (.int .i64 lv) by rw [h1, hlv]) (h.on h2).all)
  have K27 := Lib.hid (fun (W : World) (h : Lm w gx gy X Y W) => (rmlevel_any X W h.ex nX).mono fun r w' ⟨h1, h2⟩ => And.intro (show r = Ending.returned (.int .i64 lv) by rw [h1, hlv]) (h.on h2).all)
  have K28 := Lib.hid (fun (W : World) (h : Lm w gx gy X Y W) => (mtext_any X W okX h.ex h.tb).mono fun r w' ⟨h1, h2⟩ => And.intro (show r = Ending.returned (.string TX) by rw [h1, hTX]) (h.on h2).all)
  have K29 := Lib.hid (fun (W : World) (h : Lm w gx gy X Y W) => (rmtext_any X W okX h.ex).mono fun r w' ⟨h1, h2⟩ => And.intro (show r = Ending.returned (.string TX) by rw [h1, hTX]) (h.on h2).all)
  have K30 := Lib.hid (fun (W : World) (h : Lm w gx gy X Y W) => (msame_any X Y W h.ex h.ey nX nY).mono fun r w' ⟨h1, h2⟩ => And.intro (show r = Ending.returned (.bool sb) by rw [h1, hsb]) (h.on h2).all)
  have K31 := Lib.hid (fun (W : World) (h : Lm w gx gy X Y W) => (rmsame_any X Y W h.ex h.ey nX nY).mono fun r w' ⟨h1, h2⟩ => And.intro (show r = Ending.returned (.bool sb) by rw [h1, hsb]) (h.on h2).all)
  have K9 := Lib.hid (fun (W : World) (h : Lm w gx gy X Y W) => (msame_any X X W h.ex h.ex nX nX).mono fun r w' ⟨h1, h2⟩ => And.intro (show r = Ending.returned (.bool true) by rw [h1, msame_self X]) (h.on h2).all)
  rw [← hF, ← hG]
  have hS := S1.out
  have hSd := hS.drew
  have r0 : w5.cell? ⟨gx, 0, none⟩ = some (.int .i64 X.kind) := hS.x.cell 0
  have r1 : w5.cell? ⟨gx, 1, none⟩ = some (.int .i64 X.frm) := hS.x.cell 1
  have r2 : w5.cell? ⟨gx, 2, none⟩ = some (.int .i64 X.to) := hS.x.cell 2
  have r3 : w5.cell? ⟨gx, 3, none⟩ = some (.int .u64 X.term) := hS.x.cell 3
  have r4 : w5.cell? ⟨gx, 4, none⟩ = some (.int .u64 X.index) := hS.x.cell 4
  have r5 : w5.cell? ⟨gx, 5, none⟩ = some (.int .u64 X.prev) := hS.x.cell 5
  have r6 : w5.cell? ⟨gx, 6, none⟩ = some (.int .u64 X.commit) := hS.x.cell 6
  have r7 : w5.cell? ⟨gx, 7, none⟩ = some (.int .u64 X.mark) := hS.x.cell 7
  have r8 : w5.cell? ⟨gx, 8, none⟩ = some (.bool X.ok) := hS.x.cell 8
  have r9 : w5.cell? ⟨gx, 9, none⟩ = some (.slice X.A X.n X.c) := hS.x.cell 9
  have r10 : w5.cell? ⟨gx, 10, none⟩ = some (.string X.snap) := hS.x.cell 10
  have t0 : w5.cell? ⟨gy, 0, none⟩ = some (.int .i64 Y.kind) := hS.y.cell 0
  have t1 : w5.cell? ⟨gy, 1, none⟩ = some (.int .i64 Y.frm) := hS.y.cell 1
  have t2 : w5.cell? ⟨gy, 2, none⟩ = some (.int .i64 Y.to) := hS.y.cell 2
  have t3 : w5.cell? ⟨gy, 3, none⟩ = some (.int .u64 Y.term) := hS.y.cell 3
  have t4 : w5.cell? ⟨gy, 4, none⟩ = some (.int .u64 Y.index) := hS.y.cell 4
  have t5 : w5.cell? ⟨gy, 5, none⟩ = some (.int .u64 Y.prev) := hS.y.cell 5
  have t6 : w5.cell? ⟨gy, 6, none⟩ = some (.int .u64 Y.commit) := hS.y.cell 6
  have t7 : w5.cell? ⟨gy, 7, none⟩ = some (.int .u64 Y.mark) := hS.y.cell 7
  have t8 : w5.cell? ⟨gy, 8, none⟩ = some (.bool Y.ok) := hS.y.cell 8
  have t9 : w5.cell? ⟨gy, 9, none⟩ = some (.slice Y.A Y.n Y.c) := hS.y.cell 9
  have t10 : w5.cell? ⟨gy, 10, none⟩ = some (.string Y.snap) := hS.y.cell 10
  clear hrb hlv hTX hsb hF hG hS S1 okX okY nX nY HMX HMY
  go_region_held3 (fun w' => Lm w gx gy X Y w' ∧ w'.cell? ⟨gx, 0, none⟩ = some (.int .i64 X.kind) ∧ w'.cell? ⟨gx, 1, none⟩ = some (.int .i64 X.frm) ∧ w'.cell? ⟨gx, 2, none⟩ = some (.int .i64 X.to) ∧ w'.cell? ⟨gx, 3, none⟩ = some (.int .u64 X.term) ∧ w'.cell? ⟨gx, 4, none⟩ = some (.int .u64 X.index) ∧ w'.cell? ⟨gx, 5, none⟩ = some (.int .u64 X.prev) ∧ w'.cell? ⟨gx, 6, none⟩ = some (.int .u64 X.commit) ∧ w'.cell? ⟨gx, 7, none⟩ = some (.int .u64 X.mark) ∧ w'.cell? ⟨gx, 8, none⟩ = some (.bool X.ok) ∧ w'.cell? ⟨gx, 9, none⟩ = some (.slice X.A X.n X.c) ∧ w'.cell? ⟨gx, 10, none⟩ = some (.string X.snap) ∧ w'.cell? ⟨gy, 0, none⟩ = some (.int .i64 Y.kind) ∧ w'.cell? ⟨gy, 1, none⟩ = some (.int .i64 Y.frm) ∧ w'.cell? ⟨gy, 2, none⟩ = some (.int .i64 Y.to) ∧ w'.cell? ⟨gy, 3, none⟩ = some (.int .u64 Y.term) ∧ w'.cell? ⟨gy, 4, none⟩ = some (.int .u64 Y.index) ∧ w'.cell? ⟨gy, 5, none⟩ = some (.int .u64 Y.prev) ∧ w'.cell? ⟨gy, 6, none⟩ = some (.int .u64 Y.commit) ∧ w'.cell? ⟨gy, 7, none⟩ = some (.int .u64 Y.mark) ∧ w'.cell? ⟨gy, 8, none⟩ = some (.bool Y.ok) ∧ w'.cell? ⟨gy, 9, none⟩ = some (.slice Y.A Y.n Y.c) ∧ w'.cell? ⟨gy, 10, none⟩ = some (.string Y.snap))
    (first | exact ⟨hSd, r0, r1, r2, r3, r4, r5, r6, r7, r8, r9, r10, t0, t1, t2, t3, t4, t5, t6, t7, t8, t9, t10⟩ | (refine ⟨?_, ?_, ?_, ?_, ?_, ?_, ?_, ?_, ?_, ?_, ?_, ?_, ?_, ?_, ?_, ?_, ?_, ?_, ?_, ?_, ?_, ?_, ?_⟩ <;> assumption))
    (first
      | (go_at_call 24; (with_reducible refine (K24.out _ (by assumption)).mono ?_); rintro r w6 ⟨rfl, s5, e0, e1, e2, e3, e4, e5, e6, e7, e8, e9, e10, f0, f1, f2, f3, f4, f5, f6, f7, f8, f9, f10⟩)
      | (go_at_call 25; (with_reducible refine (K25.out _ (by assumption)).mono ?_); rintro r w6 ⟨rfl, s5, e0, e1, e2, e3, e4, e5, e6, e7, e8, e9, e10, f0, f1, f2, f3, f4, f5, f6, f7, f8, f9, f10⟩)
      | (go_at_call 26; (with_reducible refine (K26.out _ (by assumption)).mono ?_); rintro r w6 ⟨rfl, s5, e0, e1, e2, e3, e4, e5, e6, e7, e8, e9, e10, f0, f1, f2, f3, f4, f5, f6, f7, f8, f9, f10⟩)
      | (go_at_call 27; (with_reducible refine (K27.out _ (by assumption)).mono ?_); rintro r w6 ⟨rfl, s5, e0, e1, e2, e3, e4, e5, e6, e7, e8, e9, e10, f0, f1, f2, f3, f4, f5, f6, f7, f8, f9, f10⟩)
      | (go_at_call 28; (with_reducible refine (K28.out _ (by assumption)).mono ?_); rintro r w6 ⟨rfl, s5, e0, e1, e2, e3, e4, e5, e6, e7, e8, e9, e10, f0, f1, f2, f3, f4, f5, f6, f7, f8, f9, f10⟩)
      | (go_at_call 29; (with_reducible refine (K29.out _ (by assumption)).mono ?_); rintro r w6 ⟨rfl, s5, e0, e1, e2, e3, e4, e5, e6, e7, e8, e9, e10, f0, f1, f2, f3, f4, f5, f6, f7, f8, f9, f10⟩)
      | (go_at_call 30; (with_reducible refine (K30.out _ (by assumption)).mono ?_); rintro r w6 ⟨rfl, s5, e0, e1, e2, e3, e4, e5, e6, e7, e8, e9, e10, f0, f1, f2, f3, f4, f5, f6, f7, f8, f9, f10⟩)
      | (go_at_call 30; (with_reducible refine (K9.out _ (by assumption)).mono ?_); rintro r w6 ⟨rfl, s5, e0, e1, e2, e3, e4, e5, e6, e7, e8, e9, e10, f0, f1, f2, f3, f4, f5, f6, f7, f8, f9, f10⟩)
      | (go_at_call 31; (with_reducible refine (K31.out _ (by assumption)).mono ?_); rintro r w6 ⟨rfl, s5, e0, e1, e2, e3, e4, e5, e6, e7, e8, e9, e10, f0, f1, f2, f3, f4, f5, f6, f7, f8, f9, f10⟩))
  all_goals
    rename_i hk
    have hbe := hk.1.be
    clear hk
    go_wp2
    go_ret
    exact ⟨rfl, hbe⟩
end Go.Proofs.YtclohjcenkpgoaaDoor
