/-
  The examples of the laws: they hold.
  Conditions: none.
-/
import Derived.Test.YtmencfmjmbbfhaaDoorLSm
import Derived.Test.YtmencfmjmbbfhaaDoorLTx
import Derived.Test.YtmencfmjmbbfhaaDoorLAp1
import Derived.Test.YtmencfmjmbbfhaaDoorLAp2
import Derived.Test.YtmencfmjmbbfhaaDoorLAp3
import Derived.Test.YtmencfmjmbbfhaaDoorEM
import Derived.Deep.RegionHeld3
namespace Go.Proofs.YtmencfmjmbbfhaaDoor
open Go.RowKit
set_option linter.unusedVariables false
set_option linter.unusedSimpArgs false
/-- A config in a box. -/
structure Bx (p b1 c1 b2 c2 : Nat) (c : Cf) (W : World) : Prop where
  bx : W.heap[p]? = some (.cells (cvc b1 c1 b2 c2 c) 25 (0, 0))
  m : Rw W b1 c1 c.m
  h : Rw W b2 c2 c.h
theorem Bx.lt {p b1 c1 b2 c2 : Nat} {c : Cf} {W : World} (h : Bx p b1 c1 b2 c2 c W) : p < W.heap.size := (Array.getElem?_eq_some_iff.1 h.bx).1
theorem Bx.below {p b1 c1 b2 c2 : Nat} {c : Cf} {W W' : World} (h : Bx p b1 c1 b2 c2 c W) (hb : Below W.heap.size W W') : Bx p b1 c1 b2 c2 c W' := ⟨(hb.block _ h.lt).trans h.bx, h.m.belowS hb, h.h.belowS hb⟩
theorem Bx.at {p b1 c1 b2 c2 : Nat} {c : Cf} {W W' : World} (h : Bx p b1 c1 b2 c2 c W) (he : W'.heap = W.heap) : Bx p b1 c1 b2 c2 c W' := ⟨by rw [he]; exact h.bx, h.m.at (by rw [he]), h.h.at (by rw [he])⟩
theorem Bx.cells {p b1 c1 b2 c2 : Nat} {c : Cf} {W : World} (h : Bx p b1 c1 b2 c2 c W) : W.cell? ⟨p, 0, none⟩ = some (.slice (some ⟨b1, 0, none⟩) c.m.length c1) ∧ W.cell? ⟨p, 1, none⟩ = some (.slice (some ⟨b2, 0, none⟩) c.h.length c2) ∧ W.cell? ⟨p, 2, none⟩ = some (.int .i64 c.l) ∧ W.cell? ⟨p, 3, none⟩ = some (.bool c.f) :=
  ⟨cell_of_row W _ 0 _ 25 (0, 0) h.bx, cell_of_row W _ 1 _ 25 (0, 0) h.bx, cell_of_row W _ 2 _ 25 (0, 0) h.bx, cell_of_row W _ 3 _ 25 (0, 0) h.bx⟩
theorem bS {w W W' : World} (h : Below w.heap.size w W) (hb : Below W.heap.size W W') : Below w.heap.size w W' := h.trans (hb.mono h.size)
/-- A value stored into a new box. -/
theorem bx_new {w : World} (s : Array Value) : ((w.alloc (.cells zc 25)).setRow w.heap.size s).heap[w.heap.size]? = some (.cells s 25 (0, 0)) ∧ Below w.heap.size w ((w.alloc (.cells zc 25)).setRow w.heap.size s) := by
  obtain ⟨q1, q2⟩ := setRow_box (s := s) (heap_alloc_new w (.cells zc 25))
  have hbb : Below w.heap.size w (w.alloc (.cells zc 25)) := (Below.refl _ w).alloc (Nat.le_refl _) _
  exact ⟨q1, hbb.grown q2 hbb.size (fun j e => by cases e; exact Nat.le_refl _)⟩
theorem bx_cf {w : World} {b1 c1 b2 c2 : Nat} {c : Cf} (hm : Rw w b1 c1 c.m) (hh : Rw w b2 c2 c.h) : Bx w.heap.size b1 c1 b2 c2 c ((w.alloc (.cells zc 25)).setRow w.heap.size (cvc b1 c1 b2 c2 c)) :=
  ⟨(bx_new _).1, hm.belowS (bx_new _).2, hh.belowS (bx_new _).2⟩
def eUp : En := ⟨1, 1, 8, 0, 0, 0, 0, 0, 0, ⟨#[]⟩, ⟨#[]⟩⟩
theorem eUp_right : rightB eUp = true := by kernel_rfl
theorem eUp_ok : eUp.Ok := by
  unfold eUp
  constructor <;> decide
theorem text212 : textC ⟨[1, 2], [1, 1], 1, false⟩ = ⟨#[49, 58, 49, 32, 50, 58, 49, 32, 108, 101, 118, 101, 108, 32, 49]⟩ := by kernel_rfl
theorem r212 : RightC ⟨[1, 2], [1, 1], 1, false⟩ := (rightC_iff _).1 (by kernel_rfl)
/-- After the three calls. -/
def Ep (w : World) (p1 b1 c1 b2 c2 p5 d1 e1 d2 e2 : Nat) (c : Cf) (W : World) : Prop := Bx p1 b1 c1 b2 c2 c W ∧ Bx p5 d1 e1 d2 e2 c W ∧ Below w.heap.size w W
theorem Ep.below {w W W' : World} {p1 b1 c1 b2 c2 p5 d1 e1 d2 e2 : Nat} {c : Cf} (h : Ep w p1 b1 c1 b2 c2 p5 d1 e1 d2 e2 c W) (hb : Below W.heap.size W W') : Ep w p1 b1 c1 b2 c2 p5 d1 e1 d2 e2 c W' := ⟨h.1.below hb, h.2.1.below hb, bS h.2.2 hb⟩
set_option maxHeartbeats 4000000 in
set_option maxRecDepth 100000 in
theorem examples_any (w : World) : Calls Tryd.prog 7 #[] w fun r w' => r = .returned (.bool true) ∧ Below w.heap.size w w' := by
  obtain ⟨C0, hC0⟩ : ∃ C0 : Cf, C0 = ⟨[1, 2], [1, 1], 1, false⟩ := ⟨_, rfl⟩
  have hR : RightC C0 := by rw [hC0]; exact r212
  have K8 : Hid (Calls Tryd.prog 8 #[.slice (some ⟨w.heap.size, 0, none⟩) 3 3] (w.alloc (.cells #[.int .i64 2, .int .i64 1, .int .i64 2] 3)) fun r W' => ∃ b1 c1 b2 c2, r = .returned (.tuple #[cvl b1 c1 b2 c2 C0, .bool true]) ∧ Hid (Rw W' b1 c1 C0.m ∧ Rw W' b2 c2 C0.h ∧ Below w.heap.size w W')) := by
    have hx : Rw (w.alloc (.cells #[.int .i64 2, .int .i64 1, .int .i64 2] 3)) w.heap.size 3 [2, 1, 2] := ⟨⟨_, heap_alloc_new w _, rfl, fun j x hj => by
      have : j < 3 := (List.getElem?_eq_some_iff.1 hj).1
      match j, this with
      | 0, _ => cases hj; rfl
      | 1, _ => cases hj; rfl
      | 2, _ => cases hj; rfl⟩, by simp, by unfold maxLen; omega⟩
    have hbb : Below w.heap.size w (w.alloc (.cells #[.int .i64 2, .int .i64 1, .int .i64 2] 3)) := (Below.refl _ w).alloc (Nat.le_refl _) _
    have h := new_yes (zs := [2, 1, 2]) hx (by simp) (by simp) (by rw [newC_212]; exact r212)
    rw [newC_212, ← hC0] at h
    refine h.mono ?_
    rintro r W' ⟨b1, c1, b2, c2, rfl, h1, h2, _, _, _, h3⟩
    exact ⟨b1, c1, b2, c2, rfl, h1, h2, bS hbb h3⟩
  have K8n : Hid (∀ W, Calls Tryd.prog 8 #[.slice none 0 0] W fun r W' => r = .returned (.tuple #[.agg zc, .bool false]) ∧ Below W.heap.size W W') := fun W => new_nil W
  have K10 : Hid (∀ (W : World) (p b1 c1 b2 c2 : Nat), Bx p b1 c1 b2 c2 C0 W → Calls Tryd.prog 10 #[cvl b1 c1 b2 c2 C0, .agg #[.int .u64 1, .int .u64 1, .int .i64 8, .int .u64 0, .int .u64 0, .int .u64 0, .int .u64 0, .int .i64 0, .int .i64 0, .string ⟨#[]⟩, .string ⟨#[]⟩]] W fun r W' => ∃ d1 e1 d2 e2, r = .returned (.tuple #[cvl d1 e1 d2 e2 C0, .int .i64 8]) ∧ Hid (Rw W' d1 e1 C0.m ∧ Rw W' d2 e2 C0.h ∧ Below W.heap.size W W')) := by
    intro W p b1 c1 b2 c2 hB
    have h := apply_8 (e := eUp) hB.m hB.h hR eUp_ok eUp_right rfl
    have hu : upC C0 = (C0, 8) := by rw [hC0]; kernel_rfl
    rw [hu] at h
    refine h.mono ?_
    rintro r W' ⟨d1, e1, d2, e2, rfl, h1, h2, _, _, _, h3⟩
    exact ⟨d1, e1, d2, e2, rfl, h1, h2, h3⟩
  have K13 : Hid (∀ (W : World) (b1 c1 b2 c2 : Nat) (p1 p5 d1 e1 d2 e2 : Nat), Ep w p1 b1 c1 b2 c2 p5 d1 e1 d2 e2 C0 W → Calls Tryd.prog 13 #[cvl b1 c1 b2 c2 C0] W fun r W' => r = .returned (.string ⟨#[49, 58, 49, 32, 50, 58, 49, 32, 108, 101, 118, 101, 108, 32, 49]⟩) ∧ Ep w p1 b1 c1 b2 c2 p5 d1 e1 d2 e2 C0 W') := by
    intro W b1 c1 b2 c2 p1 p5 d1 e1 d2 e2 h
    refine (text_any h.1.m h.1.h hR).mono ?_
    rintro r W' ⟨rfl, hb⟩
    refine ⟨?_, h.below hb⟩
    rw [hC0, text212]
  have K13' : Hid (∀ (W : World) (b1 c1 b2 c2 : Nat) (p1 p5 d1 e1 d2 e2 : Nat), Ep w p1 b1 c1 b2 c2 p5 d1 e1 d2 e2 C0 W → Calls Tryd.prog 13 #[cvl d1 e1 d2 e2 C0] W fun r W' => r = .returned (.string ⟨#[49, 58, 49, 32, 50, 58, 49, 32, 108, 101, 118, 101, 108, 32, 49]⟩) ∧ Ep w p1 b1 c1 b2 c2 p5 d1 e1 d2 e2 C0 W') := by
    intro W b1 c1 b2 c2 p1 p5 d1 e1 d2 e2 h
    refine (text_any h.2.1.m h.2.1.h hR).mono ?_
    rintro r W' ⟨rfl, hb⟩
    refine ⟨?_, h.below hb⟩
    rw [hC0, text212]
  have K12 : Hid (∀ (W : World) (b1 c1 b2 c2 : Nat) (p1 p5 d1 e1 d2 e2 : Nat), Ep w p1 b1 c1 b2 c2 p5 d1 e1 d2 e2 C0 W → Calls Tryd.prog 12 #[cvl b1 c1 b2 c2 C0, .int .i64 2] W fun r W' => r = .returned (.bool true) ∧ Ep w p1 b1 c1 b2 c2 p5 d1 e1 d2 e2 C0 W') := by
    intro W b1 c1 b2 c2 p1 p5 d1 e1 d2 e2 h
    refine (has_any b1 c1 b2 c2 C0 2 W h.1.m (by rw [hC0]; simp)).mono ?_
    rintro r W' ⟨rfl, hb⟩
    refine ⟨?_, h.below hb⟩
    rw [hC0]; rfl
  have K14 : Hid (∀ (W : World) (b1 c1 b2 c2 : Nat) (p1 p5 d1 e1 d2 e2 : Nat), Ep w p1 b1 c1 b2 c2 p5 d1 e1 d2 e2 C0 W → Calls Tryd.prog 14 #[cvl b1 c1 b2 c2 C0] W fun r W' => r = .returned (.int .i64 2) ∧ Ep w p1 b1 c1 b2 c2 p5 d1 e1 d2 e2 C0 W') := by
    intro W b1 c1 b2 c2 p1 p5 d1 e1 d2 e2 h
    refine (quorum_any b1 c1 b2 c2 C0 W (by rw [hC0]; simp)).mono ?_
    rintro r W' ⟨rfl, hb⟩
    refine ⟨?_, h.below hb⟩
    rw [hC0]; rfl
  have K11 : Hid (∀ (W : World) (b1 c1 b2 c2 : Nat) (p1 p5 d1 e1 d2 e2 : Nat), Ep w p1 b1 c1 b2 c2 p5 d1 e1 d2 e2 C0 W → Calls Tryd.prog 11 #[cvl b1 c1 b2 c2 C0, .int .i64 1] W fun r W' => r = .returned (.bool true) ∧ Ep w p1 b1 c1 b2 c2 p5 d1 e1 d2 e2 C0 W') := by
    intro W b1 c1 b2 c2 p1 p5 d1 e1 d2 e2 h
    refine (may_any b1 c1 b2 c2 C0 1 W).mono ?_
    rintro r W' ⟨rfl, hb⟩
    refine ⟨?_, h.below hb⟩
    rw [hC0]; rfl
  have K11' : Hid (∀ (W : World) (b1 c1 b2 c2 : Nat) (p1 p5 d1 e1 d2 e2 : Nat), Ep w p1 b1 c1 b2 c2 p5 d1 e1 d2 e2 C0 W → Calls Tryd.prog 11 #[cvl b1 c1 b2 c2 C0, .int .i64 2] W fun r W' => r = .returned (.bool false) ∧ Ep w p1 b1 c1 b2 c2 p5 d1 e1 d2 e2 C0 W') := by
    intro W b1 c1 b2 c2 p1 p5 d1 e1 d2 e2 h
    refine (may_any b1 c1 b2 c2 C0 2 W).mono ?_
    rintro r W' ⟨rfl, hb⟩
    refine ⟨?_, h.below hb⟩
    rw [hC0]; rfl
  have HC := Lib.hid hC0
  clear hR hC0
  go_enter Tryd.func7, Tryd.ntmps7
  go_upto_region 2 with (first
    | (go_at_call 8; refine K8.out.mono ?_; rintro r w1 ⟨b1, c1, b2, c2, rfl, H1⟩; have hnew1 := heap_alloc_new w1 (.cells zc 25))
    | (refine wpList_store_cf rfl _ _ rfl _ w1.heap.size (cvc b1 c1 b2 c2 C0) zc rfl (by simp [Value.oneCell']) rfl rfl hnew1 rfl ?_))
  obtain ⟨p1, hp1⟩ : ∃ p1, p1 = w1.heap.size := ⟨_, rfl⟩
  obtain ⟨w2, hw2⟩ : ∃ w2, w2 = (w1.alloc (.cells zc 25)).setRow w1.heap.size (cvc b1 c1 b2 c2 C0) := ⟨_, rfl⟩
  have H2 : Hid (Bx p1 b1 c1 b2 c2 C0 w2 ∧ Below w.heap.size w w2) := by
    obtain ⟨h1, h2, h3⟩ := H1
    rw [hp1, hw2]
    exact ⟨bx_cf h1 h2, bS h3 (bx_new _).2⟩
  have HW2 := Lib.hid hw2
  have HP1 := Lib.hid hp1
  clear hw2 hp1 hnew1 K8
  rw [← HP1.out]
  refine wp_at (w := w2) (by rw [HW2.out, HP1.out]) ?_
  clear H1
  go_upto_region 3 with (first
    | (go_at_call 8; refine (K8n.out _).mono ?_; rintro r w3 ⟨rfl, hb3⟩; have hnew3 := heap_alloc_new w3 (.cells zc 25))
    | (refine wpList_store_cf rfl _ _ rfl _ w3.heap.size zc zc rfl (by simp [Value.oneCell']) rfl rfl hnew3 rfl ?_))
  obtain ⟨w4, hw4⟩ : ∃ w4, w4 = (w3.alloc (.cells zc 25)).setRow w3.heap.size zc := ⟨_, rfl⟩
  have H4 : Hid (Bx p1 b1 c1 b2 c2 C0 w4 ∧ Below w.heap.size w w4) := by
    obtain ⟨h1, h2⟩ := H2
    rw [hw4]
    exact ⟨(h1.below hb3).below (bx_new _).2, bS (bS h2 hb3) (bx_new _).2⟩
  have HW4 := Lib.hid hw4
  clear hw4 hnew3 K8n hb3 H2
  refine wp_at (w := w4) (by rw [HW4.out]) ?_
  have hx4 := H4.1.bx
  go_upto_region 4 with (first
    | (refine wpList_load_cf rfl _ rfl _ p1 (cvc b1 c1 b2 c2 C0) rfl rfl hx4 ?_)
    | (go_at_call 10; refine (K10.out _ _ _ _ _ _ H4.1).mono ?_; rintro r w5 ⟨d1, e1, d2, e2, rfl, H5⟩; have hnew5 := heap_alloc_new w5 (.cells zc 25))
    | (refine wpList_store_cf rfl _ _ rfl _ w5.heap.size (cvc d1 e1 d2 e2 C0) zc rfl (by simp [Value.oneCell']) rfl rfl hnew5 rfl ?_))
  obtain ⟨p5, hp5⟩ : ∃ p5, p5 = w5.heap.size := ⟨_, rfl⟩
  obtain ⟨w6, hw6⟩ : ∃ w6, w6 = (w5.alloc (.cells zc 25)).setRow w5.heap.size (cvc d1 e1 d2 e2 C0) := ⟨_, rfl⟩
  have H6 : Ep w p1 b1 c1 b2 c2 p5 d1 e1 d2 e2 C0 w6 := by
    obtain ⟨h1, h2, h3⟩ := H5
    rw [hp5, hw6]
    exact ⟨(H4.1.below h3).below (bx_new _).2, bx_cf h1 h2, bS (bS H4.2 h3) (bx_new _).2⟩
  have HW6 := Lib.hid hw6
  have HP5 := Lib.hid hp5
  clear hw6 hp5 hnew5 K10 hx4 H4
  rw [← HP5.out]
  refine wp_at (w := w6) (by rw [HW6.out, HP5.out]) ?_
  clear H5
  have H6d : Ep w p1 b1 c1 b2 c2 p5 d1 e1 d2 e2 C0 w6.drew := ⟨H6.1.at rfl, H6.2.1.at rfl, H6.2.2.drew⟩
  have G1 : Hid (∀ Z, Ep w p1 b1 c1 b2 c2 p5 d1 e1 d2 e2 C0 Z → (Z.cell? ⟨p1, 0, none⟩ = some (.slice (some ⟨b1, 0, none⟩) C0.m.length c1) ∧ Z.cell? ⟨p1, 1, none⟩ = some (.slice (some ⟨b2, 0, none⟩) C0.h.length c2) ∧ Z.cell? ⟨p1, 2, none⟩ = some (.int .i64 C0.l) ∧ Z.cell? ⟨p1, 3, none⟩ = some (.bool C0.f)) ∧ Z.cell? ⟨p5, 0, none⟩ = some (.slice (some ⟨d1, 0, none⟩) C0.m.length e1) ∧ Z.cell? ⟨p5, 1, none⟩ = some (.slice (some ⟨d2, 0, none⟩) C0.h.length e2) ∧ Z.cell? ⟨p5, 2, none⟩ = some (.int .i64 C0.l) ∧ Z.cell? ⟨p5, 3, none⟩ = some (.bool C0.f)) := fun Z h => ⟨h.1.cells, h.2.1.cells⟩
  clear H6
  go_region_held3 (fun Z => (Z.cell? ⟨p1, 0, none⟩ = some (.slice (some ⟨b1, 0, none⟩) C0.m.length c1) ∧ Z.cell? ⟨p1, 1, none⟩ = some (.slice (some ⟨b2, 0, none⟩) C0.h.length c2) ∧ Z.cell? ⟨p1, 2, none⟩ = some (.int .i64 C0.l) ∧ Z.cell? ⟨p1, 3, none⟩ = some (.bool C0.f)) ∧ Z.cell? ⟨p5, 0, none⟩ = some (.slice (some ⟨d1, 0, none⟩) C0.m.length e1) ∧ Z.cell? ⟨p5, 1, none⟩ = some (.slice (some ⟨d2, 0, none⟩) C0.h.length e2) ∧ Z.cell? ⟨p5, 2, none⟩ = some (.int .i64 C0.l) ∧ Z.cell? ⟨p5, 3, none⟩ = some (.bool C0.f)) (first | exact G1.out _ H6d | exact G1.out _ (by assumption)) (first
    | (go_at_call 13; (with_reducible refine (K13.out _ _ _ _ _ _ _ _ _ _ _ (by assumption)).mono ?_); rintro r y ⟨rfl, Q⟩)
    | (go_at_call 13; (with_reducible refine (K13'.out _ _ _ _ _ _ _ _ _ _ _ (by assumption)).mono ?_); rintro r y ⟨rfl, Q⟩)
    | (go_at_call 12; (with_reducible refine (K12.out _ _ _ _ _ _ _ _ _ _ _ (by assumption)).mono ?_); rintro r y ⟨rfl, Q⟩)
    | (go_at_call 14; (with_reducible refine (K14.out _ _ _ _ _ _ _ _ _ _ _ (by assumption)).mono ?_); rintro r y ⟨rfl, Q⟩)
    | (go_at_call 11; (with_reducible refine (K11.out _ _ _ _ _ _ _ _ _ _ _ (by assumption)).mono ?_); rintro r y ⟨rfl, Q⟩)
    | (go_at_call 11; (with_reducible refine (K11'.out _ _ _ _ _ _ _ _ _ _ _ (by assumption)).mono ?_); rintro r y ⟨rfl, Q⟩))
  all_goals
    go_wp2
    go_ret
    exact ⟨rfl, Q.2.2⟩
end Go.Proofs.YtmencfmjmbbfhaaDoor
