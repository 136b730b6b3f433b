/-
  What each kind does to a config behind a pointer: upgrade, lower, finalise, register.
  Conditions: the config is right.
-/
import Derived.Test.YtmencfmjmbbfhaaDoorLS1
import Derived.Test.YtmencfmjmbbfhaaDoorRight
namespace Go.Proofs.YtmencfmjmbbfhaaDoor
open Go.RowKit
set_option linter.unusedVariables false
set_option linter.unusedSimpArgs false
theorem Cx.set {B g bm cm bh ch : Nat} {c : Cf} {W : World} (h : Cx B g bm cm bh ch c W) (i : Nat) (u : Value) (c' : Cf) (he : (cvc bm cm bh ch c).setIfInBounds i u = cvc bm cm bh ch c') (hm : c'.m = c.m) (hh : c'.h = c.h) : Cx B g bm cm bh ch c' (W.setCell ⟨g, i, none⟩ u) := by
  have hg : W.grownBy (W.setCell ⟨g, i, none⟩ u) (some g) := grownBy_set u
  have h1 := heap_setCell_row h.bx i u
  rw [he] at h1
  exact ⟨h1, by rw [hm]; exact h.m.grown hg (fun e => h.gm (by cases e; rfl)), by rw [hh]; exact h.h.grown hg (fun e => h.gh (by cases e; rfl)), h.lg, h.lm, h.lh, h.ne⟩
theorem boxedE (w : World) (e : En) : ∃ W0, W0 = w.alloc (.cells (ec e) 31) ∧ Below w.heap.size w W0 ∧ W0.heap[w.heap.size]? = some (.cells (ec e) 31 (0, 0)) := ⟨_, rfl, (Below.refl _ w).alloc (Nat.le_refl _) _, heap_alloc_new w _⟩
/-- Other configs in boxes stay. -/
def K25 (g : Nat) (w W : World) : Prop := ∀ (R : Nat) (cs : Array Value), R ≠ g → w.heap[R]? = some (.cells cs 25 (0, 0)) → W.heap[R]? = some (.cells cs 25 (0, 0))
theorem K25.below {g : Nat} {w W : World} (h : Below w.heap.size w W) : K25 g w W := fun R cs _ hR => (h.block R (Array.getElem?_eq_some_iff.1 hR).1).trans hR
theorem K25.trans {g : Nat} {w W W' : World} (h : K25 g w W) (h2 : K25 g W W') : K25 g w W' := fun R cs hn hR => h2 R cs hn (h R cs hn hR)
theorem K25.heap {g : Nat} {w W W' : World} (h : K25 g w W) (he : W'.heap = W.heap) : K25 g w W' := fun R cs hn hR => by rw [he]; exact h R cs hn hR
theorem K25.set {g : Nat} {w W : World} (h : K25 g w W) (i : Nat) (v : Value) : K25 g w (W.setCell ⟨g, i, none⟩ v) := fun R cs hn hR => by
  have hg : W.grownBy (W.setCell ⟨g, i, none⟩ v) (some g) := grownBy_set v
  have h1 := h R cs hn hR
  exact (hg.block R (Array.getElem?_eq_some_iff.1 h1).1 (fun e => hn (by cases e; rfl))).trans h1
theorem K25.row {g b cap : Nat} {l : List Int} {w W W' : World} (h : K25 g w W) (hr : Rw W b cap l) (hg : W.grownBy W' (some b)) : K25 g w W' := fun R cs hn hR => by
  have h1 := h R cs hn hR
  refine (hg.block R (Array.getElem?_eq_some_iff.1 h1).1 (fun e => ?_)).trans h1
  obtain ⟨cur, h2, _⟩ := hr.ex
  cases e
  rw [h1] at h2; cases h2
/-- What a method leaves. -/
def Md1 (B g : Nat) (d : Cf × Int) (w : World) (r : Ending) (w' : World) : Prop := r = .returned (.int .i64 d.2) ∧ (∃ bm cm bh ch, Cx B g bm cm bh ch d.1 w') ∧ Below B w w' ∧ K25 g w w'
section
variable {B g bm cm bh ch : Nat} {c : Cf}
set_option maxHeartbeats 2000000 in
set_option maxRecDepth 100000 in
theorem lower_any (e : En) (w : World) (h : Cx B g bm cm bh ch c w) (hB : B ≤ w.heap.size) :
    Calls Tryd.prog 50 #[.pointer (some ⟨g, 0, none⟩), ev e] w (Md1 B g (lowC c) w) := by
  obtain ⟨W0, hW0, hb, _⟩ := boxedE w e
  have h0 := h.below hb
  have a2 : W0.cell? ⟨g, 2, none⟩ = some (.int .i64 c.l) := h0.cell 2
  have a3 : W0.cell? ⟨g, 3, none⟩ = some (.bool c.f) := h0.cell 3
  have f2 := h0.fz 2
  have HC := Lib.hid h0
  have HB := Lib.hid (hb.mono hB)
  have H25 : Hid (K25 g w W0) := K25.below hb
  have HW := Lib.hid hW0
  clear h h0 hb hW0
  unfold Md1 lowC
  by_cases h1 : c.l = 1
  · have e1 : (c.l == 1) = true := by rw [h1]; rfl
    rw [if_pos e1]
    clear h1
    go_enter Tryd.func50, Tryd.ntmps50
    go_upto_region 1 with fail
    rw [← HW.out]
    go_wp2
    go_ret
    exact ⟨rfl, ⟨_, _, _, _, HC.out⟩, HB.out, H25.out⟩
  · have e1 : (c.l == 1) = false := by simpa using h1
    rw [if_neg (by rw [e1]; simp)]
    clear h1
    cases h2 : c.f
    · rw [h2] at a3
      rw [if_neg (by simp)]
      have HF := Lib.hid h2
      clear h2
      go_enter Tryd.func50, Tryd.ntmps50
      go_upto_region 1 with fail
      rw [← HW.out]
      go_wp2
      go_ret
      exact ⟨rfl, ⟨_, _, _, _, HC.out.set 2 _ _ (by unfold cvc; rw [HF.out]; rfl) rfl rfl⟩, HB.out.setCell (p := ⟨g, 2, none⟩) HC.out.lg _, H25.out.set _ _⟩
    · rw [h2] at a3
      rw [if_pos rfl]
      have HF := Lib.hid h2
      clear h2
      go_enter Tryd.func50, Tryd.ntmps50
      go_upto_region 1 with fail
      rw [← HW.out]
      go_wp2
      go_ret
      exact ⟨rfl, ⟨_, _, _, _, HC.out⟩, HB.out, H25.out⟩
set_option maxHeartbeats 2000000 in
set_option maxRecDepth 100000 in
theorem finalise_any (e : En) (w : World) (h : Cx B g bm cm bh ch c w) (hB : B ≤ w.heap.size) :
    Calls Tryd.prog 51 #[.pointer (some ⟨g, 0, none⟩), ev e] w (Md1 B g (finC c) w) := by
  obtain ⟨W0, hW0, hb, _⟩ := boxedE w e
  have h0 := h.below hb
  have a2 : W0.cell? ⟨g, 2, none⟩ = some (.int .i64 c.l) := h0.cell 2
  have a3 : W0.cell? ⟨g, 3, none⟩ = some (.bool c.f) := h0.cell 3
  have f2 := h0.fz 3
  have HC := Lib.hid h0
  have HB := Lib.hid (hb.mono hB)
  have H25 : Hid (K25 g w W0) := K25.below hb
  have HW := Lib.hid hW0
  clear h h0 hb hW0
  unfold Md1 finC
  by_cases h1 : c.l = 1
  · have e1 : (c.l == 1) = true := by rw [h1]; rfl
    rw [if_pos e1]
    clear h1
    go_enter Tryd.func51, Tryd.ntmps51
    go_upto_region 1 with fail
    rw [← HW.out]
    go_wp2
    go_ret
    exact ⟨rfl, ⟨_, _, _, _, HC.out⟩, HB.out, H25.out⟩
  · have e1 : (c.l == 1) = false := by simpa using h1
    rw [if_neg (by rw [e1]; simp)]
    clear h1
    cases h2 : c.f
    · rw [h2] at a3
      rw [if_neg (by simp)]
      have HF := Lib.hid h2
      clear h2
      go_enter Tryd.func51, Tryd.ntmps51
      go_upto_region 1 with fail
      rw [← HW.out]
      go_wp2
      go_ret
      exact ⟨rfl, ⟨_, _, _, _, HC.out.set 3 _ _ (by unfold cvc; rw [HF.out]; rfl) rfl rfl⟩, HB.out.setCell (p := ⟨g, 3, none⟩) HC.out.lg _, H25.out.set _ _⟩
    · rw [h2] at a3
      rw [if_pos rfl]
      have HF := Lib.hid h2
      clear h2
      go_enter Tryd.func51, Tryd.ntmps51
      go_upto_region 1 with fail
      rw [← HW.out]
      go_wp2
      go_ret
      exact ⟨rfl, ⟨_, _, _, _, HC.out⟩, HB.out, H25.out⟩
set_option maxHeartbeats 2000000 in
set_option maxRecDepth 100000 in
theorem upgrade_any (e : En) (w : World) (h : Cx B g bm cm bh ch c w) (hB : B ≤ w.heap.size) (hn : c.h.length ≤ 1099511627776) :
    Calls Tryd.prog 49 #[.pointer (some ⟨g, 0, none⟩), ev e] w (Md1 B g (upC c) w) := by
  obtain ⟨W0, hW0, hb, _⟩ := boxedE w e
  have h0 := h.below hb
  have a2 : W0.cell? ⟨g, 2, none⟩ = some (.int .i64 c.l) := h0.cell 2
  have a1 : W0.cell? ⟨g, 1, none⟩ = some (.slice (some ⟨bh, 0, none⟩) c.h.length ch) := h0.cell 1
  have K := Tryd.slices_Contains (Value.int .i64) (fun x y => x == y) (EqlAt.int _ _ _) bh 0 c.h.length ch c.h 1 W0 (Nat.le_refl _) (by omega) (fun j hj => by rw [h0.h.getD j hj]; simp [hj])
  rw [show (c.h.take c.h.length).any (fun y => (1 : Int) == y) = c.h.contains 1 from by rw [List.take_length]; rw [List.contains_eq_any_beq]] at K
  obtain ⟨V, hV⟩ : ∃ V, V = c.h.contains 1 := ⟨_, rfl⟩
  rw [← hV] at K
  have f2 := h0.fz 2
  have HC := Lib.hid h0
  have HB := Lib.hid (hb.mono hB)
  have H25 : Hid (K25 g w W0) := K25.below hb
  have HW := Lib.hid hW0
  unfold Md1 upC
  rw [← hV]
  clear h h0 hb hW0 hV
  by_cases h1 : c.l = 2
  · have e1 : (c.l == 2) = true := by rw [h1]; rfl
    rw [if_pos e1]
    clear h1 K
    go_enter Tryd.func49, Tryd.ntmps49
    go_upto_region 1 with fail
    rw [← HW.out]
    go_wp2
    go_ret
    exact ⟨rfl, ⟨_, _, _, _, HC.out⟩, HB.out, H25.out⟩
  · have e1 : (c.l == 2) = false := by simpa using h1
    rw [if_neg (by rw [e1]; simp)]
    clear h1
    cases V
    · have KA := Lib.hid K
      clear K
      rw [if_neg (by simp)]
      go_enter Tryd.func49, Tryd.ntmps49
      go_upto_region 1 with fail
      rw [← HW.out]
      go_wp2_with (go_at_call 27; refine KA.out.mono ?_; rintro e w' ⟨rfl, rfl⟩)
      go_ret
      exact ⟨rfl, ⟨_, _, _, _, HC.out.set 2 _ _ rfl rfl rfl⟩, HB.out.setCell (p := ⟨g, 2, none⟩) HC.out.lg _, H25.out.set _ _⟩
    · have KA := Lib.hid K
      clear K
      rw [if_pos rfl]
      go_enter Tryd.func49, Tryd.ntmps49
      go_upto_region 1 with fail
      rw [← HW.out]
      go_wp2_with (go_at_call 27; refine KA.out.mono ?_; rintro e w' ⟨rfl, rfl⟩)
      go_ret
      exact ⟨rfl, ⟨_, _, _, _, HC.out⟩, HB.out, H25.out⟩
end
end Go.Proofs.YtmencfmjmbbfhaaDoor
