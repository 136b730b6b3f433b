/-
  What each kind does to a config behind a pointer: register.
  Conditions: the config is right.
-/
import Derived.Test.YtmencfmjmbbfhaaDoorLMt
import Derived.BigQuiet
namespace Go.Proofs.YtmencfmjmbbfhaaDoor
open Go.RowKit
set_option linter.unusedVariables false
set_option linter.unusedSimpArgs false
/-- A config behind a pointer, beside an entry in a box. -/
structure Cy (B g bm cm bh ch : Nat) (c : Cf) (b0 : Nat) (e : En) (w W : World) : Prop where
  x : Cx B g bm cm bh ch c W
  e : W.heap[b0]? = some (.cells (ec e) 31 (0, 0))
  be : Below B w W
  k : K25 g w W
theorem Cy.ecell {B g bm cm bh ch b0 : Nat} {c : Cf} {e : En} {w W : World} (h : Cy B g bm cm bh ch c b0 e w W) (i : Nat) : W.cell? ⟨b0, i, none⟩ = (ec e)[i]? := cell_of_row W _ i _ 31 (0, 0) h.e
theorem Rw.set {w : World} {b cap : Nat} {l : List Int} (h : Rw w b cap l) (k : Nat) (v : Int) (hk : k < l.length) : Rw (w.setCell ⟨b, k, none⟩ (.int .i64 v)) b cap (l.set k v) := by
  obtain ⟨cur, h1, h2, h3⟩ := h.ex
  refine ⟨⟨_, heap_setCell_row h1 k _, by simpa using h2, fun j x hx => ?_⟩, by simpa using h.le, h.mx⟩
  rw [List.getElem?_set] at hx
  by_cases hj : k = j
  · subst hj
    rw [if_pos rfl, if_pos hk] at hx
    rw [Array.getElem?_setIfInBounds_self_of_lt (by have := h.le; omega)]
    simpa using hx
  · rw [if_neg hj] at hx
    rw [Array.getElem?_setIfInBounds_ne hj]
    exact h3 j x hx
theorem Cx.setH {B g bm cm bh ch : Nat} {c : Cf} {W : World} (h : Cx B g bm cm bh ch c W) (k : Nat) (v : Int) (hk : k < c.h.length) : Cx B g bm cm bh ch { c with h := c.h.set k v } (W.setCell ⟨bh, k, none⟩ (.int .i64 v)) := by
  have hg : W.grownBy (W.setCell ⟨bh, k, none⟩ (.int .i64 v)) (some bh) := grownBy_set _
  refine ⟨?_, h.m.grown hg (fun e => h.ne (by cases e; rfl)), h.h.set k v hk, h.lg, h.lm, h.lh, h.ne⟩
  rw [hg.block g h.lt (fun e => h.gh (by cases e; rfl))]
  have h1 := h.bx
  unfold cvc at h1 ⊢
  simp only [List.length_set]
  exact h1
section
variable {B g bm cm bh ch : Nat} {c : Cf}
theorem placeY_any (b0 : Nat) (e : En) (w W : World) (n : Int) (h : Cy B g bm cm bh ch c b0 e w W) (hr : RightC c) :
    Calls Tryd.prog 66 #[.pointer (some ⟨g, 0, none⟩), .int .i64 n] W fun r w' => r = .returned (.tuple #[.int .i64 (pos c.m n), .bool (c.m.contains n)]) ∧ Cy B g bm cm bh ch c b0 e w w' := by
  refine (place_any B g bm cm bh ch c n W h.x hr).mono ?_
  rintro r w' ⟨rfl, q, rfl⟩
  exact ⟨rfl, h.x.at rfl, h.e, ⟨h.be.os, h.be.tape, h.be.output, h.be.size, h.be.block⟩, h.k.heap rfl⟩
set_option maxHeartbeats 2000000 in
set_option maxRecDepth 100000 in
theorem register_any (e : En) (w : World) (h : Cx B g bm cm bh ch c w) (hB : B ≤ w.heap.size) (hr : RightC c) :
    Calls Tryd.prog 48 #[.pointer (some ⟨g, 0, none⟩), ev e] w (Md1 B g (regC c e.node e.level) w) := by
  obtain ⟨W0, hW0, hb, hbe⟩ := boxedE w e
  have h0 : Cy B g bm cm bh ch c w.heap.size e w W0 := ⟨h.below hb, hbe, hb.mono hB, K25.below hb⟩
  have b7 : W0.cell? ⟨w.heap.size, 7, none⟩ = some (.int .i64 e.node) := h0.ecell 7
  have K := placeY_any w.heap.size e w W0 e.node h0 hr
  obtain ⟨k, hk⟩ : ∃ k, k = pos c.m e.node := ⟨_, rfl⟩
  obtain ⟨V, hV⟩ : ∃ V, V = c.m.contains e.node := ⟨_, rfl⟩
  obtain ⟨node, hnode⟩ : ∃ node, node = e.node := ⟨_, rfl⟩
  obtain ⟨lev, hlev⟩ : ∃ lev, lev = e.level := ⟨_, rfl⟩
  have hkl : V = true → k < c.h.length := fun hv => by
    rw [hk, hr.hn]; exact (pos_lt hr.r (by rw [hV] at hv; simpa using hv)).1
  unfold Md1 regC
  rw [← hk, ← hV] at K
  rw [← hk, ← hV]
  have KA := Lib.hid K
  have HW := Lib.hid hW0
  have HK := Lib.hid hkl
  clear hkl
  clear K hW0 hb hbe h h0 hk hV hnode hlev
  cases V
  · rw [if_pos (by rfl)]
    go_enter Tryd.func48, Tryd.ntmps48
    go_upto_region 1 with fail
    rw [← HW.out]
    go_wp2_with (go_at_call 66; refine KA.out.mono ?_; rintro r w1 ⟨rfl, h1⟩; have H1 := Lib.hid h1; clear h1)
    go_ret
    exact ⟨rfl, ⟨_, _, _, _, H1.out.x⟩, H1.out.be, H1.out.k⟩
  · rw [if_neg (by simp)]
    have hkl := HK.out rfl
    have HK2 : Hid (k < c.h.length) := hkl
    by_cases h2 : e.level < c.l
    · have d2 : decide (e.level < c.l) = true := decide_eq_true h2
      rw [if_pos d2]
      clear h2
      go_enter Tryd.func48, Tryd.ntmps48
      go_upto_region 1 with fail
      rw [← HW.out]
      go_wp2_with (go_at_call 66; refine KA.out.mono ?_; rintro r w1 ⟨rfl, h1⟩; have b8 : w1.cell? ⟨w.heap.size, 8, none⟩ = some (.int .i64 e.level) := h1.ecell 8; have a2 : w1.cell? ⟨g, 2, none⟩ = some (.int .i64 c.l) := h1.x.cell 2; have H1 := Lib.hid h1; clear h1)
      go_quiet (fail)
      go_wp2
      go_ret
      exact ⟨rfl, ⟨_, _, _, _, H1.out.x.at rfl⟩, ⟨H1.out.be.os, H1.out.be.tape, H1.out.be.output, H1.out.be.size, H1.out.be.block⟩, H1.out.k.heap rfl⟩
    · have d2 : decide (e.level < c.l) = false := decide_eq_false h2
      rw [if_neg (by rw [d2]; simp)]
      clear h2
      have i1 : (k : Int) < (c.h.length : Int) := by omega
      have i0 : (0 : Int) ≤ (k : Int) := by omega
      obtain ⟨y, hy⟩ : ∃ y, c.h[k]? = some y := ⟨_, List.getElem?_eq_getElem hkl⟩
      have HY := Lib.hid hy
      clear hy
      go_enter Tryd.func48, Tryd.ntmps48
      go_upto_region 1 with fail
      rw [← HW.out]
      go_wp2_with (go_at_call 66; refine KA.out.mono ?_; rintro r w1 ⟨rfl, h1⟩; have b8 : w1.cell? ⟨w.heap.size, 8, none⟩ = some (.int .i64 e.level) := h1.ecell 8; have a2 : w1.cell? ⟨g, 2, none⟩ = some (.int .i64 c.l) := h1.x.cell 2; have a1 : w1.cell? ⟨g, 1, none⟩ = some (.slice (some ⟨bh, 0, none⟩) c.h.length ch) := h1.x.cell 1; have r1 : w1.cell? ⟨bh, k, none⟩ = some (.int .i64 y) := h1.x.h.cell k y HY.out; have r2 : w1.frozen? ⟨bh, k, none⟩ = false := h1.x.h.fz k; have H1 := Lib.hid h1; clear h1)
      go_quiet (fail)
      go_wp2
      obtain ⟨w2, hw2⟩ : ∃ w2, w2 = w1.drewN nq := ⟨_, rfl⟩
      have H2 : Hid (Cy B g bm cm bh ch c w.heap.size e w w2) := by
        rw [hw2]
        exact ⟨H1.out.x.at rfl, H1.out.e, ⟨H1.out.be.os, H1.out.be.tape, H1.out.be.output, H1.out.be.size, H1.out.be.block⟩, H1.out.k.heap rfl⟩
      rw [← hw2]
      clear hw2 b8 a2 a1 r1 r2 H1
      have b8 : w2.cell? ⟨w.heap.size, 8, none⟩ = some (.int .i64 e.level) := H2.out.ecell 8
      have a1 : w2.cell? ⟨g, 1, none⟩ = some (.slice (some ⟨bh, 0, none⟩) c.h.length ch) := H2.out.x.cell 1
      have r1 : w2.cell? ⟨bh, k, none⟩ = some (.int .i64 y) := H2.out.x.h.cell k y HY.out
      have r2 : w2.frozen? ⟨bh, k, none⟩ = false := H2.out.x.h.fz k
      go_region
      all_goals
        go_wp2
        go_ret
        have HS := (H2.out.x.setH k e.level HK2.out)
        exact ⟨rfl, ⟨_, _, _, _, HS.at rfl⟩, by
          have h := H2.out.be.setCell (p := ⟨bh, k, none⟩) H2.out.x.lh (.int .i64 e.level)
          exact ⟨h.os, h.tape, h.output, h.size, h.block⟩, (H2.out.k.row H2.out.x.h (grownBy_set _)).heap rfl⟩
end
end Go.Proofs.YtmencfmjmbbfhaaDoor
