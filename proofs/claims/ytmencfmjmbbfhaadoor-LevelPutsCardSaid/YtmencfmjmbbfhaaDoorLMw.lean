/-
  What each kind does to a config behind a pointer: add.
  Conditions: the config is right.
-/
import Derived.Test.YtmencfmjmbbfhaaDoorLMv
namespace Go.Proofs.YtmencfmjmbbfhaaDoor
open Go.RowKit
set_option linter.unusedVariables false
set_option linter.unusedSimpArgs false
section
variable {B g bm cm bh ch b0 : Nat} {c : Cf} {e : En} {w : World}
theorem Cy.alloc {W : World} (h : Cy B g bm cm bh ch c b0 e w W) (hB : B ≤ w.heap.size) (o : Obj) : Cy B g bm cm bh ch c b0 e w (W.alloc o) := by
  have hb := (Below.refl W.heap.size W).alloc (Nat.le_refl _) o
  exact ⟨h.x.below hb, (hb.block _ (Array.getElem?_eq_some_iff.1 h.e).1).trans h.e, h.be.alloc (Nat.le_trans hB h.be.size) o, h.k.trans (K25.below hb)⟩
theorem Cy.drew {W : World} (h : Cy B g bm cm bh ch c b0 e w W) : Cy B g bm cm bh ch c b0 e w W.drew :=
  ⟨h.x.at rfl, h.e, h.be.drew, h.k.heap rfl⟩
set_option maxHeartbeats 4000000 in
set_option maxRecDepth 100000 in
theorem add_any (e : En) (w : World) (h : Cx B g bm cm bh ch c w) (hB : B ≤ w.heap.size) (hr : RightC c) :
    Calls Tryd.prog 46 #[.pointer (some ⟨g, 0, none⟩), ev e] w (Md1 B g (addC c e.node) w) := by
  obtain ⟨W0, hW0, hb, hbe⟩ := boxedE w e
  have h0 : Cy B g bm cm bh ch c w.heap.size e w W0 := ⟨h.below hb, hbe, hb.mono hB, K25.below hb⟩
  have b7 : W0.cell? ⟨w.heap.size, 7, none⟩ = some (.int .i64 e.node) := h0.ecell 7
  have K := placeY_any w.heap.size e w W0 e.node h0 hr
  have hkl := pos_le c.m e.node
  obtain ⟨k, hk⟩ : ∃ k, k = pos c.m e.node := ⟨_, rfl⟩
  obtain ⟨V, hV⟩ : ∃ V, V = c.m.contains e.node := ⟨_, rfl⟩
  have hhl := hr.hn
  have hlen := hr.len
  unfold Md1 addC
  rw [← hk, ← hV] at K
  rw [← hk] at hkl
  rw [← hk, ← hV]
  have KA := Lib.hid K
  have HW := Lib.hid hW0
  have HL := Lib.hid hhl
  have HN := Lib.hid hlen
  have HK := Lib.hid hkl
  clear K hW0 hb hbe h h0 hk hV hhl hr hlen hkl
  cases V
  · rw [if_neg (by simp)]
    by_cases h2 : c.l = 2
    · have d2 : (c.l == 2) = true := by rw [h2]; rfl
      rw [if_pos d2]
      clear h2
      go_enter Tryd.func46, Tryd.ntmps46
      go_upto_region 1 with fail
      rw [← HW.out]
      go_wp2_with (go_at_call 66; refine KA.out.mono ?_; rintro r w1 ⟨rfl, h1⟩; have a2 : w1.cell? ⟨g, 2, none⟩ = some (.int .i64 c.l) := h1.x.cell 2; have H1 := Lib.hid h1; clear h1)
      go_ret
      exact ⟨rfl, ⟨_, _, _, _, H1.out.x⟩, H1.out.be, H1.out.k⟩
    · have d2 : (c.l == 2) = false := by simpa using h2
      rw [if_neg (by rw [d2]; simp)]
      clear h2
      have K1 : Hid (∀ (W : World) (vb : Nat), Cy B g bm cm bh ch c w.heap.size e w W → W.heap[vb]? = some (.cells #[.int .i64 e.node] 3 (0, 0)) → vb ≠ bm → Calls Tryd.prog 67 #[.slice (some ⟨bm, 0, none⟩) c.m.length cm, .int .i64 k, .slice (some ⟨vb, 0, none⟩) 1 1] W fun r W' => ∃ b' cap', r = .returned (.slice (some ⟨b', 0, none⟩) ((insA c.m k e.node).length) cap') ∧ Rw W' b' cap' (insA c.m k e.node) ∧ (b' = bm ∨ W.heap.size ≤ b') ∧ W.grownBy W' (some bm)) := Lib.hid fun W vb h hv hne => insert_any bm cm k vb c.m e.node W h.x.m HK.out (by have := HN.out; omega) hv hne
      have K2 : Hid (∀ (W : World) (vb b' cap' : Nat), Cy B g b' cap' bh ch { c with m := insA c.m k e.node } w.heap.size e w W → W.heap[vb]? = some (.cells #[.int .i64 1] 3 (0, 0)) → vb ≠ bh → Calls Tryd.prog 67 #[.slice (some ⟨bh, 0, none⟩) c.h.length ch, .int .i64 k, .slice (some ⟨vb, 0, none⟩) 1 1] W fun r W' => ∃ b2 cap2, r = .returned (.slice (some ⟨b2, 0, none⟩) ((insA c.h k 1).length) cap2) ∧ Rw W' b2 cap2 (insA c.h k 1) ∧ (b2 = bh ∨ W.heap.size ≤ b2) ∧ W.grownBy W' (some bh)) := Lib.hid fun W vb b' cap' h hv hne => insert_any bh ch k vb c.h 1 W h.x.h (by have := HK.out; have := HL.out; omega) (by have := HN.out; have := HL.out; omega) hv hne
      go_enter Tryd.func46, Tryd.ntmps46
      go_upto_region 1 with fail
      rw [← HW.out]
      go_upto_region 6 with (go_at_call 66; refine KA.out.mono ?_; rintro r w1 ⟨rfl, h1⟩; have a2 : w1.cell? ⟨g, 2, none⟩ = some (.int .i64 c.l) := h1.x.cell 2; have a0 : w1.cell? ⟨g, 0, none⟩ = some (.slice (some ⟨bm, 0, none⟩) c.m.length cm) := h1.x.cell 0;  have c7 : w1.cell? ⟨w.heap.size, 7, none⟩ = some (.int .i64 e.node) := h1.ecell 7; have H1 := Lib.hid h1; clear h1)
      clear KA a2 b7
      have lg := H1.out.x.lt
      have l0 := (Array.getElem?_eq_some_iff.1 H1.out.e).1
      have lm := H1.out.x.m.lt
      have C1 : Hid (Calls Tryd.prog 67 #[.slice (some ⟨bm, 0, none⟩) c.m.length cm, .int .i64 k, .slice (some ⟨w1.heap.size, 0, none⟩) 1 1] (w1.drew.alloc (.cells #[.int .i64 e.node] 3)) fun r W' => ∃ b' cap', r = .returned (.slice (some ⟨b', 0, none⟩) ((insA c.m k e.node).length) cap') ∧ W'.cell? ⟨g, 0, none⟩ = some (.slice (some ⟨bm, 0, none⟩) c.m.length cm) ∧ W'.frozen? ⟨g, 0, none⟩ = false ∧ Hid (Cy B g b' cap' bh ch { c with m := insA c.m k e.node } w.heap.size e w (W'.setCell ⟨g, 0, none⟩ (.slice (some ⟨b', 0, none⟩) ((insA c.m k e.node).length) cap')))) := by
        have hC := (H1.out.drew).alloc hB (.cells #[.int .i64 e.node] 3)
        refine (K1.out _ w1.heap.size hC (heap_alloc_new w1.drew _) (by omega)).mono ?_
        rintro r W' ⟨b', cap', rfl, hr, hb, hg⟩
        have h9 := hC.gM hg
        exact ⟨b', cap', rfl, cell_of_row W' _ 0 _ 25 (0, 0) h9, by simp [World.frozen?, h9], hC.stM hB hg hr hb⟩
      clear K1
      go_region_with (go_at_call 67; refine C1.out.mono ?_; rintro r w2 ⟨b', cap', rfl, q0, qf, H2⟩)
      all_goals
        clear C1
        obtain ⟨w3, hw3⟩ : ∃ w3, w3 = w2.setCell ⟨g, 0, none⟩ (.slice (some ⟨b', 0, none⟩) ((insA c.m k e.node).length) cap') := ⟨_, rfl⟩
        rw [← hw3] at H2
        rw [← hw3]
        have q1 : w3.cell? ⟨g, 1, none⟩ = some (.slice (some ⟨bh, 0, none⟩) c.h.length ch) := H2.out.x.cell 1
        have ng := H2.out.x.lt
        have nh := H2.out.x.h.lt
        have C2 : Hid (Calls Tryd.prog 67 #[.slice (some ⟨bh, 0, none⟩) c.h.length ch, .int .i64 k, .slice (some ⟨w3.heap.size, 0, none⟩) 1 1] (w3.alloc (.cells #[.int .i64 1] 3)) fun r W' => ∃ b2 cap2, r = .returned (.slice (some ⟨b2, 0, none⟩) ((insA c.h k 1).length) cap2) ∧ W'.cell? ⟨g, 1, none⟩ = some (.slice (some ⟨bh, 0, none⟩) c.h.length ch) ∧ W'.frozen? ⟨g, 1, none⟩ = false ∧ Hid (Cy B g b' cap' b2 cap2 { c with m := insA c.m k e.node, h := insA c.h k 1 } w.heap.size e w (W'.setCell ⟨g, 1, none⟩ (.slice (some ⟨b2, 0, none⟩) ((insA c.h k 1).length) cap2)))) := by
          have hC := H2.out.alloc hB (.cells #[.int .i64 1] 3)
          refine (K2.out _ w3.heap.size b' cap' hC (heap_alloc_new w3 _) (by omega)).mono ?_
          rintro r W' ⟨b2, cap2, rfl, hr, hb, hg⟩
          have h9 := hC.gH hg
          exact ⟨b2, cap2, rfl, cell_of_row W' _ 1 _ 25 (0, 0) h9, by simp [World.frozen?, h9], hC.stH hB hg hr hb⟩
        clear K2 hw3 q0 qf a0 c7 lg l0 lm H1
        go_wp2_with (go_at_call 67; refine C2.out.mono ?_; rintro r w4 ⟨b2, cap2, rfl, q0, qf, H4⟩)
        go_ret
        exact ⟨rfl, ⟨_, _, _, _, H4.out.x⟩, H4.out.be, H4.out.k⟩
  · rw [if_pos rfl]
    go_enter Tryd.func46, Tryd.ntmps46
    go_upto_region 1 with fail
    rw [← HW.out]
    go_wp2_with (go_at_call 66; refine KA.out.mono ?_; rintro r w1 ⟨rfl, h1⟩; have H1 := Lib.hid h1; clear h1)
    go_ret
    exact ⟨rfl, ⟨_, _, _, _, H1.out.x⟩, H1.out.be, H1.out.k⟩
end
end Go.Proofs.YtmencfmjmbbfhaaDoor
