/-
  What each kind does to a config behind a pointer: remove, add.
  Conditions: the config is right.
-/
import Derived.Test.YtmencfmjmbbfhaaDoorLMu
import Derived.Test.YtmencfmjmbbfhaaDoorLS2
namespace Go.Proofs.YtmencfmjmbbfhaaDoor
open Go.RowKit
set_option linter.unusedVariables false
set_option linter.unusedSimpArgs false
section
variable {B g bm cm bh ch b0 : Nat} {c : Cf} {e : En} {w : World}
theorem Cy.drawN {W : World} (h : Cy B g bm cm bh ch c b0 e w W) (q : Nat) : Cy B g bm cm bh ch c b0 e w (W.drewN q) :=
  ⟨h.x.at rfl, h.e, ⟨h.be.os, h.be.tape, h.be.output, h.be.size, h.be.block⟩, h.k.heap rfl⟩
theorem Cy.b0m {W : World} (h : Cy B g bm cm bh ch c b0 e w W) : b0 ≠ bm := fun q => by
  obtain ⟨cur, h1, _⟩ := h.x.m.ex
  have h2 := h.e
  rw [q, h1] at h2; cases h2
theorem Cy.b0h {W : World} (h : Cy B g bm cm bh ch c b0 e w W) : b0 ≠ bh := fun q => by
  obtain ⟨cur, h1, _⟩ := h.x.h.ex
  have h2 := h.e
  rw [q, h1] at h2; cases h2
theorem Cy.b0g {W : World} (h : Cy B g bm cm bh ch c b0 e w W) : b0 ≠ g := fun q => by
  have h1 := h.x.bx
  have h2 := h.e
  rw [q, h1] at h2; cases h2
/-- The members' row was written: the config stands as it did. -/
theorem Cy.gM {W W1 : World} (h : Cy B g bm cm bh ch c b0 e w W) (hg : W.grownBy W1 (some bm)) : W1.heap[g]? = some (.cells (cvc bm cm bh ch c) 25 (0, 0)) := (hg.block g h.x.lt (fun e => h.x.gm (by cases e; rfl))).trans h.x.bx
theorem Cy.gH {W W1 : World} (h : Cy B g bm cm bh ch c b0 e w W) (hg : W.grownBy W1 (some bh)) : W1.heap[g]? = some (.cells (cvc bm cm bh ch c) 25 (0, 0)) := (hg.block g h.x.lt (fun e => h.x.gh (by cases e; rfl))).trans h.x.bx
/-- .. and then its slice is stored. -/
theorem Cy.stM {W W1 : World} {b' cap' : Nat} {l : List Int} (h : Cy B g bm cm bh ch c b0 e w W) (hB : B ≤ w.heap.size) (hg : W.grownBy W1 (some bm)) (hr : Rw W1 b' cap' l) (hb : b' = bm ∨ W.heap.size ≤ b') :
    Cy B g b' cap' bh ch { c with m := l } b0 e w (W1.setCell ⟨g, 0, none⟩ (.slice (some ⟨b', 0, none⟩) l.length cap')) := by
  have hs := h.be.size
  have lt := h.x.lt
  have e1 := h.gM hg
  have e2 := (hg.block b0 (Array.getElem?_eq_some_iff.1 h.e).1 (fun e => h.b0m (by cases e; rfl))).trans h.e
  have hgb : g ≠ b' := by
    rintro rfl
    obtain ⟨cur, h1, _⟩ := hr.ex
    rw [e1] at h1; cases h1
  have g2 : W1.grownBy (W1.setCell ⟨g, 0, none⟩ (.slice (some ⟨b', 0, none⟩) l.length cap')) (some g) := grownBy_set _
  have hh := h.x.h.grown hg (fun e => h.x.ne (by cases e; rfl))
  have bB : B ≤ b' := by
    rcases hb with rfl | hb
    · exact h.x.lm
    · omega
  have e2' := (g2.block b0 (Array.getElem?_eq_some_iff.1 e2).1 (fun q => h.b0g (by cases q; rfl))).trans e2
  have be1 := h.be.grown hg (Nat.le_trans hB hs) (fun k e => by cases e; exact h.x.lm)
  have be2 := be1.setCell (p := ⟨g, 0, none⟩) h.x.lg (.slice (some ⟨b', 0, none⟩) l.length cap')
  refine ⟨⟨heap_setCell_row e1 0 _, hr.grown g2 (fun e => hgb (by cases e; rfl)), hh.grown g2 (fun e => h.x.gh (by cases e; rfl)), h.x.lg, bB, h.x.lh, ?_⟩, e2', be2, (h.k.row h.x.m hg).set _ _⟩
  rcases hb with rfl | hb
  · exact h.x.ne
  · have := h.x.h.lt; omega
theorem Cy.stH {W W1 : World} {b' cap' : Nat} {l : List Int} (h : Cy B g bm cm bh ch c b0 e w W) (hB : B ≤ w.heap.size) (hg : W.grownBy W1 (some bh)) (hr : Rw W1 b' cap' l) (hb : b' = bh ∨ W.heap.size ≤ b') :
    Cy B g bm cm b' cap' { c with h := l } b0 e w (W1.setCell ⟨g, 1, none⟩ (.slice (some ⟨b', 0, none⟩) l.length cap')) := by
  have hs := h.be.size
  have lt := h.x.lt
  have e1 := h.gH hg
  have e2 := (hg.block b0 (Array.getElem?_eq_some_iff.1 h.e).1 (fun e => h.b0h (by cases e; rfl))).trans h.e
  have hgb : g ≠ b' := by
    rintro rfl
    obtain ⟨cur, h1, _⟩ := hr.ex
    rw [e1] at h1; cases h1
  have g2 : W1.grownBy (W1.setCell ⟨g, 1, none⟩ (.slice (some ⟨b', 0, none⟩) l.length cap')) (some g) := grownBy_set _
  have hh := h.x.m.grown hg (fun e => h.x.ne (by cases e; rfl))
  have bB : B ≤ b' := by
    rcases hb with rfl | hb
    · exact h.x.lh
    · omega
  have e2' := (g2.block b0 (Array.getElem?_eq_some_iff.1 e2).1 (fun q => h.b0g (by cases q; rfl))).trans e2
  have be1 := h.be.grown hg (Nat.le_trans hB hs) (fun k e => by cases e; exact h.x.lh)
  have be2 := be1.setCell (p := ⟨g, 1, none⟩) h.x.lg (.slice (some ⟨b', 0, none⟩) l.length cap')
  refine ⟨⟨heap_setCell_row e1 1 _, hh.grown g2 (fun e => h.x.gm (by cases e; rfl)), hr.grown g2 (fun e => hgb (by cases e; rfl)), h.x.lg, h.x.lm, bB, ?_⟩, e2', be2, (h.k.row h.x.h hg).set _ _⟩
  rcases hb with rfl | hb
  · exact h.x.ne
  · have := h.x.m.lt; omega
set_option maxHeartbeats 2000000 in
set_option maxRecDepth 100000 in
theorem remove_any (e : En) (w : World) (h : Cx B g bm cm bh ch c w) (hB : B ≤ w.heap.size) (hr : RightC c) :
    Calls Tryd.prog 47 #[.pointer (some ⟨g, 0, none⟩), ev e] w (Md1 B g (remC c e.node) w) := by
  obtain ⟨W0, hW0, hb, hbe⟩ := boxedE w e
  have h0 : Cy B g bm cm bh ch c w.heap.size e w W0 := ⟨h.below hb, hbe, hb.mono hB, K25.below hb⟩
  have b7 : W0.cell? ⟨w.heap.size, 7, none⟩ = some (.int .i64 e.node) := h0.ecell 7
  have K := placeY_any w.heap.size e w W0 e.node h0 hr
  obtain ⟨k, hk⟩ : ∃ k, k = pos c.m e.node := ⟨_, rfl⟩
  obtain ⟨V, hV⟩ : ∃ V, V = c.m.contains e.node := ⟨_, rfl⟩
  have hkl : V = true → k < c.m.length := fun hv => by
    rw [hk]; exact (pos_lt hr.r (by rw [hV] at hv; simpa using hv)).1
  have hhl := hr.hn
  have hlen := hr.len
  unfold Md1 remC
  rw [← hk, ← hV] at K
  rw [← hk, ← hV]
  have KA := Lib.hid K
  have HW := Lib.hid hW0
  have HK := Lib.hid hkl
  have HL := Lib.hid hhl
  clear K hW0 hb hbe h h0 hk hV hkl hhl hr
  cases V
  · rw [if_pos (by rfl)]
    go_enter Tryd.func47, Tryd.ntmps47
    go_upto_region 1 with fail
    rw [← HW.out]
    go_wp2_with (go_at_call 66; refine KA.out.mono ?_; rintro r w1 ⟨rfl, h1⟩; have H1 := Lib.hid h1; clear h1)
    go_ret
    exact ⟨rfl, ⟨_, _, _, _, H1.out.x⟩, H1.out.be, H1.out.k⟩
  · rw [if_neg (by simp)]
    have hkl := HK.out rfl
    clear HK
    by_cases h2 : c.m.length = 1
    · have d2 : ((c.m.length : Int) == 1) = true := by rw [h2]; rfl
      have d3 : (c.m.length == 1) = true := by rw [h2]; rfl
      rw [if_pos d3]
      clear h2 d3
      go_enter Tryd.func47, Tryd.ntmps47
      go_upto_region 1 with fail
      rw [← HW.out]
      go_wp2_with (go_at_call 66; refine KA.out.mono ?_; rintro r w1 ⟨rfl, h1⟩; have a0 : w1.cell? ⟨g, 0, none⟩ = some (.slice (some ⟨bm, 0, none⟩) c.m.length cm) := h1.x.cell 0; have H1 := Lib.hid h1; clear h1)
      go_ret
      exact ⟨rfl, ⟨_, _, _, _, H1.out.x⟩, H1.out.be, H1.out.k⟩
    · have d2 : ((c.m.length : Int) == 1) = false := by simpa using (fun q => h2 (by omega) : ¬ ((c.m.length : Int) = 1))
      have d3 : (c.m.length == 1) = false := by simpa using h2
      rw [if_neg (by rw [d3]; simp)]
      clear h2 d3
      have hw : IntKind.i64.wrap ((k : Int) + 1) = (k : Int) + 1 := by rw [IntKind.wrap_i64]; omega
      have HKL : Hid (k < c.m.length) := hkl
      have K1 : Hid (∀ W, Cy B g bm cm bh ch c w.heap.size e w W → Calls Tryd.prog 68 #[.slice (some ⟨bm, 0, none⟩) c.m.length cm, .int .i64 k, .int .i64 ((k : Int) + 1)] W fun r W' => r = .returned (.slice (some ⟨bm, 0, none⟩) ((delA c.m k).length) cm) ∧ Rw W' bm cm (delA c.m k) ∧ W.grownBy W' (some bm)) := Lib.hid fun W h => delete_any bm cm k c.m W h.x.m HKL.out
      have K2 : Hid (∀ W, Cy B g bm cm bh ch { c with m := delA c.m k } w.heap.size e w W → Calls Tryd.prog 68 #[.slice (some ⟨bh, 0, none⟩) c.h.length ch, .int .i64 k, .int .i64 ((k : Int) + 1)] W fun r W' => r = .returned (.slice (some ⟨bh, 0, none⟩) ((delA c.h k).length) ch) ∧ Rw W' bh ch (delA c.h k) ∧ W.grownBy W' (some bh)) := Lib.hid fun W h => delete_any bh ch k c.h W h.x.h (by have := HL.out; have := HKL.out; omega)
      go_enter Tryd.func47, Tryd.ntmps47
      go_upto_region 1 with fail
      rw [← HW.out]
      go_upto_region 6 with (go_at_call 66; refine KA.out.mono ?_; rintro r w1 ⟨rfl, h1⟩; have a0 : w1.cell? ⟨g, 0, none⟩ = some (.slice (some ⟨bm, 0, none⟩) c.m.length cm) := h1.x.cell 0; have H1 := Lib.hid h1; clear h1)
      clear KA
      go_upto_region 7 with (go_at_call 68; refine (K1.out _ H1.out).mono ?_; rintro r w2 ⟨rfl, hr2, hg2⟩; have q0 : w2.cell? ⟨g, 0, none⟩ = some (.slice (some ⟨bm, 0, none⟩) c.m.length cm) := cell_of_row w2 _ 0 _ 25 (0, 0) (H1.out.gM hg2); have qf : w2.frozen? ⟨g, 0, none⟩ = false := (by simp [World.frozen?, H1.out.gM hg2]); have H2 := Lib.hid (H1.out.stM hB hg2 hr2 (.inl rfl)); clear hr2 hg2)
      obtain ⟨w3, hw3⟩ : ∃ w3, w3 = w2.setCell ⟨g, 0, none⟩ (.slice (some ⟨bm, 0, none⟩) (delA c.m k).length cm) := ⟨_, rfl⟩
      rw [← hw3] at H2
      rw [← hw3]
      have q1 : w3.cell? ⟨g, 1, none⟩ = some (.slice (some ⟨bh, 0, none⟩) c.h.length ch) := H2.out.x.cell 1
      clear hw3 q0 qf a0 K1
      go_upto_region 8 with (go_at_call 68; refine (K2.out _ H2.out).mono ?_; rintro r w4 ⟨rfl, hr2, hg2⟩; have q2 : w4.cell? ⟨g, 1, none⟩ = some (.slice (some ⟨bh, 0, none⟩) c.h.length ch) := cell_of_row w4 _ 1 _ 25 (0, 0) (H2.out.gH hg2); have qf : w4.frozen? ⟨g, 1, none⟩ = false := (by simp [World.frozen?, H2.out.gH hg2]); have H3 := Lib.hid (H2.out.stH hB hg2 hr2 (.inl rfl)); clear hr2 hg2)
      go_wp2
      go_ret
      exact ⟨rfl, ⟨_, _, _, _, H3.out.x⟩, H3.out.be, H3.out.k⟩
end
end Go.Proofs.YtmencfmjmbbfhaaDoor
