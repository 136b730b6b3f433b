/-
  May, Quorum, Has; a config behind a pointer; where a node stands.
  Conditions: named in each theorem.
-/
import Derived.Test.YtmencfmjmbbfhaaDoorLRh
namespace Go.Proofs.YtmencfmjmbbfhaaDoor
open Go.RowKit
set_option linter.unusedVariables false
set_option linter.unusedSimpArgs false
theorem boxed (w : World) (bm cm bh ch : Nat) (c : Cf) : ∃ W0, W0 = w.alloc (.cells (cvc bm cm bh ch c) 25) ∧ Below w.heap.size w W0 ∧ W0.heap[w.heap.size]? = some (.cells (cvc bm cm bh ch c) 25 (0, 0)) := ⟨_, rfl, (Below.refl _ w).alloc (Nat.le_refl _) _, heap_alloc_new w _⟩
theorem may_any (bm cm bh ch : Nat) (c : Cf) (v : Int) (w : World) :
    Calls Tryd.prog 11 #[cvl bm cm bh ch c, .int .i64 v] w fun e w' => e = .returned (.bool (wthn 1 c.l v)) ∧ Below w.heap.size w w' := by
  obtain ⟨W0, hW0, hb, hh⟩ := boxed w bm cm bh ch c
  have a2 : W0.cell? ⟨w.heap.size, 2, none⟩ = some (.int .i64 c.l) := cell_of_row W0 _ 2 _ 25 (0, 0) hh
  obtain ⟨W1, hW1⟩ : ∃ W1, W1 = (W0.alloc (.cells #[.int .i64 1] 3)).alloc (.cells #[.int .i64 c.l] 3) := ⟨_, rfl⟩
  have K1 := within_any 1 c.l W0
  rw [← hW1] at K1
  have b1 : Below W0.heap.size W0 W1 := by rw [hW1]; exact ((Below.refl _ _).alloc (Nat.le_refl _) _).alloc (by simp) _
  have g1 : W1.heap[W0.heap.size]? = some (.cells #[.int .i64 1] 3 (0, 0)) := by rw [hW1]; exact (Below.heap_alloc _ _ _ (by simp)).trans (heap_alloc_new W0 _)
  have g2 : W1.heap[W0.heap.size + 1]? = some (.cells #[.int .i64 c.l] 3 (0, 0)) := by
    rw [hW1]
    have h := heap_alloc_new (W0.alloc (.cells #[.int .i64 1] 3)) (.cells #[.int .i64 c.l] 3)
    rwa [World.size_alloc] at h
  have KA := Lib.hid K1
  have KB := Lib.hid (in_any 1 c.l v W0.heap.size (W0.heap.size + 1) W1 (cell_of_row _ _ 0 _ _ _ g1) (cell_of_row _ _ 0 _ _ _ g2))
  have HB := Lib.hid (hb.trans (b1.mono hb.size))
  have HW := Lib.hid hW0
  obtain ⟨V, hV⟩ : ∃ V, V = wthn 1 c.l v := ⟨_, rfl⟩
  rw [← hV] at KB
  rw [← hV]
  clear K1 b1 g1 g2 hW1 hb hh hW0 hV
  go_enter Tryd.func11, Tryd.ntmps11
  go_upto_region 1 with fail
  rw [← HW.out]
  go_wp2_with (first
    | (go_at_call 26; refine KA.out.mono ?_; rintro e w' ⟨rfl, rfl⟩)
    | (go_at_call 52; refine KB.out.mono ?_; rintro e w' ⟨rfl, rfl⟩))
  go_ret
  exact ⟨rfl, HB.out⟩
theorem quorum_any (bm cm bh ch : Nat) (c : Cf) (w : World) (hn : c.m.length ≤ 1099511627776) :
    Calls Tryd.prog 14 #[cvl bm cm bh ch c] w fun e w' => e = .returned (.int .i64 ((c.m.length / 2 + 1 : Nat) : Int)) ∧ Below w.heap.size w w' := by
  obtain ⟨W0, hW0, hb, hh⟩ := boxed w bm cm bh ch c
  have a0 : W0.cell? ⟨w.heap.size, 0, none⟩ = some (.slice (some ⟨bm, 0, none⟩) c.m.length cm) := cell_of_row W0 _ 0 _ 25 (0, 0) hh
  obtain ⟨n, hnn⟩ : ∃ n, n = c.m.length := ⟨_, rfl⟩
  have HB := Lib.hid hb
  have HW := Lib.hid hW0
  clear hb hh hW0
  go_enter Tryd.func14, Tryd.ntmps14
  go_upto_region 1 with fail
  rw [← HW.out]
  go_wp2
  go_ret
  refine ⟨?_, HB.out⟩
  congr 2
theorem has_any (bm cm bh ch : Nat) (c : Cf) (v : Int) (w : World) (hm : Rw w bm cm c.m) (hn : c.m.length ≤ 1099511627776) :
    Calls Tryd.prog 12 #[cvl bm cm bh ch c, .int .i64 v] w fun e w' => e = .returned (.bool (c.m.contains v)) ∧ Below w.heap.size w w' := by
  obtain ⟨W0, hW0, hb, hh⟩ := boxed w bm cm bh ch c
  have a0 : W0.cell? ⟨w.heap.size, 0, none⟩ = some (.slice (some ⟨bm, 0, none⟩) c.m.length cm) := cell_of_row W0 _ 0 _ 25 (0, 0) hh
  have hm0 := hm.below hb hm.lt
  have K := Lib.hid (Tryd.slices_Contains (Value.int .i64) (fun x y => x == y) (EqlAt.int _ _ _) bm 0 c.m.length cm c.m v W0 (Nat.le_refl _) (by omega) (fun j hj => by rw [hm0.getD j hj]; simp [hj]))
  have HB := Lib.hid hb
  have HW := Lib.hid hW0
  have hV : (c.m.take c.m.length).any (fun y => v == y) = c.m.contains v := by rw [List.take_length]; rw [List.contains_eq_any_beq]
  rw [hV] at K
  obtain ⟨V, hVV⟩ : ∃ V, V = c.m.contains v := ⟨_, rfl⟩
  rw [← hVV] at K
  rw [← hVV]
  clear hb hh hW0 hm hm0 hV hVV
  go_enter Tryd.func12, Tryd.ntmps12
  go_upto_region 1 with fail
  rw [← HW.out]
  go_wp2_with (go_at_call 27; refine K.out.mono ?_; rintro e w' ⟨rfl, rfl⟩)
  go_ret
  exact ⟨rfl, HB.out⟩
/-- A config behind a pointer, its rows of the call's own. -/
structure Cx (B g : Nat) (bm cm bh ch : Nat) (c : Cf) (W : World) : Prop where
  bx : W.heap[g]? = some (.cells (cvc bm cm bh ch c) 25 (0, 0))
  m : Rw W bm cm c.m
  h : Rw W bh ch c.h
  lg : B ≤ g
  lm : B ≤ bm
  lh : B ≤ bh
  ne : bm ≠ bh
theorem Cx.cell {B g bm cm bh ch : Nat} {c : Cf} {W : World} (h : Cx B g bm cm bh ch c W) (i : Nat) : W.cell? ⟨g, i, none⟩ = (cvc bm cm bh ch c)[i]? := cell_of_row W _ i _ 25 (0, 0) h.bx
theorem Cx.fz {B g bm cm bh ch : Nat} {c : Cf} {W : World} (h : Cx B g bm cm bh ch c W) (i : Nat) : W.frozen? ⟨g, i, none⟩ = false := by simp [World.frozen?, h.bx]
theorem Cx.lt {B g bm cm bh ch : Nat} {c : Cf} {W : World} (h : Cx B g bm cm bh ch c W) : g < W.heap.size := (Array.getElem?_eq_some_iff.1 h.bx).1
theorem Cx.gm {B g bm cm bh ch : Nat} {c : Cf} {W : World} (h : Cx B g bm cm bh ch c W) : g ≠ bm := fun e => by
  obtain ⟨cur, h1, _⟩ := h.m.ex
  have h2 := h.bx
  rw [e, h1] at h2; cases h2
theorem Cx.gh {B g bm cm bh ch : Nat} {c : Cf} {W : World} (h : Cx B g bm cm bh ch c W) : g ≠ bh := fun e => by
  obtain ⟨cur, h1, _⟩ := h.h.ex
  have h2 := h.bx
  rw [e, h1] at h2; cases h2
theorem Cx.below {B g bm cm bh ch : Nat} {c : Cf} {W W' : World} (h : Cx B g bm cm bh ch c W) (hb : Below W.heap.size W W') : Cx B g bm cm bh ch c W' :=
  ⟨(hb.block g h.lt).trans h.bx, h.m.below hb h.m.lt, h.h.below hb h.h.lt, h.lg, h.lm, h.lh, h.ne⟩
theorem Cx.at {B g bm cm bh ch : Nat} {c : Cf} {W W' : World} (h : Cx B g bm cm bh ch c W) (he : W'.heap = W.heap) : Cx B g bm cm bh ch c W' :=
  ⟨by rw [he]; exact h.bx, h.m.at (by rw [he]), h.h.at (by rw [he]), h.lg, h.lm, h.lh, h.ne⟩
theorem place_any (B g bm cm bh ch : Nat) (c : Cf) (n : Int) (w : World) (h : Cx B g bm cm bh ch c w) (hr : RightC c) :
    Calls Tryd.prog 66 #[.pointer (some ⟨g, 0, none⟩), .int .i64 n] w fun e w' => e = .returned (.tuple #[.int .i64 (pos c.m n), .bool (c.m.contains n)]) ∧ ∃ q, w' = w.drewN q := by
  have a0 : w.cell? ⟨g, 0, none⟩ = some (.slice (some ⟨bm, 0, none⟩) c.m.length cm) := h.cell 0
  have hl := hr.len
  have hp : ((c.m).take c.m.length).Pairwise (· ≤ ·) := by rw [List.take_length]; exact (rise_pair hr.r).imp (fun h => by omega)
  have K := Tryd.slices_BinarySearch_int bm 0 c.m.length cm c.m n w (Nat.le_refl _) (by omega) (fun j hj => h.m.getD j hj) hp
  rw [List.take_length] at K
  obtain ⟨V, hV⟩ : ∃ V, V = c.m.contains n := ⟨_, rfl⟩
  obtain ⟨P, hP⟩ : ∃ P, P = pos c.m n := ⟨_, rfl⟩
  unfold pos at hP
  rw [← hV, ← hP] at K
  unfold pos
  rw [← hV, ← hP]
  have KA := Lib.hid K
  clear K hp hV hP
  go_enter Tryd.func66, Tryd.ntmps66
  go_wp2_with (go_at_call 83; refine KA.out.mono ?_; rintro e w' ⟨rfl, q, rfl⟩)
  go_ret2
  exact ⟨rfl, _, rfl⟩
end Go.Proofs.YtmencfmjmbbfhaaDoor
