/-
  Is a config right: the package's way.
  Conditions: the lists' lengths are below 2^40.
-/
import Derived.Test.YtmencfmjmbbfhaaDoorLRa
import Derived.BigQuiet
import Derived.StillTailTactics
namespace Go.Proofs.YtmencfmjmbbfhaaDoor
open Go.RowKit
set_option linter.unusedVariables false
set_option linter.unusedSimpArgs false
abbrev cvl (bm cm bh ch : Nat) (c : Cf) : Value := .agg #[.slice (some ⟨bm, 0, none⟩) c.m.length cm, .slice (some ⟨bh, 0, none⟩) c.h.length ch, .int .i64 c.l, .bool c.f]
abbrev cvc (bm cm bh ch : Nat) (c : Cf) : Array Value := #[.slice (some ⟨bm, 0, none⟩) c.m.length cm, .slice (some ⟨bh, 0, none⟩) c.h.length ch, .int .i64 c.l, .bool c.f]
/-- A config in a box of the call's own, beside its rows. -/
structure Rb (w0 : World) (bm cm bh ch : Nat) (c : Cf) (W : World) : Prop where
  bx : W.heap[w0.heap.size]? = some (.cells (cvc bm cm bh ch c) 25 (0, 0))
  m : Rw W bm cm c.m
  h : Rw W bh ch c.h
  be : Below w0.heap.size w0 W
  lm : bm < w0.heap.size
  lh : bh < w0.heap.size
theorem Rb.lt {w0 W : World} {bm cm bh ch : Nat} {c : Cf} (h : Rb w0 bm cm bh ch c W) : w0.heap.size < W.heap.size := (Array.getElem?_eq_some_iff.1 h.bx).1
theorem Rb.cell {w0 W : World} {bm cm bh ch : Nat} {c : Cf} (h : Rb w0 bm cm bh ch c W) (i : Nat) : W.cell? ⟨w0.heap.size, i, none⟩ = (cvc bm cm bh ch c)[i]? := cell_of_row W _ i _ 25 (0, 0) h.bx
theorem Rb.grown {w0 W W' : World} {bm cm bh ch : Nat} {c : Cf} (h : Rb w0 bm cm bh ch c W) {r : Option Nat} (hg : W.grownBy W' r) (hr : ∀ k, r = some k → w0.heap.size < k) : Rb w0 bm cm bh ch c W' := by
  have hs := h.lt; have h1 := h.lm; have h2 := h.lh
  have ne : ∀ j, j ≤ w0.heap.size → some j ≠ r := fun j hj e => by have := hr j e.symm; omega
  exact ⟨(hg.block _ h.lt (ne _ (Nat.le_refl _))).trans h.bx, h.m.grown hg (ne _ (by omega)), h.h.grown hg (ne _ (by omega)), h.be.grown hg h.be.size (fun k e => by have := hr k e; omega), h1, h2⟩
theorem grownBy_below {w w' : World} (h : Below w.heap.size w w') (row : Option Nat) : w.grownBy w' row := ⟨h.os, h.tape, h.output, h.size, fun k hk _ => h.block k hk⟩
theorem Rb.drew {w0 W : World} {bm cm bh ch : Nat} {c : Cf} (h : Rb w0 bm cm bh ch c W) : Rb w0 bm cm bh ch c W.drew := ⟨h.bx, h.m.at rfl, h.h.at rfl, h.be.drew, h.lm, h.lh⟩
theorem Rb.below {w0 W W' : World} {bm cm bh ch : Nat} {c : Cf} (h : Rb w0 bm cm bh ch c W) (hb : Below W.heap.size W W') : Rb w0 bm cm bh ch c W' := h.grown (r := none) (grownBy_below hb none) (fun k e => by cases e)
/-- .. and a closure's two variables. -/
structure Ry (w0 : World) (bm cm bh ch : Nat) (c : Cf) (lo hi : Int) (a b : Nat) (W : World) : Prop where
  r : Rb w0 bm cm bh ch c W
  ha : W.heap[a]? = some (.cells #[.int .i64 lo] 3 (0, 0))
  hb : W.heap[b]? = some (.cells #[.int .i64 hi] 3 (0, 0))
  ab : a ≠ b
  la : w0.heap.size < a
  lb : w0.heap.size < b
theorem Rb.new {w0 : World} {bm cm bh ch : Nat} {c : Cf} (hm : Rw w0 bm cm c.m) (hh : Rw w0 bh ch c.h) : Rb w0 bm cm bh ch c (w0.alloc (.cells (cvc bm cm bh ch c) 25)) := by
  have hb := (Below.refl w0.heap.size w0).alloc (Nat.le_refl _) (.cells (cvc bm cm bh ch c) 25)
  exact ⟨heap_alloc_new w0 _, hm.below hb hm.lt, hh.below hb hh.lt, hb, hm.lt, hh.lt⟩
section
variable {w0 : World} {bm cm bh ch : Nat} {c : Cf}
theorem K33 (W : World) (h : Rb w0 bm cm bh ch c W) : Calls Tryd.prog 33 #[.int .i64 1, .int .i64 7] W fun e W' => ∃ a b, e = .returned (.func (.func 56) #[] #[.pointer (some ⟨a, 0, none⟩), .pointer (some ⟨b, 0, none⟩)]) ∧ Ry w0 bm cm bh ch c 1 7 a b W' := by
  refine (rising_any 1 7 W).mono ?_
  rintro e W' ⟨rfl, h1, h2, h3⟩
  have := h.lt
  exact ⟨_, _, rfl, h.below h3, h1, h2, by omega, by omega, this⟩
theorem K26 (lo hi : Int) (W : World) (h : Rb w0 bm cm bh ch c W) : Calls Tryd.prog 26 #[.int .i64 lo, .int .i64 hi] W fun e W' => ∃ a b, e = .returned (.func (.func 52) #[] #[.pointer (some ⟨a, 0, none⟩), .pointer (some ⟨b, 0, none⟩)]) ∧ Ry w0 bm cm bh ch c lo hi a b W' := by
  refine (within_any lo hi W).mono ?_
  rintro e W' ⟨rfl, rfl⟩
  have := h.lt
  refine ⟨_, _, rfl, h.below (((Below.refl _ W).alloc (Nat.le_refl _) _).alloc (by simp) _), (Below.heap_alloc _ _ _ (by simp)).trans (heap_alloc_new W _), ?_, by omega, this, by omega⟩
  have h := heap_alloc_new (W.alloc (.cells #[.int .i64 lo] 3)) (.cells #[.int .i64 hi] 3)
  rwa [World.size_alloc] at h
theorem K52 (lo hi n : Int) (a b : Nat) (W : World) (h : Ry w0 bm cm bh ch c lo hi a b W) : Calls Tryd.prog 52 #[.int .i64 n, .pointer (some ⟨a, 0, none⟩), .pointer (some ⟨b, 0, none⟩)] W fun e W' => e = .returned (.bool (wthn lo hi n)) ∧ Rb w0 bm cm bh ch c W' := by
  refine (in_any lo hi n a b W (cell_of_row _ _ 0 _ _ _ h.ha) (cell_of_row _ _ 0 _ _ _ h.hb)).mono ?_
  rintro e W' ⟨rfl, rfl⟩
  exact ⟨rfl, h.r⟩
theorem K32r (a b : Nat) (W : World) (hn : c.m.length ≤ 1099511627776) (h : Ry w0 bm cm bh ch c 1 7 a b W) : Calls Tryd.prog 32 #[.slice (some ⟨bm, 0, none⟩) c.m.length cm, .func (.func 56) #[] #[.pointer (some ⟨a, 0, none⟩), .pointer (some ⟨b, 0, none⟩)]] W fun e W' => e = .returned (.bool (rise 1 c.m)) ∧ Rb w0 bm cm bh ch c W' := by
  have h1 := h.la; have h2 := h.r.lm
  refine (allRise_any 1 a b bm cm w0.heap.size c.m W hn h.ha h.hb h.ab (by omega) (by omega) h.r.be.size (by omega) h.r.m.cell h.r.m.lt).mono ?_
  rintro e W' ⟨rfl, hg⟩
  exact ⟨rfl, h.r.grown hg fun k e => by cases e; exact h1⟩
theorem K32w (lo hi : Int) (a b : Nat) (W : World) (hn : c.h.length ≤ 1099511627776) (h : Ry w0 bm cm bh ch c lo hi a b W) : Calls Tryd.prog 32 #[.slice (some ⟨bh, 0, none⟩) c.h.length ch, .func (.func 52) #[] #[.pointer (some ⟨a, 0, none⟩), .pointer (some ⟨b, 0, none⟩)]] W fun e W' => e = .returned (.bool (c.h.all (wthn lo hi))) ∧ Rb w0 bm cm bh ch c W' := by
  refine (allIn_any lo hi a b bh ch c.h W hn (cell_of_row _ _ 0 _ _ _ h.ha) (cell_of_row _ _ 0 _ _ _ h.hb) h.r.h.cell).mono ?_
  rintro e W' ⟨rfl, rfl⟩
  exact ⟨rfl, h.r⟩
end
end Go.Proofs.YtmencfmjmbbfhaaDoor
