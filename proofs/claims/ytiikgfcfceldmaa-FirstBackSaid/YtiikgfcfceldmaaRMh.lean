/-
  What stands in the midst of reading a message, in memory.
  Conditions: named in each theorem.
-/
import Derived.Test.YtiikgfcfceldmaaPMu
import Derived.Test.YtiikgfcfceldmaaGet
namespace Go.Proofs.Ytiikgfcfceldmaa
open Go.RowKit
open Vi
set_option linter.unusedVariables false
set_option linter.unusedSimpArgs false

/-- What stands in the midst of reading a message. -/
structure Nq (w0 : World) (g : Nat) (T : ByteArray) (b : Bool) (w : World) : Prop where
  hr : Rd 73 g T b w
  fn : w.heap[w0.heap.size + 1]? = some (.cells #[.func (.func 35) #[.pointer (some ⟨g, 0, none⟩)] #[]] 74 (0, 0))
  res : w.heap[w0.heap.size]? = some (.cells (mc mzz) 44 (0, 0))
  fr : w0.grownBy w (some g)
  lg : g < w0.heap.size
  sz : T.size ≤ 281474976710656
/-- .. with the message in block p. -/
structure Ny (w0 : World) (g p : Nat) (E : Ms) (T : ByteArray) (b : Bool) (w : World) : Prop where
  q : Nq w0 g T b w
  al : w.heap[p]? = some (.cells (mc E) 44 (0, 0))
  lp : w0.heap.size + 1 < p
theorem rd_allm {T r g : Nat} {s : ByteArray} {b : Bool} {w : World} (E : Ms) (h : Rd T g s b w) (hr : r ≠ g) : Rd T g s b (wrm w r E) :=
  rd_set (rd_set (rd_set (rd_set (rd_set (rd_set (rd_set (rd_set (rd_set (rd_set (rd_set h hr) hr) hr) hr) hr) hr) hr) hr) hr) hr) hr
theorem gb_allm {w0 w : World} {g r : Nat} (E : Ms) (h : w0.grownBy w (some g)) (hr : w0.heap.size ≤ r) : w0.grownBy (wrm w r E) (some g) :=
  gb_set (gb_set (gb_set (gb_set (gb_set (gb_set (gb_set (gb_set (gb_set (gb_set (gb_set h hr) hr) hr) hr) hr) hr) hr) hr) hr) hr) hr
section
variable {w0 w w1 : World} {g p : Nat} {T T' : ByteArray} {b b' : Bool} {E E' : Ms}
theorem Nq.step (h : Nq w0 g T b w) (hx : Rd 73 g T' b' w1) (hf : w.grownBy w1 (some g)) (hT : T'.size ≤ T.size) : Nq w0 g T' b' w1 := by
  have h1 := h.lg
  exact ⟨hx, (hf.block _ (Array.getElem?_eq_some_iff.1 h.fn).1 (by simp; omega)).trans h.fn, (hf.block _ (Array.getElem?_eq_some_iff.1 h.res).1 (by simp; omega)).trans h.res, h.fr.trans hf, h.lg, Nat.le_trans hT h.sz⟩
theorem Nq.below (h : Nq w0 g T b w) (hb : Below w.heap.size w w1) : Nq w0 g T b w1 :=
  ⟨h.hr.below hb h.hr.lt, (hb.block _ (Array.getElem?_eq_some_iff.1 h.fn).1).trans h.fn, (hb.block _ (Array.getElem?_eq_some_iff.1 h.res).1).trans h.res, gb_below h.fr hb, h.lg, h.sz⟩
theorem Nq.drew (h : Nq w0 g T b w) : Nq w0 g T b w.drew := ⟨h.hr, h.fn, h.res, gb_below h.fr (Below.refl _ _).drew, h.lg, h.sz⟩
theorem Nq.fcell (h : Nq w0 g T b w) : w.cell? ⟨w0.heap.size + 1, 0, none⟩ = some (.func (.func 35) #[.pointer (some ⟨g, 0, none⟩)] #[]) := cell_of_row w _ 0 _ 74 (0, 0) h.fn
theorem Nq.fcella (h : Nq w0 g T b w) (o : Obj) : (w.alloc o).cell? ⟨w0.heap.size + 1, 0, none⟩ = some (.func (.func 35) #[.pointer (some ⟨g, 0, none⟩)] #[]) := (h.below ((Below.refl _ _).alloc (Nat.le_refl _) _)).fcell
theorem Nq.toY (E : Ms) (h : Nq w0 g T b w) : Ny w0 g w.heap.size E T b (w.alloc (.cells (mc E) 44)) :=
  ⟨h.below ((Below.refl _ _).alloc (Nat.le_refl _) _), heap_alloc_new w _, (Array.getElem?_eq_some_iff.1 h.fn).1⟩
theorem Ny.step (h : Ny w0 g p E T b w) (hx : Rd 73 g T' b' w1) (hf : w.grownBy w1 (some g)) (hT : T'.size ≤ T.size) : Ny w0 g p E T' b' w1 := by
  have h1 := h.q.lg
  have h2 := h.lp
  exact ⟨h.q.step hx hf hT, (hf.block _ (Array.getElem?_eq_some_iff.1 h.al).1 (by simp; omega)).trans h.al, h.lp⟩
theorem Ny.below (h : Ny w0 g p E T b w) (hb : Below w.heap.size w w1) : Ny w0 g p E T b w1 :=
  ⟨h.q.below hb, (hb.block _ (Array.getElem?_eq_some_iff.1 h.al).1).trans h.al, h.lp⟩
theorem Ny.drew (h : Ny w0 g p E T b w) : Ny w0 g p E T b w.drew := ⟨h.q.drew, h.al, h.lp⟩
theorem Ny.fz (h : Ny w0 g p E T b w) (i : Nat) : w.frozen? ⟨p, i, none⟩ = false := Md.of h.al
theorem Ny.cell (h : Ny w0 g p E T b w) (i : Nat) : w.cell? ⟨p, i, none⟩ = (mc E)[i]? := cell_of_row w _ i _ 44 (0, 0) h.al
theorem Ny.set (h : Ny w0 g p E T b w) (i : Nat) (v : Value) (he : (mc E).setIfInBounds i v = mc E') : Ny w0 g p E' T b (w.setCell ⟨p, i, none⟩ v) := by
  have h1 := h.q.lg
  have h2 := h.lp
  refine ⟨⟨rd_set h.q.hr (by simp; omega), ?_, ?_, gb_set h.q.fr (by simp; omega), h.q.lg, h.q.sz⟩, ?_, h.lp⟩
  · rw [Below.heap_setCell _ _ _ _ (by simp; omega)]; exact h.q.fn
  · rw [Below.heap_setCell _ _ _ _ (by simp; omega)]; exact h.q.res
  · rw [← he]; exact set_blk h.al i v
theorem Ny.sets (h : Ny w0 g p mzz T b w) (E' : Ms) : Ny w0 g p E' T b (wrm w p E') := by
  have h1 := h.q.lg
  have h2 := h.lp
  have hB : Below (w0.heap.size + 2) w (wrm w p E') := below_allm E' (Below.refl _ _) (by omega)
  exact ⟨⟨rd_allm E' h.q.hr (by omega), (hB.block _ (by omega)).trans h.q.fn, (hB.block _ (by omega)).trans h.q.res, gb_allm E' h.q.fr (by omega), h.q.lg, h.q.sz⟩, store_allm E' h.al, h.lp⟩
end
section
variable (w0 : World) (g p : Nat) (E : Ms) (T : ByteArray) (b : Bool) (k : Int) (w : World)
theorem nq_fix (h : Nq w0 g T b w) :
    Calls Try.prog 35 #[.pointer (some ⟨g, 0, none⟩), .int .i64 k] w fun q w' => q = .returned (.int .u64 (fixV T k)) ∧ Nq w0 g (fixT T k) (b || !hasF T k) w' ∧ w'.cell? ⟨w0.heap.size + 1, 0, none⟩ = some (.func (.func 35) #[.pointer (some ⟨g, 0, none⟩)] #[]) ∧ w.grownBy w' (some g) :=
  (fixedr_any g T b k w h.hr h.sz).mono fun q w' ⟨h1, h2, h3⟩ => ⟨h1, h.step h2 h3 (fixT_le T k), (h.step h2 h3 (fixT_le T k)).fcell, h3⟩
theorem nq_byt (h : Nq w0 g T b w) :
    Calls Try.prog 36 #[.pointer (some ⟨g, 0, none⟩), .int .i64 k] w fun q w' => q = .returned (.string (bytV T k)) ∧ Nq w0 g (bytT T k) (b || !hasB T k) w' ∧ w'.cell? ⟨w0.heap.size + 1, 0, none⟩ = some (.func (.func 35) #[.pointer (some ⟨g, 0, none⟩)] #[]) ∧ w.grownBy w' (some g) :=
  (bytes_any g T b k w h.hr h.sz).mono fun q w' ⟨h1, h2, h3⟩ => ⟨h1, h.step h2 h3 (bytT_le T k), (h.step h2 h3 (bytT_le T k)).fcell, h3⟩
set_option maxHeartbeats 400000 in
set_option maxRecDepth 100000 in
theorem nq_small (h : Nq w0 g T b w) :
    Calls Try.prog 64 #[.pointer (some ⟨w0.heap.size + 1, 0, none⟩)] w fun q w' => q = .returned (.int .i64 (fixV T 1)) ∧ Nq w0 g (fixT T 1) (b || !hasF T 1) w' ∧ w'.cell? ⟨w0.heap.size + 1, 0, none⟩ = some (.func (.func 35) #[.pointer (some ⟨g, 0, none⟩)] #[]) ∧ w.grownBy w' (some g) := by
  have c := h.fcell
  have hv := fixV_lt T 1 (by omega)
  rw [show (256 : Nat) ^ 1 = 256 from by decide] at hv
  have K := Lib.hid (nq_fix w0 g T b 1 w h)
  obtain ⟨v, hV⟩ : ∃ v, v = fixV T 1 := ⟨_, rfl⟩
  have hv2 : v < 256 := by rw [hV]; exact hv
  rw [← hV] at K ⊢
  have hw : IntKind.i64.wrap (v : Int) = (v : Int) := IntWalk.i64_in _ (by omega)
  clear h hV hv hv2
  go_enter Try.func64, Try.ntmps64
  go_wp2_with (go_at_call 35; (with_reducible refine K.out.mono ?_); rintro q w1 ⟨rfl, h1⟩)
  go_ret
  exact ⟨rfl, h1⟩
theorem ny_fix (h : Ny w0 g p E T b w) :
    Calls Try.prog 35 #[.pointer (some ⟨g, 0, none⟩), .int .i64 k] w fun q w' => q = .returned (.int .u64 (fixV T k)) ∧ Ny w0 g p E (fixT T k) (b || !hasF T k) w' ∧ w'.cell? ⟨w0.heap.size + 1, 0, none⟩ = some (.func (.func 35) #[.pointer (some ⟨g, 0, none⟩)] #[]) :=
  (nq_fix w0 g T b k w h.q).mono fun q w' ⟨h1, h2, h3, h4⟩ => by
    have hy := h.step h2.hr h4 (fixT_le T k)
    exact ⟨h1, hy, h3⟩
theorem ny_byt (h : Ny w0 g p E T b w) :
    Calls Try.prog 36 #[.pointer (some ⟨g, 0, none⟩), .int .i64 k] w fun q w' => q = .returned (.string (bytV T k)) ∧ Ny w0 g p E (bytT T k) (b || !hasB T k) w' ∧ w'.cell? ⟨w0.heap.size + 1, 0, none⟩ = some (.func (.func 35) #[.pointer (some ⟨g, 0, none⟩)] #[]) :=
  (nq_byt w0 g T b k w h.q).mono fun q w' ⟨h1, h2, h3, h4⟩ => by
    have hy := h.step h2.hr h4 (bytT_le T k)
    exact ⟨h1, hy, h3⟩
theorem ny_small (h : Ny w0 g p E T b w) :
    Calls Try.prog 64 #[.pointer (some ⟨w0.heap.size + 1, 0, none⟩)] w fun q w' => q = .returned (.int .i64 (fixV T 1)) ∧ Ny w0 g p E (fixT T 1) (b || !hasF T 1) w' ∧ w'.cell? ⟨w0.heap.size + 1, 0, none⟩ = some (.func (.func 35) #[.pointer (some ⟨g, 0, none⟩)] #[]) :=
  (nq_small w0 g T b w h.q).mono fun q w' ⟨h1, h2, h3, h4⟩ => by
    have hy := h.step h2.hr h4 (fixT_le T 1)
    exact ⟨h1, hy, h3⟩
end
set_option maxHeartbeats 400000 in
theorem bit63_any (b : Bool) (w : World) : Calls Try.prog 63 #[.bool b] w fun q w' => q = .returned (.int .i64 (bitI b)) ∧ w' = w := by
  cases b
  · go_enter Try.func63, Try.ntmps63
    go_wp2
    go_ret
    exact ⟨rfl, rfl⟩
  · go_enter Try.func63, Try.ntmps63
    go_wp2
    go_ret
    exact ⟨rfl, rfl⟩

/-- The message's first eight numbers, and has the reader failed? -/
def mP8 (s : ByteArray) : Ms := { kind := fixV s 1, frm := fixV (u1 s) 1, dst := fixV (u2 s) 1, term := fixV (u3 s) 8, index := fixV (u4 s) 8, prev := fixV (u5 s) 8, commit := fixV (u6 s) 8, mark := fixV (u7 s) 8, ok := false, A := none, n := 0, c := 0, es := [], snap := ⟨#[]⟩ }
def fm8 (s : ByteArray) : Bool := false || !hasF s 1 || !hasF (u1 s) 1 || !hasF (u2 s) 1 || !hasF (u3 s) 8 || !hasF (u4 s) 8 || !hasF (u5 s) 8 || !hasF (u6 s) 8 || !hasF (u7 s) 8
end Go.Proofs.Ytiikgfcfceldmaa
