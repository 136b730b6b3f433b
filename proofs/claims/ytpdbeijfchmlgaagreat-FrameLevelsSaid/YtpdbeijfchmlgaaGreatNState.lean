/-
  The state in which the law makes a message by its parts.
  Conditions: named in each theorem.
-/
import Derived.Test.YtpdbeijfchmlgaaGreatNMath
import Derived.Deep.AppendLies
import Derived.Lib.SmallJoins
import Derived.OneCell
namespace Go.Proofs.YtpdbeijfchmlgaaGreat
open Go.RowKit
set_option linter.unusedVariables false

/-- Where a slice of made entries lies: below B, and as it is told. -/
structure Mades (B : Nat) (A : Option Addr) (n : Nat) (L : List (En × Bool)) (w : World) : Prop where
  len : L.length = n
  at_ : ∀ i p, L[i]? = some p → ∃ a, A = some a ∧ a.block < B ∧ ∀ j, j < 12 → w.cell? ((a.add (i * 12)).add j) = (mdc p.1 p.2)[j]?
theorem Mades.below {B : Nat} {A : Option Addr} {n : Nat} {L : List (En × Bool)} {w w1 : World} (h : Mades B A n L w) (hb : Below B w w1) : Mades B A n L w1 :=
  ⟨h.len, fun i e he => by
    obtain ⟨a, hA, hB, hc⟩ := h.at_ i e he
    exact ⟨a, hA, hB, fun j hj => (hb.cell (by rw [block_of_add, block_of_add]; exact hB)).trans (hc j hj)⟩⟩
/-- The parts' value, and its cells. -/
abbrev nvv (m : Ms) (own : Bool) (LA : Option Addr) (ln lc : Nat) : Value := .agg #[.int .i64 m.kind, .int .i64 m.frm, .int .i64 m.dst, .int .u64 m.term, .int .u64 m.index, .int .u64 m.prev, .int .u64 m.commit, .int .u64 m.mark, .bool m.ok, .slice m.A m.n m.c, .string m.snap, .bool own, .slice LA ln lc]
abbrev nvc (m : Ms) (own : Bool) (LA : Option Addr) (ln lc : Nat) : Array Value := #[.int .i64 m.kind, .int .i64 m.frm, .int .i64 m.dst, .int .u64 m.term, .int .u64 m.index, .int .u64 m.prev, .int .u64 m.commit, .int .u64 m.mark, .bool m.ok, .slice m.A m.n m.c, .string m.snap, .bool own, .slice LA ln lc]
abbrev mzz : Ms := ⟨0, 0, 0, 0, 0, 0, 0, 0, false, none, 0, 0, [], ⟨#[]⟩⟩

/-- The cells of entries, one behind the other. -/
def flat (es : List En) : List Value := es.flatMap fun e => (ec e).toList
theorem flat_snoc (es : List En) (e : En) : flat (es ++ [e]) = flat es ++ (ec e).toList := by
  unfold flat
  rw [List.flatMap_append]
  simp
theorem flat_length (es : List En) : (flat es).length = es.length * 11 := by
  induction es with
  | nil => rfl
  | cons e es ih =>
    show ((ec e).toList ++ flat es).length = _
    rw [List.length_append, ih]
    show 11 + es.length * 11 = (es.length + 1) * 11
    omega
theorem flat_get (es : List En) (i : Nat) (e : En) (h : es[i]? = some e) (j : Nat) (hj : j < 11) : (flat es)[i * 11 + j]? = (ec e)[j]? := by
  induction es generalizing i with
  | nil => cases h
  | cons a es ih =>
    have e1 : flat (a :: es) = (ec a).toList ++ flat es := rfl
    rw [e1]
    cases i with
    | zero =>
      have : a = e := Option.some.inj h
      subst this
      rw [List.getElem?_append_left (by show 0 * 11 + j < 11; omega), Nat.zero_mul, Nat.zero_add]
      rw [Array.getElem?_toList]
    | succ i =>
      have hl : (ec a).toList.length = 11 := rfl
      rw [List.getElem?_append_right (by rw [hl]; omega), hl, show (i + 1) * 11 + j - 11 = i * 11 + j by omega]
      exact ih i h
theorem own_of_heap {w w' : World} {B e s n : Nat} {v : Value} {xs : List Value} (h : w.ownsRow B e s v n xs) (he : ∀ k, v.ownBlock = some k → w'.heap[k]? = w.heap[k]?) : w'.ownsRow B e s v n xs := by
  obtain ⟨hl, h⟩ := h
  refine ⟨hl, ?_⟩
  rcases h with h | ⟨gb, c, cur, rfl, hb, hh, r⟩
  · exact .inl h
  · exact .inr ⟨gb, c, cur, rfl, hb, (he gb (by simp [Value.ownBlock])).trans hh, r⟩
theorem ents_of_own {w : World} {B : Nat} {A : Option Addr} {n c : Nat} {es : List En} (h : w.ownsRow B 24 11 (.slice A n c) n (flat es)) (hl : es.length = n) : Ents w.heap.size A n es w := by
  refine ⟨hl, fun i e he => ?_⟩
  have hi : i < n := by
    rw [← hl]
    exact (List.getElem?_eq_some_iff.1 he).1
  obtain ⟨g, cap, hv, hb, hg⟩ := h.form (by omega)
  have hA : A = some ⟨g, 0, none⟩ ∧ c = cap := by
    simp at hv
    exact hv
  obtain ⟨rfl, rfl⟩ := hA
  refine ⟨_, rfl, hg, fun j hj => ?_⟩
  have h1 := h.cellAt (i * 11 + j) (by omega)
  rw [flat_get es i e he j hj] at h1
  rw [← h1, Addr.add_mid, Addr.add_mid, Nat.zero_add]

/-- The state of the loop that goes through the letters. -/
structure Nd (w0 : World) (m : Ms) (b : Array Value) (r : Int) (g : Nat) (l : List UInt8) (A : Option Addr) (c : Nat) (es : List En) (wr : World) : Prop where
  box : wr.heap[w0.heap.size]? = some (.cells b 32 (0, 0))
  res : wr.heap[w0.heap.size + 1]? = some (.cells (mc mzz) 29 (0, 0))
  src : wr.heap[w0.heap.size + 1 + 1]? = some (.cells (mc m) 29 (0, 0))
  out : wr.heap[g]? = some (.cells (mc (npart m r l A es.length c es)) 29 (0, 0))
  own : wr.ownsRow (g + 1) 24 11 (.slice A es.length c) es.length (flat es)
  be : Below w0.heap.size w0 wr
  lt : w0.heap.size + 1 + 1 < g
section
variable {w0 : World} {m : Ms} {b : Array Value} {r : Int} {g : Nat} {l : List UInt8} {A : Option Addr} {c : Nat} {es : List En} {wr w1 : World}
theorem Nd.gs (h : Nd w0 m b r g l A c es wr) : g < wr.heap.size := (Array.getElem?_eq_some_iff.1 h.out).1
theorem Nd.bc (h : Nd w0 m b r g l A c es wr) (i : Nat) : wr.cell? ⟨w0.heap.size, i, none⟩ = b[i]? := cell_of_row wr _ i _ 32 (0, 0) h.box
theorem Nd.rc (h : Nd w0 m b r g l A c es wr) (i : Nat) : wr.cell? ⟨w0.heap.size + 1, i, none⟩ = (mc mzz)[i]? := cell_of_row wr _ i _ 29 (0, 0) h.res
theorem Nd.sc (h : Nd w0 m b r g l A c es wr) (i : Nat) : wr.cell? ⟨w0.heap.size + 1 + 1, i, none⟩ = (mc m)[i]? := cell_of_row wr _ i _ 29 (0, 0) h.src
theorem Nd.oc (h : Nd w0 m b r g l A c es wr) (i : Nat) : wr.cell? ⟨g, i, none⟩ = (mc (npart m r l A es.length c es))[i]? := cell_of_row wr _ i _ 29 (0, 0) h.out
theorem Nd.call (h : Nd w0 m b r g l A c es wr) (hb : Below wr.heap.size wr w1) : Nd w0 m b r g l A c es w1 := by
  have hg := h.gs
  have hl := h.lt
  exact ⟨(hb.block _ (by omega)).trans h.box, (hb.block _ (by omega)).trans h.res, (hb.block _ (by omega)).trans h.src, (hb.block _ hg).trans h.out,
    own_of_heap h.own (fun k hk => hb.block k (h.own.lt k hk).2), h.be.trans (hb.mono h.be.size), hl⟩
theorem Nd.set1 (h : Nd w0 m b r g l A c es wr) (l' : List UInt8) (i : Nat) (u : Value) (hp : mc (npart m r l' A es.length c es) = (mc (npart m r l A es.length c es)).setIfInBounds i u) : Nd w0 m b r g l' A c es (wr.setCell ⟨g, i, none⟩ u) := by
  have hl := h.lt
  refine ⟨(Below.heap_setCell wr _ _ _ (by simp; omega)).trans h.box, (Below.heap_setCell wr _ _ _ (by simp; omega)).trans h.res, (Below.heap_setCell wr _ _ _ (by simp; omega)).trans h.src, by rw [hp]; exact set_blk h.out i u,
    ownsRow_setCell_below h.own (by simp) u, h.be.setCell (p := ⟨g, i, none⟩) (by simp; omega) _, hl⟩
theorem Nd.same (h : Nd w0 m b r g l A c es wr) (l' : List UInt8) (hp : mc (npart m r l' A es.length c es) = mc (npart m r l A es.length c es)) : Nd w0 m b r g l' A c es wr :=
  ⟨h.box, h.res, h.src, by rw [hp]; exact h.out, h.own, h.be, h.lt⟩
/-- An entry was appended. -/
theorem Nd.app {w2 w4 : World} {e : En} {n g4 cap : Nat} {v : Value} (h : Nd w0 m b r g l A c es w2) (hn : es.length = n) (hown : w4.ownsRow (g + 1) 24 11 (.slice (some ⟨g4, 0, none⟩) (n + 1) cap) (n + 1) (flat es ++ (ec e).toList)) (hv : v = .slice A n c) (hgrow : w2.grownBy w4 v.ownBlock) :
    Nd w0 m b r g l (some ⟨g4, 0, none⟩) cap (es ++ [e]) (w4.setCell ⟨g, 9, none⟩ (.slice (some ⟨g4, 0, none⟩) (n + 1) cap)) := by
  subst hv hn
  have hg := h.gs
  have hl := h.lt
  have hne : ∀ k, k ≤ g → some k ≠ (Value.slice A es.length c).ownBlock := fun k hk e => by
    have := (h.own.lt k e.symm).1
    omega
  have hbl : ∀ k, k ≤ g → w4.heap[k]? = w2.heap[k]? := fun k hk => hgrow.block k (by omega) (hne k hk)
  have hbw : Below w0.heap.size w0 w4 := h.be.grown hgrow h.be.size (fun k hk => by have := (h.own.lt k hk).1; omega)
  refine ⟨(Below.heap_setCell w4 _ _ _ (by simp; omega)).trans ((hbl _ (by omega)).trans h.box), (Below.heap_setCell w4 _ _ _ (by simp; omega)).trans ((hbl _ (by omega)).trans h.res), (Below.heap_setCell w4 _ _ _ (by simp; omega)).trans ((hbl _ (by omega)).trans h.src), ?_, ?_, hbw.setCell (p := ⟨g, 9, none⟩) (by simp; omega) _, hl⟩
  · rw [npart_put m r l A _ es.length _ c cap es (es ++ [e]), List.length_append]
    exact set_blk ((hbl g (Nat.le_refl _)).trans h.out) 9 _
  · rw [flat_snoc, List.length_append]
    exact ownsRow_setCell_below hown (by simp) _
end
theorem fill_allm (E : Ms) : ((((((((((((mc mzz).setIfInBounds 0 (.int .i64 E.kind)).setIfInBounds 1 (.int .i64 E.frm)).setIfInBounds 2 (.int .i64 E.dst)).setIfInBounds 3 (.int .u64 E.term)).setIfInBounds 4 (.int .u64 E.index)).setIfInBounds 5 (.int .u64 E.prev)).setIfInBounds 6 (.int .u64 E.commit)).setIfInBounds 7 (.int .u64 E.mark)).setIfInBounds 8 (.bool E.ok)).setIfInBounds 9 (.slice E.A E.n E.c)).setIfInBounds 10 (.string E.snap)) = mc E := by
  simp
abbrev wrm (wr : World) (g : Nat) (E : Ms) : World := (((((((((((wr.setCell ⟨g, 0, none⟩ (.int .i64 E.kind)).setCell ⟨g, 1, none⟩ (.int .i64 E.frm)).setCell ⟨g, 2, none⟩ (.int .i64 E.dst)).setCell ⟨g, 3, none⟩ (.int .u64 E.term)).setCell ⟨g, 4, none⟩ (.int .u64 E.index)).setCell ⟨g, 5, none⟩ (.int .u64 E.prev)).setCell ⟨g, 6, none⟩ (.int .u64 E.commit)).setCell ⟨g, 7, none⟩ (.int .u64 E.mark)).setCell ⟨g, 8, none⟩ (.bool E.ok)).setCell ⟨g, 9, none⟩ (.slice E.A E.n E.c)).setCell ⟨g, 10, none⟩ (.string E.snap))
theorem store_allm {wr : World} {g : Nat} (E : Ms) (h : wr.heap[g]? = some (.cells (mc mzz) 29 (0, 0))) : (wrm wr g E).heap[g]? = some (.cells (mc E) 29 (0, 0)) := by
  rw [← fill_allm E]
  exact (set_blk (set_blk (set_blk (set_blk (set_blk (set_blk (set_blk (set_blk (set_blk (set_blk (set_blk h 0 _) 1 _) 2 _) 3 _) 4 _) 5 _) 6 _) 7 _) 8 _) 9 _) 10 _)
theorem below_allm {B : Nat} {a wr : World} {g : Nat} (E : Ms) (h : Below B a wr) (hg : B ≤ g) : Below B a (wrm wr g E) :=
  (((((((((((h.setCell (p := ⟨g, 0, none⟩) hg _).setCell (p := ⟨g, 1, none⟩) hg _).setCell (p := ⟨g, 2, none⟩) hg _).setCell (p := ⟨g, 3, none⟩) hg _).setCell (p := ⟨g, 4, none⟩) hg _).setCell (p := ⟨g, 5, none⟩) hg _).setCell (p := ⟨g, 6, none⟩) hg _).setCell (p := ⟨g, 7, none⟩) hg _).setCell (p := ⟨g, 8, none⟩) hg _).setCell (p := ⟨g, 9, none⟩) hg _).setCell (p := ⟨g, 10, none⟩) hg _)
theorem own_allm {wr : World} {g B n c : Nat} {A : Option Addr} {xs : List Value} (E : Ms) (h : wr.ownsRow B 24 11 (.slice A n c) n xs) (hg : g < B) : (wrm wr g E).ownsRow B 24 11 (.slice A n c) n xs :=
  own_of_heap h fun k hk => by
    have hk2 := (h.lt k hk).1
    have hs : ∀ (w : World) (i : Nat) (u : Value), (w.setCell ⟨g, i, none⟩ u).heap[k]? = w.heap[k]? := fun w i u => Below.heap_setCell w _ _ k (by simp; omega)
    show (wrm wr g E).heap[k]? = _
    unfold wrm
    rw [hs, hs, hs, hs, hs, hs, hs, hs, hs, hs, hs]
/-- A letter of entries comes once. -/
theorem mfl_once (r : Int) : ∀ k, k < (mfl r).data.toList.length → (mfl r).data.toList[k]? = some 101 → hasT ((mfl r).data.toList.take k) 101 = false := by
  unfold mfl
  repeat' split
  all_goals decide +kernel
theorem mfl_size (r : Int) : (mfl r).size ≤ 5 := by
  unfold mfl
  repeat' split
  all_goals decide
/-- The numbers of a message that came in are those of their kinds. -/
structure Ms.Wide (m : Ms) : Prop where
  k0 : -9223372036854775808 ≤ m.kind
  k1 : m.kind ≤ 9223372036854775807
  f0 : -9223372036854775808 ≤ m.frm
  f1 : m.frm ≤ 9223372036854775807
  o0 : -9223372036854775808 ≤ m.dst
  o1 : m.dst ≤ 9223372036854775807
  t0 : 0 ≤ m.term
  t1 : m.term ≤ 18446744073709551615
  i0 : 0 ≤ m.index
  i1 : m.index ≤ 18446744073709551615
  p0 : 0 ≤ m.prev
  p1 : m.prev ≤ 18446744073709551615
  c0 : 0 ≤ m.commit
  c1 : m.commit ≤ 18446744073709551615
  m0 : 0 ≤ m.mark
  m1 : m.mark ≤ 18446744073709551615
  s1 : m.snap.size ≤ 140737488351232
  n1 : (m.n : Int) ≤ 9223372036854775807
  eo : ∀ e ∈ m.es, e.Ok
/-- A message by its parts that came in. -/
structure NoteIn (w : World) (m : Ms) (LA : Option Addr) (ln : Nat) (L : List (En × Bool)) : Prop where
  wd : m.Wide
  en : Ents w.heap.size m.A m.n m.es w
  md : Mades w.heap.size LA ln L w
  ok : ∀ p ∈ L, p.1.Ok
  ll : (ln : Int) ≤ 9223372036854775807
end Go.Proofs.YtpdbeijfchmlgaaGreat
