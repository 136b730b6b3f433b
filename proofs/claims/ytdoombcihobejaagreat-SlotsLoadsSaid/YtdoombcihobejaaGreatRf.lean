/-
  The document's own device (pintleref03) in memory, told by the same plain mathematics; the contracts of its New and Of.
  Conditions: named in each theorem.
-/
import Derived.Test.YtdoombcihobejaaGreatEx
import Derived.Test.YtdoombcihobejaaGreatKp
namespace Go.Proofs.YtdoombcihobejaaGreat
open Go.RowKit Dk
set_option linter.unusedVariables false
theorem Tryz.info9 : (Tryz.prog.info? 9).map (fun i => (i.zero, i.size, i.bytes)) = some (some (.string ⟨#[]⟩), 1, 16) := by kernel_rfl
theorem Tryz.info4 : (Tryz.prog.info? 4).map (fun i => (i.zero, i.size, i.bytes)) = some (some (.bool false), 1, 1) := by kernel_rfl
namespace Dk
/-- The first n of a row that is told by a function. -/
def rowV (f : Nat → Value) (n : Nat) : List Value := (List.range n).map f
theorem rowV_length (f : Nat → Value) (n : Nat) : (rowV f n).length = n := by simp [rowV]
theorem rowV_succ (f : Nat → Value) (n : Nat) : rowV f (n + 1) = rowV f n ++ [f n] := by simp [rowV, List.range_succ]
theorem rowV_get (f : Nat → Value) (n i : Nat) (h : i < n) : (rowV f n)[i]? = some (f i) := by simp [rowV, h]
theorem rowV_set (f g : Nat → Value) (n i : Nat) (h : ∀ j, j < n → j ≠ i → g j = f j) : (rowV f n).set i (g i) = rowV g n := by
  apply List.ext_getElem?
  intro j
  rw [List.getElem?_set]
  by_cases e : i = j
  · subst e
    rw [if_pos rfl, rowV_length]
    split
    · rename_i hi; rw [rowV_get g n i hi]
    · rename_i hi; rw [List.getElem?_eq_none (by rw [rowV_length]; omega)]
  · rw [if_neg e]
    by_cases hj : j < n
    · rw [rowV_get f n j hj, rowV_get g n j hj, h j hj (fun e1 => e e1.symm)]
    · rw [List.getElem?_eq_none (by rw [rowV_length]; omega), List.getElem?_eq_none (by rw [rowV_length]; omega)]
theorem rowV_congr (f g : Nat → Value) (n : Nat) (h : ∀ j, j < n → f j = g j) : rowV f n = rowV g n := by
  unfold rowV
  exact List.map_congr_left (fun j hj => h j (List.mem_range.1 hj))
def nowV (d : St) (i : Nat) : Value := .string (txt (d.now i))
def oldV (d : St) (i : Nat) : Value := .string (txt (d.fl i))
def wtV (d : St) (i : Nat) : Value := .bool (d.wt i).isSome
structure RfAt (w : World) (B gr : Nat) (v1 v2 v3 : Value) (d : St) : Prop where
  blk : w.heap[gr]? = some (.cells #[v1, v2, v3, .int .i64 (max d.left (-1)), .bool d.dead] 66 (0, 0))
  r1 : w.ownsRow B 9 1 v1 d.n (rowV (nowV d) d.n)
  r2 : w.ownsRow B 9 1 v2 d.n (rowV (oldV d) d.n)
  r3 : w.ownsRow B 4 1 v3 d.n (rowV (wtV d) d.n)
  ap : ∀ k, v1.ownBlock = some k → v2.ownBlock ≠ some k
  hB : B ≤ gr
/-- The blocks of the document's own device. -/
def blks (gr : Nat) (v1 v2 v3 : Value) : List Nat := gr :: (v1.ownBlock.toList ++ v2.ownBlock.toList ++ v3.ownBlock.toList)
def Rf (w : World) (B gr : Nat) (L : List Nat) (d : St) : Prop := d.Ok ∧ ∃ v1 v2 v3, L = blks gr v1 v2 v3 ∧ RfAt w B gr v1 v2 v3 d
theorem mem_blks {gr k : Nat} {v1 v2 v3 : Value} : k ∈ blks gr v1 v2 v3 ↔ k = gr ∨ v1.ownBlock = some k ∨ v2.ownBlock = some k ∨ v3.ownBlock = some k := by
  unfold blks
  simp [Option.mem_toList]
section
variable {w w' : World} {B gr g : Nat} {v1 v2 v3 : Value} {L L' : List Nat} {d d' : St}
theorem own_heap {e s n k : Nat} {v : Value} {xs : List Value} (h : w.ownsRow B e s v n xs) (hk : v.ownBlock = some k) : ∃ cur, w.heap[k]? = some (.cells cur e (0, 0)) := by
  rcases h.2 with ⟨rfl, _⟩ | ⟨gb, c, cur, rfl, _, hh, _⟩
  · simp [Value.ownBlock] at hk
  · have : gb = k := by simpa [Value.ownBlock] using hk
    subst this; exact ⟨cur, hh⟩
theorem row_of_heap {e s n : Nat} {v : Value} {xs : List Value} (h : w.ownsRow B e s v n xs) (he : ∀ k, v.ownBlock = some k → w'.heap[k]? = w.heap[k]?) : w'.ownsRow B e s v n xs := by
  obtain ⟨hl, h⟩ := h
  refine ⟨hl, ?_⟩
  rcases h with h | ⟨gb, c, cur, rfl, hb, hh, r⟩
  · exact .inl h
  · exact .inr ⟨gb, c, cur, rfl, hb, (he gb (by simp [Value.ownBlock])).trans hh, r⟩
theorem RfAt.of_heap (h : RfAt w B gr v1 v2 v3 d) (he : ∀ k ∈ blks gr v1 v2 v3, w'.heap[k]? = w.heap[k]?) : RfAt w' B gr v1 v2 v3 d :=
  ⟨(he gr (mem_blks.2 (.inl rfl))).trans h.blk, row_of_heap h.r1 (fun k hk => he k (mem_blks.2 (.inr (.inl hk)))), row_of_heap h.r2 (fun k hk => he k (mem_blks.2 (.inr (.inr (.inl hk))))), row_of_heap h.r3 (fun k hk => he k (mem_blks.2 (.inr (.inr (.inr hk))))), h.ap, h.hB⟩
/-- What a block of the document's own device holds. -/
theorem Rf.types (h : Rf w B gr L d) : ∀ k ∈ L, ∃ cur t, w.heap[k]? = some (.cells cur t (0, 0)) ∧ (t = 66 ∨ t = 9 ∨ t = 4) := by
  obtain ⟨_, v1, v2, v3, rfl, hA⟩ := h
  intro k hk
  rcases mem_blks.1 hk with rfl | hk | hk | hk
  · exact ⟨_, _, hA.blk, .inl rfl⟩
  · obtain ⟨cur, hh⟩ := own_heap hA.r1 hk; exact ⟨_, _, hh, .inr (.inl rfl)⟩
  · obtain ⟨cur, hh⟩ := own_heap hA.r2 hk; exact ⟨_, _, hh, .inr (.inl rfl)⟩
  · obtain ⟨cur, hh⟩ := own_heap hA.r3 hk; exact ⟨_, _, hh, .inr (.inr rfl)⟩
theorem Rf.lt (h : Rf w B gr L d) : ∀ k ∈ L, k < w.heap.size := fun k hk => by
  obtain ⟨cur, t, hh, _⟩ := h.types k hk; exact lt_of_heap hh
theorem Rf.of_heap (h : Rf w B gr L d) (he : ∀ k ∈ L, w'.heap[k]? = w.heap[k]?) : Rf w' B gr L d := by
  obtain ⟨ho, v1, v2, v3, rfl, hA⟩ := h
  exact ⟨ho, v1, v2, v3, rfl, hA.of_heap he⟩
theorem Rf.below (h : Rf w B gr L d) (hb : Below w.heap.size w w') : Rf w' B gr L d := h.of_heap (fun k hk => hb.block k (h.lt k hk))
theorem Rf.keep {K : List Nat} (h : Rf w B gr L d) (hk : Keep K w w') (hd : ∀ k ∈ L, k ∉ K) : Rf w' B gr L d := h.of_heap (fun k hm => hk.block k (h.lt k hm) (hd k hm))
theorem Rf.low (h : Rf w B gr L d) : ∀ k ∈ L, B ≤ k := by
  obtain ⟨_, v1, v2, v3, rfl, hA⟩ := h
  intro k hk
  rcases mem_blks.1 hk with rfl | hk | hk | hk
  · exact hA.hB
  · exact (hA.r1.lt k hk).1
  · exact (hA.r2.lt k hk).1
  · exact (hA.r3.lt k hk).1
/-- The two devices lie apart. -/
theorem rf_apart {K : List Nat} {gd : Nat} {e : St} (h : Rf w B gr L d) (hD : Dv w gd K e) : ∀ k ∈ L, k ∉ K := by
  intro k hk hm
  obtain ⟨cur, t, hh, ht⟩ := h.types k hk
  obtain ⟨_, fb, mb, cap, rfl, hA⟩ := hD
  simp at hm
  rcases hm with rfl | rfl | rfl
  · rcases ht with rfl | rfl | rfl <;> (have := hh.symm.trans hA.blk; simp at this)
  · obtain ⟨cur', h1, _⟩ := hA.row
    rcases ht with rfl | rfl | rfl <;> (have := hh.symm.trans h1; simp at this)
  · obtain ⟨D, ⟨es, clock, hb, _⟩, _⟩ := hA.map
    have := hh.symm.trans hb; simp at this
end
end Dk
end Go.Proofs.YtdoombcihobejaaGreat
