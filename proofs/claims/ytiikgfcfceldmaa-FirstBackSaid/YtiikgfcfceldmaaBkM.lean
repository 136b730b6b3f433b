/-
  The row of made entries that the law keeps of its own; the texts of its entries, one behind the other.
  Conditions: named in each theorem.
-/
import Derived.Test.YtiikgfcfceldmaaLMsgs
import Derived.Test.YtiikgfcfceldmaaMLevel
import Derived.Test.YtiikgfcfceldmaaPMv
namespace Go.Proofs.Ytiikgfcfceldmaa
open Go.RowKit

set_option linter.unusedVariables false
set_option linter.unusedSimpArgs false
/-- The cells of made entries, one behind the other. -/
def flatM (L : List (En × Bool)) : List Value := L.flatMap fun p => (mdc p.1 p.2).toList
theorem flatM_length (L : List (En × Bool)) : (flatM L).length = L.length * 12 := by
  induction L with
  | nil => rfl
  | cons p L ih =>
    show ((mdc p.1 p.2).toList ++ flatM L).length = _
    rw [List.length_append, ih]
    show 12 + L.length * 12 = (L.length + 1) * 12
    omega
theorem flatM_get (L : List (En × Bool)) (i : Nat) (p : En × Bool) (h : L[i]? = some p) (j : Nat) (hj : j < 12) : (flatM L)[i * 12 + j]? = (mdc p.1 p.2)[j]? := by
  induction L generalizing i with
  | nil => cases h
  | cons a L ih =>
    have e1 : flatM (a :: L) = (mdc a.1 a.2).toList ++ flatM L := rfl
    rw [e1]
    cases i with
    | zero =>
      have : a = p := Option.some.inj h
      subst this
      rw [List.getElem?_append_left (by show 0 * 12 + j < 12; omega), Nat.zero_mul, Nat.zero_add]
      rw [Array.getElem?_toList]
    | succ i =>
      have hl : (mdc a.1 a.2).toList.length = 12 := rfl
      rw [List.getElem?_append_right (by rw [hl]; omega), hl, show (i + 1) * 12 + j - 12 = i * 12 + j by omega]
      exact ih i h
theorem flatM_one (L : List (En × Bool)) : ∀ u ∈ flatM L, u.oneCell' = true := by
  intro u hu
  unfold flatM at hu
  rw [List.mem_flatMap] at hu
  obtain ⟨p, _, hp⟩ := hu
  simp only [Array.toList] at hp
  simp at hp
  rcases hp with rfl | rfl | rfl | rfl | rfl | rfl | rfl | rfl | rfl | rfl | rfl | rfl <;> rfl
theorem mades_news {B : Nat} {a : Addr} {n m : Nat} {L : List (En × Bool)} {w : World} (h : Mades B (some a) n L w) (hm : m ≤ n) : ∀ j u, (flatM (L.take m))[j]? = some u → w.cell? (a.add j) = some u := by
  intro j u hj
  have hl := flatM_length (L.take m)
  have hlt : j < (L.take m).length * 12 := by rw [← hl]; exact (List.getElem?_eq_some_iff.1 hj).1
  have hi : j / 12 < (L.take m).length := by omega
  obtain ⟨p, hp⟩ : ∃ p, (L.take m)[j / 12]? = some p := ⟨_, List.getElem?_eq_getElem hi⟩
  have hp2 : L[j / 12]? = some p := by
    rw [List.getElem?_take] at hp
    split at hp
    · exact hp
    · cases hp
  obtain ⟨a', ha, _, hc⟩ := h.at_ (j / 12) p hp2
  cases ha
  have h1 := hc (j % 12) (Nat.mod_lt _ (by omega))
  rw [Addr.add_add] at h1
  have h2 := flatM_get (L.take m) (j / 12) p hp (j % 12) (Nat.mod_lt _ (by omega))
  have e1 : j / 12 * 12 + j % 12 = j := by omega
  rw [e1] at h1 h2
  rw [h1, ← h2, hj]
/-- A row of block g: m made entries, of which the first k are made right. -/
structure Mrow (g m : Nat) (Ex : Nat → En) (Ob : Nat → Bool) (k : Nat) (W : World) : Prop where
  blk : ∃ cur, W.heap[g]? = some (.cells cur 26 (0, 0))
  at_ : ∀ i, i < m → ∀ j, j < 12 → W.cell? ⟨g, i * 12 + j, none⟩ = (mdc (Ex i) (if i < k then true else Ob i))[j]?
theorem Mrow.lt {g m k : Nat} {Ex : Nat → En} {Ob : Nat → Bool} {W : World} (h : Mrow g m Ex Ob k W) : g < W.heap.size := by
  obtain ⟨cur, hc⟩ := h.blk
  exact (Array.getElem?_eq_some_iff.1 hc).1
theorem Mrow.on {g m k : Nat} {Ex : Nat → En} {Ob : Nat → Bool} {W W' : World} (h : Mrow g m Ex Ob k W) (hb : W'.heap[g]? = W.heap[g]?) : Mrow g m Ex Ob k W' := by
  obtain ⟨cur, hc⟩ := h.blk
  refine ⟨⟨cur, hb.trans hc⟩, fun i hi j hj => ?_⟩
  rw [← h.at_ i hi j hj]
  exact World.cell?_of_block hb
theorem Mrow.free {g m k : Nat} {Ex : Nat → En} {Ob : Nat → Bool} {W : World} (h : Mrow g m Ex Ob k W) (i : Nat) : W.frozen? ⟨g, i, none⟩ = false := by
  obtain ⟨cur, hc⟩ := h.blk
  exact Lib.frozen_of_heap hc i
theorem Mrow.set {g m k : Nat} {Ex : Nat → En} {Ob : Nat → Bool} {W : World} (h : Mrow g m Ex Ob k W) (hk : k < m) : Mrow g m Ex Ob (k + 1) (W.setCell ⟨g, k * 12 + 11, none⟩ (.bool true)) := by
  obtain ⟨cur, hc⟩ := h.blk
  refine ⟨⟨_, set_blk hc (k * 12 + 11) _⟩, fun i hi j hj => ?_⟩
  by_cases e : i * 12 + j = k * 12 + 11
  · have e1 : i = k := by omega
    have e2 : j = 11 := by omega
    subst e1 e2
    rw [if_pos (by omega)]
    exact World.cell?_setCell_same _ _ _ (h.at_ i hi 11 (by omega))
  · rw [World.cell?_setCell_other _ _ _ _ (by intro hh; injection hh with h1 h2 h3; exact e h2.symm), h.at_ i hi j hj]
    by_cases hik : i = k
    · subst hik
      rw [if_neg (by omega), if_pos (by omega)]
      match j, hj with
      | 0, _ => rfl
      | 1, _ => rfl
      | 2, _ => rfl
      | 3, _ => rfl
      | 4, _ => rfl
      | 5, _ => rfl
      | 6, _ => rfl
      | 7, _ => rfl
      | 8, _ => rfl
      | 9, _ => rfl
      | 10, _ => rfl
      | 11, _ => omega
      | j + 12, h => omega
    · have e3 : (i < k) ↔ (i < k + 1) := by omega
      simp only [e3]
theorem mrow_of_own {w : World} {B m g cap : Nat} {L : List (En × Bool)} {Ex : Nat → En} {Ob : Nat → Bool} (h : w.ownsRow B 26 12 (.slice (some ⟨g, 0, none⟩) m cap) m (flatM L)) (hl : L.length = m) (hL : ∀ i, i < m → L[i]? = some (Ex i, Ob i)) : Mrow g m Ex Ob 0 w := by
  refine ⟨?_, fun i hi j hj => ?_⟩
  · rcases h.2 with ⟨h1, _⟩ | ⟨g', c', cur, h1, _, h2, _⟩
    · cases h1
    · injection h1 with h3
      injection h3 with h3
      injection h3 with h3
      subst h3
      exact ⟨cur, h2⟩
  · have h1 := h.cellAt (g := g) (i * 12 + j) (by omega)
    rw [flatM_get L i _ (hL i hi) j hj] at h1
    rw [if_neg (by omega)]
    exact h1
/-- The texts of the entries from place k on: j of them. -/
def restE (Ex : Nat → En) : Nat → Nat → ByteArray
  | _, 0 => ⟨#[]⟩
  | k, j + 1 => putS (mk (Ex k)) ++ restE Ex (k + 1) j
def catE (Ex : Nat → En) : Nat → ByteArray
  | 0 => ⟨#[]⟩
  | k + 1 => catE Ex k ++ putS (mk (Ex k))
theorem emp_l (s : ByteArray) : (⟨#[]⟩ : ByteArray) ++ s = s := by apply ByteArray.ext; simp
theorem emp_r (s : ByteArray) : s ++ (⟨#[]⟩ : ByteArray) = s := by apply ByteArray.ext; simp
theorem restE_snoc (Ex : Nat → En) : ∀ j k, restE Ex k (j + 1) = restE Ex k j ++ putS (mk (Ex (k + j)))
  | 0, k => by
    show putS (mk (Ex k)) ++ ⟨#[]⟩ = ⟨#[]⟩ ++ putS (mk (Ex k))
    rw [emp_l, emp_r]
  | j + 1, k => by
    show putS (mk (Ex k)) ++ restE Ex (k + 1) (j + 1) = putS (mk (Ex k)) ++ restE Ex (k + 1) j ++ _
    rw [restE_snoc Ex j (k + 1), show k + 1 + j = k + (j + 1) by omega, Vi.append_assoc3]
theorem catE_rest (Ex : Nat → En) : ∀ j, catE Ex j = restE Ex 0 j
  | 0 => rfl
  | j + 1 => by
    rw [restE_snoc, Nat.zero_add]
    show catE Ex j ++ _ = _
    rw [catE_rest Ex j]
theorem catE_size (Ex : Nat → En) (h : ∀ i, (putS (mk (Ex i))).size ≤ 1000) : ∀ k, (catE Ex k).size ≤ 1000 * k
  | 0 => Nat.le_refl _
  | k + 1 => by
    show (catE Ex k ++ putS (mk (Ex k))).size ≤ _
    rw [ByteArray.size_append]
    have h1 := catE_size Ex h k
    have h2 := h k
    omega
theorem restE_size (Ex : Nat → En) (h : ∀ i, (putS (mk (Ex i))).size ≤ 1000) : ∀ j k, (restE Ex k j).size ≤ 1000 * j
  | 0, _ => Nat.le_refl _
  | j + 1, k => by
    show (putS (mk (Ex k)) ++ restE Ex (k + 1) j).size ≤ _
    rw [ByteArray.size_append]
    have h1 := restE_size Ex h j (k + 1)
    have h2 := h k
    omega
end Go.Proofs.Ytiikgfcfceldmaa

