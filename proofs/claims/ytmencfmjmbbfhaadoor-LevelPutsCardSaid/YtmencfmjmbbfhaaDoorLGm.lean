/-
  What Get reads of a text; what was put is read.
  Conditions: named in each theorem.
-/
import Derived.Test.YtmencfmjmbbfhaaDoorLPt
import Derived.Test.YtmencfmjmbbfhaaDoorVar
namespace Go.Proofs.YtmencfmjmbbfhaaDoor
open Go.RowKit
set_option linter.unusedVariables false
set_option linter.unusedSimpArgs false
def tkV (t : ByteArray) : Int := wrap64 (Vi.varV t)
def rdK : Nat → ByteArray → List Int × List Int × ByteArray
  | 0, t => ([], [], t)
  | k + 1, t => ((rdK k t).1 ++ [tkV (rdK k t).2.2], (rdK k t).2.1 ++ [tkV (Vi.varT (rdK k t).2.2)], Vi.varT (Vi.varT (rdK k t).2.2))
def getX (s : ByteArray) : Cf :=
  ⟨(rdK (Vi.varV s) (Vi.varT s)).1, (rdK (Vi.varV s) (Vi.varT s)).2.1, tkV (rdK (Vi.varV s) (Vi.varT s)).2.2, tkV (Vi.varT (rdK (Vi.varV s) (Vi.varT s)).2.2) == 1⟩
def getO (s : ByteArray) : Bool := decide (Vi.varV s ≤ 7) && rightC (getX s) && decide (putC (getX s) = s)
theorem rdK_len (k : Nat) (t : ByteArray) : (rdK k t).1.length = k ∧ (rdK k t).2.1.length = k := by
  induction k with
  | zero => exact ⟨rfl, rfl⟩
  | succ k ih => simp [rdK, ih.1, ih.2]
theorem varT_size (t : ByteArray) : (Vi.varT t).size ≤ t.size := by unfold Vi.varT; rw [ByteArray.size_extract]; omega
theorem rdK_size (k : Nat) (t : ByteArray) : (rdK k t).2.2.size ≤ t.size := by
  induction k with
  | zero => exact Nat.le_refl _
  | succ k ih => exact Nat.le_trans (varT_size _) (Nat.le_trans (varT_size _) ih)
theorem nums_str (l : List Nat) (h : ∀ x ∈ l, x < 256) : Vi.nums (Vi.str l) = l := by
  unfold Vi.nums Vi.str
  rw [strOfNums_data, List.map_map, List.map_map]
  conv => rhs; rw [← List.map_id l]
  refine List.map_congr_left fun x hx => ?_
  have := h x hx
  simp; omega
theorem read1 (x : Nat) (l : List Nat) (hx : x < 128) (hl : ∀ y ∈ l, y < 256) : Vi.varV (Vi.str (x :: l)) = x ∧ Vi.varT (Vi.str (x :: l)) = Vi.str l := by
  have hn : Vi.nums (Vi.str (x :: l)) = x :: l := nums_str _ fun y hy => by
    rcases List.mem_cons.1 hy with rfl | hy
    · omega
    · exact hl y hy
  have h := Vi.var_yes (Vi.str (x :: l)) 0 (by intro j hj; omega) (by rw [Vi.str_size]; simp) (by rw [hn]; exact hx) (by omega) ⟨.inl rfl, by omega⟩
  refine ⟨?_, ?_⟩
  · rw [h.1, hn]
    show Vi.val [x] % _ = x
    simp only [Vi.val]
    omega
  · rw [h.2.2]
    unfold Vi.str strOfNums
    apply ByteArray.ext
    simp [ByteArray.data_extract, ByteArray.size]
    exact List.take_of_length_le (by simp)
theorem tk1 (x : Int) (l : List Nat) (h0 : 0 ≤ x) (h1 : x < 128) (hl : ∀ y ∈ l, y < 256) : tkV (Vi.str (x.toNat :: l)) = x ∧ Vi.varT (Vi.str (x.toNat :: l)) = Vi.str l := by
  have h := read1 x.toNat l (by omega) hl
  refine ⟨?_, h.2⟩
  unfold tkV
  rw [h.1]
  unfold wrap64
  omega
def fp : List Int → List Int → List Nat
  | x :: m, y :: h => x.toNat :: y.toNat :: fp m h
  | _, _ => []
theorem fp_snoc : ∀ (m h : List Int) (x y : Int), m.length = h.length → fp (m ++ [x]) (h ++ [y]) = fp m h ++ [x.toNat, y.toNat]
  | [], [], x, y, _ => rfl
  | a :: m, b :: h, x, y, e => by
    simp only [List.length_cons, Nat.add_right_cancel_iff] at e
    simp only [List.cons_append, fp, fp_snoc m h x y e]
theorem pl_fp (c : Cf) (hn : c.h.length = c.m.length) (k : Nat) (hk : k ≤ c.m.length) : pl c k = c.m.length :: fp (c.m.take k) (c.h.take k) := by
  induction k with
  | zero => rfl
  | succ k ih =>
    have h1 : c.m.take (k + 1) = c.m.take k ++ [c.m.getD k 0] := by
      rw [List.take_succ_eq_append_getElem (by omega), List.getD_eq_getElem?_getD, List.getElem?_eq_getElem (by omega)]; rfl
    have h2 : c.h.take (k + 1) = c.h.take k ++ [c.h.getD k 0] := by
      rw [List.take_succ_eq_append_getElem (by omega), List.getD_eq_getElem?_getD, List.getElem?_eq_getElem (by omega)]; rfl
    rw [pl, ih (by omega), h1, h2, fp_snoc _ _ _ _ (by simp; omega)]
    rfl
theorem putL_fp (c : Cf) (hn : c.h.length = c.m.length) : putL c = c.m.length :: (fp c.m c.h ++ [c.l.toNat, if c.f then 1 else 0]) := by
  unfold putL
  rw [pl_fp c hn _ (Nat.le_refl _), List.take_length, ← hn, List.take_length]
  rfl
theorem fp_lt : ∀ (m h : List Int), (∀ x ∈ m, 0 ≤ x ∧ x < 128) → (∀ x ∈ h, 0 ≤ x ∧ x < 128) → ∀ y ∈ fp m h, y < 256
  | [], _, _, _, y, hy => by simp [fp] at hy
  | _ :: _, [], _, _, y, hy => by simp [fp] at hy
  | a :: m, b :: h, h1, h2, y, hy => by
    simp only [fp, List.mem_cons] at hy
    have q1 := h1 a (by simp)
    have q2 := h2 b (by simp)
    rcases hy with rfl | rfl | hy
    · omega
    · omega
    · exact fp_lt m h (fun x hx => h1 x (by simp [hx])) (fun x hx => h2 x (by simp [hx])) y hy
theorem rdK_fp (tl : List Nat) (ht : ∀ y ∈ tl, y < 256) (m h : List Int) (hl : h.length = m.length) (h1 : ∀ x ∈ m, 0 ≤ x ∧ x < 128) (h2 : ∀ x ∈ h, 0 ≤ x ∧ x < 128) : ∀ k, k ≤ m.length →
    rdK k (Vi.str (fp m h ++ tl)) = (m.take k, h.take k, Vi.str (fp (m.drop k) (h.drop k) ++ tl))
  | 0, _ => rfl
  | k + 1, hk => by
    have ih := rdK_fp tl ht m h hl h1 h2 k (by omega)
    have e1 : m.drop k = m[k] :: m.drop (k + 1) := List.drop_eq_getElem_cons (by omega)
    have e2 : h.drop k = h[k]'(by omega) :: h.drop (k + 1) := List.drop_eq_getElem_cons (by omega)
    have q1 := h1 m[k] (List.getElem_mem _)
    have q2 := h2 (h[k]'(by omega)) (List.getElem_mem _)
    have hlt : ∀ y ∈ fp (m.drop (k + 1)) (h.drop (k + 1)) ++ tl, y < 256 := fun y hy => by
      rcases List.mem_append.1 hy with hy | hy
      · exact fp_lt _ _ (fun x hx => h1 x (List.mem_of_mem_drop hx)) (fun x hx => h2 x (List.mem_of_mem_drop hx)) y hy
      · exact ht y hy
    rw [rdK, ih]
    simp only [e1, e2, fp, List.cons_append]
    have r1 := tk1 m[k] ((h[k]'(by omega)).toNat :: (fp (m.drop (k + 1)) (h.drop (k + 1)) ++ tl)) q1.1 q1.2 (fun y hy => by
      rcases List.mem_cons.1 hy with rfl | hy
      · omega
      · exact hlt y hy)
    have r2 := tk1 (h[k]'(by omega)) (fp (m.drop (k + 1)) (h.drop (k + 1)) ++ tl) q2.1 q2.2 hlt
    rw [r1.1, r1.2, r2.1, r2.2, List.take_succ_eq_append_getElem (by omega), List.take_succ_eq_append_getElem (by omega)]
theorem get_put (c : Cf) (hr : RightC c) : getX (putC c) = c ∧ getO (putC c) = true := by
  have hn := hr.hn
  have h7 := hr.len
  have b1 : ∀ x ∈ c.m, 0 ≤ x ∧ x < 128 := fun x hx => by have := rise_mem hr.r x hx; omega
  have l1 := hr.l1
  have l2 := hr.l2
  have b2 : ∀ x ∈ c.h, 0 ≤ x ∧ x < 128 := fun x hx => by have := hr.ha x hx; omega
  have ht : ∀ y ∈ [c.l.toNat, if c.f then 1 else 0], y < 256 := by
    intro y hy
    simp only [List.mem_cons, List.not_mem_nil, or_false] at hy
    rcases hy with rfl | rfl
    · omega
    · split <;> omega
  have hlt : ∀ y ∈ fp c.m c.h ++ [c.l.toNat, if c.f then 1 else 0], y < 256 := fun y hy => by
    rcases List.mem_append.1 hy with hy | hy
    · exact fp_lt _ _ b1 b2 y hy
    · exact ht y hy
  have r0 := read1 c.m.length (fp c.m c.h ++ [c.l.toNat, if c.f then 1 else 0]) (by omega) hlt
  have hX : getX (putC c) = c := by
    unfold getX putC
    rw [putL_fp c hn, r0.1, r0.2, rdK_fp _ ht c.m c.h hn b1 b2 _ (Nat.le_refl _), List.take_length, List.drop_length, ← hn, List.take_length, List.drop_length]
    simp only [fp, List.nil_append]
    have r1 := tk1 c.l [if c.f then 1 else 0] (by omega) (by omega) (fun y hy => ht y (by simp at hy; simp [hy]))
    have r2 := tk1 (if c.f then 1 else 0) [] (by split <;> omega) (by split <;> omega) (fun y hy => by cases hy)
    have e3 : (if c.f then (1 : Int) else 0).toNat = if c.f then 1 else 0 := by split <;> rfl
    rw [e3] at r2
    rw [r1.1, r1.2, r2.1]
    cases c with
    | mk m h l f => cases f <;> rfl
  refine ⟨hX, ?_⟩
  unfold getO
  rw [hX, (rightC_iff c).2 hr]
  have : Vi.varV (putC c) = c.m.length := by unfold putC; rw [putL_fp c hn]; exact r0.1
  rw [this]
  simp; omega
/-- A text of another length than what it begins like is none. -/
theorem get_none (c : Cf) (hr : RightC c) (s : ByteArray) (hs : s.size ≠ (putC c).size) (hh : 0 < s.size → Vi.hdB s = Vi.hdB (putC c)) : getO s = false := by
  rcases hO : getO s with _ | _
  · rfl
  exfalso
  unfold getO at hO
  simp only [Bool.and_eq_true, decide_eq_true_eq] at hO
  obtain ⟨⟨_, h2⟩, h3⟩ := hO
  have hr2 := (rightC_iff _).1 h2
  obtain ⟨d, hd⟩ : ∃ d, d = getX s := ⟨_, rfl⟩
  rw [← hd] at h3 hr2
  have z1 : (putC d).size = 2 * d.m.length + 3 := by unfold putC; rw [Vi.str_size, putL_length]
  have z2 : (putC c).size = 2 * c.m.length + 3 := by unfold putC; rw [Vi.str_size, putL_length]
  have hd0 : ∀ e, RightC e → Vi.hdB (putC e) = e.m.length := fun e he => by
    unfold putC Vi.hdB
    rw [putL_fp e he.hn]
    have := he.len
    have h9 : (Vi.str (e.m.length :: (fp e.m e.h ++ [e.l.toNat, if e.f then 1 else 0]))).data.toList.getD 0 0 = UInt8.ofNat (((e.m.length : Nat) : Int)).toNat := rfl
    rw [h9]
    simp; omega
  rw [← h3, hd0 d hr2, hd0 c hr] at hh
  rw [← h3, z1, z2] at hs
  rw [z1] at hh
  have := hh (by omega)
  omega
end Go.Proofs.YtmencfmjmbbfhaaDoor
