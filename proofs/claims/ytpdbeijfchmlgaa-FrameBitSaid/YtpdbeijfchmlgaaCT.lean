/-
  What was put, with one byte of it turned, is got no more.
  Conditions: none but that the byte lies within it.
-/
import Derived.Test.YtpdbeijfchmlgaaCB
import Derived.Laws.Strings
namespace Go.Proofs.Ytpdbeijfchmlgaa
open Go.RowKit
namespace Crc

theorem head_inj {a b : Nat} (ha : a < 4294967296) (hb : b < 4294967296) (h : head a = head b) : a = b := by
  have hd := congrArg (fun t : ByteArray => t.data.toList.map UInt8.toNat) h
  simp only [head, List.map, List.cons.injEq, UInt8.toNat_ofNat'] at hd
  omega
theorem bytes_ext {a b : ByteArray} (h : a.data.toList = b.data.toList) : a = b := ByteArray.ext (Array.toList_inj.1 h)
theorem getOk_append (h t : ByteArray) (h4 : h.size = 4) : getOk (h ++ t) = true ↔ h = head (moreB 0 t) := by
  have h1 : (h ++ t).extract 0 4 = h := ByteArray.extract_append_eq_left h4.symm
  have h2 : (h ++ t).extract 4 (h ++ t).size = t := ByteArray.extract_append_eq_right h4.symm ByteArray.size_append
  unfold getOk
  rw [h1, h2, beq_iff_eq, ByteArray.toList_eq, ByteArray.toList_eq]
  constructor
  · intro e; exact bytes_ext e
  · intro e; rw [← e]
theorem turned_none (t : ByteArray) (p : Nat) : strOfNums (nums t.size (turned t p 0)) = t :=
  str_same t t.size rfl _ (fun j _ => by unfold turned; split <;> simp_all)
def mask1 (p q : Nat) (c : UInt8) : List UInt8 := List.replicate p 0 ++ [c] ++ List.replicate q 0
theorem mask1_length (p q : Nat) (c : UInt8) : (mask1 p q c).length = p + 1 + q := by simp [mask1]; omega
theorem mask1_get : ∀ (p q : Nat) (c : UInt8) (j : Nat), (mask1 p q c).getD j 0 = if j = p then c else 0
  | 0, q, c, 0 => by simp [mask1]
  | 0, q, c, j + 1 => by
    have : (mask1 0 q c).getD (j + 1) 0 = (List.replicate q (0 : UInt8)).getD j 0 := by simp [mask1]
    rw [this, if_neg (by omega), List.getD_eq_getElem?_getD, List.getElem?_replicate]
    split <;> rfl
  | p + 1, q, c, 0 => by simp [mask1, List.replicate_succ]
  | p + 1, q, c, j + 1 => by
    have e : (mask1 (p + 1) q c).getD (j + 1) 0 = (mask1 p q c).getD j 0 := by simp [mask1, List.replicate_succ]
    rw [e, mask1_get p q c j]
    by_cases h : j = p
    · subst h; rw [if_pos rfl, if_pos rfl]
    · rw [if_neg h, if_neg (by omega)]
/-- The text with a byte turned, aas a list. -/
theorem turned_list (t : ByteArray) (p by_ : Nat) (hp : p < t.size) (hb : by_ < 256) :
    (strOfNums (nums t.size (turned t p by_))).data.toList = xorL t.data.toList (mask1 p (t.size - p - 1) (UInt8.ofNat by_)) := by
  refine str_masked t t.size rfl _ _ (by rw [mask1_length]; omega) (fun j hj => ?_)
  rw [mask1_get]
  unfold turned
  by_cases e : j = p
  · subst e; rw [if_pos rfl, if_pos rfl, UInt8.toNat_ofNat', Nat.mod_eq_of_lt (by omega)]
  · rw [if_neg e, if_neg e]; simp
theorem xorL_append : ∀ (a b c d : List UInt8), a.length = c.length → xorL (a ++ b) (c ++ d) = xorL a c ++ xorL b d
  | [], _, [], _, _ => rfl
  | x :: a, b, y :: c, d, h => by
    show (x ^^^ y) :: xorL (a ++ b) (c ++ d) = (x ^^^ y) :: (xorL a c ++ xorL b d)
    rw [xorL_append a b c d (by simpa using h)]
  | [], _, _ :: _, _, h => by simp at h
  | _ :: _, _, [], _, h => by simp at h
theorem xorL_zeros : ∀ (a : List UInt8), xorL a (List.replicate a.length 0) = a
  | [] => rfl
  | a :: aas => by
    show (a ^^^ 0) :: xorL aas (List.replicate aas.length 0) = a :: aas
    rw [xorL_zeros aas]; simp
theorem xorL_self : ∀ (a m : List UInt8), a.length = m.length → xorL a m = a → ∀ c ∈ m, c = 0
  | [], [], _, _, _, h => by cases h
  | a :: aas, m :: ms, hl, h, c, hc => by
    have h' : (a ^^^ m) :: xorL aas ms = a :: aas := h
    rw [List.cons.injEq] at h'
    rcases List.mem_cons.1 hc with rfl | hc
    · have e := congrArg UInt8.toNat h'.1
      rw [UInt8.toNat_xor] at e
      have := (xor_self_iff _ _).1 e
      exact UInt8.toNat_inj.1 (by simpa using this)
    · exact xorL_self aas ms (by simpa using hl) h'.2 c hc
  | [], _ :: _, h, _, _, _ => by simp at h
  | _ :: _, [], h, _, _, _ => by simp at h
theorem mk_size (l : List UInt8) : (ByteArray.mk l.toArray).size = l.length := by simp [ByteArray.size]
/-- What was put, with a byte of it turned. -/
theorem getOk_turned (s : ByteArray) (p by_ : Nat) (hp : p < (putB s).size) (hb : by_ < 256) (h0 : by_ ≠ 0) :
    getOk (strOfNums (nums (putB s).size (turned (putB s) p by_))) = false := by
  have hps := putB_size s
  have hl := turned_list (putB s) p by_ hp hb
  have hc : UInt8.ofNat by_ ≠ 0 := fun e => h0 (by
    have := congrArg UInt8.toNat e
    rw [UInt8.toNat_ofNat', Nat.mod_eq_of_lt (by omega)] at this
    simpa using this)
  have hls : s.data.toList.length = s.size := by simp
  have hT : (putB s).data.toList = (head (moreB 0 s)).data.toList ++ s.data.toList := by unfold putB; exact ByteArray.toList_data_append
  have hH : (head (moreB 0 s)).data.toList.length = 4 := rfl
  rw [hT] at hl
  rw [Bool.eq_false_iff]
  intro hg
  by_cases h4 : p < 4
  · -- one of the sum's own bytes
    have hm : mask1 p ((putB s).size - p - 1) (UInt8.ofNat by_) = mask1 p (3 - p) (UInt8.ofNat by_) ++ List.replicate s.data.toList.length 0 := by
      unfold mask1
      rw [List.append_assoc (List.replicate p 0 ++ [UInt8.ofNat by_]), List.replicate_append_replicate]
      congr 2
      omega
    rw [hm, xorL_append _ _ _ _ (by rw [hH, mask1_length]; omega), xorL_zeros] at hl
    have hB : strOfNums (nums (putB s).size (turned (putB s) p by_)) = ByteArray.mk (xorL (head (moreB 0 s)).data.toList (mask1 p (3 - p) (UInt8.ofNat by_))).toArray ++ s := by
      apply bytes_ext
      rw [hl, ByteArray.toList_data_append]
    rw [hB, getOk_append _ _ (by rw [mk_size, xorL_length _ _ (by rw [hH, mask1_length]; omega), hH])] at hg
    have e := congrArg (fun t : ByteArray => t.data.toList) hg
    exact hc (xorL_self _ _ (by rw [hH, mask1_length]; omega) e _ (by simp [mask1]))
  · -- one of the text's
    have hm : mask1 p ((putB s).size - p - 1) (UInt8.ofNat by_) = List.replicate 4 0 ++ mask1 (p - 4) (s.size - (p - 4) - 1) (UInt8.ofNat by_) := by
      unfold mask1
      rw [← List.append_assoc, ← List.append_assoc, List.replicate_append_replicate]
      congr 3
      · omega
      · omega
    rw [hm, xorL_append _ _ _ _ (by rw [hH]; simp)] at hl
    have hz : xorL (head (moreB 0 s)).data.toList (List.replicate 4 0) = (head (moreB 0 s)).data.toList := xorL_zeros (head (moreB 0 s)).data.toList
    rw [hz] at hl
    have hB : strOfNums (nums (putB s).size (turned (putB s) p by_)) = head (moreB 0 s) ++ ByteArray.mk (xorL s.data.toList (mask1 (p - 4) (s.size - (p - 4) - 1) (UInt8.ofNat by_))).toArray := by
      apply bytes_ext
      rw [hl, ByteArray.toList_data_append]
    rw [hB, getOk_append _ _ rfl] at hg
    have e := head_inj (moreB_lt _ _) (moreB_lt _ _) hg
    have e2 := (more_masked 0 s.data.toList (p - 4) (s.size - (p - 4) - 1) [UInt8.ofNat by_] (by simp) (by rw [hls]; simp; omega)).1 e.symm
    exact hc (e2 _ (by simp))

end Crc
end Go.Proofs.Ytpdbeijfchmlgaa
