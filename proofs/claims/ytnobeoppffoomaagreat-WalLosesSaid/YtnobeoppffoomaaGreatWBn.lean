/-
  The bytes of a region behind Add, Flush, Wipe: mathematics.
  Conditions: named in each theorem.
-/
import Derived.Test.YtnobeoppffoomaaGreatG36
import Derived.Test.YtnobeoppffoomaaGreatWRe
namespace Go.Proofs.YtnobeoppffoomaaGreat
open Go.RowKit
set_option linter.unusedVariables false
set_option linter.unusedSimpArgs false
open Dk
theorem zz_list (n : Nat) : (zz n).data.toList = List.replicate n 0 := by
  unfold zz
  rw [txt_list]
  rfl
/-- The i-th sector of a text. -/
def sx (T : List UInt8) (i : Nat) : Sec := pad ((T.drop (i * 64)).take 64)
theorem put_now (d : St) (i j : Nat) (s : Sec) : (d.step.put i s).now j = if j = i then s else d.now j := by
  unfold St.put St.now
  by_cases h : j = i
  · simp [h]
  · simp only [h, if_false]
    rfl
theorem wrL_now (first : Nat) (l : List UInt8) (n : Nat) : ∀ (r k : Nat) (d : St), Alv d n → first + k + r ≤ n → ∀ j, (wrL first l r k d).1.now j = if first + k ≤ j ∧ j < first + k + r then sx l (j - first) else d.now j
  | 0, k, d, h, _, j => by rw [if_neg (by omega)]; rfl
  | r + 1, k, d, h, hk, j => by
    obtain ⟨h1, h2⟩ := h.write (i := first + k) (by omega) ((l.drop (k * 64)).take 64) (by rw [List.length_take]; omega)
    have ih := wrL_now first l n r (k + 1) _ h2 (by omega) j
    have e : wrL first l (r + 1) k d = wrL first l r (k + 1) (d.step.put (first + k) (pad ((l.drop (k * 64)).take 64))) := by
      rw [wrL, h1, if_pos rfl]
    rw [e, ih, put_now]
    by_cases hj : j = first + k
    · rw [if_neg (by omega), if_pos hj, if_pos (by omega)]
      unfold sx
      rw [show j - first = k by omega]
    · rw [if_neg hj]
      by_cases h3 : first + (k + 1) ≤ j ∧ j < first + (k + 1) + r
      · rw [if_pos h3, if_pos (by omega)]
      · rw [if_neg h3, if_neg (by omega)]
theorem wrS_now {d : St} {n : Nat} (h : Alv d n) (first : Nat) (l : List UInt8) (hf : first + (l.length + 63) / 64 ≤ n) (j : Nat) : (wrS d first l).1.now j = if first ≤ j ∧ j < first + (l.length + 63) / 64 then sx l (j - first) else d.now j := by
  have := wrL_now first l n ((l.length + 63) / 64) 0 d h (by omega) j
  rw [Nat.add_zero] at this
  exact this
theorem sx_far {T : List UInt8} {i : Nat} (h : T.length ≤ i * 64) : sx T i = zsec := by
  unfold sx pad zsec
  rw [List.drop_eq_nil_of_le h]
  rfl
/-- The region's sectors hold the text, and zeros behind it. -/
def Holds (d : St) (at_ m : Nat) (T : List UInt8) : Prop := ∀ i, i < m → d.now (at_ + i) = sx T i
theorem sx_add (T s : List UInt8) (i : Nat) (hi : i < T.length / 64) : sx (T ++ s) i = sx T i := by
  unfold sx
  congr 1
  rw [List.drop_append_of_le_length (by omega), List.take_append_of_le_length (by rw [List.length_drop]; omega)]
theorem sx_tail (T s : List UInt8) (q i : Nat) (hq : q * 64 ≤ T.length) : sx ((T.drop (q * 64)) ++ s) i = sx (T ++ s) (q + i) := by
  unfold sx
  congr 2
  rw [show (q + i) * 64 = q * 64 + i * 64 by omega, ← List.drop_drop, List.drop_append_of_le_length hq]
theorem ah_holds {d : St} {n at_ m : Nat} {T : List UInt8} (h : Alv d n) (hn : at_ + m ≤ n) (hT : T.length ≤ m * 64) (hH : Holds d at_ m T) : ahL d at_ T.length = T.drop (T.length / 64 * 64) := by
  unfold ahL
  by_cases h0 : T.length % 64 = 0
  · rw [if_pos h0, List.drop_eq_nil_of_le (by omega)]
  · rw [if_neg h0, h.refuses (by omega), if_pos rfl, hH _ (by omega)]
    unfold sx pad
    have hl : (T.drop (T.length / 64 * 64)).length = T.length % 64 := by rw [List.length_drop]; omega
    rw [List.take_of_length_le (l := T.drop (T.length / 64 * 64)) (by omega), List.take_append_of_le_length (by omega), List.take_of_length_le (by omega)]
/-- Add puts the records behind the text. -/
theorem add_holds {d : St} {n at_ m : Nat} {v : Int} {es : List En} {T : List UInt8} (h : Alv d n) (ok : d.Ok) (hv : v = 1 ∨ v = 2) (hg : ∀ e ∈ es, Good v e) (hf : T.length + (rcA v (pS v) es).size ≤ m * 64) (hn : at_ + m ≤ n) (hH : Holds d at_ m T) :
    ∃ d', addG d at_ m v T.length es = (d', ((T.length + (rcA v (pS v) es).size : Nat) : Int), 0) ∧ Alv d' n ∧ Holds d' at_ m (T ++ (rcA v (pS v) es).data.toList) ∧ ∀ j, j < at_ ∨ at_ + m ≤ j → d'.now j = d.now j := by
  obtain ⟨r1, r2⟩ := rgS_fit (m := m) (u := T.length) hv hg hf
  have hlz : (rcA v (pS v) es).data.toList.length = (rcA v (pS v) es).size := by rw [Array.length_toList]; rfl
  by_cases hz : rcA v (pS v) es = ⟨#[]⟩
  · refine ⟨d, ?_, h, ?_, fun _ _ => rfl⟩
    · unfold addG
      rw [r1, r2, if_neg (by simp), if_pos hz, hz]
      rfl
    · rw [hz]
      show Holds d at_ m (T ++ [])
      rw [List.append_nil]
      exact hH
  obtain ⟨a1, a2⟩ := ahL_size (at_ := at_) (u := T.length) h ok (fun _ => by omega)
  have ae := ah_holds h hn (by omega) hH
  obtain ⟨s, hs⟩ : ∃ s, s = rcA v (pS v) es := ⟨_, rfl⟩
  rw [← hs] at r1 hz hf hlz ⊢
  have hlen : (ahL d at_ T.length ++ s.data.toList).length = T.length % 64 + s.size := by rw [List.length_append, a1, hlz]
  have e1 : T.length - T.length % 64 = T.length / 64 * 64 := by omega
  have e2 : T.length / 64 * 64 / 64 = T.length / 64 := by omega
  have hcap : at_ + T.length / 64 + (T.length % 64 + s.size + 63) / 64 ≤ at_ + m := by omega
  obtain ⟨w1, w2⟩ := wrS_ok h (at_ + T.length / 64) (ahL d at_ T.length ++ s.data.toList) (by rw [hlen]; omega)
  have wn := wrS_now h (at_ + T.length / 64) (ahL d at_ T.length ++ s.data.toList) (by rw [hlen]; omega)
  refine ⟨(wrS d (at_ + T.length / 64) (ahL d at_ T.length ++ s.data.toList)).1, ?_, w2, ?_, ?_⟩
  · unfold addG
    rw [r1, r2, a1, a2, e1, e2, if_neg (by simp), if_neg hz, if_neg (by simp), if_neg (by rw [w1]; simp)]
  · intro i hi
    rw [wn, hlen]
    by_cases h1 : at_ + T.length / 64 ≤ at_ + i ∧ at_ + i < at_ + T.length / 64 + (T.length % 64 + s.size + 63) / 64
    · rw [if_pos h1, ae, show at_ + i - (at_ + T.length / 64) = i - T.length / 64 by omega, sx_tail _ _ _ _ (by omega), show T.length / 64 + (i - T.length / 64) = i by omega]
    · rw [if_neg h1, hH i hi]
      by_cases h2 : i < T.length / 64
      · rw [sx_add _ _ _ h2]
      · rw [sx_far (T := T) (by omega), sx_far (by rw [List.length_append, hlz]; omega)]
  · intro j hj
    rw [wn, hlen, if_neg (by omega)]
theorem holds_nil {d : St} {at_ m : Nat} (h : ∀ i, i < m → d.now (at_ + i) = zsec) : Holds d at_ m [] := fun i hi => by rw [h i hi, sx_far (by simp)]
/-- The region's bytes. -/
theorem cat_sx (F : Nat → Sec) (T : List UInt8) : ∀ m, (∀ i, i < m → F i = sx T i) → catS F m = (T ++ List.replicate (m * 64 - T.length) 0).take (m * 64)
  | 0, _ => by simp [catS]
  | m + 1, h => by
    have ih := cat_sx F T m fun i hi => h i (by omega)
    rw [catS, ih, h m (by omega)]
    have e0 : (T ++ List.replicate (m * 64 - T.length) (0 : UInt8)).take (m * 64) = (T ++ List.replicate ((m + 1) * 64 - T.length) 0).take (m * 64) := by
      by_cases h1 : m * 64 ≤ T.length
      · rw [List.take_append_of_le_length h1, List.take_append_of_le_length h1]
      · rw [List.take_append, List.take_append, List.take_replicate, List.take_replicate]
        congr 2
        omega
    rw [e0, show (m + 1) * 64 = m * 64 + 64 by omega, List.take_add]
    congr 1
    unfold sx pad
    by_cases h1 : T.length ≤ m * 64
    · rw [List.drop_eq_nil_of_le h1, List.drop_append, List.drop_eq_nil_of_le h1, List.drop_replicate, List.nil_append, List.take_replicate]
      show List.replicate 64 (0 : UInt8) = _
      congr 1
      omega
    · rw [List.drop_append_of_le_length (by omega), List.take_append, List.take_replicate, List.length_take, List.length_drop]
      congr 2
      omega
theorem rdB_holds {d : St} {at_ m : Nat} {T : List UInt8} (hT : T.length ≤ m * 64) (h : Holds d at_ m T) : rdB d at_ m = txt T ++ zz (m * 64 - T.length) := by
  unfold rdB
  rw [cat_sx _ T m h, List.take_of_length_le (by rw [List.length_append, List.length_replicate]; omega), txt_app, zz_list]
theorem flush_now {d : St} {n : Nat} (h : Alv d n) : d.flush.2 = 0 ∧ Alv d.flush.1 n ∧ ∀ j, d.flush.1.now j = d.now j := by
  have hl : d.step.left = -1 := by show (if 0 < d.left then d.left - 1 else d.left) = -1; rw [h.l]; rfl
  have e : d.flush = (d.step.settle, 0) := by
    unfold St.flush St.try_
    rw [if_neg (by rw [h.l]; decide), if_neg (by rw [h.x]; decide)]
  rw [e]
  exact ⟨rfl, ⟨h.n, hl, h.x⟩, fun j => rfl⟩
theorem rcA_app {v : Int} {S : En → ByteArray} (a b : List En) (hv : v ≠ 1 ∨ (rcA v S a).size % 64 = 0) : rcA v S (a ++ b) = rcA v S a ++ rcA v S b := by
  have key : ∀ (b : List En) (s t : ByteArray), (v ≠ 1 ∨ s.size % 64 = 0) → b.foldl (fun s e => padv v (s ++ S e)) (s ++ t) = s ++ b.foldl (fun s e => padv v (s ++ S e)) t := by
    intro b
    induction b with
    | nil => intro s t _; rfl
    | cons e b ih =>
      intro s t h
      rw [List.foldl_cons, List.foldl_cons, ← ih s _ h]
      congr 1
      unfold padv
      have h1 : bgn v (s ++ t ++ S e).size - (s ++ t ++ S e).size = bgn v (t ++ S e).size - (t ++ S e).size := by
        simp only [ByteArray.size_append]
        unfold bgn
        rcases h with h | h
        · rw [if_neg h, if_neg h]; omega
        · split <;> omega
      rw [h1]
      apply ByteArray.ext
      simp [ByteArray.data_append, Array.append_assoc]
  unfold rcA
  rw [List.foldl_append]
  have := key b (rcA v S a) ⟨#[]⟩ hv
  have e0 : rcA v S a ++ (⟨#[]⟩ : ByteArray) = rcA v S a := by apply ByteArray.ext; simp [ByteArray.data_append]
  rw [e0] at this
  exact this
theorem rcA1_mod (a : List En) : (rcA 1 (pS 1) a).size % 64 = 0 := by
  rcases List.eq_nil_or_concat a with rfl | ⟨l, e, rfl⟩
  · rfl
  · rw [List.concat_eq_append, rcA_snoc, padv_size]
    unfold bgn
    rw [if_pos rfl]
    omega
/-- Bytes 0 are no frame. -/
theorem nOk_zz (n : Nat) : nOk (zz n) = false := by
  cases n with
  | zero => exact nOk_nil rfl
  | succ n =>
    have hf : Vi.fixV (zz (n + 1)) 1 = 0 := by
      unfold Vi.fixV
      split
      · have hn : Vi.nums (zz (n + 1)) = 0 :: Vi.nums (zz n) := by
          unfold Vi.nums
          rw [zz_list, zz_list]
          rfl
        rw [hn]
        rfl
      · rfl
    unfold nOk nV
    rw [hf]
    rfl
end Go.Proofs.YtnobeoppffoomaaGreat
