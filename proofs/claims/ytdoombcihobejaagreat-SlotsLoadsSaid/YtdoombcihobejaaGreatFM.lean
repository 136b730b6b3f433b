/-
  Frames as plain mathematics: what is packed, and what is read of a text as a frame.
  Conditions: named in each theorem.
-/
import Derived.Test.YtdoombcihobejaaGreatVGet
import Derived.Test.YtdoombcihobejaaGreatCR
namespace Go.Proofs.YtdoombcihobejaaGreat
open Go.RowKit
set_option linter.unusedVariables false
set_option linter.unusedSimpArgs false
namespace Vi
theorem fx_be : ∀ (l : List Nat), (∀ x ∈ l, x < 256) → fx (be l) l.length = l := by
  have key0 : ∀ (n : Nat) (l : List Nat), l.length = n → (∀ x ∈ l, x < 256) → fx (be l) l.length = l := by
   intro n
   induction n with
   | zero =>
    intro l hl _
    have : l = [] := List.eq_nil_of_length_eq_zero hl
    subst this
    rfl
   | succ n ih0 =>
    intro l0 hl0 h0
    obtain ⟨l, b, rfl⟩ : ∃ l b, l0 = l ++ [b] := ⟨l0.dropLast, l0.getLast (by intro e; rw [e] at hl0; simp at hl0), (List.dropLast_concat_getLast _).symm⟩
    have ih := ih0 l (by simpa using hl0)
    have h := h0
    have hb : b < 256 := h b (by simp)
    have ih' := ih fun x hx => h x (by simp [hx])
    rw [be_snoc, List.length_append, List.length_singleton]
    have key : ∀ k, fx (be l * 256 + b) (k + 1) = fx (be l) k ++ [b] := by
      intro k
      induction k with
      | zero =>
        unfold fx fx
        simp
        omega
      | succ k ik =>
        rw [fx, ik, fx]
        have h1 : (be l * 256 + b) / 256 ^ (k + 1) = be l / 256 ^ k := by
          rw [Nat.pow_succ', ← Nat.div_div_eq_div_mul]
          congr 1
          omega
        rw [h1]
        rfl
    rw [key, ih']
  intro l h
  exact key0 l.length l rfl h
theorem nums_putB (n : Nat) : nums (putB n) = put n := nums_str _ (put_lt n)
theorem var_put (n : Nat) (hn : n < 18446744073709551616) (t : ByteArray) : varV (putB n ++ t) = n ∧ varT (putB n ++ t) = t ∧ varO (putB n ++ t) = true := by
  obtain ⟨h1, h2, h3⟩ := put_reads n hn (nums t)
  have e : nums (putB n ++ t) = put n ++ nums t := by rw [nums_append, nums_putB]
  unfold varV varT varO
  rw [e]
  refine ⟨h2, ?_, h1⟩
  rw [h3]
  have e2 : (put n).length = (putB n).size := by unfold putB; rw [str_size]
  rw [e2]
  exact extract_right _ _
theorem cnt_at : ∀ (l : List Nat), cnt l < l.length → l.getD (cnt l) 0 < 128
  | [], h => absurd h (by simp)
  | b :: l, h => by
    by_cases hb : 128 ≤ b
    · have e : cnt (b :: l) = cnt l + 1 := by
        unfold cnt
        rw [List.takeWhile_cons, if_pos (by simpa using hb), List.length_cons]
      rw [e] at h ⊢
      have ih := cnt_at l (by simpa using h)
      simpa using ih
    · have e : cnt (b :: l) = 0 := by
        unfold cnt
        rw [List.takeWhile_cons, if_neg (by simpa using hb)]; rfl
      rw [e]
      simp
      omega
theorem cnt_pre (l : List Nat) : ∀ j, j < cnt l → 128 ≤ l.getD j 0 := by
  intro j hj
  have hl : cnt l ≤ l.length := by
    unfold cnt
    exact (List.takeWhile_sublist _).length_le
  have hm : l.getD j 0 ∈ l.take (cnt l) := by
    rw [List.getD_eq_getElem?_getD, List.getElem?_eq_getElem (by omega), Option.getD_some]
    exact List.mem_take_iff_getElem.2 ⟨j, by omega, rfl⟩
  exact cnt_mem l _ hm
/-- A number that was read was put so. -/
theorem var_sound (s : ByteArray) (h : varO s = true) : putB (varV s) ++ varT s = s := by
  have ho : okL (nums s) = true := h
  have hd : cnt (nums s) ≤ 9 ∧ cnt (nums s) < (nums s).length ∧ (cnt (nums s) = 0 ∨ (nums s).getD (cnt (nums s)) 0 ≠ 0) ∧ (cnt (nums s) = 9 → (nums s).getD 9 0 ≤ 1) := by
    have := ho
    unfold okL at this
    exact of_decide_eq_true this
  obtain ⟨d1, d2, d3, d4⟩ := hd
  have hb := cnt_at _ d2
  have hp := cnt_pre (nums s)
  have ht := (put_test (nums s) (cnt (nums s)) (nums_lt s) hp d2 hb d1).2 ho
  have hv := val_ok (nums s) (cnt (nums s)) d2 d1 (fun e => by rw [e]; exact d4 e)
  rw [hv] at ht
  obtain ⟨v1, v2⟩ := valL_at (nums s) (cnt (nums s)) hp d2 hb ho
  apply nums_inj
  rw [nums_append, nums_putB]
  unfold varV varT
  rw [v1, v2, ht, nums_extract]
  have : (List.drop (cnt (nums s) + 1) (nums s)).take (s.size - (cnt (nums s) + 1)) = List.drop (cnt (nums s) + 1) (nums s) := List.take_of_length_le (by rw [List.length_drop, nums_length]; omega)
  rw [this, List.take_append_drop]
theorem putB_pos (n : Nat) : 0 < (putB n).size := by unfold putB; rw [str_size]; exact put_length_pos n
theorem empty_app (t : ByteArray) : (⟨#[]⟩ : ByteArray) ++ t = t := by apply ByteArray.ext; simp
/-- A number of a size that was read was put so. -/
theorem fix_sound (s : ByteArray) (k : Nat) (hk : k ≤ 8) (h : hasF s k = true) : fxB (fixV s k) k ++ fixT s k = s := by
  have hh : 0 ≤ (k : Int) ∧ (k : Int) ≤ 8 ∧ (k : Int) ≤ s.size := of_decide_eq_true h
  apply nums_inj
  have e1 : fixV s k = be ((nums s).take k) := by unfold fixV; rw [if_pos h, Int.toNat_natCast]
  have e2 : fixT s k = s.extract k s.size := by unfold fixT; rw [if_pos h, Int.toNat_natCast]
  have hl : ((nums s).take k).length = k := by rw [List.length_take, nums_length]; omega
  have hf := fx_be ((nums s).take k) (fun x hx => nums_lt s x (List.mem_of_mem_take hx))
  rw [hl] at hf
  rw [nums_append, fxB_eq _ k hk, nums_str _ (fx_lt _ _), e1, e2, hf, nums_extract, List.take_of_length_le (l := List.drop k (nums s)) (by rw [List.length_drop, nums_length]; omega), List.take_append_drop]
theorem bytVT (s : ByteArray) (n : Nat) (h : hasB s n = true) : bytV s n ++ bytT s n = s ∧ (bytV s n).size = n := by
  have hh : 0 ≤ (n : Int) ∧ (n : Int) ≤ s.size := of_decide_eq_true h
  have e1 : bytV s n = s.extract 0 n := by unfold bytV; rw [if_pos h, Int.toNat_natCast]
  have e2 : bytT s n = s.extract n s.size := by unfold bytT; rw [if_pos h, Int.toNat_natCast]
  rw [e1, e2]
  refine ⟨?_, by rw [ByteArray.size_extract]; omega⟩
  rw [ByteArray.extract_append_extract]
  have : n ≤ s.size := by omega
  simp [this]
theorem byt_put (a t : ByteArray) : bytV (a ++ t) a.size = a ∧ bytT (a ++ t) a.size = t ∧ hasB (a ++ t) a.size = true := by
  have hh : hasB (a ++ t) a.size = true := decide_eq_true (by rw [ByteArray.size_append]; omega)
  unfold bytV bytT
  rw [if_pos hh, if_pos hh, Int.toNat_natCast]
  exact ⟨extract_left a t, extract_right a t, hh⟩
theorem hasFB (s : ByteArray) (k : Nat) (hk : k ≤ 8) : hasF s k = hasB s k := by
  unfold hasF hasB
  rw [decide_eq_decide]
  omega
theorem fixBT (s : ByteArray) (k : Nat) (hk : k ≤ 8) : fixT s k = bytT s k := by
  unfold fixT bytT
  rw [hasFB s k hk]
theorem fixV_lt1 (s : ByteArray) : fixV s 1 < 256 := by
  unfold fixV
  split
  · have h := be_take_lt (nums s) (nums_getD_lt s) 1
    exact h
  · omega
theorem fixT_size (s : ByteArray) (k : Int) : (fixT s k).size ≤ s.size := by
  unfold fixT
  split
  · rw [ByteArray.size_extract]; omega
  · exact Nat.zero_le _
theorem bytT_size (s : ByteArray) (k : Int) : (bytT s k).size ≤ s.size := by
  unfold bytT
  split
  · rw [ByteArray.size_extract]; omega
  · exact Nat.zero_le _
end Vi
open Vi
/-- The sum of a frame, its length, its head, the frame. -/
def sealB (h b : ByteArray) : ByteArray := fxB (Crc.moreB (Crc.moreB 0 h) b) 4
def lenB (v : Int) (n : Nat) : ByteArray := if v = 1 then fxB n 4 else putB n
def hdF (v : Int) (n : Nat) : ByteArray := fxB (160 + v).toNat 1 ++ lenB v n
def pack (v : Int) (b : ByteArray) : ByteArray := hdF v b.size ++ sealB (hdF v b.size) b ++ b
def pkO (v : Int) (b : ByteArray) : Bool := (decide (v = 1) || decide (v = 2)) && decide (b.size ≤ 1048576)
def pkS (v : Int) (b : ByteArray) : ByteArray := if pkO v b then pack v b else ⟨#[]⟩
theorem seal_size (h b : ByteArray) : (sealB h b).size = 4 := fxB_size _ 4 (by omega)
/-- What is read of a text as a frame. -/
def nV (s : ByteArray) : Int := (fixV s 1 : Int) - 160
def nM (s : ByteArray) : Nat := if nV s = 1 then fixV (fixT s 1) 4 else varV (fixT s 1)
def nT (s : ByteArray) : ByteArray := if nV s = 1 then fixT (fixT s 1) 4 else varT (fixT s 1)
def nO2 (s : ByteArray) : Bool := hasF s 1 && (if nV s = 1 then hasF (fixT s 1) 4 else varO (fixT s 1))
def nHd (s : ByteArray) : ByteArray := s.extract 0 (s.size - (nT s).size)
def nS (s : ByteArray) : ByteArray := bytV (nT s) 4
def nU (s : ByteArray) : ByteArray := bytT (nT s) 4
def nBd (s : ByteArray) : ByteArray := bytV (nU s) (nM s)
def nW (s : ByteArray) : ByteArray := bytT (nU s) (nM s)
def nR (s : ByteArray) : Bool := nO2 s && hasB (nT s) 4 && hasB (nU s) (nM s)
def nOk (s : ByteArray) : Bool := (decide (nV s = 1) || decide (nV s = 2)) && (decide (nM s ≤ 1048576) && (nR s && ((nS s).toList == (sealB (nHd s) (nBd s)).toList)))
def nxV (s : ByteArray) : Int := if nOk s then nV s else 0
def nxB (s : ByteArray) : ByteArray := if nOk s then nBd s else ⟨#[]⟩
def nxN (s : ByteArray) : Int := if nOk s then (s.size : Int) - (nW s).size else 0
theorem beq_iff (a b : ByteArray) : (a.toList == b.toList) = true ↔ a = b := by
  rw [beq_nums, decide_eq_true_iff]
  exact ⟨nums_inj, fun h => by rw [h]⟩
theorem len_pre {v : Int} (hv : v = 1 ∨ v = 2) (n : Nat) (hn : n ≤ 1048576) (t : ByteArray) :
    (if v = 1 then fixV (lenB v n ++ t) 4 else varV (lenB v n ++ t)) = n ∧ (if v = 1 then fixT (lenB v n ++ t) 4 else varT (lenB v n ++ t)) = t ∧ (if v = 1 then hasF (lenB v n ++ t) 4 else varO (lenB v n ++ t)) = true := by
  unfold lenB
  rcases hv with rfl | rfl
  · obtain ⟨h1, h2, h3⟩ := fix_put n 4 (by omega) t
    simp only [if_true]
    refine ⟨?_, h2, h3⟩
    refine h1.trans ?_
    have e : (256 : Nat) ^ 4 = 4294967296 := by decide
    rw [e]; omega
  · obtain ⟨h1, h2, h3⟩ := var_put n (by omega) t
    simp only [show ¬ ((2 : Int) = 1) by decide, if_false]
    exact ⟨h1, h2, h3⟩
/-- A head that was put is read. -/
theorem hd_read {v : Int} (hv : v = 1 ∨ v = 2) (n : Nat) (hn : n ≤ 1048576) (t : ByteArray) :
    nV (hdF v n ++ t) = v ∧ nM (hdF v n ++ t) = n ∧ nT (hdF v n ++ t) = t ∧ nO2 (hdF v n ++ t) = true ∧ nHd (hdF v n ++ t) = hdF v n := by
  have e : hdF v n ++ t = fxB (160 + v).toNat 1 ++ (lenB v n ++ t) := by unfold hdF; rw [append_assoc3]
  obtain ⟨h1, h2, h3⟩ := fix_put (160 + v).toNat 1 (by omega) (lenB v n ++ t)
  obtain ⟨l1, l2, l3⟩ := len_pre hv n hn t
  have e2 : (256 : Nat) ^ 1 = 256 := by decide
  rw [e2] at h1
  have kV : nV (hdF v n ++ t) = v := by
    unfold nV
    rw [e]
    have h1' : fixV (fxB (160 + v).toNat 1 ++ (lenB v n ++ t)) 1 = (160 + v).toNat % 256 := h1
    rw [h1']
    omega
  have kF : fixT (hdF v n ++ t) 1 = lenB v n ++ t := by rw [e]; exact h2
  have kH : hasF (hdF v n ++ t) 1 = true := by rw [e]; exact h3
  have kT : nT (hdF v n ++ t) = t := by unfold nT; rw [kV, kF]; exact l2
  refine ⟨kV, ?_, kT, ?_, ?_⟩
  · unfold nM; rw [kV, kF]; exact l1
  · unfold nO2; rw [kV, kF, kH, l3]; rfl
  · unfold nHd
    rw [kT, ByteArray.size_append, Nat.add_sub_cancel]
    exact extract_left _ _
theorem ext_of {s A B : ByteArray} (h : s = A ++ B) : s.extract 0 A.size = A := by rw [h]; exact extract_left A B
/-- A head that is read was put so. -/
theorem hd_sound {s : ByteArray} (hv : nV s = 1 ∨ nV s = 2) (h : nO2 s = true) : s = hdF (nV s) (nM s) ++ nT s ∧ nHd s = hdF (nV s) (nM s) := by
  have key : s = hdF (nV s) (nM s) ++ nT s := by
    unfold nO2 at h
    rw [Bool.and_eq_true] at h
    have h1 := fix_sound s 1 (by omega) h.1
    have e1 : (160 + nV s).toNat = fixV s 1 := by unfold nV; omega
    unfold hdF
    rw [append_assoc3, e1]
    have h2 : lenB (nV s) (nM s) ++ nT s = fixT s 1 := by
      have h3 := h.2
      unfold lenB nM nT
      rcases hv with hv | hv
      · rw [hv] at h3 ⊢
        simp only [if_true] at h3 ⊢
        exact fix_sound _ 4 (by omega) h3
      · rw [hv] at h3 ⊢
        simp only [show ¬ ((2 : Int) = 1) by decide, if_false] at h3 ⊢
        exact var_sound _ h3
    rw [h2]
    exact h1.symm
  refine ⟨key, ?_⟩
  have hz := congrArg ByteArray.size key
  rw [ByteArray.size_append] at hz
  unfold nHd
  have e3 : s.size - (nT s).size = (hdF (nV s) (nM s)).size := by omega
  rw [e3]
  exact ext_of key
/-- A frame, and what stands behind it. -/
theorem nOk_pack {v : Int} {b : ByteArray} (h : pkO v b = true) (t : ByteArray) :
    nOk (pack v b ++ t) = true ∧ nV (pack v b ++ t) = v ∧ nBd (pack v b ++ t) = b ∧ nW (pack v b ++ t) = t := by
  unfold pkO at h
  simp only [Bool.and_eq_true, Bool.or_eq_true, decide_eq_true_eq] at h
  obtain ⟨hv, hb⟩ := h
  have e : pack v b ++ t = hdF v b.size ++ (sealB (hdF v b.size) b ++ (b ++ t)) := by unfold pack; simp only [append_assoc3]
  obtain ⟨h1, h2, h3, h4, h5⟩ := hd_read hv b.size hb (sealB (hdF v b.size) b ++ (b ++ t))
  rw [← e] at h1 h2 h3 h4 h5
  have hz := seal_size (hdF v b.size) b
  have hp := byt_put (sealB (hdF v b.size) b) (b ++ t)
  rw [hz] at hp
  obtain ⟨p1, p2, p3⟩ := hp
  obtain ⟨q1, q2, q3⟩ := byt_put b t
  have kS : nS (pack v b ++ t) = sealB (hdF v b.size) b := by unfold nS; rw [h3]; exact p1
  have kU : nU (pack v b ++ t) = b ++ t := by unfold nU; rw [h3]; exact p2
  have kB : nBd (pack v b ++ t) = b := by unfold nBd; rw [kU, h2]; exact q1
  have kW : nW (pack v b ++ t) = t := by unfold nW; rw [kU, h2]; exact q2
  refine ⟨?_, h1, kB, kW⟩
  have c1 : (decide (nV (pack v b ++ t) = 1) || decide (nV (pack v b ++ t) = 2)) = true := by
    rw [h1]
    rcases hv with rfl | rfl <;> rfl
  have c2 : decide (nM (pack v b ++ t) ≤ 1048576) = true := by rw [h2]; exact decide_eq_true hb
  have c3 : nR (pack v b ++ t) = true := by
    unfold nR
    rw [h4, kU, h2, q3, h3]
    have p3' : hasB (sealB (hdF v b.size) b ++ (b ++ t)) 4 = true := p3
    rw [p3']
    rfl
  have c4 : ((nS (pack v b ++ t)).toList == (sealB (nHd (pack v b ++ t)) (nBd (pack v b ++ t))).toList) = true := by
    rw [beq_iff, kS, h5, kB]
  unfold nOk
  rw [c1, c2, c3, c4]
  rfl
/-- What is told as a frame is one. -/
theorem nOk_sound {s : ByteArray} (h : nOk s = true) : pkO (nV s) (nBd s) = true ∧ s = pack (nV s) (nBd s) ++ nW s ∧ (nBd s).size = nM s := by
  unfold nOk nR at h
  simp only [Bool.and_eq_true, Bool.or_eq_true, decide_eq_true_eq] at h
  obtain ⟨hv, hm, ⟨⟨h1, h2⟩, h3⟩, h4⟩ := h
  rw [beq_iff] at h4
  obtain ⟨k1, k2⟩ := hd_sound hv h1
  have b1 := bytVT (nT s) 4 h2
  have b2 := bytVT (nU s) (nM s) h3
  have hz : (nBd s).size = nM s := b2.2
  refine ⟨?_, ?_, hz⟩
  · unfold pkO
    rw [hz]
    simp only [Bool.and_eq_true, Bool.or_eq_true, decide_eq_true_eq]
    exact ⟨hv, hm⟩
  · unfold pack
    rw [hz, ← k2, ← h4]
    have e1 : nBd s ++ nW s = nU s := b2.1
    have e2 : nS s ++ nU s = nT s := b1.1
    simp only [append_assoc3]
    rw [e1, e2, k2]
    exact k1
theorem nxN_eq {s : ByteArray} (h : nOk s = true) : (s.size : Int) - (nW s).size = (pack (nV s) (nBd s)).size := by
  have h1 := congrArg ByteArray.size (nOk_sound h).2.1
  rw [ByteArray.size_append] at h1
  omega
theorem hdF_size (v : Int) (n : Nat) (hn : n < 18446744073709551616) : (hdF v n).size ≤ 11 := by
  unfold hdF lenB
  rw [ByteArray.size_append]
  have h1 := fxB_size (160 + v).toNat 1 (by omega)
  have h1' : (fxB (160 + v).toNat 1).size = 1 := h1
  split
  · have h2 := fxB_size n 4 (by omega)
    have h2' : (fxB n 4).size = 4 := h2
    omega
  · have h2 := _root_.Go.Proofs.YtdoombcihobejaaGreat.putB_size n hn
    omega
theorem pkS_size (v : Int) (b : ByteArray) : (pkS v b).size ≤ 1048600 := by
  unfold pkS
  split
  · rename_i h
    unfold pkO at h
    simp only [Bool.and_eq_true, Bool.or_eq_true, decide_eq_true_eq] at h
    unfold pack
    rw [ByteArray.size_append, ByteArray.size_append, seal_size]
    have := hdF_size v b.size (by omega)
    omega
  · exact Nat.zero_le _
/-- The document's own test. -/
def rOkF (s : ByteArray) : Bool := decide (nM s ≤ (nU s).size) && (nR s && (pkO (nV s) (nBd s) && (decide ((pack (nV s) (nBd s)).size ≤ s.size) && ((s.extract 0 (pack (nV s) (nBd s)).size).toList == (pack (nV s) (nBd s)).toList))))
theorem rOkF_eq (s : ByteArray) : rOkF s = nOk s := by
  cases hn : nOk s with
  | true =>
    obtain ⟨h1, h2, h3⟩ := nOk_sound hn
    have hr : nR s = true := by
      unfold nOk at hn
      simp only [Bool.and_eq_true] at hn
      exact hn.2.2.1
    have hm : nM s ≤ (nU s).size := by
      have hr2 := hr
      unfold nR at hr2
      simp only [Bool.and_eq_true] at hr2
      have := hr2.2
      have hh : 0 ≤ ((nM s : Nat) : Int) ∧ ((nM s : Nat) : Int) ≤ (nU s).size := of_decide_eq_true this
      omega
    have hs : (pack (nV s) (nBd s)).size ≤ s.size := by
      have := congrArg ByteArray.size h2
      rw [ByteArray.size_append] at this
      omega
    have he : ((s.extract 0 (pack (nV s) (nBd s)).size).toList == (pack (nV s) (nBd s)).toList) = true := by
      rw [beq_iff]
      exact ext_of h2
    unfold rOkF
    rw [decide_eq_true hm, hr, h1, decide_eq_true hs, he]
    rfl
  | false =>
    cases hr : rOkF s with
    | false => rfl
    | true =>
      exfalso
      unfold rOkF at hr
      simp only [Bool.and_eq_true, decide_eq_true_eq] at hr
      obtain ⟨h0, h1, h2, h3, h4⟩ := hr
      rw [beq_iff] at h4
      have e : s = pack (nV s) (nBd s) ++ s.extract (pack (nV s) (nBd s)).size s.size := by
        conv => rhs; arg 1; rw [← h4]
        rw [ByteArray.extract_append_extract]
        simp [h3]
      have hh := (nOk_pack h2 (s.extract (pack (nV s) (nBd s)).size s.size)).1
      rw [← e, hn] at hh
      cases hh
end Go.Proofs.YtdoombcihobejaaGreat
