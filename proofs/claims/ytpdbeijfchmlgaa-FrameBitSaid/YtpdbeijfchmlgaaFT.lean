/-
  A frame with a byte of its sum, or of its body, turned is none.
  Conditions: named in each theorem.
-/
import Derived.Test.YtpdbeijfchmlgaaFB
import Derived.Test.YtpdbeijfchmlgaaCT
namespace Go.Proofs.Ytpdbeijfchmlgaa
open Go.RowKit
open Vi
set_option linter.unusedVariables false
set_option linter.unusedSimpArgs false
theorem nOk_parts {v : Int} (hv : v = 1 ∨ v = 2) {n : Nat} (hn : n ≤ 1048576) {S B : ByteArray} (hS : S.size = 4) (hB : B.size = n) (h : nOk (hdF v n ++ (S ++ B)) = true) : S = sealB (hdF v n) B := by
  obtain ⟨h1, h2, h3, h4, h5⟩ := hd_read hv n hn (S ++ B)
  have hp := byt_put S B
  rw [hS] at hp
  obtain ⟨p1, p2, p3⟩ := hp
  have hq := byt_put B ⟨#[]⟩
  rw [app_nil, hB] at hq
  obtain ⟨q1, q2, q3⟩ := hq
  have kS : nS (hdF v n ++ (S ++ B)) = S := by unfold nS; rw [h3]; exact p1
  have kU : nU (hdF v n ++ (S ++ B)) = B := by unfold nU; rw [h3]; exact p2
  have kB : nBd (hdF v n ++ (S ++ B)) = B := by unfold nBd; rw [kU, h2]; exact q1
  unfold nOk at h
  simp only [Bool.and_eq_true] at h
  have e := h.2.2.2
  rw [kS, kB, h5, beq_iff] at e
  exact e
theorem fx4_inj {a b : Nat} (ha : a < 4294967296) (hb : b < 4294967296) (h : fxB a 4 = fxB b 4) : a = b := by
  have h1 := (fix_put a 4 (by omega) ⟨#[]⟩).1
  have h2 := (fix_put b 4 (by omega) ⟨#[]⟩).1
  have e : fxB a ((4 : Nat) : Int) = fxB b ((4 : Nat) : Int) := h
  rw [e, h2] at h1
  have e4 : (256 : Nat) ^ 4 = 4294967296 := by decide
  rw [e4] at h1
  omega
theorem uO_nOk {s : ByteArray} (h : nOk s = false) : uO s = false := by unfold uO; rw [h]; rfl
theorem nOk_turned {v : Int} {b : ByteArray} (hk : pkO v b = true) (p m : Nat) (h1 : (hdF v b.size).size ≤ p) (h2 : p < (pack v b).size) (hm : m < 256) (h0 : m ≠ 0) :
    nOk (strOfNums (Crc.nums (pack v b).size (Crc.turned (pack v b) p m))) = false := by
  have hvb : (v = 1 ∨ v = 2) ∧ b.size ≤ 1048576 := by
    unfold pkO at hk
    simp only [Bool.and_eq_true, Bool.or_eq_true, decide_eq_true_eq] at hk
    exact hk
  have hl := Crc.turned_list (pack v b) p m h2 hm
  obtain ⟨c, hc⟩ : ∃ c, c = UInt8.ofNat m := ⟨_, rfl⟩
  have hc0 : c ≠ 0 := fun e => h0 (by
    have := congrArg UInt8.toNat e
    rw [hc, UInt8.toNat_ofNat', Nat.mod_eq_of_lt (by omega)] at this
    simpa using this)
  rw [← hc] at hl
  obtain ⟨t, ht⟩ : ∃ t, t = strOfNums (Crc.nums (pack v b).size (Crc.turned (pack v b) p m)) := ⟨_, rfl⟩
  rw [← ht] at hl ⊢
  obtain ⟨H, hH⟩ : ∃ H, H = hdF v b.size := ⟨_, rfl⟩
  obtain ⟨S, hS⟩ : ∃ S, S = sealB H b := ⟨_, rfl⟩
  have hpk : pack v b = H ++ (S ++ b) := by rw [hS, hH]; unfold pack; simp only [append_assoc3]
  have hSz : S.size = 4 := by rw [hS]; exact seal_size _ _
  have hps : (pack v b).size = H.size + (4 + b.size) := by rw [hpk, ByteArray.size_append, ByteArray.size_append, hSz]
  rw [← hH] at h1
  have hHl : H.data.toList.length = H.size := by simp
  have hSl : S.data.toList.length = 4 := by simpa using hSz
  have hbl : b.data.toList.length = b.size := by simp
  have hT : (pack v b).data.toList = H.data.toList ++ (S.data.toList ++ b.data.toList) := by rw [hpk, ByteArray.toList_data_append, ByteArray.toList_data_append]
  obtain ⟨p', hp'⟩ : ∃ p', p = H.size + p' := ⟨p - H.size, by omega⟩
  have hm1 : Crc.mask1 p ((pack v b).size - p - 1) c = List.replicate H.data.toList.length 0 ++ Crc.mask1 p' (4 + b.size - p' - 1) c := by
    unfold Crc.mask1
    rw [← List.append_assoc, ← List.append_assoc, List.replicate_append_replicate]
    congr 2
    · congr 1
    · omega
  rw [hT, hm1, Crc.xorL_append _ _ _ _ (by simp), Crc.xorL_zeros] at hl
  cases hn : nOk t with
  | false => rfl
  | true =>
    exfalso
    by_cases h4 : p' < 4
    · have hm2 : Crc.mask1 p' (4 + b.size - p' - 1) c = Crc.mask1 p' (3 - p') c ++ List.replicate b.data.toList.length 0 := by
        unfold Crc.mask1
        rw [List.append_assoc (List.replicate p' 0 ++ [c]), List.replicate_append_replicate]
        congr 2
        omega
      have hml : (Crc.mask1 p' (3 - p') c).length = 4 := by rw [Crc.mask1_length]; omega
      rw [hm2, Crc.xorL_append _ _ _ _ (by rw [hSl, hml]), Crc.xorL_zeros] at hl
      obtain ⟨S', hS'⟩ : ∃ S', S' = ByteArray.mk (Crc.xorL S.data.toList (Crc.mask1 p' (3 - p') c)).toArray := ⟨_, rfl⟩
      have hte : t = H ++ (S' ++ b) := by
        apply Crc.bytes_ext
        rw [hl, ByteArray.toList_data_append, ByteArray.toList_data_append, hS']
      have hz : S'.size = 4 := by rw [hS', Crc.mk_size, Crc.xorL_length _ _ (by rw [hSl, hml]), hSl]
      rw [hte, hH] at hn
      have e := nOk_parts hvb.1 hvb.2 hz rfl hn
      rw [← hH, ← hS] at e
      have e2 := congrArg (fun t : ByteArray => t.data.toList) e
      rw [hS'] at e2
      exact hc0 (Crc.xorL_self _ _ (by rw [hSl, hml]) e2 _ (by simp [Crc.mask1]))
    · have hm2 : Crc.mask1 p' (4 + b.size - p' - 1) c = List.replicate S.data.toList.length 0 ++ Crc.mask1 (p' - 4) (b.size - (p' - 4) - 1) c := by
        unfold Crc.mask1
        rw [← List.append_assoc, ← List.append_assoc, List.replicate_append_replicate]
        congr 2
        · congr 1; congr 1; omega
        · omega
      rw [hm2, Crc.xorL_append _ _ _ _ (by simp), Crc.xorL_zeros] at hl
      have hml : (Crc.mask1 (p' - 4) (b.size - (p' - 4) - 1) c).length = b.size := by rw [Crc.mask1_length]; omega
      obtain ⟨B', hB'⟩ : ∃ B', B' = ByteArray.mk (Crc.xorL b.data.toList (Crc.mask1 (p' - 4) (b.size - (p' - 4) - 1) c)).toArray := ⟨_, rfl⟩
      have hte : t = H ++ (S ++ B') := by
        apply Crc.bytes_ext
        rw [hl, ByteArray.toList_data_append, ByteArray.toList_data_append, hB']
      have hz : B'.size = b.size := by rw [hB', Crc.mk_size, Crc.xorL_length _ _ (by rw [hbl, hml]), hbl]
      rw [hte, hH] at hn
      have e := nOk_parts hvb.1 hvb.2 hSz hz hn
      rw [← hH, hS] at e
      have e2 := fx4_inj (Crc.moreB_lt _ _) (Crc.moreB_lt _ _) e
      unfold Crc.moreB at e2
      rw [show B'.data.toList = Crc.xorL b.data.toList (Crc.mask1 (p' - 4) (b.size - (p' - 4) - 1) c) by rw [hB']] at e2
      have e3 := (Crc.more_masked (Crc.more 0 H.data.toList) b.data.toList (p' - 4) (b.size - (p' - 4) - 1) [c] (by simp) (by rw [hbl]; simp; omega)).1 e2.symm
      exact hc0 (e3 _ (by simp))
end Go.Proofs.Ytpdbeijfchmlgaa
