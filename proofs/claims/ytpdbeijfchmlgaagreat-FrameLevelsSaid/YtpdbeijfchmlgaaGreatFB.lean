/-
  Frames: what stands behind one does not turn it; what is cut is none.
  Conditions: named in each theorem.
-/
import Derived.Test.YtpdbeijfchmlgaaGreatFN
namespace Go.Proofs.YtpdbeijfchmlgaaGreat
open Go.RowKit
open Vi
set_option linter.unusedVariables false
set_option linter.unusedSimpArgs false
theorem app_nil (s : ByteArray) : s ++ (⟨#[]⟩ : ByteArray) = s := by apply ByteArray.ext; simp
theorem pack_pos (v : Int) (b : ByteArray) : 4 ≤ (pack v b).size := by
  unfold pack
  rw [ByteArray.size_append, ByteArray.size_append, seal_size]; omega
theorem pack_size {v : Int} {b : ByteArray} (h : pkO v b = true) : (pack v b).size ≤ 1048600 := by
  have h1 := pkS_size v b
  unfold pkS at h1
  rw [if_pos h] at h1
  exact h1
/-- A frame, and what stands behind it. -/
theorem nx_pack {v : Int} {b : ByteArray} (h : pkO v b = true) (t : ByteArray) : nOk (pack v b ++ t) = true ∧ nxV (pack v b ++ t) = v ∧ nxB (pack v b ++ t) = b ∧ nxN (pack v b ++ t) = (pack v b).size := by
  obtain ⟨h1, h2, h3, h4⟩ := nOk_pack h t
  obtain ⟨e1, e2, e3⟩ := nx_yes h1
  refine ⟨h1, e1.trans h2, e2.trans h3, e3.trans ?_⟩
  rw [h4, ByteArray.size_append]
  omega
theorem u_pack {v : Int} {b : ByteArray} (h : pkO v b = true) : uO (pack v b) = true ∧ uV (pack v b) = v ∧ uB (pack v b) = b := by
  have k := nx_pack h ⟨#[]⟩
  rw [app_nil] at k
  obtain ⟨h1, h2, h3, h4⟩ := k
  have ho : uO (pack v b) = true := by unfold uO; rw [h1, h4, decide_eq_true rfl]; rfl
  unfold uV uB
  rw [ho]
  exact ⟨rfl, h2, h3⟩
theorem u_long {v : Int} {b : ByteArray} (h : pkO v b = true) (t : ByteArray) (ht : 0 < t.size) : uO (pack v b ++ t) = false := by
  obtain ⟨h1, h2, h3, h4⟩ := nx_pack h t
  unfold uO
  rw [h1, h4, ByteArray.size_append, decide_eq_false (by omega)]
  rfl
theorem split_at (s : ByteArray) (k : Nat) (h : k ≤ s.size) : s.extract 0 k ++ s.extract k s.size = s := by
  rw [ByteArray.extract_append_extract]
  simp [h]
theorem nx_cut {v : Int} {b : ByteArray} (h : pkO v b = true) (k : Nat) (hk : k < (pack v b).size) : nOk ((pack v b).extract 0 k) = false := by
  cases hn : nOk ((pack v b).extract 0 k) with
  | false => rfl
  | true =>
    obtain ⟨s1, s2, s3⟩ := nOk_sound hn
    obtain ⟨v', hv'⟩ : ∃ v', v' = nV ((pack v b).extract 0 k) := ⟨_, rfl⟩
    obtain ⟨b', hb'⟩ : ∃ b', b' = nBd ((pack v b).extract 0 k) := ⟨_, rfl⟩
    obtain ⟨t', ht'⟩ : ∃ t', t' = nW ((pack v b).extract 0 k) := ⟨_, rfl⟩
    rw [← hv', ← hb'] at s1
    rw [← hv', ← hb', ← ht'] at s2
    obtain ⟨R, hR⟩ : ∃ R, R = (pack v b).extract k (pack v b).size := ⟨_, rfl⟩
    have e : pack v b = pack v' b' ++ (t' ++ R) := by
      rw [← append_assoc3, ← s2, hR]
      exact (split_at _ k (by omega)).symm
    have hz : R.size = (pack v b).size - k := by rw [hR, ByteArray.size_extract]; omega
    have k1 := (nOk_pack h ⟨#[]⟩).2.2.2
    rw [app_nil] at k1
    have k2 := (nOk_pack s1 (t' ++ R)).2.2.2
    rw [← e, k1] at k2
    have k3 := congrArg ByteArray.size k2
    rw [ByteArray.size_append] at k3
    have k4 : (⟨#[]⟩ : ByteArray).size = 0 := rfl
    omega
theorem pkO_short {v : Int} (hv : v = 1 ∨ v = 2) {b : ByteArray} (hb : b.size ≤ 1048576) : pkO v b = true := by
  rcases pk_cases v b with ⟨_, _, h, _⟩ | ⟨_, h, _⟩ | ⟨h1, h2, _⟩
  · exact h
  · omega
  · rcases hv with hv | hv
    · exact absurd hv h1
    · exact absurd hv h2
theorem tl_ne {P : ByteArray} (h : 0 < P.size) : ¬ P.toList = [] := by
  intro e
  rw [ByteArray.toList_eq] at e
  have : P.data.toList.length = 0 := by rw [e]; rfl
  have h2 : P.size = P.data.toList.length := Lib.size_eq P
  omega
theorem u_long_any {v : Int} {b t : ByteArray} (h : pkO v b = true) (ht : t.size = 1) (W : World) : Calls Tryz.prog 23 #[.string (pack v b ++ t)] W fun q w' => q = .returned (.tuple #[.int .i64 0, .string ⟨#[]⟩, .bool false]) ∧ Below W.heap.size W w' :=
  (unpack_any (pack v b ++ t) W (by have := pack_size h; rw [ByteArray.size_append]; omega)).mono fun q w' ⟨h1, h2⟩ => ⟨h1.trans (u_ret_no (u_long h t (by omega))).symm, h2⟩
end Go.Proofs.YtpdbeijfchmlgaaGreat
