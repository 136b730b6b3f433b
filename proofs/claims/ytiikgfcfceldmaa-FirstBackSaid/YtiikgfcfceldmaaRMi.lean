/-
  What readMsg reads is a message just if one stands there: the plain mathematics of it.
  Conditions: named in each theorem.
-/
import Derived.Test.YtiikgfcfceldmaaRMA
namespace Go.Proofs.Ytiikgfcfceldmaa
open Go.RowKit
open Vi
set_option linter.unusedVariables false
set_option linter.unusedSimpArgs false

theorem gFs_eq : ∀ (n : Nat) (b : Bool) (t : ByteArray), gFs b n t = (b || !gOs n t)
  | 0, b, t => by show b = (b || !true); simp
  | n + 1, b, t => by
    show gFs (b || !getO t) n (getT t) = (b || !(getO t && gOs n (getT t)))
    rw [gFs_eq n]
    cases b <;> cases getO t <;> simp
theorem mX9_le {s : ByteArray} (h : mY s ≤ 1) : mX9 s = u9 s ∧ rN s = mN s ∧ r10 s = u10 s ∧ rG s = mG s ∧ rZ s = mZ s ∧ rS s = mS s ∧ rT s = mR s := by
  have e : mX9 s = u9 s := by unfold mX9; rw [if_pos h]
  have e1 : rN s = mN s := by unfold rN mN; rw [e]
  have e2 : r10 s = u10 s := by unfold r10 u10; rw [e]
  have e3 : rG s = mG s := by unfold rG mG; rw [e1, e2]
  have e4 : rZ s = mZ s := by unfold rZ mZ; rw [e3]
  refine ⟨e, e1, e2, e3, e4, ?_, ?_⟩
  · unfold rS mS; rw [e3, e4]
  · unfold rT mR; rw [e3, e4]
theorem mFR_eq (s : ByteArray) : (!mFR s && decide ((rT s).size = 0)) = mAll s := by
  by_cases h : mY s ≤ 1
  · obtain ⟨e0, e1, e2, e3, e4, e5, e6⟩ := mX9_le h
    unfold mFR mFG
    rw [gFs_eq, e1, e2, e3, e4, e6]
    unfold mF10 mF9 mF8 fm8 mAll hdM
    rw [e0, decide_eq_false (show ¬ 1 < mY s by omega), decide_eq_true h]
    simp only [Bool.false_or, Bool.or_false, Bool.true_and, Bool.not_or, Bool.not_not, Bool.and_assoc]
  · have e1 : mFR s = true := by
      unfold mFR mFG
      rw [gFs_eq]
      unfold mF10 mF9
      rw [decide_eq_true (show 1 < mY s by omega)]
      simp
    have e2 : mAll s = false := by
      unfold mAll
      rw [decide_eq_false h]
      simp
    rw [e1, e2]
    rfl
theorem mRd_eq {s : ByteArray} (h : mAll s = true) (A : Option Addr) (c : Nat) : mRd s A c = mPrs s A c := by
  have hY := (mAll_sizes s h).2.2.2.2.1
  obtain ⟨e0, e1, e2, e3, e4, e5, e6⟩ := mX9_le hY
  unfold mRd mKp mPrs mP9 mP8
  rw [e1, e2, e5]
theorem gEs_ok : ∀ (n : Nat) (t : ByteArray), ∀ e ∈ gEs n t, e.Ok
  | 0, _, e, he => by cases he
  | n + 1, t, e, he => by
    rcases List.mem_cons.1 he with rfl | he
    · exact getE_ok t
    · exact gEs_ok n _ e he
theorem u_le (s : ByteArray) : (u8 s).size ≤ s.size := by
  unfold u8 u7 u6 u5 u4 u3 u2 u1
  exact Nat.le_trans (fixT_le _ _) (Nat.le_trans (fixT_le _ _) (Nat.le_trans (fixT_le _ _) (Nat.le_trans (fixT_le _ _) (Nat.le_trans (fixT_le _ _) (Nat.le_trans (fixT_le _ _) (Nat.le_trans (fixT_le _ _) (fixT_le _ _)))))))
theorem fv1 (s : ByteArray) : (fixV s 1 : Nat) < 256 := by
  have h := fixV_lt s 1 (by omega)
  rwa [show (256 : Nat) ^ 1 = 256 from by decide] at h
theorem fv8 (s : ByteArray) : (fixV s 8 : Nat) < 18446744073709551616 := by
  have h := fixV_lt s 8 (by omega)
  rwa [show (256 : Nat) ^ 8 = 18446744073709551616 from by decide] at h
theorem bytV_sz (s : ByteArray) (k : Int) : (bytV s k).size ≤ s.size := by
  unfold bytV
  split
  · rw [ByteArray.size_extract]; omega
  · exact Nat.zero_le _
theorem rS_le (s : ByteArray) : (rS s).size ≤ s.size := by
  unfold rS
  refine Nat.le_trans (bytV_sz _ _) (Nat.le_trans (fixT_le _ _) ?_)
  unfold rG
  refine Nat.le_trans (gTs_le _ _) ?_
  unfold r10
  refine Nat.le_trans (fixT_le _ _) ?_
  unfold mX9
  split
  · unfold u9
    exact Nat.le_trans (fixT_le _ _) (u_le s)
  · exact Nat.zero_le _
/-- The numbers of a message that was read, of any kind of text. -/
theorem wide_of (a b c n : Nat) (d e f g h : Nat) (o : Bool) (A : Option Addr) (cc : Nat) (es : List En) (sn : ByteArray) (ha : a < 256) (hb : b < 256) (hc : c < 256) (hn : n < 256) (hd : d < 18446744073709551616) (he : e < 18446744073709551616) (hf : f < 18446744073709551616) (hg : g < 18446744073709551616) (hh : h < 18446744073709551616) (hs : sn.size ≤ 140737488351232) (hes : ∀ x ∈ es, x.Ok) :
    (⟨a, b, c, d, e, f, g, h, o, A, n, cc, es, sn⟩ : Ms).Wide := by
  constructor
  all_goals dsimp only
  all_goals first | omega | exact hes
theorem rN_lt (s : ByteArray) : rN s < 256 := by
  unfold rN
  exact fv1 _
theorem mRd_form (s : ByteArray) (A : Option Addr) (c : Nat) : mRd s A c = ⟨fixV s 1, fixV (u1 s) 1, fixV (u2 s) 1, fixV (u3 s) 8, fixV (u4 s) 8, fixV (u5 s) 8, fixV (u6 s) 8, fixV (u7 s) 8, mY s == 1, A, rN s, c, gEs (rN s) (r10 s), rS s⟩ := by
  simp only [mRd, mKp, mP9, mP8]
theorem mRd_wide (s : ByteArray) (A : Option Addr) (c : Nat) (hm : s.size ≤ 140737488351232) : (mRd s A c).Wide := by
  have h := rS_le s
  rw [mRd_form]
  exact wide_of (fixV s 1) (fixV (u1 s) 1) (fixV (u2 s) 1) (rN s) (fixV (u3 s) 8) (fixV (u4 s) 8) (fixV (u5 s) 8) (fixV (u6 s) 8) (fixV (u7 s) 8) (mY s == 1) A c (gEs (rN s) (r10 s)) (rS s) (fv1 _) (fv1 _) (fv1 _) (rN_lt s) (fv8 _) (fv8 _) (fv8 _) (fv8 _) (fv8 _) (Nat.le_trans h hm) (gEs_ok _ _)
end Go.Proofs.Ytiikgfcfceldmaa
