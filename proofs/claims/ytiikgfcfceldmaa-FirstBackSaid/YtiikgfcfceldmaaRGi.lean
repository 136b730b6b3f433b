/-
  What the document's own GetMsg reads is a message just if one stands there: the plain mathematics of it.
  Conditions: named in each theorem.
-/
import Derived.Test.YtiikgfcfceldmaaGetM
namespace Go.Proofs.Ytiikgfcfceldmaa
open Go.RowKit
open Vi
set_option linter.unusedVariables false
set_option linter.unusedSimpArgs false

def qF10 (s : ByteArray) : Bool := mF8 s || !hasF (u9 s) 1
def qT (s : ByteArray) (k : Nat) : ByteArray := gTs k (u10 s)
def qF (s : ByteArray) (k : Nat) : Bool := gFs (qF10 s) k (u10 s)
def qZ (s : ByteArray) (k : Nat) : Nat := fixV (qT s k) 4
def qS (s : ByteArray) (k : Nat) : ByteArray := bytV (fixT (qT s k) 4) (qZ s k)
def qR (s : ByteArray) (k : Nat) : ByteArray := bytT (fixT (qT s k) 4) (qZ s k)
def qB (s : ByteArray) (k : Nat) : Bool := (qF s k || !hasF (qT s k) 4) || !hasB (fixT (qT s k) 4) (qZ s k)
def qM (s : ByteArray) (k : Nat) (A : Option Addr) (c : Nat) : Ms := { mKp (mP9 s) (u10 s) k A c with snap := qS s k }
theorem gOs_le : ∀ (n k : Nat) (t : ByteArray), k ≤ n → gOs n t = true → gOs k t = true
  | _, 0, _, _, _ => rfl
  | 0, k + 1, _, h, _ => absurd h (by omega)
  | n + 1, k + 1, t, h, h2 => by
    unfold gOs at h2 ⊢
    rw [Bool.and_eq_true] at h2 ⊢
    exact ⟨h2.1, gOs_le n k _ (by omega) h2.2⟩
theorem qS_le (s : ByteArray) (k : Nat) : (qS s k).size ≤ s.size := by
  unfold qS
  refine Nat.le_trans (bytV_sz _ _) (Nat.le_trans (fixT_le _ _) ?_)
  unfold qT
  refine Nat.le_trans (gTs_le _ _) ?_
  unfold u10 u9
  exact Nat.le_trans (fixT_le _ _) (Nat.le_trans (fixT_le _ _) (u_le s))
theorem mN_lt (s : ByteArray) : mN s < 256 := by unfold mN; exact fv1 _
theorem qM_form (s : ByteArray) (k : Nat) (A : Option Addr) (c : Nat) : qM s k A c = ⟨fixV s 1, fixV (u1 s) 1, fixV (u2 s) 1, fixV (u3 s) 8, fixV (u4 s) 8, fixV (u5 s) 8, fixV (u6 s) 8, fixV (u7 s) 8, mY s == 1, A, k, c, gEs k (u10 s), qS s k⟩ := by
  simp only [qM, mKp, mP9, mP8]
theorem qM_wide (s : ByteArray) (k : Nat) (A : Option Addr) (c : Nat) (hk : k ≤ mN s) (hm : s.size ≤ 140737488351232) : (qM s k A c).Wide := by
  have h := qS_le s k
  have hn := mN_lt s
  rw [qM_form]
  exact wide_of (fixV s 1) (fixV (u1 s) 1) (fixV (u2 s) 1) k (fixV (u3 s) 8) (fixV (u4 s) 8) (fixV (u5 s) 8) (fixV (u6 s) 8) (fixV (u7 s) 8) (mY s == 1) A c (gEs k (u10 s)) (qS s k) (fv1 _) (fv1 _) (fv1 _) (Nat.lt_of_le_of_lt hk hn) (fv8 _) (fv8 _) (fv8 _) (fv8 _) (fv8 _) (Nat.le_trans h hm) (gEs_ok _ _)
theorem qM_parts (s : ByteArray) (k : Nat) (A : Option Addr) (c : Nat) : (qM s k A c).A = A ∧ (qM s k A c).n = k ∧ (qM s k A c).es = gEs k (u10 s) ∧ (qM s k A c).c = c := by
  simp only [qM, mKp, and_self]
theorem qS_full (s : ByteArray) : qS s (mN s) = mS s := by
  simp only [qS, qZ, qT, mS, mZ, mG]
theorem qM_full (s : ByteArray) (A : Option Addr) (c : Nat) : qM s (mN s) A c = mPrs s A c := by
  rw [qM_form, qS_full]
  simp only [mPrs]
theorem rgm_iff (s : ByteArray) (k : Nat) (A : Option Addr) (c : Nat) (hm : s.size ≤ 140737488351232) (hk : k ≤ mN s) (hkb : k = mN s ∨ qF s k = true) :
    (!qB s k && (mmayB (qM s k A c) && decide (nums (putM (qM s k A c)) = nums s))) = gok s ∧ (gok s = true → qM s k A c = mPrs s A c) := by
  obtain ⟨p1, p2, p3, p4⟩ := qM_parts s k A c
  have wd := qM_wide s k A c hk hm
  have hl : (qM s k A c).es.length = (qM s k A c).n := by rw [p2, p3, gEs_length]
  have back : gok s = true → qB s k = false ∧ qM s k A c = mPrs s A c ∧ mmayB (qM s k A c) = true ∧ putM (qM s k A c) = s := by
    intro hg
    have hg2 := hg
    unfold gok at hg2
    rw [Bool.and_eq_true] at hg2
    obtain ⟨ha, hmy⟩ := hg2
    have ha2 := ha
    unfold mAll hdM at ha2
    simp only [Bool.and_eq_true, decide_eq_true_eq] at ha2
    obtain ⟨⟨⟨⟨⟨⟨⟨⟨⟨⟨a1, a2⟩, a3⟩, a4⟩, a5⟩, a6⟩, a7⟩, a8⟩, a9⟩, a10⟩, a11, a12, a13, a14, a15⟩ := ha2
    have h10 : qF10 s = false := by
      unfold qF10 mF8 fm8
      rw [a1, a2, a3, a4, a5, a6, a7, a8, a9, a10]
      rfl
    have hq : ∀ j, j ≤ mN s → qF s j = false := by
      intro j hj
      unfold qF
      rw [gFs_eq, h10, gOs_le _ _ _ hj a12]
      rfl
    have hkN : k = mN s := by
      rcases hkb with h | h
      · exact h
      · rw [hq k hk] at h; cases h
    have eT : qT s k = mG s := by unfold qT mG; rw [hkN]
    have eZ : qZ s k = mZ s := by unfold qZ mZ; rw [eT]
    have eM : qM s k A c = mPrs s A c := by rw [hkN]; exact qM_full s A c
    have hB : qB s k = false := by
      unfold qB
      rw [hq k hk, eT, eZ, a13, a14]
      rfl
    have hmy2 : mmayB (mPrs s A c) = true := by rw [may_at]; exact hmy
    refine ⟨hB, eM, by rw [eM]; exact hmy2, ?_⟩
    rw [eM]
    unfold putM
    rw [if_pos hmy2]
    exact mAll_text s A c ha
  refine ⟨?_, fun h => (back h).2.1⟩
  cases hg : gok s with
  | true =>
    obtain ⟨b1, b2, b3, b4⟩ := back hg
    rw [b1, b3, b4, decide_eq_true rfl]
    rfl
  | false =>
    cases hL : (!qB s k && (mmayB (qM s k A c) && decide (nums (putM (qM s k A c)) = nums s))) with
    | false => rfl
    | true =>
      exfalso
      simp only [Bool.and_eq_true, decide_eq_true_eq] at hL
      obtain ⟨_, h2, h3⟩ := hL
      have e : putM (qM s k A c) = s := nums_inj h3
      unfold putM at e
      rw [if_pos h2] at e
      obtain ⟨q1, q2⟩ := mAll_put (qM s k A c) wd h2 hl
      rw [e] at q1 q2
      rw [p1, p4] at q2
      have : gok s = true := by
        unfold gok
        rw [q1, ← may_at s A c, q2, h2]
        rfl
      rw [hg] at this
      cases this
theorem sane_q10 (s : ByteArray) : Vi.Sane (u10 s) (qF10 s) := by
  unfold u10 qF10
  refine Vi.sane_fix _ _ _ ?_
  unfold mF8 u9
  exact Vi.sane_fix _ _ _ (sane_fm8 s)
end Go.Proofs.Ytiikgfcfceldmaa
