/-
  Entries out of their bytes, one behind the other: the plain mathematics of it.
  Conditions: named in each theorem.
-/
import Derived.Test.YtiikgfcfceldmaaBack
import Derived.Test.YtiikgfcfceldmaaPutM
namespace Go.Proofs.Ytiikgfcfceldmaa
open Go.RowKit
open Vi
set_option linter.unusedVariables false
set_option linter.unusedSimpArgs false

/-- The entries that are read, what is left, and were they all there? -/
def gEs : Nat → ByteArray → List En
  | 0, _ => []
  | n + 1, t => getE t :: gEs n (getT t)
def gTs : Nat → ByteArray → ByteArray
  | 0, t => t
  | n + 1, t => gTs n (getT t)
def gOs : Nat → ByteArray → Bool
  | 0, _ => true
  | n + 1, t => getO t && gOs n (getT t)
theorem gEs_length : ∀ (n : Nat) (t : ByteArray), (gEs n t).length = n
  | 0, _ => rfl
  | n + 1, t => by show (gEs n (getT t)).length + 1 = _; rw [gEs_length]
theorem getO_may {t : ByteArray} (h : getO t = true) : mayB (prs t) = true := by
  unfold getO at h
  simp only [Bool.and_eq_true] at h
  exact h.2.1
theorem getO_pb {t : ByteArray} (h : getO t = true) : nums (pb (prs t)) = (nums t).take 110 := by
  have hs := getO_size h
  have h1 : decide (nums (beh t) = nums (zer (beh t).size)) = true := by
    unfold getO at h
    simp only [Bool.and_eq_true] at h
    exact h.2.2
  have h2 := (pb_iff t hs.1 hs.2).2 (of_decide_eq_true h1)
  rw [h2, nums_extract]
  simp
/-- Entries that were all there: what they were read of is what they are put as. -/
theorem gOs_text : ∀ (n : Nat) (t : ByteArray), gOs n t = true →
    110 * n ≤ t.size ∧ gTs n t = sk t (110 * n) ∧ nums (pbs (gEs n t)) = (nums t).take (110 * n) ∧ ∀ e ∈ gEs n t, mayB e = true
  | 0, t, _ => ⟨by omega, (sk_zero t).symm, by simp [gEs, pbs, nums], fun e he => by cases he⟩
  | n + 1, t, h => by
    unfold gOs at h
    rw [Bool.and_eq_true] at h
    obtain ⟨h1, h2⟩ := h
    have hs := getO_size h1
    have eT : getT t = sk t 110 := by unfold getT; rw [if_pos h1]
    have eE : getE t = prs t := by unfold getE; rw [if_pos h1]
    obtain ⟨i1, i2, i3, i4⟩ := gOs_text n (getT t) h2
    rw [eT, sk_size] at i1
    refine ⟨by omega, ?_, ?_, ?_⟩
    · show gTs n (getT t) = _
      rw [i2, eT, sk_sk]
      congr 1
      omega
    · show nums (pb (getE t) ++ pbs (gEs n (getT t))) = _
      rw [nums_append, i3, eE, getO_pb h1, eT, nums_sk, show 110 * (n + 1) = 110 + 110 * n by omega, take_split]
    · intro e he
      rcases List.mem_cons.1 he with rfl | he
      · rw [eE]; exact getO_may h1
      · exact i4 e he
/-- What was put one behind the other is read so, whatever stands behind. -/
theorem got_pbs : ∀ (es : List En) (r : ByteArray), (∀ e ∈ es, e.Ok ∧ mayB e = true) →
    gOs es.length (pbs es ++ r) = true ∧ gEs es.length (pbs es ++ r) = es ∧ gTs es.length (pbs es ++ r) = r
  | [], r, _ => ⟨rfl, rfl, by show (⟨#[]⟩ : ByteArray) ++ r = r; apply ByteArray.ext; simp⟩
  | e :: es, r, h => by
    have he := h e (by simp)
    obtain ⟨g1, g2, g3⟩ := got_put he.1 he.2 (pbs es ++ r)
    obtain ⟨i1, i2, i3⟩ := got_pbs es r fun x hx => h x (by simp [hx])
    have ha : pbs (e :: es) ++ r = pb e ++ (pbs es ++ r) := by
      show pb e ++ pbs es ++ r = _
      rw [append_assoc3]
    rw [ha]
    refine ⟨?_, ?_, ?_⟩
    · show (getO (pb e ++ (pbs es ++ r)) && gOs es.length (getT (pb e ++ (pbs es ++ r)))) = true
      rw [g1, g3, i1]; rfl
    · show getE (pb e ++ (pbs es ++ r)) :: gEs es.length (getT (pb e ++ (pbs es ++ r))) = _
      rw [g2, g3, i2]
    · show gTs es.length (getT (pb e ++ (pbs es ++ r))) = _
      rw [g3, i3]
/-- A message's text behind its numbers, one by one. -/
def u1 (s : ByteArray) : ByteArray := fixT s 1
def u2 (s : ByteArray) : ByteArray := fixT (u1 s) 1
def u3 (s : ByteArray) : ByteArray := fixT (u2 s) 1
def u4 (s : ByteArray) : ByteArray := fixT (u3 s) 8
def u5 (s : ByteArray) : ByteArray := fixT (u4 s) 8
def u6 (s : ByteArray) : ByteArray := fixT (u5 s) 8
def u7 (s : ByteArray) : ByteArray := fixT (u6 s) 8
def u8 (s : ByteArray) : ByteArray := fixT (u7 s) 8
def u9 (s : ByteArray) : ByteArray := fixT (u8 s) 1
def u10 (s : ByteArray) : ByteArray := fixT (u9 s) 1
def hdM (s : ByteArray) : Bool := hasF s 1 && hasF (u1 s) 1 && hasF (u2 s) 1 && hasF (u3 s) 8 && hasF (u4 s) 8 && hasF (u5 s) 8 && hasF (u6 s) 8 && hasF (u7 s) 8 && hasF (u8 s) 1 && hasF (u9 s) 1
theorem u_all (s : ByteArray) (h : 45 ≤ s.size) :
    u1 s = sk s 1 ∧ u2 s = sk s 2 ∧ u3 s = sk s 3 ∧ u4 s = sk s 11 ∧ u5 s = sk s 19 ∧ u6 s = sk s 27 ∧ u7 s = sk s 35 ∧ u8 s = sk s 43 ∧ u9 s = sk s 44 ∧ u10 s = sk s 45 ∧ hdM s = true := by
  have a1 := fix_yes s 1 (by omega) (by omega)
  have e1 : u1 s = sk s 1 := a1.2.1
  have a2 := fix_yes (sk s 1) 1 (by omega) (by rw [sk_size]; omega)
  have e2 : u2 s = sk s 2 := by unfold u2; rw [e1]; exact a2.2.1.trans (sk_sk _ _ _)
  have a3 := fix_yes (sk s 2) 1 (by omega) (by rw [sk_size]; omega)
  have e3 : u3 s = sk s 3 := by unfold u3; rw [e2]; exact a3.2.1.trans (sk_sk _ _ _)
  have a4 := fix_yes (sk s 3) 8 (by omega) (by rw [sk_size]; omega)
  have e4 : u4 s = sk s 11 := by unfold u4; rw [e3]; exact a4.2.1.trans (sk_sk _ _ _)
  have a5 := fix_yes (sk s 11) 8 (by omega) (by rw [sk_size]; omega)
  have e5 : u5 s = sk s 19 := by unfold u5; rw [e4]; exact a5.2.1.trans (sk_sk _ _ _)
  have a6 := fix_yes (sk s 19) 8 (by omega) (by rw [sk_size]; omega)
  have e6 : u6 s = sk s 27 := by unfold u6; rw [e5]; exact a6.2.1.trans (sk_sk _ _ _)
  have a7 := fix_yes (sk s 27) 8 (by omega) (by rw [sk_size]; omega)
  have e7 : u7 s = sk s 35 := by unfold u7; rw [e6]; exact a7.2.1.trans (sk_sk _ _ _)
  have a8 := fix_yes (sk s 35) 8 (by omega) (by rw [sk_size]; omega)
  have e8 : u8 s = sk s 43 := by unfold u8; rw [e7]; exact a8.2.1.trans (sk_sk _ _ _)
  have a9 := fix_yes (sk s 43) 1 (by omega) (by rw [sk_size]; omega)
  have e9 : u9 s = sk s 44 := by unfold u9; rw [e8]; exact a9.2.1.trans (sk_sk _ _ _)
  have a10 := fix_yes (sk s 44) 1 (by omega) (by rw [sk_size]; omega)
  have e10 : u10 s = sk s 45 := by unfold u10; rw [e9]; exact a10.2.1.trans (sk_sk _ _ _)
  refine ⟨e1, e2, e3, e4, e5, e6, e7, e8, e9, e10, ?_⟩
  have b1 : hasF s 1 = true := a1.2.2
  have b2 : hasF (u1 s) 1 = true := by rw [e1]; exact a2.2.2
  have b3 : hasF (u2 s) 1 = true := by rw [e2]; exact a3.2.2
  have b4 : hasF (u3 s) 8 = true := by rw [e3]; exact a4.2.2
  have b5 : hasF (u4 s) 8 = true := by rw [e4]; exact a5.2.2
  have b6 : hasF (u5 s) 8 = true := by rw [e5]; exact a6.2.2
  have b7 : hasF (u6 s) 8 = true := by rw [e6]; exact a7.2.2
  have b8 : hasF (u7 s) 8 = true := by rw [e7]; exact a8.2.2
  have b9 : hasF (u8 s) 1 = true := by rw [e8]; exact a9.2.2
  have b10 : hasF (u9 s) 1 = true := by rw [e9]; exact a10.2.2
  unfold hdM
  rw [b1, b2, b3, b4, b5, b6, b7, b8, b9, b10]; rfl
theorem hdM_size (s : ByteArray) (h : hdM s = true) : 45 ≤ s.size := by
  unfold hdM at h
  simp only [Bool.and_eq_true] at h
  obtain ⟨⟨⟨⟨⟨⟨⟨⟨⟨h1, h2⟩, h3⟩, h4⟩, h5⟩, h6⟩, h7⟩, h8⟩, h9⟩, h10⟩ := h
  have a1 := fixT_size _ 1 h1
  have a2 := fixT_size _ 1 h2
  have a3 := fixT_size _ 1 h3
  have a4 := fixT_size _ 8 h4
  have a5 := fixT_size _ 8 h5
  have a6 := fixT_size _ 8 h6
  have a7 := fixT_size _ 8 h7
  have a8 := fixT_size _ 8 h8
  have a9 := fixT_size _ 1 h9
  have a10 := fixT_size _ 1 h10
  have c1 : (u1 s).size = s.size - 1 := a1.2
  have c2 : (u2 s).size = (u1 s).size - 1 := a2.2
  have c3 : (u3 s).size = (u2 s).size - 1 := a3.2
  have c4 : (u4 s).size = (u3 s).size - 8 := a4.2
  have c5 : (u5 s).size = (u4 s).size - 8 := a5.2
  have c6 : (u6 s).size = (u5 s).size - 8 := a6.2
  have c7 : (u7 s).size = (u6 s).size - 8 := a7.2
  have c8 : (u8 s).size = (u7 s).size - 8 := a8.2
  have c9 : (u9 s).size = (u8 s).size - 1 := a9.2
  omega
/-- What a message's text says: its parts (the entries' row lies wherever it lies). -/
def mN (s : ByteArray) : Nat := fixV (u9 s) 1
def mY (s : ByteArray) : Nat := fixV (u8 s) 1
def mG (s : ByteArray) : ByteArray := gTs (mN s) (u10 s)
def mZ (s : ByteArray) : Nat := fixV (mG s) 4
def mS (s : ByteArray) : ByteArray := bytV (fixT (mG s) 4) (mZ s)
def mR (s : ByteArray) : ByteArray := bytT (fixT (mG s) 4) (mZ s)
def mPrs (s : ByteArray) (A : Option Addr) (c : Nat) : Ms :=
  { kind := fixV s 1, frm := fixV (u1 s) 1, dst := fixV (u2 s) 1, term := fixV (u3 s) 8, index := fixV (u4 s) 8, prev := fixV (u5 s) 8, commit := fixV (u6 s) 8, mark := fixV (u7 s) 8, ok := mY s == 1, A := A, n := mN s, c := c, es := gEs (mN s) (u10 s), snap := mS s }
/-- Does a message stand there, and nothing behind it? -/
def mAll (s : ByteArray) : Bool := hdM s && (decide (mY s ≤ 1) && (gOs (mN s) (u10 s) && (hasF (mG s) 4 && (hasB (fixT (mG s) 4) (mZ s) && decide ((mR s).size = 0)))))
end Go.Proofs.Ytiikgfcfceldmaa
