/-
  A message out of its bytes: what is read whole is put as it stood.
  Conditions: named in each theorem.
-/
import Derived.Test.YtiikgfcfceldmaaPMs
namespace Go.Proofs.Ytiikgfcfceldmaa
open Go.RowKit
open Vi
set_option linter.unusedVariables false
set_option linter.unusedSimpArgs false

theorem mAll_sizes (s : ByteArray) (h : mAll s = true) :
    s.size = 49 + 110 * mN s + mZ s ∧ mG s = sk s (45 + 110 * mN s) ∧ mS s = (sk s (49 + 110 * mN s)).extract 0 (mZ s) ∧ (mS s).size = mZ s ∧ mY s ≤ 1 ∧
    nums (pbs (gEs (mN s) (u10 s))) = ((nums s).drop 45).take (110 * mN s) ∧ ∀ e ∈ gEs (mN s) (u10 s), mayB e = true := by
  unfold mAll at h
  simp only [Bool.and_eq_true, decide_eq_true_eq] at h
  obtain ⟨h1, h2, h3, h4, h5, h6⟩ := h
  have hs := hdM_size s h1
  obtain ⟨e1, e2, e3, e4, e5, e6, e7, e8, e9, e10, _⟩ := u_all s hs
  obtain ⟨g1, g2, g3, g4⟩ := gOs_text _ _ h3
  rw [e10, sk_size] at g1
  have eG : mG s = sk s (45 + 110 * mN s) := by unfold mG; rw [g2, e10, sk_sk]
  have b4 := fixT_size (mG s) 4 h4
  have b4' : 4 ≤ (mG s).size := b4.1
  rw [eG, sk_size] at b4'
  have eH : fixT (mG s) 4 = sk s (49 + 110 * mN s) := by
    have h := (fix_yes (sk s (45 + 110 * mN s)) 4 (by omega) (by rw [sk_size]; omega)).2.1
    rw [eG]
    refine h.trans ?_
    rw [sk_sk, show 45 + 110 * mN s + 4 = 49 + 110 * mN s by omega]
  have b5 : 0 ≤ (mZ s : Int) ∧ (mZ s : Int) ≤ (fixT (mG s) 4).size := of_decide_eq_true h5
  rw [eH, sk_size] at b5
  have bb := byt_yes (sk s (49 + 110 * mN s)) (mZ s) (by rw [sk_size]; omega)
  have eR : mR s = sk (sk s (49 + 110 * mN s)) (mZ s) := by unfold mR; rw [eH]; exact bb.2.1
  have eS : mS s = (sk s (49 + 110 * mN s)).extract 0 (mZ s) := by unfold mS; rw [eH]; exact bb.1
  rw [eR, sk_size, sk_size] at h6
  refine ⟨by omega, eG, eS, ?_, h2, ?_, g4⟩
  · rw [eS, ByteArray.size_extract, sk_size]; omega
  · rw [g3, e10, nums_sk]

set_option maxHeartbeats 2000000 in
theorem mAll_text (s : ByteArray) (A : Option Addr) (c : Nat) (h : mAll s = true) : pbm (mPrs s A c) = s := by
  obtain ⟨h1, eG, eS, hSs, hY, hE, _⟩ := mAll_sizes s h
  obtain ⟨e1, e2, e3, e4, e5, e6, e7, e8, e9, e10, _⟩ := u_all s (by omega)
  obtain ⟨l, hl⟩ : ∃ l, l = nums s := ⟨_, rfl⟩
  have hll : l.length = s.size := by rw [hl, nums_length]
  have p0 : nums (fN ((fixV s 1 : Nat) : Int) 1) = l.take 1 := by
    have h := nums_field s 0 1 (by omega) (by omega)
    rw [sk_zero, List.drop_zero, ← hl] at h
    exact h
  have p1 : nums (fN ((fixV (u1 s) 1 : Nat) : Int) 1) = (l.drop 1).take 1 := by rw [e1, hl]; exact nums_field s 1 1 (by omega) (by omega)
  have p2 : nums (fN ((fixV (u2 s) 1 : Nat) : Int) 1) = (l.drop 2).take 1 := by rw [e2, hl]; exact nums_field s 2 1 (by omega) (by omega)
  have p3 : nums (fN ((fixV (u3 s) 8 : Nat) : Int) 8) = (l.drop 3).take 8 := by rw [e3, hl]; exact nums_field s 3 8 (by omega) (by omega)
  have p4 : nums (fN ((fixV (u4 s) 8 : Nat) : Int) 8) = (l.drop 11).take 8 := by rw [e4, hl]; exact nums_field s 11 8 (by omega) (by omega)
  have p5 : nums (fN ((fixV (u5 s) 8 : Nat) : Int) 8) = (l.drop 19).take 8 := by rw [e5, hl]; exact nums_field s 19 8 (by omega) (by omega)
  have p6 : nums (fN ((fixV (u6 s) 8 : Nat) : Int) 8) = (l.drop 27).take 8 := by rw [e6, hl]; exact nums_field s 27 8 (by omega) (by omega)
  have p7 : nums (fN ((fixV (u7 s) 8 : Nat) : Int) 8) = (l.drop 35).take 8 := by rw [e7, hl]; exact nums_field s 35 8 (by omega) (by omega)
  have hb : bitI (mY s == 1) = ((fixV (u8 s) 1 : Nat) : Int) := by
    show bitI (mY s == 1) = ((mY s : Nat) : Int)
    have : mY s = 0 ∨ mY s = 1 := by omega
    rcases this with h | h <;> rw [h] <;> rfl
  have p8 : nums (fN (bitI (mY s == 1)) 1) = (l.drop 43).take 1 := by rw [hb, e8, hl]; exact nums_field s 43 1 (by omega) (by omega)
  have p9 : nums (fN ((mN s : Nat) : Int) 1) = (l.drop 44).take 1 := by unfold mN; rw [e9, hl]; exact nums_field s 44 1 (by omega) (by omega)
  have p11 : nums (fN ((mZ s : Nat) : Int) 4) = (l.drop (45 + 110 * mN s)).take 4 := by
    have h := nums_field s (45 + 110 * mN s) 4 (by omega) (by omega)
    rw [← hl, ← eG] at h
    exact h
  have p12 : nums (mS s) = (l.drop (49 + 110 * mN s)).take (mZ s) := by rw [eS, nums_extract, nums_sk, ← hl, List.drop_zero, Nat.sub_zero]
  rw [← hl] at hE
  have tk : ∀ a b d, d = a + b → l.take a ++ (l.drop a).take b = l.take d := fun a b d hd => by rw [hd]; exact (take_split l a b).symm
  apply nums_inj
  rw [← hl]
  unfold pbm mPrs
  dsimp only
  rw [hSs]
  simp only [nums_append]
  rw [p0, p1, p2, p3, p4, p5, p6, p7, p8, p9, hE, p11, p12]
  rw [tk 1 1 2 rfl, tk 2 1 3 rfl, tk 3 8 11 rfl, tk 11 8 19 rfl, tk 19 8 27 rfl, tk 27 8 35 rfl, tk 35 8 43 rfl, tk 43 1 44 rfl, tk 44 1 45 rfl, tk 45 (110 * mN s) (45 + 110 * mN s) rfl, tk (45 + 110 * mN s) 4 (49 + 110 * mN s) (by omega), tk (49 + 110 * mN s) (mZ s) (49 + 110 * mN s + mZ s) rfl]
  exact List.take_of_length_le (by omega)
end Go.Proofs.Ytiikgfcfceldmaa
