/-
  A message that was put is got: the plain mathematics of it.
  Conditions: the message may be put.
-/
import Derived.Test.YtiikgfcfceldmaaPMt
import Derived.Test.YtiikgfcfceldmaaRPutM
namespace Go.Proofs.Ytiikgfcfceldmaa
open Go.RowKit
open Vi
set_option linter.unusedVariables false
set_option linter.unusedSimpArgs false

theorem fN_one (v : Int) (h : 0 ≤ v ∧ v ≤ 255) (t : ByteArray) : ((fixV (fN v 1 ++ t) 1 : Nat) : Int) = v ∧ fixT (fN v 1 ++ t) 1 = t :=
  fN_put v 1 1 rfl (by omega) h.1 (by have : (256 : Nat) ^ 1 = 256 := rfl; omega) t
theorem fN_eight (v : Int) (h : 0 ≤ v ∧ v ≤ 18446744073709551615) (t : ByteArray) : ((fixV (fN v 8 ++ t) 8 : Nat) : Int) = v ∧ fixT (fN v 8 ++ t) 8 = t :=
  fN_put v 8 8 rfl (by omega) h.1 (by have : (256 : Nat) ^ 8 = 18446744073709551616 := rfl; omega) t

set_option maxHeartbeats 2000000 in
theorem mAll_put (m : Ms) (wd : m.Wide) (h : mmayB m = true) (hl : m.es.length = m.n) : mAll (pbm m) = true ∧ mPrs (pbm m) m.A m.c = m := by
  have hr : mrightB m = true := by
    have h := h
    unfold mmayB at h
    simp only [Bool.and_eq_true] at h
    exact h.1
  have fw := mfew_of wd hr
  have hsz := pbm_size fw hl
  have hh : hdM (pbm m) = true := by
    obtain ⟨_, _, _, _, _, _, _, _, _, _, e⟩ := u_all (pbm m) (by omega)
    exact e
  have hes : ∀ e ∈ m.es, e.Ok ∧ mayB e = true := fun e he => ⟨wd.eo e he, putS_of h e he⟩
  obtain ⟨x11, h11⟩ : ∃ x, x = fN (m.snap.size : Int) 4 ++ m.snap := ⟨_, rfl⟩
  obtain ⟨x10, h10⟩ : ∃ x, x = pbs m.es ++ x11 := ⟨_, rfl⟩
  obtain ⟨x9, h9⟩ : ∃ x, x = fN (m.n : Int) 1 ++ x10 := ⟨_, rfl⟩
  obtain ⟨x8, h8⟩ : ∃ x, x = fN (bitI m.ok) 1 ++ x9 := ⟨_, rfl⟩
  obtain ⟨x7, h7⟩ : ∃ x, x = fN m.mark 8 ++ x8 := ⟨_, rfl⟩
  obtain ⟨x6, h6⟩ : ∃ x, x = fN m.commit 8 ++ x7 := ⟨_, rfl⟩
  obtain ⟨x5, h5⟩ : ∃ x, x = fN m.prev 8 ++ x6 := ⟨_, rfl⟩
  obtain ⟨x4, h4⟩ : ∃ x, x = fN m.index 8 ++ x5 := ⟨_, rfl⟩
  obtain ⟨x3, h3⟩ : ∃ x, x = fN m.term 8 ++ x4 := ⟨_, rfl⟩
  obtain ⟨x2, h2⟩ : ∃ x, x = fN m.dst 1 ++ x3 := ⟨_, rfl⟩
  obtain ⟨x1, h1⟩ : ∃ x, x = fN m.frm 1 ++ x2 := ⟨_, rfl⟩
  obtain ⟨x0, h0⟩ : ∃ x, x = fN m.kind 1 ++ x1 := ⟨_, rfl⟩
  have hx : pbm m = x0 := by
    rw [h0, h1, h2, h3, h4, h5, h6, h7, h8, h9, h10, h11]
    unfold pbm
    simp only [append_assoc3]
  rw [hx] at hsz hh ⊢
  have f0 := fN_one m.kind (⟨fw.k0, by have := fw.k1; omega⟩) x1
  rw [← h0] at f0
  have v0 : ((fixV x0 1 : Nat) : Int) = m.kind := by exact f0.1
  have e1 : u1 x0 = x1 := by unfold u1; exact f0.2
  have f1 := fN_one m.frm (⟨fw.f0, by have := fw.f1; omega⟩) x2
  rw [← h1] at f1
  have v1 : ((fixV (u1 x0) 1 : Nat) : Int) = m.frm := by rw [e1]; exact f1.1
  have e2 : u2 x0 = x2 := by unfold u2; rw [e1]; exact f1.2
  have f2 := fN_one m.dst (⟨fw.o0, by have := fw.o1; omega⟩) x3
  rw [← h2] at f2
  have v2 : ((fixV (u2 x0) 1 : Nat) : Int) = m.dst := by rw [e2]; exact f2.1
  have e3 : u3 x0 = x3 := by unfold u3; rw [e2]; exact f2.2
  have f3 := fN_eight m.term (⟨wd.t0, wd.t1⟩) x4
  rw [← h3] at f3
  have v3 : ((fixV (u3 x0) 8 : Nat) : Int) = m.term := by rw [e3]; exact f3.1
  have e4 : u4 x0 = x4 := by unfold u4; rw [e3]; exact f3.2
  have f4 := fN_eight m.index (⟨wd.i0, wd.i1⟩) x5
  rw [← h4] at f4
  have v4 : ((fixV (u4 x0) 8 : Nat) : Int) = m.index := by rw [e4]; exact f4.1
  have e5 : u5 x0 = x5 := by unfold u5; rw [e4]; exact f4.2
  have f5 := fN_eight m.prev (⟨wd.p0, wd.p1⟩) x6
  rw [← h5] at f5
  have v5 : ((fixV (u5 x0) 8 : Nat) : Int) = m.prev := by rw [e5]; exact f5.1
  have e6 : u6 x0 = x6 := by unfold u6; rw [e5]; exact f5.2
  have f6 := fN_eight m.commit (⟨wd.c0, wd.c1⟩) x7
  rw [← h6] at f6
  have v6 : ((fixV (u6 x0) 8 : Nat) : Int) = m.commit := by rw [e6]; exact f6.1
  have e7 : u7 x0 = x7 := by unfold u7; rw [e6]; exact f6.2
  have f7 := fN_eight m.mark (⟨wd.m0, wd.m1⟩) x8
  rw [← h7] at f7
  have v7 : ((fixV (u7 x0) 8 : Nat) : Int) = m.mark := by rw [e7]; exact f7.1
  have e8 : u8 x0 = x8 := by unfold u8; rw [e7]; exact f7.2
  have f8 := fN_one (bitI m.ok) (by cases m.ok <;> decide) x9
  rw [← h8] at f8
  have v8 : ((fixV (u8 x0) 1 : Nat) : Int) = (bitI m.ok) := by rw [e8]; exact f8.1
  have e9 : u9 x0 = x9 := by unfold u9; rw [e8]; exact f8.2
  have f9 := fN_one (m.n : Int) (by have := fw.n1; omega) x10
  rw [← h9] at f9
  have v9 : ((fixV (u9 x0) 1 : Nat) : Int) = (m.n : Int) := by rw [e9]; exact f9.1
  have e10 : u10 x0 = x10 := by unfold u10; rw [e9]; exact f9.2
  have eN : mN x0 = m.n := by
    have h : ((mN x0 : Nat) : Int) = (m.n : Int) := v9
    omega
  have eY : ((mY x0 : Nat) : Int) = bitI m.ok := v8
  obtain ⟨g1, g2, g3⟩ := got_pbs m.es x11 hes
  rw [← h10, hl] at g1 g2 g3
  have eG : mG x0 = x11 := by unfold mG; rw [eN, e10]; exact g3
  have f11 : ((fixV x11 4 : Nat) : Int) = (m.snap.size : Int) ∧ fixT x11 4 = m.snap := by
    rw [h11]
    exact fN_put (m.snap.size : Int) 4 4 rfl (by omega) (by omega) (by have := fw.s1; have : (256 : Nat) ^ 4 = 4294967296 := rfl; omega) m.snap
  have eZ : mZ x0 = m.snap.size := by
    have h : ((mZ x0 : Nat) : Int) = (m.snap.size : Int) := by unfold mZ; rw [eG]; exact f11.1
    omega
  have hz := byt_yes m.snap m.snap.size (Nat.le_refl _)
  have eS : mS x0 = m.snap := by
    unfold mS
    rw [eG, eZ, f11.2, hz.1]
    simp
  have eR : (mR x0).size = 0 := by
    unfold mR
    rw [eG, eZ, f11.2, hz.2.1, sk_size]
    omega
  have hx11 : 4 ≤ x11.size := by rw [h11, ByteArray.size_append, fN_size _ 4 (by omega) (by omega)]; show 4 ≤ 4 + _; omega
  have hF : hasF x11 4 = true := (fix_yes x11 4 (by omega) hx11).2.2
  have hB : hasB m.snap (m.snap.size : Int) = true := hz.2.2
  constructor
  · unfold mAll
    rw [hh, eG, eN, e10, g1, hF, f11.2, eZ, hB, decide_eq_true eR]
    have : mY x0 ≤ 1 := by
      have : bitI m.ok ≤ 1 := by cases m.ok <;> decide
      omega
    rw [decide_eq_true this]
    rfl
  · have hk : (mY x0 == 1) = m.ok := by
      cases hk : m.ok with
      | true =>
        rw [hk] at eY
        have h1 : ((mY x0 : Nat) : Int) = 1 := eY
        have h2 : mY x0 = 1 := by omega
        rw [h2]; rfl
      | false =>
        rw [hk] at eY
        have h1 : ((mY x0 : Nat) : Int) = 0 := eY
        have h2 : mY x0 = 0 := by omega
        rw [h2]; rfl
    unfold mPrs
    rw [eN, e10, g2, eS, hk, v0, v1, v2, v3, v4, v5, v6, v7]
end Go.Proofs.Ytiikgfcfceldmaa
