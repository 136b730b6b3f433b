/-
  A Super and a Hard on a device, as plain mathematics: what was set is loaded; each leaves the other.
  Conditions: a device that works.
-/
import Derived.Test.YtdoombcihobejaaD3
namespace Go.Proofs.Ytdoombcihobejaa
open Go.RowKit Vi Sl Dk Sp
set_option linter.unusedVariables false
theorem rd_same {d d' : St} {a : Int} (hn : d'.n = d.n) (hd : d'.dead = d.dead) (h0 : d'.now a.toNat = d.now a.toNat) (h1 : d'.now (a + 1).toNat = d.now (a + 1).toNat) :
    rdE d' a = rdE d a ∧ rdB d' a = rdB d a ∧ rdG d' a = rdG d a := by
  obtain ⟨x0, y0⟩ := gAt_eq (i := a) h0
  obtain ⟨x1, y1⟩ := gAt_eq (i := a + 1) h1
  have hb : bothE d' a = bothE d a := by unfold bothE St.refuses; rw [hn, hd]
  have he : rdE d' a = rdE d a := by unfold rdE; rw [hb, x0, x1]
  refine ⟨he, ?_, ?_⟩
  · unfold rdB; rw [he, x0, x1, y0, y1]
  · unfold rdG; rw [he, x0, x1]
/-- A device that has a Super, and a Hard, or none. -/
structure Sts (d : St) (n : Nat) (s : Su) (h : Hd) (k j : Nat) : Prop where
  well : Well d
  nn : d.n = n
  n4 : 4 ≤ n
  e0 : rdE d ((0 : Nat) : Int) = 0
  b0 : rdB d ((0 : Nat) : Int) = supB s
  g0 : rdG d ((0 : Nat) : Int) = k
  rs : rgt s = true
  h2 : (rdE d ((2 : Nat) : Int) = 6 ∧ h = hd0) ∨ (rdE d ((2 : Nat) : Int) = 0 ∧ ∃ v, hO v h = true ∧ h.Ok ∧ rdB d ((2 : Nat) : Int) = hB v h)
  g2 : rdG d ((2 : Nat) : Int) = j
theorem wrD_same {d : St} {a b : Nat} {s : ByteArray} (hab : a + 1 < b ∨ b + 1 < a) (hw : wrO d a = 0 ∨ wrO d a = 1) :
    rdE (wrD d a s) (b : Int) = rdE d b ∧ rdB (wrD d a s) (b : Int) = rdB d b ∧ rdG (wrD d a s) (b : Int) = rdG d b := by
  refine rd_same (wrD_n _ _ _) rfl ?_ ?_
  · rw [wrD_now, if_neg (by rcases hw with h | h <;> rw [h] <;> simp <;> omega)]
  · rw [wrD_now, if_neg (by rcases hw with h | h <;> rw [h] <;> simp <;> omega)]
theorem Sts.setS {d : St} {n : Nat} {s s' : Su} {h : Hd} {k j : Nat} (t : Sts d n s h k j) (hs : rgt s' = true) (hk : k < 1000) (hz : (supB s').size ≤ 51) :
    Ytdoombcihobejaa.setS d s' = (wrD d 0 (supB s'), 0) ∧ Sts (wrD d 0 (supB s')) n s' h (k + 1) j := by
  have ha : 0 + 1 < d.n := by have := t.nn; have := t.n4; omega
  have hg : rdG d ((0 : Nat) : Int) ≠ 18446744073709551615 := by rw [t.g0]; omega
  obtain ⟨r1, r2, r3, r4⟩ := rd_after t.well ha hz hg
  obtain ⟨x1, x2, x3⟩ := wrD_same (d := d) (a := 0) (b := 2) (s := supB s') (.inl (by omega)) wrO_cases
  refine ⟨?_, ⟨wrD_well t.well _ _, by rw [wrD_n]; exact t.nn, t.n4, r1, r2, by rw [r3, t.g0], hs, ?_, by rw [x3]; exact t.g2⟩⟩
  · unfold Ytdoombcihobejaa.setS
    rw [if_pos hs]
    exact wr_ok t.well ha hz hg
  · rw [x1, x2]; exact t.h2
theorem Sts.setH {d : St} {n : Nat} {s : Su} {h h' : Hd} {k j : Nat} (t : Sts d n s h k j) {v : Int} (hh : hO v h' = true) (ho : h'.Ok) (hj : j < 1000) :
    Ytdoombcihobejaa.setH d v h' = (wrD d 2 (hB v h'), 0) ∧ Sts (wrD d 2 (hB v h')) n s h' k (j + 1) := by
  have hz : (hB v h').size ≤ 51 := by have := (hB_size hh ho).1; omega
  have ha : 2 + 1 < d.n := by have := t.nn; have := t.n4; omega
  have hg : rdG d ((2 : Nat) : Int) ≠ 18446744073709551615 := by rw [t.g2]; omega
  obtain ⟨r1, r2, r3, r4⟩ := rd_after t.well ha hz hg
  obtain ⟨x1, x2, x3⟩ := wrD_same (d := d) (a := 2) (b := 0) (s := hB v h') (.inr (by omega)) wrO_cases
  refine ⟨?_, ⟨wrD_well t.well _ _, by rw [wrD_n]; exact t.nn, t.n4, by rw [x1]; exact t.e0, by rw [x2]; exact t.b0, by rw [x3]; exact t.g0, t.rs, .inr ⟨r1, v, hh, ho, r2⟩, by rw [r3, t.g2]⟩⟩
  unfold Ytdoombcihobejaa.setH
  rw [if_pos hh]
  exact wr_ok t.well ha hz hg
theorem Sts.load {d : St} {n : Nat} {s : Su} {h : Hd} {k j : Nat} (t : Sts d n s h k j) (hn : sec s ≤ n) : ldE d = 0 ∧ ldS d = s ∧ ldH d = h := by
  have e1 : lSe d = 0 := by
    unfold lSe
    have e0 := t.e0
    have b0 := t.b0
    rw [show ((0 : Nat) : Int) = 0 from rfl] at e0 b0
    rw [e0, b0, if_neg (by simp), gO_sup t.rs, gS_sup t.rs, t.nn, decide_eq_false (by omega)]
    rfl
  have b0 := t.b0
  rw [show ((0 : Nat) : Int) = 0 from rfl] at b0
  have hS : lS d = s := by unfold lS; rw [e1, if_pos rfl, b0, gS_sup t.rs]
  have h2 := t.h2
  rw [show ((2 : Nat) : Int) = 2 from rfl] at h2
  have e2 : lHe d = 0 ∧ lH d = h := by
    rcases h2 with ⟨x1, x2⟩ | ⟨x1, v, x2, x3, x4⟩
    · unfold lHe lH; rw [x1, x2]; exact ⟨rfl, rfl⟩
    · unfold lHe lH
      rw [x1, x4, jO_hard x2 x3, (jH_hard x2 x3).1]
      exact ⟨rfl, rfl⟩
  have e3 : ldE d = 0 := by unfold ldE; rw [e1, e2.1]; rfl
  exact ⟨e3, by unfold ldS; rw [e3, if_pos rfl]; exact hS, by unfold ldH; rw [e3, if_pos rfl]; exact e2.2⟩
/-- A new device, and a Super set on it. -/
theorem sts_new {n : Nat} {s : Su} (h4 : 4 ≤ n) (hs : rgt s = true) (hz : (supB s).size ≤ 51) :
    setS (St.fresh n fun _ => zsec) s = (wrD (St.fresh n fun _ => zsec) 0 (supB s), 0) ∧ Sts (wrD (St.fresh n fun _ => zsec) 0 (supB s)) n s hd0 1 0 := by
  obtain ⟨f1, f2, f3, f4⟩ := rd_fresh n 0 (by omega)
  obtain ⟨p1, p2, p3, p4⟩ := rd_fresh n 2 (by omega)
  have hw : Well (St.fresh n fun _ => zsec) := well_fresh _ _
  have ha : 0 + 1 < (St.fresh n fun _ => zsec).n := by show 0 + 1 < n; omega
  have hg : rdG (St.fresh n fun _ => zsec) ((0 : Nat) : Int) ≠ 18446744073709551615 := by rw [f2]; omega
  obtain ⟨r1, r2, r3, r4⟩ := rd_after hw ha hz hg
  obtain ⟨x1, x2, x3⟩ := wrD_same (d := St.fresh n fun _ => zsec) (a := 0) (b := 2) (s := supB s) (.inl (by omega)) wrO_cases
  refine ⟨?_, ⟨wrD_well hw _ _, by rw [wrD_n]; rfl, h4, r1, r2, by rw [r3, f2], hs, .inl ⟨by rw [x1]; exact p1, rfl⟩, by rw [x3]; exact p2⟩⟩
  unfold setS
  rw [if_pos hs]
  exact wr_ok hw ha hz hg
theorem Sts.small {d : St} {n : Nat} {s : Su} {h : Hd} {k j : Nat} (t : Sts d n s h k j) (hn : (n : Int) < sec s) : ldE d = 2 := by
  have e1 : lSe d = 2 := by
    unfold lSe
    have e0 := t.e0
    have b0 := t.b0
    rw [show ((0 : Nat) : Int) = 0 from rfl] at e0 b0
    rw [e0, b0, if_neg (by simp), gO_sup t.rs, gS_sup t.rs, t.nn, decide_eq_true (by omega)]
    rfl
  unfold ldE; rw [e1]; rfl
end Go.Proofs.Ytdoombcihobejaa
