/-
  What was put is got: the plain mathematics of it, no walk.
  Conditions: the entry may be put.
-/
import Derived.Test.YtpdbeijfchmlgaaGreatRGet
namespace Go.Proofs.YtpdbeijfchmlgaaGreat
open Go.RowKit
open Vi
set_option linter.unusedVariables false

theorem fN_put (v : Int) (k : Nat) (kk : Int) (hkk : kk = (k : Int)) (hk : k ≤ 8) (h0 : 0 ≤ v) (h1 : v.toNat < 256 ^ k) (t : ByteArray) :
    ((fixV (fN v kk ++ t) kk : Nat) : Int) = v ∧ fixT (fN v kk ++ t) kk = t := by
  subst hkk
  have h := fix_put v.toNat k hk t
  refine ⟨?_, h.2.1⟩
  unfold fN
  rw [h.1, Nat.mod_eq_of_lt h1]
  omega
theorem no_old : ∀ k : Int, 0 ≤ k → k ≤ 10 → hasL (fl k) 111 = false := by
  intro k h0 h1
  have : k = 0 ∨ k = 1 ∨ k = 2 ∨ k = 3 ∨ k = 4 ∨ k = 5 ∨ k = 6 ∨ k = 7 ∨ k = 8 ∨ k = 9 ∨ k = 10 := by omega
  rcases this with rfl | rfl | rfl | rfl | rfl | rfl | rfl | rfl | rfl | rfl | rfl <;> decide +kernel
theorem may_old {X : En} (ok : X.Ok) (h : mayB X = true) : X.old = ⟨#[]⟩ := by
  have hr := mayB_right h
  have A := (asked_iff X ok).1 hr
  have f : 0 ≤ X.kind ∧ X.kind ≤ 11 := of_decide_eq_true A.f
  have h11 : X.kind ≠ 11 := by
    intro e
    unfold mayB lvl at h
    rw [if_pos e] at h
    simp at h
  have hz := A.o0 (no_old X.kind f.1 (by omega))
  exact ByteArray.ext (Array.eq_empty_of_size_eq_zero (by have : X.old.size = 0 := by omega
                                                          exact this))
theorem pb_right (X : En) (r : ByteArray) : pb X ++ r = fN X.kind 1 ++ (fN X.term 8 ++ (fN X.index 8 ++ (fN X.client 8 ++ (fN X.seq 8 ++ (fN X.block 4 ++ (fN X.many 4 ++ (fN X.node 1 ++ (fN X.level 1 ++ (fN X.data.size 1 ++ (X.data ++ (zer (66 - X.data.size) ++ r))))))))))) := by
  unfold pb
  simp only [append_assoc3]
theorem byt_put5 (a t : ByteArray) (n : Int) (hn : n = (a.size : Int)) : bytV (a ++ t) n = a ∧ bytT (a ++ t) n = t := by
  subst hn
  have h := byt_yes (a ++ t) a.size (by rw [ByteArray.size_append]; omega)
  refine ⟨h.1.trans (extract_left a t), h.2.1.trans ?_⟩
  unfold sk
  exact extract_right a t
/-- An entry that was put is got, with whatever stands behind it. -/
theorem got_put {X : En} (ok : X.Ok) (h : mayB X = true) (r : ByteArray) : getO (pb X ++ r) = true ∧ getE (pb X ++ r) = X ∧ getT (pb X ++ r) = r := by
  have fw := few_of ok (mayB_right h)
  have hold := may_old ok h
  have hps := pb_size fw
  have hd := fw.d
  have p1 : (256 : Nat) ^ 1 = 256 := by decide
  have p4 : (256 : Nat) ^ 4 = 4294967296 := by decide
  have p8 : (256 : Nat) ^ 8 = 18446744073709551616 := by decide
  have x1 := ok.t0
  have x2 := ok.t1
  have x3 := ok.i0
  have x4 := ok.i1
  have x5 := ok.c0
  have x6 := ok.c1
  have x7 := ok.s0
  have x8 := ok.s1
  have x9 := ok.b0
  have x10 := ok.m0
  have y1 := fw.k0
  have y2 := fw.k1
  have y3 := fw.n0
  have y4 := fw.n1
  have y5 := fw.l0
  have y6 := fw.l1
  have y7 := fw.b
  have y8 := fw.m
  obtain ⟨s, hs⟩ : ∃ s, s = pb X ++ r := ⟨_, rfl⟩
  have hsz : 110 ≤ s.size := by rw [hs, ByteArray.size_append, hps]; omega
  rw [← hs]
  have e := pb_right X r
  rw [← hs] at e
  have f0 := fN_put X.kind 1 1 rfl (by omega) y1 (by rw [p1]; omega)
  have f1 := fN_put X.term 8 8 rfl (by omega) x1 (by rw [p8]; omega)
  have f2 := fN_put X.index 8 8 rfl (by omega) x3 (by rw [p8]; omega)
  have f3 := fN_put X.client 8 8 rfl (by omega) x5 (by rw [p8]; omega)
  have f4 := fN_put X.seq 8 8 rfl (by omega) x7 (by rw [p8]; omega)
  have f5 := fN_put X.block 4 4 rfl (by omega) x9 (by rw [p4]; omega)
  have f6 := fN_put X.many 4 4 rfl (by omega) x10 (by rw [p4]; omega)
  have f7 := fN_put X.node 1 1 rfl (by omega) y3 (by rw [p1]; omega)
  have f8 := fN_put X.level 1 1 rfl (by omega) y5 (by rw [p1]; omega)
  have f9 := fN_put (X.data.size : Int) 1 1 rfl (by omega) (by omega) (by rw [p1]; omega)
  have u1 : t1 s = fN X.term 8 ++ (fN X.index 8 ++ (fN X.client 8 ++ (fN X.seq 8 ++ (fN X.block 4 ++ (fN X.many 4 ++ (fN X.node 1 ++ (fN X.level 1 ++ (fN X.data.size 1 ++ (X.data ++ (zer (66 - X.data.size) ++ r)))))))))) := by unfold t1; rw [e]; exact (f0 _).2
  have u2 : t2 s = fN X.index 8 ++ (fN X.client 8 ++ (fN X.seq 8 ++ (fN X.block 4 ++ (fN X.many 4 ++ (fN X.node 1 ++ (fN X.level 1 ++ (fN X.data.size 1 ++ (X.data ++ (zer (66 - X.data.size) ++ r))))))))) := by unfold t2; rw [u1]; exact (f1 _).2
  have u3 : t3 s = fN X.client 8 ++ (fN X.seq 8 ++ (fN X.block 4 ++ (fN X.many 4 ++ (fN X.node 1 ++ (fN X.level 1 ++ (fN X.data.size 1 ++ (X.data ++ (zer (66 - X.data.size) ++ r)))))))) := by unfold t3; rw [u2]; exact (f2 _).2
  have u4 : t4 s = fN X.seq 8 ++ (fN X.block 4 ++ (fN X.many 4 ++ (fN X.node 1 ++ (fN X.level 1 ++ (fN X.data.size 1 ++ (X.data ++ (zer (66 - X.data.size) ++ r))))))) := by unfold t4; rw [u3]; exact (f3 _).2
  have u5 : t5 s = fN X.block 4 ++ (fN X.many 4 ++ (fN X.node 1 ++ (fN X.level 1 ++ (fN X.data.size 1 ++ (X.data ++ (zer (66 - X.data.size) ++ r)))))) := by unfold t5; rw [u4]; exact (f4 _).2
  have u6 : t6 s = fN X.many 4 ++ (fN X.node 1 ++ (fN X.level 1 ++ (fN X.data.size 1 ++ (X.data ++ (zer (66 - X.data.size) ++ r))))) := by unfold t6; rw [u5]; exact (f5 _).2
  have u7 : t7 s = fN X.node 1 ++ (fN X.level 1 ++ (fN X.data.size 1 ++ (X.data ++ (zer (66 - X.data.size) ++ r)))) := by unfold t7; rw [u6]; exact (f6 _).2
  have u8 : t8 s = fN X.level 1 ++ (fN X.data.size 1 ++ (X.data ++ (zer (66 - X.data.size) ++ r))) := by unfold t8; rw [u7]; exact (f7 _).2
  have u9 : t9 s = fN X.data.size 1 ++ (X.data ++ (zer (66 - X.data.size) ++ r)) := by unfold t9; rw [u8]; exact (f8 _).2
  have u10 : t10 s = X.data ++ (zer (66 - X.data.size) ++ r) := by unfold t10; rw [u9]; exact (f9 _).2
  have hnd : nd s = X.data.size := by
    have h1 := (f9 (X.data ++ (zer (66 - X.data.size) ++ r))).1
    rw [← u9] at h1
    have h2 : ((nd s : Nat) : Int) = (X.data.size : Int) := h1
    omega
  have d1 := byt_put5 X.data (zer (66 - X.data.size) ++ r) (nd s : Int) (by rw [hnd])
  have hdat : dat s = X.data := by unfold dat; rw [u10]; exact d1.1
  have u11 : t11 s = zer (66 - X.data.size) ++ r := by unfold t11; rw [u10]; exact d1.2
  have d2 := byt_put5 (zer (66 - X.data.size)) r (66 - (nd s : Int)) (by rw [zer_size, hnd]; omega)
  have hbeh : beh s = zer (66 - X.data.size) := by unfold beh; rw [u11]; exact d2.1
  have hT : t12 s = r := by unfold t12; rw [u11]; exact d2.2
  have hpr : prs s = X := by
    have g0 := (f0 (t1 s)).1
    rw [show fN X.kind 1 ++ t1 s = s by rw [u1, ← e]] at g0
    have g1 := (f1 (t2 s)).1
    rw [show fN X.term 8 ++ t2 s = t1 s by rw [u1, u2]] at g1
    have g2 := (f2 (t3 s)).1
    rw [show fN X.index 8 ++ t3 s = t2 s by rw [u2, u3]] at g2
    have g3 := (f3 (t4 s)).1
    rw [show fN X.client 8 ++ t4 s = t3 s by rw [u3, u4]] at g3
    have g4 := (f4 (t5 s)).1
    rw [show fN X.seq 8 ++ t5 s = t4 s by rw [u4, u5]] at g4
    have g5 := (f5 (t6 s)).1
    rw [show fN X.block 4 ++ t6 s = t5 s by rw [u5, u6]] at g5
    have g6 := (f6 (t7 s)).1
    rw [show fN X.many 4 ++ t7 s = t6 s by rw [u6, u7]] at g6
    have g7 := (f7 (t8 s)).1
    rw [show fN X.node 1 ++ t8 s = t7 s by rw [u7, u8]] at g7
    have g8 := (f8 (t9 s)).1
    rw [show fN X.level 1 ++ t9 s = t8 s by rw [u8, u9]] at g8
    unfold prs prd
    rw [g0, g1, g2, g3, g4, g5, g6, g7, g8, hdat, ← hold]
  have hall : allO s = true := (allO_iff s).2 ⟨hsz, by omega⟩
  have ho : getO s = true := by
    unfold getO
    rw [hall, hpr, h, hbeh, zer_size]
    simp
  refine ⟨ho, by unfold getE; rw [if_pos ho, hpr], ?_⟩
  unfold getT
  rw [if_pos ho, ← (t_rest s hsz (by omega)).2.2, hT]
end Go.Proofs.YtpdbeijfchmlgaaGreat
