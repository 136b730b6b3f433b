/-
  The contracts of the document's own Read, crashes, Flush, Arm.
  Conditions: named in each theorem.
-/
import Derived.Test.YtdoombcihobejaaGreatRo
namespace Go.Proofs.YtdoombcihobejaaGreat
open Go.RowKit Dk
set_option linter.unusedVariables false
theorem Dk.Rf.base {w : World} {B B' gr : Nat} {L : List Nat} {d : St} (h : Rf w B gr L d) (hB : B' ≤ B) : Rf w B' gr L d := by
  obtain ⟨ho, v1, v2, v3, rfl, hA⟩ := h
  have lo : ∀ {e n : Nat} {v : Value} {xs : List Value}, w.ownsRow B e 1 v n xs → w.ownsRow B' e 1 v n xs := by
    intro e n v xs h
    obtain ⟨hl, h⟩ := h
    refine ⟨hl, ?_⟩
    rcases h with h | ⟨gb, c, cur, rfl, hb, r⟩
    · exact .inl h
    · exact .inr ⟨gb, c, cur, rfl, by omega, r⟩
  exact ⟨ho, v1, v2, v3, rfl, ⟨hA.blk, lo hA.r1, lo hA.r2, lo hA.r3, hA.ap, by have := hA.hB; omega⟩⟩
def RMoves (B gr : Nat) (L : List Nat) (d' : St) (w w' : World) : Prop := Rf w' B gr L d' ∧ Keep L w w'
set_option maxHeartbeats 1000000 in
set_option maxRecDepth 100000 in
theorem rread_any (B gr : Nat) (L : List Nat) (d : St) (at_ : Int) (w : World) (h : Rf w B gr L d) :
    Calls Tryz.prog 70 #[ptr gr, .int .i64 at_] w fun e w' => e = .returned (.tuple #[.string (txt (d.readS at_)), .int .i64 (d.refuses at_)]) ∧ w = w' := by
  obtain ⟨g1, c1, g2, c2, g3, c3, rfl, hA⟩ := RAt.of_rf h
  have q4 := hA.c 4
  change w.cell? ⟨gr, 4, none⟩ = some (.bool d.dead) at q4
  have q0 := hA.c 0
  change w.cell? ⟨gr, 0, none⟩ = some (.slice (some ⟨g1, 0, none⟩) d.n c1) at q0
  unfold ptr
  by_cases hd : d.dead = true
  · have e1 : d.refuses at_ = 7 := by unfold St.refuses; rw [if_pos hd]
    have e2 : txt (d.readS at_) = ⟨#[]⟩ := by unfold St.readS; rw [e1]; rfl
    rw [e1, e2]
    rw [hd] at q4
    clear h hA e1 e2
    go_enter Tryz.func70, Tryz.ntmps70
    go_wp2
    go_ret2
    exact ⟨rfl, rfl⟩
  · have hd' : d.dead = false := by simpa using hd
    rw [hd'] at q4
    by_cases hb : at_ < 0 ∨ (d.n : Int) ≤ at_
    · have e1 : d.refuses at_ = 5 := refuses_no_eq hd' hb
      have e2 : txt (d.readS at_) = ⟨#[]⟩ := by unfold St.readS; rw [e1]; rfl
      rw [e1, e2]
      clear h hA e1 e2
      rcases hb with hb | hb
      · have hb1 : decide (at_ < 0) = true := decide_eq_true hb
        go_enter Tryz.func70, Tryz.ntmps70
        go_wp2
        go_ret2
        exact ⟨rfl, rfl⟩
      · by_cases hn : at_ < 0
        · omega
        · have hb1 : decide (at_ < 0) = false := decide_eq_false hn
          have hb2 : decide ((d.n : Int) ≤ at_) = true := decide_eq_true hb
          go_enter Tryz.func70, Tryz.ntmps70
          go_wp2
          go_ret2
          exact ⟨rfl, rfl⟩
    · obtain ⟨i, rfl⟩ := Int.eq_ofNat_of_zero_le (show 0 ≤ at_ by omega)
      have hi : i < d.n := by omega
      have e1 : d.refuses i = 0 := refuses_yes_eq hd' (by omega) (by omega)
      have e2 : d.readS i = d.now i := readS_eq hd' hi
      rw [e1, e2]
      have cz : w.cell? ⟨g1, i, none⟩ = some (.string (txt (d.now i))) := row_cell hA.r1 i hi
      have hk1 : (i : Int) < d.n := by omega
      clear h hA e1 e2
      have hb2 : decide (d.n ≤ i) = false := decide_eq_false (by omega)
      go_enter Tryz.func70, Tryz.ntmps70
      go_wp2
      go_ret2
      exact ⟨rfl, rfl⟩
set_option maxHeartbeats 1000000 in
set_option maxRecDepth 100000 in
theorem rcrashes_any (B gr : Nat) (L : List Nat) (d : St) (w : World) (h : Rf w B gr L d) (hd : d.dead = false) :
    Calls Tryz.prog 73 #[ptr gr] w fun e w' => e = .returned (.bool (decide (d.left = 0))) ∧ RMoves B gr L (if d.left = 0 then d.die else d.step) w w' := by
  have ho := h.1
  obtain ⟨g1, c1, g2, c2, g3, c3, rfl, hA⟩ := RAt.of_rf h
  have q4 := hA.c 4
  change w.cell? ⟨gr, 4, none⟩ = some (.bool d.dead) at q4
  have q3 := hA.c 3
  change w.cell? ⟨gr, 3, none⟩ = some (.int .i64 (max d.left (-1))) at q3
  have f3 := hA.fz 3
  have f4 := hA.fz 4
  have hl1 := ho.l1
  have hl2 := ho.l2
  unfold ptr
  rw [hd] at q4
  by_cases h0 : d.left = 0
  · have e0 : max d.left (-1) = 0 := by omega
    rw [e0] at q3
    have hX := Lib.hid (hA.setDead true)
    rw [if_pos h0, decide_eq_true h0]
    have HO := Lib.hid ho
    clear hA h ho h0
    go_enter Tryz.func73, Tryz.ntmps73
    go_wp2
    go_ret
    exact ⟨rfl, RAt.to_rf (d := d.die) hX.out HO.out.die (fun _ _ => rfl) (fun _ _ => rfl) (fun _ _ => rfl) rfl rfl, Keep.setCell (by simp) _⟩
  · rw [if_neg h0, decide_eq_false h0]
    by_cases h1 : 0 < d.left
    · obtain ⟨a, ha⟩ : ∃ a, a = max d.left (-1) := ⟨_, rfl⟩
      rw [← ha] at q3
      have ha0 : 0 < a := by omega
      have hane : (a == 0) = false := by simp; omega
      have hwr : IntKind.i64.wrap (a - 1) = a - 1 := IntWalk.i64_in _ (by omega)
      have hX := Lib.hid (hA.setArm (a - 1))
      have e1 : a - 1 = max d.step.left (-1) := by
        show _ = max (if 0 < d.left then d.left - 1 else d.left) (-1)
        rw [if_pos h1]; omega
      have E1 := Lib.hid e1
      have HO := Lib.hid ho
      clear hA h ho h0 h1 ha e1
      go_enter Tryz.func73, Tryz.ntmps73
      go_wp2
      go_ret
      exact ⟨rfl, RAt.to_rf (d := d.step) hX.out HO.out.step (fun _ _ => rfl) (fun _ _ => rfl) (fun _ _ => rfl) E1.out rfl, Keep.setCell (by simp) _⟩
    · have e0 : max d.left (-1) = -1 := by omega
      rw [e0] at q3
      have e1 : d.step = d := by unfold St.step; rw [if_neg h1]
      rw [e1]
      have H := Lib.hid h
      clear hA h ho h0 h1
      go_enter Tryz.func73, Tryz.ntmps73
      go_wp2
      go_ret
      exact ⟨rfl, H.out, Keep.refl _ _⟩
set_option maxHeartbeats 1000000 in
set_option maxRecDepth 100000 in
theorem rarm_any (B gr : Nat) (L : List Nat) (d : St) (a : Int) (w : World) (h : Rf w B gr L d) (h1 : -9223372036854775808 ≤ a) (h2 : a ≤ 9223372036854775807) :
    Calls Tryz.prog 15 #[ptr gr, .int .i64 a] w fun e w' => e = .returned (.tuple #[]) ∧ RMoves B gr L (d.arm a) w w' := by
  have ho := h.1
  obtain ⟨g1, c1, g2, c2, g3, c3, rfl, hA⟩ := RAt.of_rf h
  have f3 := hA.fz 3
  have q3 := hA.c 3
  change w.cell? ⟨gr, 3, none⟩ = some (.int .i64 (max d.left (-1))) at q3
  have hX := Lib.hid (hA.setArm (max a (-1)))
  have HO := Lib.hid ho
  clear hA h ho
  have fin : ∀ x, x = max a (-1) → RMoves B gr [gr, g1, g2, g3] (d.arm a) w (w.setCell ⟨gr, 3, none⟩ (.int .i64 x)) := fun x hx => by
    subst hx
    exact ⟨RAt.to_rf (d := d.arm a) hX.out (HO.out.arm h1 h2) (fun _ _ => rfl) (fun _ _ => rfl) (fun _ _ => rfl) rfl rfl, Keep.setCell (by simp) _⟩
  have HF := Lib.hid fin
  clear hX fin
  unfold ptr
  by_cases hx : a < -1
  · go_enter Tryz.func15, Tryz.ntmps15
    go_wp2
    go_end0
    exact ⟨rfl, HF.out _ (by omega)⟩
  · go_enter Tryz.func15, Tryz.ntmps15
    go_wp2
    go_end0
    exact ⟨rfl, HF.out _ (by omega)⟩
end Go.Proofs.YtdoombcihobejaaGreat
