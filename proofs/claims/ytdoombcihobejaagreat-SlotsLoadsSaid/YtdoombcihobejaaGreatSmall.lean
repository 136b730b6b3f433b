/-
  The contracts of the device's small methods: refuses, Sectors, Crashed, Arm, attempt, New.
  Conditions: named in each theorem.
-/
import Derived.Test.YtdoombcihobejaaGreatMem
namespace Go.Proofs.YtdoombcihobejaaGreat
open Go.RowKit Dk
set_option linter.unusedVariables false

/-- A pointer to block g. -/
def ptr (g : Nat) : Value := .pointer (some ⟨g, 0, none⟩)

theorem refuses_dead (g : Nat) (L : List Nat) (d : St) (at_ : Int) (w : World) (h : Dv w g L d) (hd : d.dead = true) :
    Calls Tryz.prog 66 #[ptr g, .int .i64 at_] w fun e w' => e = .returned (.int .i64 7) ∧ w = w' := by
  obtain ⟨ho, fb, mb, cap, rfl, h⟩ := h
  have c3 := h.c3
  rw [hd] at c3
  clear h hd
  unfold ptr
  go_enter Tryz.func66, Tryz.ntmps66
  go_wp2
  go_ret
  exact ⟨rfl, rfl⟩
theorem refuses_no (g : Nat) (L : List Nat) (d : St) (at_ : Int) (w : World) (h : Dv w g L d) (hd : d.dead = false) (ha : at_ < 0 ∨ (d.n : Int) ≤ at_) :
    Calls Tryz.prog 66 #[ptr g, .int .i64 at_] w fun e w' => e = .returned (.int .i64 5) ∧ w = w' := by
  obtain ⟨ho, fb, mb, cap, rfl, h⟩ := h
  have c3 := h.c3
  have c0 := h.c0
  rw [hd] at c3
  clear h hd
  generalize d.n = n at *
  unfold ptr
  by_cases h0 : at_ < 0
  · clear ha
    have h0' : decide (at_ < 0) = true := decide_eq_true h0
    go_enter Tryz.func66, Tryz.ntmps66
    go_wp2
    go_ret
    exact ⟨rfl, rfl⟩
  · have h1 : (n : Int) ≤ at_ := by omega
    clear ha
    have h0' : decide (at_ < 0) = false := decide_eq_false h0
    go_enter Tryz.func66, Tryz.ntmps66
    go_wp2
    go_ret
    exact ⟨rfl, rfl⟩
theorem refuses_yes (g : Nat) (L : List Nat) (d : St) (at_ : Int) (w : World) (h : Dv w g L d) (hd : d.dead = false) (h0 : 0 ≤ at_) (h1 : at_ < d.n) :
    Calls Tryz.prog 66 #[ptr g, .int .i64 at_] w fun e w' => e = .returned (.int .i64 0) ∧ w = w' := by
  obtain ⟨ho, fb, mb, cap, rfl, h⟩ := h
  have c3 := h.c3
  have c0 := h.c0
  rw [hd] at c3
  clear h hd
  generalize d.n = n at *
  unfold ptr
  have h0' : decide (at_ < 0) = false := decide_eq_false (by omega)
  go_enter Tryz.func66, Tryz.ntmps66
  go_wp2
  go_ret
  exact ⟨rfl, rfl⟩
theorem refuses_any (g : Nat) (L : List Nat) (d : St) (at_ : Int) (w : World) (h : Dv w g L d) :
    Calls Tryz.prog 66 #[ptr g, .int .i64 at_] w fun e w' => e = .returned (.int .i64 (d.refuses at_)) ∧ w = w' := by
  unfold St.refuses
  cases hd : d.dead
  · by_cases ha : at_ < 0 ∨ (d.n : Int) ≤ at_
    · rw [if_neg (by decide), if_pos ha]; exact refuses_no g L d at_ w h hd ha
    · rw [if_neg (by decide), if_neg ha]; exact refuses_yes g L d at_ w h hd (by omega) (by omega)
  · rw [if_pos rfl]; exact refuses_dead g L d at_ w h hd
theorem arm_any (g : Nat) (L : List Nat) (d : St) (a : Int) (w : World) (h : Dv w g L d) (h1 : -9223372036854775808 ≤ a) (h2 : a ≤ 9223372036854775807) :
    Calls Tryz.prog 14 #[ptr g, .int .i64 a] w fun e w' => e = .returned (.tuple #[]) ∧ Moves g L (d.arm a) w w' := by
  obtain ⟨ho, fb, mb, cap, rfl, h⟩ := h
  have c2 := h.c2
  have f2 := h.fz 2
  have hD := h.set2 a
  have HD := Lib.hid hD
  clear h hD
  unfold ptr
  go_enter Tryz.func14, Tryz.ntmps14
  go_wp2
  go_end0
  exact ⟨rfl, [g, fb, mb], ⟨ho.arm h1 h2, fb, mb, cap, rfl, HD.out⟩, Keep.setCell (p := ⟨g, 2, none⟩) (by simp) _, Fresh.refl _ _⟩

theorem attempt_zero (g : Nat) (L : List Nat) (d : St) (f : Value) (w : World) (h : Dv w g L d) (hl : d.left = 0) :
    Calls Tryz.prog 67 #[ptr g, f] w fun e w' => e = .returned (.int .i64 7) ∧ Moves g L d.die w w' := by
  obtain ⟨ho, fb, mb, cap, rfl, h⟩ := h
  have c2 := h.c2
  rw [hl] at c2
  have f3 := h.fz 3
  have c3' : (w.setCell ⟨g, 3, none⟩ (.bool true)).cell? ⟨g, 3, none⟩ = some (.bool true) := (h.set3 true).c3
  have c3 := h.c3
  have hD := h.set3 true
  have HD := Lib.hid hD
  clear h hD hl
  unfold ptr
  go_enter Tryz.func67, Tryz.ntmps67
  go_wp2
  go_ret
  exact ⟨rfl, [g, fb, mb], ⟨ho.die, fb, mb, cap, rfl, HD.out⟩, Keep.setCell (p := ⟨g, 3, none⟩) (by simp) _, Fresh.refl _ _⟩
theorem attempt_dead (g : Nat) (L : List Nat) (d : St) (f : Value) (w : World) (h : Dv w g L d) (hl : d.left ≠ 0) (hd : d.dead = true) :
    Calls Tryz.prog 67 #[ptr g, f] w fun e w' => e = .returned (.int .i64 7) ∧ w = w' := by
  obtain ⟨ho, fb, mb, cap, rfl, h⟩ := h
  have c2 := h.c2
  have c3 := h.c3
  rw [hd] at c3
  have hl' : (d.left == 0) = false := by simpa using hl
  clear h hd
  generalize d.left = l at *
  unfold ptr
  go_enter Tryz.func67, Tryz.ntmps67
  go_wp2
  go_ret
  exact ⟨rfl, rfl⟩

set_option maxHeartbeats 400000 in
theorem attempt_go (F : Nat) (hF : F = 69 ∨ F = 68) (g : Nat) (L : List Nat) (d : St) (bs cs : Array Value) (w : World) (h : Dv w g L d) (hl : d.left ≠ 0) (hd : d.dead = false) (R : World → Prop)
    (hsz : (F = 69 ∧ bs = #[ptr g] ∧ cs = #[]) ∨ (F = 68 ∧ bs = #[] ∧ ∃ a b c, cs = #[a, b, c]))
    (hdo : ∀ w1, Dv w1 g L d.step → Keep L w w1 → w1.heap.size = w.heap.size → Calls Tryz.prog F (bs ++ cs) w1 fun e w' => e = .returned (.tuple #[]) ∧ R w') :
    Calls Tryz.prog 67 #[ptr g, .func (.func F) bs cs] w fun e w' => e = .returned (.int .i64 0) ∧ R w' := by
  obtain ⟨ho, fb, mb, cap, rfl, h⟩ := h
  have c2 := h.c2
  have c3 := h.c3
  have f2 := h.fz 2
  rw [hd] at c3
  have hl' : (d.left == 0) = false := by simpa using hl
  have o1 := ho.l1
  have o2 := ho.l2
  have key : ∃ w1, (if 0 < d.left then w.setCell ⟨g, 2, none⟩ (.int .i64 (d.left - 1)) else w) = w1 ∧ Calls Tryz.prog F (bs ++ cs) w1 fun e w' => e = .returned (.tuple #[]) ∧ R w' := by
    refine ⟨_, rfl, hdo _ ?_ ?_ ?_⟩
    · refine ⟨ho.step, fb, mb, cap, rfl, ?_⟩
      unfold St.step
      split
      · exact h.set2 _
      · exact h
    · split
      · exact Keep.setCell (p := ⟨g, 2, none⟩) (by simp) _
      · exact Keep.refl _ _
    · split
      · simp
      · rfl
  obtain ⟨w1, hw1, HC0⟩ := key
  have HC := Lib.hid HC0
  clear h hd hdo HC0 ho hl
  generalize d.left = l at *
  unfold ptr at *
  rcases hsz with ⟨rfl, rfl, rfl⟩ | ⟨rfl, rfl, a, b, c, rfl⟩
  all_goals
    by_cases hp : 0 < l
    · have hp' : decide (0 < l) = true := decide_eq_true hp
      rw [if_pos hp] at hw1
      have HW := Lib.hid hw1
      clear hw1
      go_enter Tryz.func67, Tryz.ntmps67
      go_wp2_with fail
      rw [HW.out]
      refine HC.out.mono ?_
      rintro e w2 ⟨rfl, hR⟩
      go_wp2
      go_ret
      exact ⟨rfl, hR⟩
    · have hp' : decide (0 < l) = false := decide_eq_false hp
      rw [if_neg hp] at hw1
      subst hw1
      go_enter Tryz.func67, Tryz.ntmps67
      go_wp2_with fail
      refine HC.out.mono ?_
      rintro e w2 ⟨rfl, hR⟩
      go_wp2
      go_ret
      exact ⟨rfl, hR⟩
end Go.Proofs.YtdoombcihobejaaGreat
