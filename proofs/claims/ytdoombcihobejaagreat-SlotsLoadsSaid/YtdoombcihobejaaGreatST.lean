/-
  The contract of the document's own Read: the newer of both.
  Conditions: a device that lies in memory.
-/
import Derived.Test.YtdoombcihobejaaGreatSS
namespace Go.Proofs.YtdoombcihobejaaGreat
open Go.RowKit Vi Sp Dk
set_option linter.unusedVariables false
set_option maxHeartbeats 4000000 in
set_option maxRecDepth 100000 in
theorem rsread_any (B gr : Nat) (L : List Nat) (d : St) (at_ : Int) (w : World) (h : Rf w B gr L d) (ha1 : -9223372036854775808 ≤ at_) (ha2 : at_ ≤ 9223372036854775807) :
    Calls Tryz.prog 36 #[ptr gr, .int .i64 at_] w fun e w' => e = rdV d at_ ∧ Below w.heap.size w w' := by
  have ho := h.1.n2
  have S64 : Hid (∀ i : Int, (secB d i).size ≤ 281474976710656) := fun i => by
    unfold secB; rw [txt_size, h.1.now]; omega
  have K1 := Lib.hid (rread_any B gr L d at_ w h)
  have K2 := Lib.hid (rread_any B gr L d (at_ + 1) w h)
  have T1 : Hid (d.refuses at_ = 0 → txt (d.readS at_) = secB d at_) := fun h => by unfold St.readS secB; rw [if_pos h]
  have T2 : Hid (d.refuses (at_ + 1) = 0 → txt (d.readS (at_ + 1)) = secB d (at_ + 1)) := fun h => by unfold St.readS secB; rw [if_pos h]
  by_cases h1 : d.refuses at_ = 0
  · obtain ⟨n1, n2, _⟩ := refuses_nonneg h1
    have hwa : IntKind.i64.wrap (at_ + 1) = at_ + 1 := IntWalk.i64_in _ (by omega)
    rw [T1.out h1, h1] at K1
    by_cases h2 : d.refuses (at_ + 1) = 0
    · rw [T2.out h2, h2] at K2
      have hB : bothE d at_ = 0 := by unfold bothE; rw [if_neg (by rw [h1]; simp)]; exact h2
      have KA := Lib.hid (fun W => rsget_any (secB d at_) W (S64.out _))
      have KB := Lib.hid (fun W => rsget_any (secB d (at_ + 1)) W (S64.out _))
      have R0 : Hid (gAt d at_ = 0 → gAt d (at_ + 1) = 0 → _) := fun h0 h1 => rdV_none hB h0 h1
      have R1 := Lib.hid (rdV_one hB)
      have R2 := Lib.hid (rdV_zero hB)
      clear h1 h2 hB T1 T2 S64 h n1 n2
      unfold gAt at R0 R1 R2
      unfold bAt at R1 R2
      generalize getG (secB d at_) = g0 at *
      generalize getB (secB d at_) = b0 at *
      generalize getG (secB d (at_ + 1)) = g1 at *
      generalize getB (secB d (at_ + 1)) = b1 at *
      generalize gO (secB d at_) = o0 at *
      generalize gO (secB d (at_ + 1)) = o1 at *
      generalize secB d at_ = s0 at *
      generalize secB d (at_ + 1) = s1 at *
      unfold ptr at *
      by_cases e0 : g0 = 0
      · subst e0
        by_cases e1 : g1 = 0
        · subst e1
          have R := Lib.hid (R0.out rfl rfl)
          clear R0 R1 R2
          go_enter Tryz.func36, Tryz.ntmps36
          go_wp2_with fail
          refine K1.out.mono ?_
          rintro e w1 ⟨rfl, rfl⟩
          go_wp2_with fail
          refine K2.out.mono ?_
          rintro e w1 ⟨rfl, rfl⟩
          go_wp2_with fail
          refine (KA.out _).mono ?_
          rintro e w1 ⟨rfl, b1'⟩
          go_wp2_with fail
          refine (KB.out _).mono ?_
          rintro e w2 ⟨rfl, b2'⟩
          go_wp2
          refine bodyPost_ret (v := _) (by simp [results, Tryz.results36, go_sem]) rfl ⟨R.out.symm, b1'.trans (b2'.mono b1'.size)⟩
        · have R := Lib.hid (R1.out (by omega))
          have q1 : ((g1 : Int) == 0) = false := by simpa using e1
          have q1' : decide (g1 = 0) = false := decide_eq_false e1
          have q2 : decide ((g1 : Int) ≤ 0) = false := decide_eq_false (by omega)
          have q3 : ¬ g1 ≤ 0 := by omega
          clear R0 R1 R2 e1
          go_enter Tryz.func36, Tryz.ntmps36
          go_wp2_with fail
          refine K1.out.mono ?_
          rintro e w1 ⟨rfl, rfl⟩
          go_wp2_with fail
          refine K2.out.mono ?_
          rintro e w1 ⟨rfl, rfl⟩
          go_wp2_with fail
          refine (KA.out _).mono ?_
          rintro e w1 ⟨rfl, b1'⟩
          go_wp2_with fail
          refine (KB.out _).mono ?_
          rintro e w2 ⟨rfl, b2'⟩
          go_wp2
          refine bodyPost_ret (v := _) (by simp [results, Tryz.results36, go_sem]) rfl ⟨R.out.symm, b1'.trans (b2'.mono b1'.size)⟩
      · have p1 : ((g0 : Int) == 0) = false := by simpa using e0
        have p1' : decide (g0 = 0) = false := decide_eq_false e0
        by_cases hlt : g0 < g1
        · have R := Lib.hid (R1.out hlt)
          have q2 : decide ((g1 : Int) ≤ (g0 : Int)) = false := decide_eq_false (by omega)
          have q2' : decide (g1 ≤ g0) = false := decide_eq_false (by omega)
          clear R0 R1 R2 e0 hlt
          go_enter Tryz.func36, Tryz.ntmps36
          go_wp2_with fail
          refine K1.out.mono ?_
          rintro e w1 ⟨rfl, rfl⟩
          go_wp2_with fail
          refine K2.out.mono ?_
          rintro e w1 ⟨rfl, rfl⟩
          go_wp2_with fail
          refine (KA.out _).mono ?_
          rintro e w1 ⟨rfl, b1'⟩
          go_wp2_with fail
          refine (KB.out _).mono ?_
          rintro e w2 ⟨rfl, b2'⟩
          go_wp2
          refine bodyPost_ret (v := _) (by simp [results, Tryz.results36, go_sem]) rfl ⟨R.out.symm, b1'.trans (b2'.mono b1'.size)⟩
        · have R := Lib.hid (R2.out hlt e0)
          have q2 : (g1 : Int) ≤ (g0 : Int) := by omega
          have q2' : g1 ≤ g0 := by omega
          clear R0 R1 R2 e0 hlt
          go_enter Tryz.func36, Tryz.ntmps36
          go_wp2_with fail
          refine K1.out.mono ?_
          rintro e w1 ⟨rfl, rfl⟩
          go_wp2_with fail
          refine K2.out.mono ?_
          rintro e w1 ⟨rfl, rfl⟩
          go_wp2_with fail
          refine (KA.out _).mono ?_
          rintro e w1 ⟨rfl, b1'⟩
          go_wp2_with fail
          refine (KB.out _).mono ?_
          rintro e w2 ⟨rfl, b2'⟩
          go_wp2
          refine bodyPost_ret (v := _) (by simp [results, Tryz.results36, go_sem]) rfl ⟨R.out.symm, b1'.trans (b2'.mono b1'.size)⟩
    · have hB : bothE d at_ = d.refuses (at_ + 1) := by unfold bothE; rw [if_neg (by rw [h1]; simp)]
      have R := Lib.hid (rdV_err (d := d) (a := at_) (by rw [hB]; exact h2))
      rw [hB] at R
      have hbz : (d.refuses (at_ + 1) != 0) = true := by simpa using h2
      clear h1 h2 hB T1 T2 S64 h n1 n2
      generalize d.refuses (at_ + 1) = E at *
      unfold ptr at *
      go_enter Tryz.func36, Tryz.ntmps36
      go_wp2_with fail
      refine K1.out.mono ?_
      rintro e w1 ⟨rfl, rfl⟩
      go_wp2_with fail
      refine K2.out.mono ?_
      rintro e w1 ⟨rfl, rfl⟩
      go_wp2
      refine bodyPost_ret (v := _) (by simp [results, Tryz.results36, go_sem]) rfl ⟨R.out.symm, Below.refl _ _⟩
  · have hB : bothE d at_ = d.refuses at_ := by unfold bothE; rw [if_pos h1]
    have R := Lib.hid (rdV_err (d := d) (a := at_) (by rw [hB]; exact h1))
    rw [hB] at R
    have hbz : (d.refuses at_ != 0) = true := by simpa using h1
    clear h1 hB T1 T2 S64 h K2
    generalize d.refuses at_ = E at *
    unfold ptr at *
    go_enter Tryz.func36, Tryz.ntmps36
    go_wp2_with fail
    refine K1.out.mono ?_
    rintro e w1 ⟨rfl, rfl⟩
    go_wp2
    refine bodyPost_ret (v := _) (by simp [results, Tryz.results36, go_sem]) rfl ⟨R.out.symm, Below.refl _ _⟩
end Go.Proofs.YtdoombcihobejaaGreat
