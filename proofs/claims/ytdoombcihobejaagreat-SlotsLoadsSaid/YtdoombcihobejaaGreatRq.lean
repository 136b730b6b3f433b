/-
  The contracts of the document's own Flush, Image, Waiting.
  Conditions: named in each theorem.
-/
import Derived.Test.YtdoombcihobejaaGreatRp
namespace Go.Proofs.YtdoombcihobejaaGreat
open Go.RowKit Dk
set_option linter.unusedVariables false
theorem flush_dead_eq {d : St} (hd : d.dead = true) : d.flush = (d, 7) := by
  unfold St.flush St.try_
  by_cases h : d.left = 0
  · rw [if_pos h]
    have e : d.die = d := by
      unfold St.die
      rw [← hd]
    rw [e]
  · rw [if_neg h, if_pos hd]
def f2k (d : St) (k j : Nat) : Value := if j < k then nowV d j else oldV d j
def f3k (d : St) (k j : Nat) : Value := if j < k then .bool false else wtV d j
theorem f2k_other (d : St) (n k : Nat) : ∀ j, j < n → j ≠ k → f2k d (k + 1) j = f2k d k j := by
  intro j _ hj
  unfold f2k
  by_cases h : j < k
  · rw [if_pos h, if_pos (by omega)]
  · rw [if_neg h, if_neg (by omega)]
theorem f3k_other (d : St) (n k : Nat) : ∀ j, j < n → j ≠ k → f3k d (k + 1) j = f3k d k j := by
  intro j _ hj
  unfold f3k
  by_cases h : j < k
  · rw [if_pos h, if_pos (by omega)]
  · rw [if_neg h, if_neg (by omega)]
set_option maxHeartbeats 2000000 in
set_option maxRecDepth 100000 in
theorem rflush_any (B gr : Nat) (L : List Nat) (d : St) (w : World) (h : Rf w B gr L d) :
    Calls Tryz.prog 39 #[ptr gr] w fun e w' => e = .returned (.int .i64 d.flush.2) ∧ RMoves B gr L d.flush.1 w w' := by
  have q4 : w.cell? ⟨gr, 4, none⟩ = some (.bool d.dead) := by
    obtain ⟨g1, c1, g2, c2, g3, c3, rfl, hA⟩ := RAt.of_rf h
    exact hA.c 4
  by_cases hd : d.dead = true
  · rw [flush_dead_eq hd]
    rw [hd] at q4
    have H := Lib.hid h
    clear h hd
    unfold ptr
    go_enter Tryz.func39, Tryz.ntmps39
    go_wp2
    go_ret
    exact ⟨rfl, H.out, Keep.refl _ _⟩
  · have hd' : d.dead = false := by simpa using hd
    rw [hd'] at q4
    have HC := Lib.hid (rcrashes_any B gr L d w h hd')
    by_cases h0 : d.left = 0
    · have e : d.flush = (d.die, 7) := by unfold St.flush St.try_; rw [if_pos h0]
      rw [e]
      rw [if_pos h0, decide_eq_true h0] at HC
      clear h hd hd' h0 e
      unfold ptr at *
      go_enter Tryz.func39, Tryz.ntmps39
      go_wp2_with fail
      refine HC.out.mono ?_
      rintro e w1 ⟨rfl, hM⟩
      go_wp2
      go_ret
      exact ⟨rfl, hM⟩
    · have e : d.flush = (d.step.settle, 0) := by unfold St.flush St.try_; rw [if_neg h0, hd', if_neg (by decide)]
      rw [e]
      rw [if_neg h0, decide_eq_false h0] at HC
      obtain ⟨d1, hd1⟩ : ∃ d1, d1 = d.step := ⟨_, rfl⟩
      rw [← hd1] at HC ⊢
      clear h hd h0 e hd1
      unfold ptr at *
      go_enter Tryz.func39, Tryz.ntmps39
      go_wp2_with fail
      refine HC.out.mono ?_
      rintro e w1 ⟨rfl, hR1, hK1⟩
      clear HC
      have ho := Lib.hid hR1.1
      obtain ⟨g1, c1, g2, c2, g3, c3, rfl, hA⟩ := RAt.of_rf hR1
      obtain ⟨n, hn⟩ : ∃ n, n = d1.n := ⟨_, rfl⟩
      obtain ⟨arm, harm⟩ : ∃ arm, arm = max d1.left (-1) := ⟨_, rfl⟩
      obtain ⟨dead, hdead⟩ : ∃ dead, dead = d1.dead := ⟨_, rfl⟩
      rw [← hn, ← harm, ← hdead] at hA
      have HH := Lib.hid (And.intro hn (And.intro harm hdead))
      have hn4 : n ≤ 4096 := by rw [hn]; exact ho.out.n2
      clear hn harm hdead hR1 q4 hd'
      have hA0 : RAt w1 B gr g1 c1 g2 c2 g3 c3 n (nowV d1) (f2k d1 0) (f3k d1 0) arm dead := by
        refine ⟨hA.blk, hA.r1, ?_, ?_, hA.ap, hA.hB⟩
        · rw [← rowV_congr (oldV d1) (f2k d1 0) _ (fun j _ => by simp [f2k])]; exact hA.r2
        · rw [← rowV_congr (wtV d1) (f3k d1 0) _ (fun j _ => by simp [f3k])]; exact hA.r3
      clear hA
      go_wp2_with fail
      go_loopw [3] (fun i wr => ∃ k : Nat, k ≤ n ∧ i = .int .i64 k ∧ RAt wr B gr g1 c1 g2 c2 g3 c3 n (nowV d1) (f2k d1 k) (f3k d1 k) arm dead ∧ Keep [gr, g1, g2, g3] w wr) (fun i _ => n - (RowKit.intOf i).toNat)
      case atStart => exact ⟨0, by omega, rfl, hA0, hK1⟩
      case round =>
        obtain ⟨k, hk, rfl, hAr, hkr⟩ := hrel
        clear hA0 hK1
        have q0 := hAr.c 0
        change wr.cell? ⟨gr, 0, none⟩ = some (.slice (some ⟨g1, 0, none⟩) n c1) at q0
        by_cases hlt : k < n
        · have hk0 : (0 : Int) ≤ k := by omega
          have hk1 : (k : Int) < n := by omega
          have z0 := hAr.drew.c 0
          change wr.drew.cell? ⟨gr, 0, none⟩ = some (.slice (some ⟨g1, 0, none⟩) n c1) at z0
          have z1 := hAr.drew.c 1
          change wr.drew.cell? ⟨gr, 1, none⟩ = some (.slice (some ⟨g2, 0, none⟩) n c2) at z1
          have cz1 : wr.drew.cell? ⟨g1, k, none⟩ = some (nowV d1 k) := row_cell hAr.drew.r1 k hlt
          have cz2 : wr.drew.cell? ⟨g2, k, none⟩ = some (f2k d1 k k) := row_cell hAr.drew.r2 k hlt
          have fz2 : wr.drew.frozen? ⟨g2, k, none⟩ = false := own_fz hAr.drew.r2 k
          have hA1 := Lib.hid (hAr.drew.set2 k (f2k d1 (k + 1)) (f2k_other d1 n k))
          have ef : f2k d1 (k + 1) k = .string (txt (d1.now k)) := by unfold f2k; rw [if_pos (by omega)]; rfl
          rw [ef] at hA1
          unfold nowV at cz1
          have y2 : (wr.setCell ⟨g2, k, none⟩ (.string (txt (d1.now k)))).cell? ⟨gr, 2, none⟩ = some (.slice (some ⟨g3, 0, none⟩) n c3) := hA1.out.c 2
          have y2' : (wr.drew.setCell ⟨g2, k, none⟩ (.string (txt (d1.now k)))).cell? ⟨gr, 2, none⟩ = some (.slice (some ⟨g3, 0, none⟩) n c3) := hA1.out.c 2
          have yf : (wr.setCell ⟨g2, k, none⟩ (.string (txt (d1.now k)))).frozen? ⟨g3, k, none⟩ = false := own_fz hA1.out.r3 k
          have yf' : (wr.drew.setCell ⟨g2, k, none⟩ (.string (txt (d1.now k)))).frozen? ⟨g3, k, none⟩ = false := own_fz hA1.out.r3 k
          have yc : (wr.setCell ⟨g2, k, none⟩ (.string (txt (d1.now k)))).cell? ⟨g3, k, none⟩ = some (f3k d1 k k) := row_cell hA1.out.r3 k hlt
          have yc' : (wr.drew.setCell ⟨g2, k, none⟩ (.string (txt (d1.now k)))).cell? ⟨g3, k, none⟩ = some (f3k d1 k k) := row_cell hA1.out.r3 k hlt
          have hA2 := Lib.hid (hA1.out.set3 k (f3k d1 (k + 1)) (f3k_other d1 n k))
          have ef3 : f3k d1 (k + 1) k = .bool false := by unfold f3k; rw [if_pos (by omega)]
          rw [ef3] at hA2
          have hk2 : Keep [gr, g1, g2, g3] w ((wr.drew.setCell ⟨g2, k, none⟩ (.string (txt (d1.now k)))).setCell ⟨g3, k, none⟩ (.bool false)) :=
            hkr.trans ((Keep.setCell (w := wr.drew) (p := ⟨g2, k, none⟩) (by simp) _ |> fun h => ⟨h.os, h.tape, h.output, h.size, h.block⟩ : Keep [gr, g1, g2, g3] wr _).trans (Keep.setCell (p := ⟨g3, k, none⟩) (by simp) _))
          have HK2 := Lib.hid hk2
          clear hAr hk2
          go_wp2_with fail
          go_still_tail 13, (by kernel_rfl)
          change wpList _ _ _ _ _ wr.drew
          go_wp2
          go_roundw
          case rel => exact ⟨k + 1, by omega, by go_num, hA2.out, HK2.out⟩
          case measure => simp [RowKit.intOf]; omega
        · have hk' : k = n := by omega
          subst hk'
          go_wp2
          go_ret
          obtain ⟨e1, e2, e3⟩ := HH.out
          rw [e1] at hAr
          exact ⟨rfl, RAt.to_rf (d := d1.settle) hAr ho.out.settle (fun _ _ => rfl) (fun j hj => by unfold f2k; rw [if_pos (show j < d1.n from hj)]; rfl) (fun j hj => by unfold f3k; rw [if_pos (show j < d1.n from hj)]; rfl) e2 e3, hkr⟩
set_option maxHeartbeats 2000000 in
set_option maxRecDepth 100000 in
theorem rimage_any (B gr : Nat) (L : List Nat) (d : St) (w : World) (h : Rf w B gr L d) :
    Calls Tryz.prog 23 #[ptr gr] w fun e w' => e = .returned (.string (txt d.image)) ∧ w = w' := by
  have ho := h.1
  obtain ⟨g1, c1, g2, c2, g3, c3, rfl, hA⟩ := RAt.of_rf h
  have q0 := hA.c 0
  change w.cell? ⟨gr, 0, none⟩ = some (.slice (some ⟨g1, 0, none⟩) d.n c1) at q0
  have hcell : Hid (∀ k, k < d.n → w.cell? ⟨g1, k, none⟩ = some (.string (txt (d.now k)))) := fun k hk => row_cell hA.r1 k hk
  have hn2 := ho.n2
  have hnow := Lib.hid ho.now
  have himg : Hid (d.image = catS d.now d.n) := rfl
  obtain ⟨n, hn⟩ : ∃ n, n = d.n := ⟨_, rfl⟩
  rw [himg.out]
  rw [← hn] at q0 hcell hn2 ⊢
  clear h hA ho hn himg
  unfold ptr
  go_enter Tryz.func23, Tryz.ntmps23
  go_wp2_with fail
  go_loopw [3, 4] (fun sx ix wr => wr = w ∧ ∃ k : Nat, k ≤ n ∧ sx = .string (txt (catS d.now k)) ∧ ix = .int .i64 k) (fun _ ix _ => n - (RowKit.intOf ix).toNat)
  case atStart => exact ⟨rfl, 0, by omega, rfl, rfl⟩
  case round =>
    obtain ⟨rfl, k, hk, rfl, rfl⟩ := hrel
    by_cases hlt : k < n
    · have hk0 : (0 : Int) ≤ k := by omega
      have hk1 : (k : Int) < n := by omega
      have cz := hcell.out k hlt
      obtain ⟨km, hkm⟩ : ∃ km, km = k * 64 := ⟨_, rfl⟩
      have hs1 : (txt (catS d.now k)).size = km := by rw [txt_size, catS_length _ hnow.out, hkm]
      have hs2 : (txt (d.now k)).size = 64 := by rw [txt_size, hnow.out]
      have hkm1 : (km : Int) ≤ 262144 := by omega
      have hkm0 : (0 : Int) ≤ km := by omega
      have hcat : txt (catS d.now k) ++ txt (d.now k) = txt (catS d.now (k + 1)) := by rw [txt_append]; rfl
      have HC := Lib.hid hcat
      clear hcat hkm
      go_wp2_with fail
      rw [HC.out]
      go_roundw
      case rel => exact ⟨trivial, k + 1, by omega, rfl, by go_num⟩
      case measure => simp [RowKit.intOf]; omega
    · have hk' : k = n := by omega
      subst hk'
      go_wp2
      go_ret
      exact ⟨rfl, rfl⟩
end Go.Proofs.YtdoombcihobejaaGreat
