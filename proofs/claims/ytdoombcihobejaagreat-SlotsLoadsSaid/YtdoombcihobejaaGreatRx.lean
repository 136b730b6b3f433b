/-
  The contract of the document's own Write.
  Conditions: named in the theorem.
-/
import Derived.Test.YtdoombcihobejaaGreatRq
namespace Go.Proofs.YtdoombcihobejaaGreat
open Go.RowKit Dk
set_option linter.unusedVariables false
namespace Dk
theorem put_now_same (d : St) (i : Nat) (s : Sec) : (d.put i s).now i = s := by
  show (if i = i then some s else d.wt i).getD _ = _
  rw [if_pos rfl]; rfl
theorem put_now_other (d : St) (i j : Nat) (s : Sec) (h : j ≠ i) : (d.put i s).now j = d.now j := by
  show (if j = i then some s else d.wt j).getD _ = _
  rw [if_neg h]; rfl
theorem settle_now (d : St) (i : Nat) : d.settle.now i = d.now i := rfl
end Dk
theorem refuses_deadx {d : St} {a : Int} (h : d.dead = true) : d.refuses a = 7 := by unfold St.refuses; rw [if_pos h]
theorem pad_cat (l : List UInt8) : txt l ++ txt (Dk.zeros (64 - l.length)) = txt (pad l) := by rw [txt_append]; rfl
set_option maxHeartbeats 2000000 in
set_option maxRecDepth 100000 in
theorem rwrite_no (B gr : Nat) (L : List Nat) (d : St) (at_ : Int) (l : List UInt8) (w : World) (h : Rf w B gr L d) (hr : d.refuses at_ ≠ 0) :
    Calls Tryz.prog 38 #[ptr gr, .int .i64 at_, .string (txt l)] w fun e w' => e = .returned (.int .i64 (d.refuses at_)) ∧ w = w' := by
  obtain ⟨g1, c1, g2, c2, g3, c3, rfl, hA⟩ := RAt.of_rf h
  have q4 := hA.c 4
  change w.cell? ⟨gr, 4, none⟩ = some (.bool d.dead) at q4
  have q0 := hA.c 0
  change w.cell? ⟨gr, 0, none⟩ = some (.slice (some ⟨g1, 0, none⟩) d.n c1) at q0
  unfold ptr
  by_cases hd : d.dead = true
  · rw [refuses_deadx hd]
    rw [hd] at q4
    clear h hA hr
    go_enter Tryz.func38, Tryz.ntmps38
    go_wp2
    go_ret
    exact ⟨rfl, rfl⟩
  · have hd' : d.dead = false := by simpa using hd
    rw [hd'] at q4
    by_cases hb : at_ < 0 ∨ (d.n : Int) ≤ at_
    · rw [refuses_no_eq hd' hb]
      clear h hA hr
      rcases hb with hb | hb
      · have hb1 : decide (at_ < 0) = true := decide_eq_true hb
        go_enter Tryz.func38, Tryz.ntmps38
        go_wp2
        go_ret
        exact ⟨rfl, rfl⟩
      · have hb1 : decide (at_ < 0) = false := decide_eq_false (by omega)
        have hb2 : decide ((d.n : Int) ≤ at_) = true := decide_eq_true hb
        go_enter Tryz.func38, Tryz.ntmps38
        go_wp2
        go_ret
        exact ⟨rfl, rfl⟩
    · exact absurd (refuses_yes_eq hd' (by omega) (by omega)) hr
set_option maxHeartbeats 2000000 in
set_option maxRecDepth 100000 in
theorem rwrite_long (B gr : Nat) (L : List Nat) (d : St) (i : Nat) (l : List UInt8) (w : World) (h : Rf w B gr L d) (hd : d.dead = false) (hi : i < d.n) (hl : 64 < l.length) :
    Calls Tryz.prog 38 #[ptr gr, .int .i64 i, .string (txt l)] w fun e w' => e = .returned (.int .i64 3) ∧ w = w' := by
  obtain ⟨g1, c1, g2, c2, g3, c3, rfl, hA⟩ := RAt.of_rf h
  have q4 := hA.c 4
  change w.cell? ⟨gr, 4, none⟩ = some (.bool d.dead) at q4
  have q0 := hA.c 0
  change w.cell? ⟨gr, 0, none⟩ = some (.slice (some ⟨g1, 0, none⟩) d.n c1) at q0
  rw [hd] at q4
  have hsz : (txt l).size = l.length := txt_size l
  have h1 : decide (d.n ≤ i) = false := decide_eq_false (by omega)
  have h2 : decide (64 < l.length) = true := decide_eq_true hl
  have h3 : (64 : Int) < l.length := by omega
  unfold ptr
  clear h hA
  go_enter Tryz.func38, Tryz.ntmps38
  go_wp2
  go_ret
  exact ⟨rfl, rfl⟩
set_option maxHeartbeats 2000000 in
set_option maxRecDepth 100000 in
theorem rwrite_ok (B gr : Nat) (L : List Nat) (d : St) (i : Nat) (l : List UInt8) (w : World) (h : Rf w B gr L d) (hd : d.dead = false) (hi : i < d.n) (hl : l.length ≤ 64) :
    Calls Tryz.prog 38 #[ptr gr, .int .i64 i, .string (txt l)] w fun e w' => e = .returned (.int .i64 (d.try_ (fun x => x.put i (pad l))).2) ∧ RMoves B gr L (d.try_ (fun x => x.put i (pad l))).1 w w' := by
  have q4 : w.cell? ⟨gr, 4, none⟩ = some (.bool d.dead) := by
    obtain ⟨g1, c1, g2, c2, g3, c3, rfl, hA⟩ := RAt.of_rf h
    exact hA.c 4
  have q0 : ∃ g c, w.cell? ⟨gr, 0, none⟩ = some (.slice (some ⟨g, 0, none⟩) d.n c) := by
    obtain ⟨g1, c1, g2, c2, g3, c3, rfl, hA⟩ := RAt.of_rf h
    exact ⟨_, _, hA.c 0⟩
  obtain ⟨g, c, q0⟩ := q0
  rw [hd] at q4
  have hsz : (txt l).size = l.length := txt_size l
  have h1 : decide (d.n ≤ i) = false := decide_eq_false (by omega)
  have h2 : decide (64 < l.length) = false := decide_eq_false (by omega)
  have h3 : (l.length : Int) ≤ 64 := by omega
  have HC := Lib.hid (rcrashes_any B gr L d w h hd)
  have HI := Lib.hid hi
  unfold St.try_
  by_cases h0 : d.left = 0
  · rw [if_pos h0]
    rw [if_pos h0, decide_eq_true h0] at HC
    clear h h0 hi
    unfold ptr at *
    go_enter Tryz.func38, Tryz.ntmps38
    go_wp2_with fail
    refine HC.out.mono ?_
    rintro e w1 ⟨rfl, hM⟩
    go_wp2
    go_ret
    exact ⟨rfl, hM⟩
  · rw [if_neg h0, hd, if_neg (by decide)]
    rw [if_neg h0, decide_eq_false h0] at HC
    obtain ⟨d1, hd1⟩ : ∃ d1, d1 = d.step := ⟨_, rfl⟩
    have hn1 : Hid (d1.n = d.n) := by show _ = _; rw [hd1]; rfl
    rw [← hd1] at HC ⊢
    clear h h0 hi hd1
    unfold ptr at *
    go_enter Tryz.func38, Tryz.ntmps38
    go_wp2_with fail
    refine HC.out.mono ?_
    rintro e w1 ⟨rfl, hR1, hK1⟩
    clear HC
    have ho := Lib.hid hR1.1
    obtain ⟨g1, c1, g2, c2, g3, c3, rfl, hA⟩ := RAt.of_rf hR1
    obtain ⟨i0, hi0, hz0, hz1, hz2⟩ := info_parts Tryz.info5
    obtain ⟨m, hm⟩ : ∃ m, m = 64 - l.length := ⟨_, rfl⟩
    have hmi : (64 : Int) - l.length = (m : Int) := by omega
    have hm64 : m ≤ 64 := by omega
    have hm0 : (0 : Int) ≤ m := by omega
    have hwr : IntKind.i64.wrap (m : Int) = (m : Int) := IntWalk.i64_in _ (by omega)
    obtain ⟨M, hM⟩ : ∃ M, M = (Lib.byteCells (Dk.zeros m)).toArray := ⟨_, rfl⟩
    have hmk : (Instr.makeSlice 67 (.int .i64 m) (.int .i64 m)).run Tryz.prog w1.drew = .ok (.slice (some ⟨w1.heap.size, 0, none⟩) m m) (w1.alloc (.cells M 5)).drew := by
      have h1 := run_make (P := Tryz.prog) w1.drew 67 5 i0 (.int .u8 0) Tryz.underlying67 hi0 hz0 .i64 .i64 m m (by omega) (by omega) (by rw [hz2]; omega) (by omega)
      have e : madeCells (Value.int .u8 0).cells ((m : Int).toNat * i0.size) = M := by
        rw [hM, hz1]
        apply Array.ext'
        have h2 := toList_madeCells_one (Value.int .u8 0) m
        have h3 : ((m : Int).toNat * 1) = m := by omega
        rw [h3]
        show (madeCells #[Value.int IntKind.u8 0] m).toList = _
        rw [h2]
        simp [Lib.byteCells, Dk.zeros]
      rw [e] at h1
      exact h1
    have hcv : (convert 67 9 (.slice (some ⟨w1.heap.size, 0, none⟩) m m)).run Tryz.prog (w1.alloc (.cells M 5)).drew = .ok (.string (txt (Dk.zeros m))) (w1.alloc (.cells M 5)).drew := by
      refine conv_sec (by simp [Dk.zeros]) (fun j u hu => ?_)
      have hh : (w1.alloc (.cells M 5)).drew.heap[w1.heap.size]? = some (.cells M 5 (0, 0)) := heap_alloc_new w1 _
      rw [cell_of_row _ _ _ _ 5 (0, 0) hh, Nat.zero_add, hM]
      simpa using hu
    have hcat : txt l ++ txt (Dk.zeros m) = txt (pad l) := by rw [hm]; exact pad_cat l
    have hzs : (txt (Dk.zeros m)).size = m := by rw [txt_size]; simp [Dk.zeros]
    obtain ⟨n, hn⟩ : ∃ n, n = d1.n := ⟨_, rfl⟩
    have hin : i < n := by rw [hn, hn1.out]; exact HI.out
    have hini : (i : Int) < n := by omega
    rw [← hn] at hA
    have HNN := Lib.hid hn
    clear hn
    have z0 := hA.drew.c 0
    change w1.drew.cell? ⟨gr, 0, none⟩ = some (.slice (some ⟨g1, 0, none⟩) n c1) at z0
    have hb : Below w1.heap.size w1 (w1.alloc (.cells M 5)).drew := ((Below.refl _ w1).alloc (Nat.le_refl _) _).drew
    have hA2 := Lib.hid (hA.below' hb)
    have z0' := hA2.out.c 0
    change (w1.alloc (.cells M 5)).drew.cell? ⟨gr, 0, none⟩ = some (.slice (some ⟨g1, 0, none⟩) n c1) at z0'
    have fz := own_fz hA2.out.r1 i
    have cz := row_cell hA2.out.r1 i hin
    obtain ⟨W, hW⟩ : ∃ W, W = (w1.alloc (.cells M 5)).drew := ⟨_, rfl⟩
    obtain ⟨f, hf⟩ : ∃ f : Nat → Value, f = nowV (d1.put i (pad l)) := ⟨_, rfl⟩
    have hfi : f i = .string (txt (pad l)) := by rw [hf]; unfold nowV; rw [put_now_same]
    have hfo : ∀ j, j < n → j ≠ i → f j = nowV d1 j := fun j _ hj => by rw [hf]; unfold nowV; rw [put_now_other _ _ _ _ hj]
    have hA3 := hA2.out.set1 i f hfo
    obtain ⟨f3, hf3⟩ : ∃ f : Nat → Value, f = wtV (d1.put i (pad l)) := ⟨_, rfl⟩
    have hfi3 : f3 i = .bool true := by rw [hf3]; show Value.bool (if i = i then some (pad l) else d1.wt i).isSome = _; rw [if_pos rfl]; rfl
    have hfo3 : ∀ j, j < n → j ≠ i → f3 j = wtV d1 j := fun j _ hj => by rw [hf3]; show Value.bool (if j = i then some (pad l) else d1.wt j).isSome = _; rw [if_neg hj]; rfl
    have hA4 := hA3.set3 i f3 hfo3
    rw [hfi] at hA3 hA4
    rw [hfi3] at hA4
    have y2 := hA3.c 2
    change ((w1.alloc (.cells M 5)).drew.setCell ⟨g1, i, none⟩ (.string (txt (pad l)))).cell? ⟨gr, 2, none⟩ = some (.slice (some ⟨g3, 0, none⟩) n c3) at y2
    have yf := own_fz hA3.r3 i
    have yc := row_cell hA3.r3 i hin
    have v2 : ((w1.alloc (.cells M 5)).setCell ⟨g1, i, none⟩ (.string (txt (pad l)))).cell? ⟨gr, 2, none⟩ = some (.slice (some ⟨g3, 0, none⟩) n c3) := y2
    have vf : ((w1.alloc (.cells M 5)).setCell ⟨g1, i, none⟩ (.string (txt (pad l)))).frozen? ⟨g3, i, none⟩ = false := yf
    have vc : ((w1.alloc (.cells M 5)).setCell ⟨g1, i, none⟩ (.string (txt (pad l)))).cell? ⟨g3, i, none⟩ = some (wtV d1 i) := yc
    have u2 : ((w1.alloc (.cells M 5)).setCell ⟨g1, i, none⟩ (.string (txt (pad l)))).drew.cell? ⟨gr, 2, none⟩ = some (.slice (some ⟨g3, 0, none⟩) n c3) := y2
    have uf : ((w1.alloc (.cells M 5)).setCell ⟨g1, i, none⟩ (.string (txt (pad l)))).drew.frozen? ⟨g3, i, none⟩ = false := yf
    have uc : ((w1.alloc (.cells M 5)).setCell ⟨g1, i, none⟩ (.string (txt (pad l)))).drew.cell? ⟨g3, i, none⟩ = some (wtV d1 i) := yc
    have hkf : Keep [gr, g1, g2, g3] w (((w1.alloc (.cells M 5)).drew.setCell ⟨g1, i, none⟩ (.string (txt (pad l)))).setCell ⟨g3, i, none⟩ (.bool true)) :=
      ((hK1.trans (Keep.of_below hb)).trans (Keep.setCell (p := ⟨g1, i, none⟩) (by simp) _)).trans (Keep.setCell (p := ⟨g3, i, none⟩) (by simp) _)
    have HKF := Lib.hid hkf
    rw [hf, hf3] at hA4
    have HA4 := Lib.hid hA4
    clear hA hM hb hm hR1 hW hf hfi hfo hA3 hf3 hfi3 hfo3 hkf hA4
    go_upto_region 9 with fail
    go_region
    go_wp2
    go_ret
    have hfin := HA4.out
    rw [HNN.out] at hfin
    exact ⟨rfl, RAt.to_rf (d := d1.put i (pad l)) hfin (ho.out.put (by rw [hn1.out]; exact HI.out) (pad_length l hl)) (fun _ _ => rfl) (fun _ _ => rfl) (fun _ _ => rfl) rfl rfl, HKF.out⟩
theorem rwrite_any (B gr : Nat) (L : List Nat) (d : St) (at_ : Int) (l : List UInt8) (w : World) (h : Rf w B gr L d) :
    Calls Tryz.prog 38 #[ptr gr, .int .i64 at_, .string (txt l)] w fun e w' => e = .returned (.int .i64 (d.write at_ l).2) ∧ RMoves B gr L (d.write at_ l).1 w w' := by
  unfold St.write
  by_cases hr : d.refuses at_ ≠ 0
  · rw [if_pos hr]
    exact (rwrite_no B gr L d at_ l w h hr).mono (fun e w' ⟨h1, h2⟩ => ⟨h1, by subst h2; exact ⟨h, Keep.refl _ _⟩⟩)
  · rw [if_neg hr]
    have hd : d.dead = false := by
      cases e : d.dead
      · rfl
      · exact absurd (by rw [refuses_deadx e]; decide) hr
    have hb : ¬ (at_ < 0 ∨ (d.n : Int) ≤ at_) := fun hb => hr (by rw [refuses_no_eq hd hb]; decide)
    obtain ⟨i, rfl⟩ := Int.eq_ofNat_of_zero_le (show 0 ≤ at_ by omega)
    have hi : i < d.n := by omega
    by_cases hl : 64 < l.length
    · rw [if_pos hl]
      exact (rwrite_long B gr L d i l w h hd hi hl).mono (fun e w' ⟨h1, h2⟩ => ⟨h1, by subst h2; exact ⟨h, Keep.refl _ _⟩⟩)
    · rw [if_neg hl]
      exact rwrite_ok B gr L d i l w h hd hi (by omega)
end Go.Proofs.YtdoombcihobejaaGreat
