/-
  The contracts of device.whole and device.New.
  Conditions: named in each theorem.
-/
import Derived.Test.YtdoombcihobejaaGreatSmall
namespace Go.Proofs.YtdoombcihobejaaGreat
open Go.RowKit Dk
set_option linter.unusedVariables false

theorem mapIs_empty : MapIs (.map [] : DataW Unit) (fun _ => none) :=
  ⟨fun i => by simp [Maps.has], fun _ _ h => by cases h⟩
theorem mapAt_made (w : World) : MapAt (w.alloc (.map #[] 0)) w.heap.size (fun _ => none) :=
  ⟨.map [], (World.ownsMap_made w _ _ _).mono (Nat.zero_le _), mapIs_empty⟩

theorem whole_any (n : Nat) (F : Nat → Sec) (fb cap : Nat) (w : World) (h1 : 1 ≤ n) (h2 : n ≤ 4096) (hF : ∀ i, (F i).length = 64) (hr : RowAt w fb n F) (hc : n ≤ cap) :
    Calls Tryz.prog 28 #[.slice (some ⟨fb, 0, none⟩) n cap] w fun e w' => ∃ g L, e = .returned (ptr g) ∧ Dv w' g L (St.fresh n F) ∧ (∀ k ∈ L, k = fb ∨ w.heap.size ≤ k) ∧ Below w.heap.size w w' := by
  have hmm := @run_makeMap Tryz.prog
  have hok := St.fresh_ok h1 h2 hF
  have hm := mapAt_made w
  have HR := Lib.hid hr
  have HF := Lib.hid hF
  clear hr hF
  go_enter Tryz.func28, Tryz.ntmps28
  go_wp2
  go_ret
  refine ⟨w.heap.size + 1, [w.heap.size + 1, fb, w.heap.size], rfl, ⟨hok, fb, w.heap.size, cap, rfl, ?_⟩, ?_, ?_⟩
  · have hlt := HR.out.lt
    refine ⟨?_, (HR.out.of_heap (Below.heap_alloc w _ fb hlt)).of_heap (Below.heap_alloc _ _ fb (by simp; omega)), hm.of_heap (Below.heap_alloc _ _ _ (by simp)), hc⟩
    exact heap_alloc2_new w _ _
  · intro k hk
    simp at hk
    omega
  · exact ((Below.refl _ w).alloc (Nat.le_refl _) _).alloc (by simp) _

theorem Tryz.info98 : (Tryz.prog.info? 98).map (fun i => (i.zero, i.size, i.bytes)) = some (some (sv zsec), 64, 64) := by kernel_rfl
theorem madeCells_get (z : Array Value) (n k : Nat) (h : k < n) : (madeCells z n)[k]? = some (z[k % z.size]!) := by
  unfold madeCells
  simp [h]
theorem rowAt_of_own {w : World} {B n : Nat} {v : Value} {xs : List Value} {F : Nat → Sec} (h : w.ownsRow B 98 64 v n xs) (hn : 1 ≤ n) (hx : ∀ i, i < n → ∀ j, j < 64 → xs[i * 64 + j]? = (Lib.byteCells (F i))[j]?) :
    ∃ fb cap, v = .slice (some ⟨fb, 0, none⟩) n cap ∧ B ≤ fb ∧ n ≤ cap ∧ RowAt w fb n F := by
  obtain ⟨hl, h⟩ := h
  rcases h with ⟨hv, h0⟩ | ⟨g, c, cur, hv, hb, hh, h1, h2, h3, h4⟩
  · omega
  · refine ⟨g, c, hv, hb, h1, cur, hh, by rw [h3]; exact Nat.mul_le_mul_right _ h1, fun i hi j hj => ?_⟩
    have hk : i * 64 + j < n * 64 := by
      have : (i + 1) * 64 ≤ n * 64 := Nat.mul_le_mul_right _ hi
      omega
    rw [← hx i hi j hj, ← h4, List.getElem?_take, if_pos hk, Array.getElem?_toList]
theorem rowAt_made {w : World} {B n : Nat} {v : Value} (h : w.ownsRow B 98 64 v n (madeCells (sv zsec).cells (n * 64)).toList) (hn : 1 ≤ n) :
    ∃ fb cap, v = .slice (some ⟨fb, 0, none⟩) n cap ∧ B ≤ fb ∧ n ≤ cap ∧ RowAt w fb n (fun _ => zsec) := by
  refine rowAt_of_own h hn (fun i hi j hj => ?_)
  have hk : i * 64 + j < n * 64 := by
    have : (i + 1) * 64 ≤ n * 64 := Nat.mul_le_mul_right _ hi
    omega
  have hz : (sv zsec).cells.size = 64 := by
    show ((Lib.byteCells zsec).toArray).size = 64
    simp [zsec_length, Lib.byteCells_length]
  have hlen : (Lib.byteCells zsec).length = 64 := by rw [Lib.byteCells_length, zsec_length]
  have hm : (i * 64 + j) % 64 = j := by omega
  rw [Array.getElem?_toList, madeCells_get _ _ _ hk, hz, hm]
  show some ((Lib.byteCells zsec).toArray[j]!) = _
  rw [List.getElem?_eq_getElem (by omega)]
  simp [hlen, hj]

theorem new_no (n : Int) (w : World) (h : n < 1 ∨ 4096 < n) :
    Calls Tryz.prog 5 #[.int .i64 n] w fun e w' => e = .returned (.tuple #[.pointer none, .int .i64 1]) ∧ w = w' := by
  by_cases h0 : n < 1
  · clear h
    have h0' : decide (n < 1) = true := decide_eq_true h0
    go_enter Tryz.func5, Tryz.ntmps5
    go_wp2
    go_ret2
    exact ⟨rfl, rfl⟩
  · have h1 : 4096 < n := by omega
    clear h
    have h0' : decide (n < 1) = false := decide_eq_false h0
    go_enter Tryz.func5, Tryz.ntmps5
    go_wp2
    go_ret2
    exact ⟨rfl, rfl⟩
theorem new_yes (n : Nat) (w : World) (h1 : 1 ≤ n) (h2 : n ≤ 4096) :
    Calls Tryz.prog 5 #[.int .i64 n] w fun e w' => ∃ g L, e = .returned (.tuple #[ptr g, .int .i64 0]) ∧ Dv w' g L (St.fresh n (fun _ => zsec)) ∧ (∀ k ∈ L, w.heap.size ≤ k) ∧ Below w.heap.size w w' := by
  obtain ⟨i0, hi, hz0, hz1, hz2⟩ := info_parts Tryz.info98
  have h0' : decide ((n : Int) < 1) = false := decide_eq_false (by omega)
  have h1' : decide (4096 < (n : Int)) = false := decide_eq_false (by omega)
  go_enter Tryz.func5, Tryz.ntmps5
  go_wp2_with (at_make; refine wpList_make_full _ rfl _ _ 62 rfl w.heap.size 98 i0 (sv zsec) 64 Tryz.underlying62 hi hz0 hz1 .i64 .i64 _ _ n rfl rfl rfl rfl (by rw [hz2]; omega) (by unfold maxLen; omega) (Nat.le_refl _) ?_; intro w0 hown0 hgrow0)
  obtain ⟨fb, cap, hv, hfb, hcap, hr⟩ := rowAt_made hown0 h1
  injection hv with e1 e2 e3
  injection e1 with e1
  injection e1 with e1
  subst e1
  subst e3
  clear e2
  have hb0 : Below w.heap.size w w0 := (Below.refl _ _).grown hgrow0 (Nat.le_refl _) (by simp)
  clear hown0 hgrow0
  go_wp2_with fail
  refine (whole_any n _ w.heap.size n w0 h1 h2 (fun _ => zsec_length) hr hcap).mono ?_
  rintro e w1 ⟨g, L, rfl, hD, hL, hb1⟩
  go_wp2
  go_ret2
  exact ⟨g, L, rfl, hD, (fun k hk => (hL k hk).elim (fun e => by omega) (fun e => Nat.le_trans hb0.size e)), hb0.trans (hb1.mono hb0.size)⟩
end Go.Proofs.YtdoombcihobejaaGreat
