/-
  Repeat([1], n): n numbers 1 in a row of the call's own.
  Conditions: n is at most 2^20.
-/
import Derived.Test.YtmencfmjmbbfhaaDoorLSq
import Derived.Test.YtmencfmjmbbfhaaDoorLCm
import Derived.Test.YtmencfmjmbbfhaaDoorLS2
import Derived.Test.YtmencfmjmbbfhaaDoorLRd
import Derived.Laws.CopyOwn
import Derived.Shelf.Spec.SlicesInsert
import Derived.OwnWalk
import Derived.Deep.RegionLaw
import Derived.Deep.RegionHeld3
import Derived.LoopN
namespace Go.Proofs.YtmencfmjmbbfhaaDoor
open Go.RowKit
set_option linter.unusedVariables false
set_option linter.unusedSimpArgs false
theorem Tryd.info3b : (Tryd.prog.info? 3).map (fun i => (i.zero, i.size, i.bytes)) = some (some (.int .i64 0), 1, 8) := by kernel_rfl
/-- The row holds 1 at its first places. -/
structure Ons (w : World) (g n k : Nat) : Prop where
  ex : ∃ cur : Array Value, w.heap[g]? = some (.cells cur 3 (0, 0)) ∧ cur.size = n ∧ ∀ j, j < k → cur[j]? = some (.int .i64 1)
theorem Ons.lt {w : World} {g n k : Nat} (h : Ons w g n k) : g < w.heap.size := by
  obtain ⟨cur, h1, _⟩ := h.ex; exact (Array.getElem?_eq_some_iff.1 h1).1
theorem Ons.rw {w : World} {g n : Nat} (h : Ons w g n n) (hn : n ≤ maxLen) : Rw w g n (List.replicate n 1) := by
  obtain ⟨cur, h1, h2, h3⟩ := h.ex
  refine ⟨⟨cur, h1, h2, fun j x hx => ?_⟩, by simp, hn⟩
  have hj : j < n := by simpa using (List.getElem?_eq_some_iff.1 hx).1
  rw [List.getElem?_replicate, if_pos hj] at hx
  cases hx
  exact h3 j hj
theorem Ons.cell {w : World} {g n k : Nat} (h : Ons w g n k) (j : Nat) (hj : j < k) : w.cell? ⟨g, j, none⟩ = some (.int .i64 1) := by
  obtain ⟨cur, h1, h2, h3⟩ := h.ex
  rw [cell_of_row w g j cur 3 (0, 0) h1]; exact h3 j hj
/-- Copying d ones to the place k. -/
theorem Ons.copied {w : World} {g n k d : Nat} (h : Ons w g n k) (q : Nat) (hd : k + d ≤ n) : Ons ((w.drewN q).setCells g k (List.replicate d (.int .i64 1))) g n (k + d) := by
  obtain ⟨cur, h1, h2, h3⟩ := h.ex
  have h1' : (w.drewN q).heap[g]? = some (.cells cur 3 (0, 0)) := h1
  refine ⟨⟨_, heap_setCells_row _ k _ cur h1', by rw [ovr_size]; exact h2, fun j hj => ?_⟩⟩
  rw [ovr_get _ _ _ _ (by simp; omega)]
  by_cases hk : j < k
  · rw [if_neg (by simp; omega)]; exact h3 j hk
  · rw [if_pos (by simp; omega), List.getElem?_replicate, if_pos (by omega)]
theorem Ons.run {w : World} {g n k d : Nat} (h : Ons w g n k) (q : Nat) (a : Addr) (sL sC dL dC : Nat) (ty : TypeId) (hd : k + d ≤ n) (hm : d = Nat.min sL dL) (hs : ∀ j, j < d → w.cell? (a.add j) = some (.int .i64 1)) :
    (Builtin.copy_ #[23, 23] ty #[.slice (some ⟨g, k, none⟩) dL dC, .slice (some a) sL sC]).run Tryd.prog (w.drewN q) = .ok (.int .i64 d) ((w.drewN q).setCells g k (List.replicate d (.int .i64 1))) := by
  obtain ⟨cur, h1, h2, h3⟩ := h.ex
  have hc : ∀ j, j < d → ((w.drewN q).cell? ⟨g, k + j, none⟩).isSome = true := fun j hj => by
    rw [show (w.drewN q).cell? ⟨g, k + j, none⟩ = w.cell? ⟨g, k + j, none⟩ from rfl, cell_of_row w g (k + j) cur 3 (0, 0) h1, Array.getElem?_eq_getElem (by omega)]; rfl
  have hf : ∀ j, j < d → (w.drewN q).frozen? ⟨g, k + j, none⟩ = false := fun j hj => by
    rw [show (w.drewN q).frozen? ⟨g, k + j, none⟩ = w.frozen? ⟨g, k + j, none⟩ from rfl]; simp [World.frozen?, h1]
  have hr := run_copy_cells (P := Tryd.prog) (w.drewN q) 23 23 ty 3 g k dL dC a sL sC (List.replicate d (.int .i64 1)) Tryd.underlying23 (by kernel_rfl) (by simpa using hm) (fun j v hv => by
      have hj : j < d := by simpa using (List.getElem?_eq_some_iff.1 hv).1
      rw [List.getElem?_replicate, if_pos hj] at hv
      cases hv
      exact hs j hj) (by simpa using hc) (by simpa using hf) (by simp [Value.oneCell'])
  rw [hr, List.length_replicate]
  rfl
theorem grownBy_sc {g k q : Nat} (vs : List Value) (w : World) : w.grownBy ((w.drewN q).setCells g k vs) (some g) := by
  have hg : (w.drewN q).grownBy ((w.drewN q).setCells g k vs) (some g) := grownBy_setCells _ _ _
  exact ⟨hg.os, hg.tape, hg.output, hg.size, hg.block⟩
theorem Ons.cp {w : World} {g n k d : Nat} (h : Ons w g n k) (q : Nat) (a : Addr) (sL sC dL dC : Nat) (ty : TypeId) (hd : k + d ≤ n) (hm : d = Nat.min sL dL) (hs : ∀ j, j < d → w.cell? (a.add j) = some (.int .i64 1)) :
    ∃ W, (Builtin.copy_ #[23, 23] ty #[.slice (some ⟨g, k, none⟩) dL dC, .slice (some a) sL sC]).run Tryd.prog (w.drewN q) = .ok (.int .i64 d) W ∧ Ons W g n (k + d) ∧ w.grownBy W (some g) :=
  ⟨_, h.run q a sL sC dL dC ty hd hm hs, h.copied q hd, grownBy_sc _ _⟩
theorem one0 {w : World} {b j : Nat} (h : w.cell? ⟨b, 0, none⟩ = some (.int .i64 1)) (hj : j < 1) : w.cell? ((⟨b, 0, none⟩ : Addr).add j) = some (.int .i64 1) := by
  obtain rfl : j = 0 := by omega
  exact h
theorem made_ints (w : World) (g n : Nat) (B : Nat) (h : w.ownsRow B 3 1 (.slice (some ⟨g, 0, none⟩) n n) n (madeCells (Value.int .i64 0).cells (n * 1)).toList) : Ons w g n 0 ∧ n ≤ maxLen := by
  rcases h.2 with ⟨hv, _⟩ | ⟨g', cap, cur, hv, hB, hg, h1, h2, h3, h4⟩
  · cases hv
  · cases hv
    exact ⟨⟨cur, hg, by omega, fun j hj => by omega⟩, h2⟩
theorem mul1 (n : Nat) (hn : n ≤ 1048576) (w : World) : Calls Tryd.prog 42 #[.int .u64 1, .int .u64 n] w fun e w' => e = .returned (.tuple #[.int .u64 0, .int .u64 n]) ∧ w' = w := by
  have h := Tryd.bits_Mul 1 n (by omega) (by omega) w
  rw [Nat.one_mul, Nat.div_eq_of_lt (by omega), Nat.mod_eq_of_lt (by omega)] at h
  exact h
set_option maxRecDepth 100000 in
set_option maxHeartbeats 1000000 in
theorem repeat_any (bx cx n : Nat) (w : World) (hx : Rw w bx cx [1]) (hn : n ≤ 1048576) :
    Calls Tryd.prog 22 #[.slice (some ⟨bx, 0, none⟩) 1 cx, .int .i64 n] w fun e w' => ∃ b, e = .returned (.slice (some ⟨b, 0, none⟩) n n) ∧ w.heap.size ≤ b ∧ Rw w' b n (List.replicate n 1) ∧ Below w.heap.size w w' := by
  obtain ⟨i0, hi, hz0, hz1, hz2⟩ := info_parts Tryd.info3b
  have hx0 := hx.cell 0 1 rfl
  have hxl := hx.lt
  go_enter Tryd.func22, Tryd.ntmps22
  go_wp2_with (first
    | (go_at_call 42; refine (mul1 n hn _).mono ?_; rintro r w1 ⟨rfl, e1⟩; obtain rfl := e1.symm; clear e1)
    | (at_make; refine wpList_make_full _ rfl _ _ 23 rfl w.heap.size 3 i0 (.int .i64 0) 1 Tryd.underlying23 hi hz0 hz1 .i64 .i64 _ _ n rfl rfl rfl rfl (by rw [hz2]; omega) (by unfold maxLen; omega) (Nat.le_refl _) ?_; intro w0 hown0 hgrow0
       obtain ⟨hO, hmx⟩ := made_ints _ _ _ _ hown0
       have hx1 : w0.cell? ⟨bx, 0, none⟩ = some (.int .i64 1) := (hx.grown hgrow0 (by simp)).cell 0 1 rfl
       obtain ⟨W, hcp, hO1, hg1⟩ := hO.cp 0 ⟨bx, 0, none⟩ 1 cx n n 3 (d := min 1 n) (by omega) rfl (fun j hj => one0 hx1 (by omega))
       have hb1 : Below w.heap.size w W := ((Below.refl _ w).grown hgrow0 (Nat.le_refl _) (fun k e => by cases e)).grown hg1 hgrow0.size (fun k e => by cases e; exact Nat.le_refl _)
       obtain ⟨d, hd⟩ : ∃ d, d = min 1 n := ⟨_, rfl⟩
       rw [← hd] at hcp hO1
       rw [Nat.zero_add] at hO1
       change _ = Result.ok _ _ at hcp
       have hcp' : Sem.run Tryd.prog (Builtin.copy_ #[23, 23] 3 #[.slice (some ⟨w.heap.size, 0, none⟩) n n, .slice (some ⟨bx, 0, none⟩) 1 cx]) w0 = .ok (.int .i64 d) W := hcp
       have HO := Lib.hid hO1
       have HB := Lib.hid hb1
       have HD := Lib.hid hd
       clear hcp hO1 hb1 hd hO hx1 hown0 hgrow0 hg1 hx0))
  go_loopw [8] (fun i wr => ∃ k : Nat, i = .int .i64 k ∧ k ≤ n ∧ Hid (1 ≤ n → 1 ≤ k) ∧ Hid (Ons wr w.heap.size n k) ∧ Hid (Below w.heap.size w wr)) (fun i _ => n - (Go.RowKit.intOf i).toNat)
  case atStart => exact ⟨d, rfl, by rw [HD.out]; omega, fun h => by rw [HD.out]; omega, HO, HB⟩
  case round =>
    obtain ⟨k, rfl, hk, hk1, hP, hQ⟩ := hrel
    by_cases hlt : k < n
    · have h63 : (k : Int) ≤ (n : Int) := by omega
      have hk0 : 1 ≤ k := hk1.out (by omega)
      have hne : ¬ n = k := by omega
      obtain ⟨W2, hcq, hO2, hg2⟩ := hP.out.cp 1 ⟨w.heap.size, 0, none⟩ k n (n - k) (n - k) 3 (d := min k (n - k)) (by omega) rfl (fun j hj => by have := hP.out.cell j (by omega); rw [show (⟨w.heap.size, 0, none⟩ : Addr).add j = ⟨w.heap.size, j, none⟩ from by simp [Addr.add]; rintro rfl; rfl]; exact this)
      have hQ2 : Below w.heap.size w W2 := hQ.out.grown hg2 hQ.out.size (fun k e => by cases e; exact Nat.le_refl _)
      obtain ⟨d2, hd2⟩ : ∃ d2, d2 = min k (n - k) := ⟨_, rfl⟩
      rw [← hd2] at hcq hO2
      have HO2 := Lib.hid hO2
      have HQ2 := Lib.hid hQ2
      have HD2 := Lib.hid hd2
      have hcq' : Sem.run Tryd.prog (Builtin.copy_ #[23, 23] 3 #[.slice (some ⟨w.heap.size, k, none⟩) (n - k) (n - k), .slice (some ⟨w.heap.size, 0, none⟩) k n]) wr.drew = .ok (.int .i64 d2) W2 := hcq
      clear hcq hO2 hQ2 hd2 hg2
      go_upto_region 9 with fail
      go_region
      all_goals
        go_wp2
        have hA : d2 ≤ n - k := by have := HD2.out; omega
        have hB : 1 ≤ d2 := by have := HD2.out; omega
        have hW : Go.RowKit.wrap64 ((k : Int) + (d2 : Int)) = ((k + d2 : Nat) : Int) := by rw [Go.IntWalk.wrap64_in _ (by omega)]; omega
        go_roundw
        case rel => exact ⟨k + d2, by rw [hW], by omega, fun h => by omega, HO2, HQ2⟩
        case measure => rw [hW]; simp [Go.RowKit.intOf]; omega
    · obtain rfl : k = n := by omega
      go_wp2
      go_ret
      exact ⟨w.heap.size, rfl, Nat.le_refl _, hP.out.rw (by unfold maxLen; omega), hQ.out⟩

theorem res8 (tmps : Array Value) (w : World) (p : Nat) (cs : Array Value) (hp : tmps.getD 2 undef = .pointer (some ⟨p, 0, none⟩)) (hg : w.heap[p]? = some (.cells cs 25 (0, 0))) (hs : cs.size = 4) :
    (results Tryd.f8 tmps).run Tryd.prog w = .ok (.tuple #[.agg cs, tmps.getD 3 undef]) w := by
  rw [results_cell_tmp Tryd.results8, hp]
  simp [asAddr, run_loadVar_row w p 25 25 cs (0, 0) _ hg Tryd.underlying25 rfl (by rw [hs]; exact cf25)]
def cmp (l : List Int) : List Int := Lib.compact (srt l)
theorem compact_le (l : List Int) : (Lib.compact l).length ≤ l.length := by
  unfold Lib.compact Lib.compactUpTo
  rw [List.length_map]
  exact Nat.le_trans (List.length_filter_le _ _) (by simp)
/-- What New makes of a list. -/
def newC (l : List Int) : Cf := ⟨cmp l, List.replicate (cmp l).length 1, 1, false⟩
structure Nw (w W : World) : Prop where
  r : W.heap[w.heap.size]? = some (.cells zc 25 (0, 0))
  be : Below w.heap.size w W
theorem Nw.lt {w W : World} (h : Nw w W) : w.heap.size < W.heap.size := (Array.getElem?_eq_some_iff.1 h.r).1
theorem Nw.below {w W W' : World} (h : Nw w W) (hb : Below W.heap.size W W') : Nw w W' := ⟨(hb.block _ h.lt).trans h.r, h.be.trans (hb.mono (Nat.le_of_lt h.lt))⟩
theorem Nw.grown {w W W' : World} (h : Nw w W) {k : Nat} (hg : W.grownBy W' (some k)) (hk : w.heap.size < k) : Nw w W' := ⟨(hg.block _ h.lt (by simp; omega)).trans h.r, h.be.grown hg h.be.size (fun j e => by cases e; omega)⟩
theorem Nw.new (w : World) : Nw w (w.alloc (.cells zc 25)) := ⟨heap_alloc_new w _, (Below.refl _ w).alloc (Nat.le_refl _) _⟩
theorem Rw.belowS {w w' : World} {b cap : Nat} {l : List Int} (h : Rw w b cap l) (hb : Below w.heap.size w w') : Rw w' b cap l := h.below hb h.lt
theorem compact_any (b cap : Nat) (l : List Int) (w : World) (h : Rw w b cap l) (hl : l.length ≤ 1048576) :
    Calls Tryd.prog 19 #[.slice (some ⟨b, 0, none⟩) l.length cap] w fun e w' => e = .returned (.slice (some ⟨b, 0, none⟩) (Lib.compact l).length cap) ∧ Rw w' b cap (Lib.compact l) ∧ w.grownBy w' (some b) := by
  have hc := h.le
  have K := Tryd.slices_Compact_int_cells b 0 l.length cap l w (Nat.le_refl _) (by omega) hc (fun j hj => h.getD j hj) (fun j _ => h.fz _)
  refine K.mono ?_
  rintro e w' ⟨rfl, q, hw⟩
  rw [List.take_length] at hw
  have hcl : (Lib.compact l).length ≤ l.length := compact_le l
  refine ⟨by rw [List.take_length], h.over _ hw (by simp; omega) ?_ (by omega)⟩
  intro j x hx
  rw [List.getElem?_append_left (List.getElem?_eq_some_iff.1 hx).1]; exact hx
end Go.Proofs.YtmencfmjmbbfhaaDoor
