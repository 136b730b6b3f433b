/-
  Sorted(Values(l)): the list, sorted, in a row of the call's own.
  Conditions: the list has at most 2^20 numbers.
-/
import Derived.Test.YtmencfmjmbbfhaaDoorLS2
import Derived.RangeFuncNested
import Derived.RangeFuncBound
import Derived.RangeFuncCalls
import Derived.RangeFuncLeaves
import Derived.Shelf.Abstract
import Derived.Shelf.SlIterI.Sorted
import Derived.RangeFuncGives
import Derived.Shelf.RegionOpen
import Derived.WalkKit
import Derived.OwnWalkIn
import Derived.TacticsInMore
import Derived.LoopNIn
import Derived.LoopIn
namespace Go.Proofs.YtmencfmjmbbfhaaDoor
open Go.RowKit Go.Shelf Go.Sort Go.Maps
set_option linter.unusedVariables false
set_option linter.unusedSimpArgs false
theorem values_any (v : Value) (hv : v.oneCell' = true) (a : Option Addr) (n c : Nat) (w : World) : Calls Tryd.prog 21 #[.slice a n c] w fun e w' => e = .returned (.func (.func 41) #[] #[.pointer (some ⟨w.heap.size, 0, none⟩)]) ∧ w' = w.alloc (.cells #[.slice a n c] 23) := by
  have hmf : ∀ (fn : Fn) (first cap : Array Value) (w : World), (Instr.makeFunc fn first cap).run Tryd.prog w = .ok (.func fn first cap) w := fun _ _ _ _ => rfl
  go_enter Tryd.func21, Tryd.ntmps21
  go_wp2
  go_ret
  exact ⟨rfl, rfl⟩
theorem take_snocI (zs : List Int) (k : Nat) (x : Int) (h : zs[k]? = some x) : zs.take (k + 1) = zs.take k ++ [x] := by
  obtain ⟨hk, rfl⟩ := List.getElem?_eq_some_iff.1 h
  exact List.take_succ_eq_append_getElem hk
set_option maxRecDepth 100000 in
set_option maxHeartbeats 2000000 in
/-- The iterator of Values: whatever the rounds do, so that what lay ahead stays. -/
theorem val1_in (n : Nat) (hn : 1 ≤ n) (l Bs : Nat) (a : Option Addr) (cap : Nat) (zs : List Int) (hz : zs.length ≤ 1048576) (J : List Int → World → Prop) (w : World) (hBs : w.heap[Bs]? = some (.cells #[.slice a zs.length cap] 23 (0, 0))) (hr : zs ≠ [] → ∃ b, a = some ⟨b, 0, none⟩ ∧ Rw w b cap zs)
    (hJB : ∀ pre W', J pre W' → Below w.heap.size w W')
    (hY : ∀ pre x W1, J pre W1 → pre.length < zs.length → YieldAt Fence.wide (n - 1) Tryd.prog l #[.int .i64 x] W1 fun e W' => e = .returned (.bool true) ∧ J (pre ++ [x]) W')
    (W : World) (h0 : J [] W) :
    CallsIn Fence.wide n Tryd.prog 41 #[.func (.yield l) #[] #[], .pointer (some ⟨Bs, 0, none⟩)] W fun e W' => (∃ v, e = .returned v) ∧ J zs W' := by
  have hb0 := hJB _ _ h0
  have lB := (Array.getElem?_eq_some_iff.1 hBs).1
  have cB : W.cell? ⟨Bs, 0, none⟩ = some (.slice a zs.length cap) := cell_of_row W _ 0 _ 23 (0, 0) ((hb0.block _ lB).trans hBs)
  refine callsIn_of_wp Tryd.func41 rfl trivial ?_ rfl
  simp only [Tryd.ntmps41, List.size_toArray, List.length_cons, List.length_nil, Nat.reduceAdd, Nat.reduceSub, Array.replicate_succ, Array.replicate_zero, List.push_toArray, List.append_toArray, List.nil_append, List.cons_append]
  gi_wp2
  gi_loopw [4, 7] (fun _ i wr => ∃ k : Nat, k ≤ zs.length ∧ i = .int .i64 k ∧ J (zs.take k) wr) (fun _ i _ => zs.length - (intOf i).toNat)
  case atStart => exact ⟨0, Nat.zero_le _, rfl, h0⟩
  case round =>
    obtain ⟨k, hk, rfl, hJs⟩ := hrel
    by_cases hlt : k < zs.length
    · obtain ⟨x, hx⟩ : ∃ x, zs[k]? = some x := ⟨_, List.getElem?_eq_getElem hlt⟩
      obtain ⟨b, rfl, hrB⟩ := hr (by rintro rfl; simp at hlt)
      have hcx := (hrB.below (hJB _ _ hJs) hrB.lt).cell k x hx
      obtain ⟨fn, tmps, assign, body, hy, hR⟩ := hY (zs.take k) x wr hJs (by simp; omega)
      gi_wp2
      refine hR.mono ?_
      rintro e W3 ⟨rfl, hJ3⟩
      rw [← take_snocI zs k x hx] at hJ3
      gi_wp2
      go_roundw
      case rel => exact ⟨k + 1, by omega, by simp, hJ3⟩
      case measure => simp [intOf]; omega
    · obtain rfl : k = zs.length := by omega
      rw [List.take_length] at hJs
      gi_wp2
      go_end0
      exact ⟨⟨_, rfl⟩, hJs⟩

set_option maxRecDepth 100000 in
set_option maxHeartbeats 2000000 in
/-- AppendSeq(nil, seq) against an iterator that leaves what lay ahead. -/
theorem apseq_in (n : Nat) (hn : 2 ≤ n) (g : Nat) (lb : Array Value) (eg : ∀ args w, (callFunc g args).run Tryd.prog w = .ok (.enter g args) w) (zs : List Int) (hz : zs.length ≤ 1048576) (w : World)
    (hseq : ∀ (l : Nat) (J : List Int → World → Prop) (W : World), Below w.heap.size w W → (∀ pre W', J pre W' → Below w.heap.size w W') →
      (∀ pre x W1, J pre W1 → pre.length < zs.length → YieldAt Fence.wide (n - 1 - 1) Tryd.prog l #[.int .i64 x] W1 fun e W' => e = .returned (.bool true) ∧ J (pre ++ [x]) W') → J [] W →
      CallsIn Fence.wide (n - 1) Tryd.prog g (#[.func (.yield l) #[] #[]] ++ lb) W fun e W' => (∃ v, e = .returned v) ∧ J zs W') :
    CallsIn Fence.wide n Tryd.prog 59 #[.slice none 0 0, .func (.func g) #[] lb] w fun e w' => ∃ (v : Value), e = .returned v ∧ w'.ownsRow w.heap.size 3 1 v zs.length (zs.map (.int .i64)) ∧ (v = .slice none 0 0 ↔ zs = []) ∧ Below w.heap.size w w' := by
  have h1 : 1 ≤ n := by omega
  refine callsIn_of_wp_marks Tryd.func59 rfl trivial ?_ rfl
  simp only [Tryd.ntmps59, List.size_toArray, List.length_cons, List.length_nil, Nat.reduceAdd, Nat.reduceSub, Array.replicate_succ, Array.replicate_zero, List.push_toArray, List.append_toArray, List.nil_append, List.cons_append]
  gi_wp2
  refine wpIn_rangeFunc ?_
  intro fn hfn
  obtain ⟨W0, hW0⟩ : ∃ W0, w.alloc (.cells #[.slice none 0 0] 23) = W0 := ⟨_, rfl⟩
  have hs0 : W0.heap.size = w.heap.size + 1 := by rw [← hW0]; simp
  have hv0 : W0.heap[w.heap.size]? = some (.cells #[.slice none 0 0] 23 (0, 0)) := by rw [← hW0]; exact World.alloc_heap_new w _
  have hb0 : Below w.heap.size w W0 := by rw [← hW0]; exact (Below.refl _ w).alloc (Nat.le_refl _) _
  rw [hW0]
  obtain ⟨W1, hW1⟩ : ∃ W1, (W0.alloc (.deferred (some []))).alloc (.loop (AnyZI.apRec Tryd.sortedA_ren fn (.func (.func g) #[] lb) w.heap.size W0.heap.size .ready none)) = W1 := ⟨_, rfl⟩
  have hold : ∀ k, k < W0.heap.size → W1.heap[k]? = W0.heap[k]? := fun k hk => by
    rw [← hW1]; exact (Below.heap_alloc _ _ k (by simp; omega)).trans (Below.heap_alloc _ _ k hk)
  have hb1 : Below w.heap.size w W1 := by rw [← hW1]; exact (hb0.alloc hb0.size _).alloc (by have := hb0.size; simp; omega) _
  have hs1 : W1.heap.size = W0.heap.size + 2 := by rw [← hW1]; simp
  have hM : AnyZI.ApAt Tryd.sortedA_ren w fn (.func (.func g) #[] lb) w.heap.size (W0.heap.size + 1) W0.heap.size [] W1 :=
    ⟨⟨_, (hold w.heap.size (by omega)).trans hv0, ⟨rfl, .inl ⟨rfl, rfl⟩⟩, by simp⟩,
     by rw [← hW1]; have := World.alloc_heap_new (W0.alloc (.deferred (some []))) (.loop (AnyZI.apRec Tryd.sortedA_ren fn (.func (.func g) #[] lb) w.heap.size W0.heap.size .ready none)); rwa [World.size_alloc] at this,
     by rw [← hW1]; exact (Below.heap_alloc _ _ _ (by simp)).trans (World.alloc_heap_new W0 _), hb1⟩
  refine ⟨W0.heap.size + 1, [{ target := .collected W0.heap.size, args := #[] }], W1, { target := .fn (.func g) lb, args := #[.func (.yield (W0.heap.size + 1)) #[] #[]] }, W1, g,
    #[.func (.yield (W0.heap.size + 1)) #[] #[]] ++ lb, W1, ?_, ?_, ?_, ?_, fun _ => h1, ?_⟩
  · rw [← hW1]; exact run_enterLoop_outer _ _ _ _ _
  · simp [resolve, go_sem]
  · intro f' hf'; trivial
  · simp [invoke, go_sem, eg]
  · refine (hseq (W0.heap.size + 1) (AnyZI.ApAt Tryd.sortedA_ren w fn (.func (.func g) #[] lb) w.heap.size (W0.heap.size + 1) W0.heap.size) W1 hb1 (fun _ _ hJ => hJ.below)
      (fun pre x W hJ hl => ?_) hM).mono ?_
    · obtain ⟨fn', tmps, assign, body, hy, hR⟩ := AnyZI.apYield { Tryd.sortedA with } Fence.wide (n - 1 - 1) w fn hfn _ w.heap.size (W0.heap.size + 1) W0.heap.size (by omega) (by omega) (by omega) (Nat.le_refl _) (by omega) zs.length (by unfold maxLen; omega) (by omega) pre x W hJ hl
      exact ⟨fn', tmps, assign, body, hy, hR.mono fun e W' h => ⟨h.1, h.2.1⟩⟩
    rintro e W2 ⟨⟨v0, rfl⟩, h2⟩
    obtain ⟨v, hv, hrow, hnil⟩ := h2.box
    have hend := run_endLoop (P := Tryd.prog) h2.L (by simp [AnyZI.apRec])
    obtain ⟨W3, hW3⟩ : ∃ W3, W2.putObj (W0.heap.size + 1) (.loop { AnyZI.apRec Tryd.sortedA_ren fn (.func (.func g) #[] lb) w.heap.size W0.heap.size .ready none with state := .exhausted }) = W3 := ⟨_, rfl⟩
    rw [hW3] at hend
    have hg3 : W2.grownBy W3 (some (W0.heap.size + 1)) := by rw [← hW3]; exact grownBy_putObj_a _ _ _
    have hv3 : W3.heap[w.heap.size]? = some (.cells #[v] 23 (0, 0)) := by rw [← hW3]; exact (World.putObj_heap_other (by omega)).trans hv
    have hK3 : W3.heap[W0.heap.size]? = some (.deferred (some [])) := by rw [← hW3]; exact (World.putObj_heap_other (by omega)).trans h2.K
    have hrow3 : W3.ownsRow w.heap.size 3 1 v zs.length (zs.map (.int .i64)) := hrow.kept hg3 (ownsRow_ne_a hrow h2.L (fun cur e => by cases e))
    have hb3 : Below w.heap.size w W3 := h2.below.grown hg3 h2.below.size (fun k e => by cases e; omega)
    obtain ⟨hc3, hf3⟩ := cell_of_box_a hv3
    clear hW3
    refine ⟨none, W3, hend, ?_⟩
    gi_wp2
    rw [← hs0]
    refine ⟨by simp, .inl ⟨_, _, rfl, run_takeDeferred hK3, ?_⟩⟩
    exact ⟨_, results_tmp rfl _ _ _, v, rfl, hrow3.kept (grownBy_putObj_a _ _ _) (ownsRow_ne_a hrow3 hK3 (fun cur e => by cases e)), hnil, hb3.grown (grownBy_putObj_a _ _ _) hb3.size (fun k e => by cases e; omega)⟩

theorem collect_any (a : Option Addr) (cap Bs : Nat) (zs : List Int) (hz : zs.length ≤ 1048576) (w : World) (hBs : w.heap[Bs]? = some (.cells #[.slice a zs.length cap] 23 (0, 0))) (hr : zs ≠ [] → ∃ b, a = some ⟨b, 0, none⟩ ∧ Rw w b cap zs) :
    Calls Tryd.prog 39 #[.func (.func 41) #[] #[.pointer (some ⟨Bs, 0, none⟩)]] w fun e w' => ∃ (v : Value), e = .returned v ∧ w'.ownsRow w.heap.size 3 1 v zs.length (zs.map (.int .i64)) ∧ (v = .slice none 0 0 ↔ zs = []) ∧ Below w.heap.size w w' := by
  have K := callsIn_wide.1 (apseq_in 10 (by decide) 41 #[.pointer (some ⟨Bs, 0, none⟩)] (enters_of Tryd.func41 (by kernel_rfl) rfl) zs hz w (fun l J W hb hJB hY h0 => val1_in 9 (by decide) l Bs a cap zs hz J w hBs hr hJB hY W h0))
  go_enter Tryd.func39, Tryd.ntmps39
  go_wp2_with (go_at_call 59; refine K.mono ?_; rintro e w' ⟨v, rfl, h1, h2, h3⟩)
  go_ret
  exact ⟨v, rfl, h1, h2, h3⟩
/-- The list sorted. -/
def srt (l : List Int) : List Int := l.mergeSort fun x y => decide (x ≤ y)
theorem srt_length (l : List Int) : (srt l).length = l.length := List.length_mergeSort _
theorem sorted_any (a : Option Addr) (cap Bs : Nat) (zs : List Int) (hz : zs.length ≤ 1048576) (w : World) (hBs : w.heap[Bs]? = some (.cells #[.slice a zs.length cap] 23 (0, 0))) (hr : zs ≠ [] → ∃ b, a = some ⟨b, 0, none⟩ ∧ Rw w b cap zs) :
    Calls Tryd.prog 20 #[.func (.func 41) #[] #[.pointer (some ⟨Bs, 0, none⟩)]] w fun e w' => ∃ (v : Value), e = .returned v ∧ (zs = [] → v = .slice none 0 0) ∧ (zs ≠ [] → ∃ b' cap', v = .slice (some ⟨b', 0, none⟩) zs.length cap' ∧ w.heap.size ≤ b' ∧ Rw w' b' cap' (srt zs)) ∧ Below w.heap.size w w' := by
  have KC := Lib.hid (collect_any a cap Bs zs hz w hBs hr)
  go_enter Tryd.func20, Tryd.ntmps20
  clear hBs hr
  by_cases hz0 : zs = []
  · go_wp2_with (first
      | (go_at_call 39; refine KC.out.mono ?_; rintro e w' ⟨v, rfl, h1, h2, h3⟩; obtain rfl := h2.2 hz0)
      | (go_at_call 40; refine (Tryd.slices_Sort_int_none none 0 _).mono ?_; rintro e w'' ⟨rfl, rfl⟩))
    go_ret
    exact ⟨_, rfl, fun _ => rfl, fun h => absurd hz0 h, h3⟩
  · go_wp2_with (first
      | (go_at_call 39; refine KC.out.mono ?_; rintro e w' ⟨v, rfl, h1, h2, h3⟩; obtain ⟨_, b', cap', rfl, hb, hR⟩ := Rw.of_own h1 (fun e => hz0 (h2.1 e)))
      | (go_at_call 40; refine (Tryd.slices_Sort_int b' 0 cap' zs _ hR.holds hR.lt (by omega)).mono ?_; rintro e w'' ⟨rfl, q, os, hw⟩
         obtain ⟨cur, g1, g2, g3⟩ := hR.ex
         have ho : w''.ownsRow w.heap.size 3 1 (.slice (some ⟨b', 0, none⟩) zs.length cap') zs.length ((srt zs).map (.int .i64)) := by
           rw [hw]; exact ownsRow_sorted_i (by simp) hb g1 hR.le hR.mx (by omega)
         have hg : w'.grownBy w'' (some b') := by rw [hw]; exact grownBy_sorted_i _
         have hb4 : Below w.heap.size w w'' := h3.grown hg h3.size (fun k e => by cases e; exact hb)
         clear hw))
    go_ret
    refine ⟨_, rfl, fun h => absurd h hz0, fun _ => ?_, hb4⟩
    obtain ⟨e1, b2, cap2, e2, hb2, hR2⟩ := Rw.of_own ho (by simp)
    have e3 : b' = b2 ∧ cap' = cap2 := by simpa [srt_length] using e2
    obtain ⟨rfl, rfl⟩ := e3
    exact ⟨b', cap', rfl, hb2, hR2⟩
end Go.Proofs.YtmencfmjmbbfhaaDoor
