/-
  The contract of the device's Waiting.
  Conditions: named in each theorem.
-/
import Derived.Test.YtfcfclgjalofnaaRd
import Derived.Test.YtfcfclgjalofnaaShelf
import Derived.Shelf.SlIterI.Nil
namespace Go.Proofs.Ytfcfclgjalofnaa
open Go.RowKit Go.Maps Go.Sort Go.Shelf Dk
set_option linter.unusedVariables false
theorem sortsA (m : Nat) : AnyZI.SortsIn Try.prog Try.sortedA_ren Fence.wide m :=
  ⟨fun blk off cap ss W hH hblk hsz => callsIn_wide.2 (Try.slices_Sort_int blk off cap ss W hH hblk hsz),
   fun p cap W => callsIn_wide.2 (Try.slices_Sort_int_none p cap W)⟩
set_option maxHeartbeats 1000000 in
/-- slices.Sorted(maps.Keys(m)). -/
theorem sorted_keys (b nn : Nat) (D0 : DataW Unit) (w : World) (hown : w.ownsMap Try.prog 3 secR b nn D0) (hmax : Maps.size D0 ≤ maxLen) (hbytes : Maps.size D0 * 8 ≤ 140737488355328) :
    Calls Try.prog 35 #[.func (.func 50) #[] #[.pointer (some ⟨w.heap.size, 0, none⟩)]] (w.alloc (.cells #[.map (some b)] 69)) fun e w' => ∃ (v : Value) (ss : List Int), e = .returned v ∧ ss.Perm (intKeys D0) ∧
      w'.ownsRow (w.heap.size + 1) 3 1 v ss.length ((ss.mergeSort (fun x y => decide (x ≤ y))).map encZ) ∧ (v = .slice none 0 0 ↔ ss = []) ∧ Below (w.heap.size + 1) (w.alloc (.cells #[.map (some b)] 69)) w' := by
  have hbl := hown.lt
  have hseq : SeqGives Fence.wide 2 Try.prog 50 #[.pointer (some ⟨w.heap.size, 0, none⟩)] encZ (fun ss => ss.Perm (intKeys D0)) (Maps.size D0) (w.alloc (.cells #[.map (some b)] 69)) :=
    AnyZI.keys_gives (ρ := Try.keysA_ren) { Try.keysA with } Fence.wide _ trivial rfl (by omega) w.heap.size b nn D0 _ (by simp) (by simp) (by
      obtain ⟨es, clock, hb, Ft, hs, hD⟩ := hown
      exact ⟨es, clock, (Below.heap_alloc _ _ b hbl).trans hb, Ft, hs, hD⟩)
  have cS := AnyZI.sorted_in Try.sortedA Fence.wide 5 trivial trivial trivial trivial rfl (by omega) (sortsA _) (enters_of Try.func49 (by kernel_rfl) rfl) 50 #[.pointer (some ⟨w.heap.size, 0, none⟩)] trivial (enters_of Try.func50 (by kernel_rfl) rfl) _ _ hmax hbytes _ hseq
  change CallsIn _ _ Try.prog 35 _ _ _ at cS
  refine ((callsIn_wide (n := 5)).1 cS).mono ?_
  rintro e w' ⟨v, ss, rfl, hS, hrow, hnil, hb⟩
  rw [World.size_alloc] at hrow hb
  exact ⟨v, ss, rfl, hS, hrow, hnil, hb⟩
theorem keys_any (mb : Option Nat) (w : World) : Calls Try.prog 36 #[.map mb] w fun e w' => e = .returned (.func (.func 50) #[] #[.pointer (some ⟨w.heap.size, 0, none⟩)]) ∧ w' = w.alloc (.cells #[.map mb] 69) :=
  (callsIn_wide (n := 5)).1 (AnyZI.keys_in Try.keysA Fence.wide 5 trivial rfl mb w)
theorem wl_sorted (M : Nat → Option Sec) (n : Nat) {ss : List Int} {D : DataW Unit} (h1 : ss.Perm (intKeys D)) (h2 : ((Dk.wl M n).map fun (i : Nat) => (i : Int)).Perm (intKeys D)) :
    ss.mergeSort (fun x y => decide (x ≤ y)) = (Dk.wl M n).map fun (i : Nat) => (i : Int) := by
  have e := mergeSort_of_perm_i (h1.trans h2.symm)
  refine e.trans ?_
  refine List.mergeSort_of_pairwise ?_
  rw [List.pairwise_map]
  have hr : (List.range n).Pairwise (fun a b => a < b) := List.pairwise_lt_range
  exact (hr.filter _).imp (fun hab => by simp [leI]; omega)
set_option maxHeartbeats 1000000 in
set_option maxRecDepth 100000 in
theorem waiting_any (g : Nat) (L : List Nat) (d : St) (w : World) (h : Dv w g L d) :
    Calls Try.prog 15 #[ptr g] w fun e w' => ∃ v, e = .returned v ∧ w'.ownsRow w.heap.size 3 1 v d.waits.length (d.waits.map fun (i : Nat) => Value.int .i64 (i : Int)) ∧ Below w.heap.size w w' := by
  obtain ⟨ho, fb, mb, cap, rfl, hA⟩ := h
  have c1 := hA.c1
  obtain ⟨D, hown, hMI⟩ := hA.map
  have hn : ∀ i s, d.wt i = some s → i < d.n := fun i s e => (ho.wlen i s e).1
  have hp := keys_perm hown hMI hn
  have hsz := mapSize_le hown hMI hn
  have hsz2 : Maps.size D ≤ 4096 := by have := ho.n2; omega
  have HK := Lib.hid (keys_any (some mb) w)
  have HS := Lib.hid (sorted_keys mb 4096 D w hown (by unfold maxLen; omega) (by omega))
  have HP := Lib.hid hp
  clear hA hown hMI hn hp hsz hsz2 ho
  unfold ptr
  go_enter Try.func15, Try.ntmps15
  go_wp2_with fail
  refine HK.out.mono ?_
  rintro e w1 ⟨rfl, rfl⟩
  go_wp2_with fail
  refine HS.out.mono ?_
  rintro e w2 ⟨v, ss, rfl, hperm, hrow, hnil, hb⟩
  go_wp2
  go_ret
  have e := wl_sorted d.wt d.n hperm HP.out
  have el : ss.length = d.waits.length := by
    have h1 := congrArg List.length e
    rw [List.length_mergeSort, List.length_map] at h1
    exact h1
  rw [e, el, List.map_map] at hrow
  exact ⟨v, rfl, ownsRow_base_a hrow (by omega), ((Below.refl _ w).alloc (Nat.le_refl _) _).trans (hb.mono (by omega))⟩
end Go.Proofs.Ytfcfclgjalofnaa
