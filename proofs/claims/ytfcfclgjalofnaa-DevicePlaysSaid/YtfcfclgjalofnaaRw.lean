/-
  The contract of the document's own Waiting.
  Conditions: named in the theorem.
-/
import Derived.Test.YtfcfclgjalofnaaRq
namespace Go.Proofs.Ytfcfclgjalofnaa
open Go.RowKit Dk
set_option linter.unusedVariables false
theorem Try.info3r : (Try.prog.info? 3).map (fun i => (i.zero, i.size, i.bytes)) = some (some (.int .i64 0), 1, 8) := by kernel_rfl
/-- The sectors that wait, below k. -/
def Dk.St.waitsTo (d : St) (k : Nat) : List Value := ((List.range k).filter fun i => (d.wt i).isSome).map fun (i : Nat) => Value.int .i64 (i : Int)
theorem waitsTo_yes {d : St} {k : Nat} (h : (d.wt k).isSome = true) : d.waitsTo (k + 1) = d.waitsTo k ++ [.int .i64 k] := by
  unfold St.waitsTo
  rw [List.range_succ, List.filter_append, List.map_append]
  congr 1
  simp [h]
theorem waitsTo_no {d : St} {k : Nat} (h : (d.wt k).isSome = false) : d.waitsTo (k + 1) = d.waitsTo k := by
  unfold St.waitsTo
  rw [List.range_succ, List.filter_append, List.map_append]
  simp [h]
theorem waitsTo_len (d : St) (k : Nat) : (d.waitsTo k).length ≤ k := by
  unfold St.waitsTo
  rw [List.length_map]
  exact Nat.le_trans (List.length_filter_le _ _) (by simp)
set_option maxHeartbeats 2000000 in
set_option maxRecDepth 100000 in
theorem rwaiting_any (B gr : Nat) (L : List Nat) (d : St) (w : World) (h : Rf w B gr L d) :
    Calls Try.prog 16 #[ptr gr] w fun e w' => ∃ v, e = .returned v ∧ w'.ownsRow w.heap.size 3 1 v d.waits.length (d.waits.map fun (i : Nat) => Value.int .i64 (i : Int)) ∧ Below w.heap.size w w' := by
  obtain ⟨i0, hi, hz0, hz1, hz2⟩ := info_parts Try.info3r
  have ho := h.1
  obtain ⟨g1, c1, g2, c2, g3, c3, rfl, hA⟩ := RAt.of_rf h
  have q2 := hA.c 2
  change w.cell? ⟨gr, 2, none⟩ = some (.slice (some ⟨g3, 0, none⟩) d.n c3) at q2
  have hcell : Hid (∀ k, k < d.n → w.cell? ⟨g3, k, none⟩ = some (.bool (d.wt k).isSome)) := fun k hk => row_cell hA.r3 k hk
  have hn2 := ho.n2
  have hlt3 : g3 < w.heap.size := (hA.r3.lt g3 rfl).2
  have hltr : gr < w.heap.size := lt_of_heap hA.blk
  have hfin : Hid (d.waits.map (fun (i : Nat) => Value.int .i64 (i : Int)) = d.waitsTo d.n ∧ d.waits.length = (d.waitsTo d.n).length) := ⟨rfl, by unfold St.waitsTo St.waits; rw [List.length_map]⟩
  rw [hfin.out.1, hfin.out.2]
  obtain ⟨n, hn⟩ : ∃ n, n = d.n := ⟨_, rfl⟩
  rw [← hn] at q2 hcell hn2 ⊢
  clear h hA ho hn hfin
  unfold ptr
  go_enter Try.func16, Try.ntmps16
  go_wp2_with fail
  go_loopw [3, 4] (fun vx ix wr => ∃ (k m : Nat) (v : Value), v = vx ∧ k ≤ n ∧ ix = .int .i64 k ∧ m = (d.waitsTo k).length ∧ m ≤ k ∧ wr.ownsRow w.heap.size 3 1 v m (d.waitsTo k) ∧ Below w.heap.size w wr) (fun _ ix _ => n - (RowKit.intOf ix).toNat)
  case atStart => exact ⟨0, 0, _, rfl, by omega, rfl, rfl, Nat.le_refl _, World.ownsRow_nil _ _ _ _, Below.refl _ _⟩
  case round =>
    obtain ⟨k, m, vx, rfl, hk, rfl, hm, hmk, hrow, hbr⟩ := hrel
    have q2r : wr.cell? ⟨gr, 2, none⟩ = some (.slice (some ⟨g3, 0, none⟩) n c3) := (hbr.cell (p := ⟨gr, 2, none⟩) hltr).trans q2
    by_cases hlt : k < n
    · have hk0 : (0 : Int) ≤ k := by omega
      have hk1 : (k : Int) < n := by omega
      have cz : wr.cell? ⟨g3, k, none⟩ = some (.bool (d.wt k).isSome) := (hbr.cell (p := ⟨g3, k, none⟩) hlt3).trans (hcell.out k hlt)
      cases hwt : (d.wt k).isSome
      case false =>
        rw [hwt] at cz
        have HR := Lib.hid (waitsTo_no hwt)
        have HROW := Lib.hid hrow
        have HM := Lib.hid hm
        clear hwt hrow hm
        go_wp2
        go_roundw
        case rel => exact ⟨k + 1, m, _, rfl, by omega, by go_num, by rw [HR.out]; exact HM.out, by omega, by rw [HR.out]; exact HROW.out, hbr⟩
        case measure => simp [RowKit.intOf]; omega
      case true =>
        rw [hwt] at cz
        have HR := Lib.hid (waitsTo_yes hwt)
        obtain ⟨w2, hw2⟩ : ∃ w2, w2 = wr.alloc (.cells #[.int .i64 k] 3) := ⟨_, rfl⟩
        have hb2 : Below wr.heap.size wr w2 := by rw [hw2]; exact (Below.refl _ wr).alloc (Nat.le_refl _) _
        have hrow2 : w2.ownsRow w.heap.size 3 1 vx m (d.waitsTo k) := row_of_heap hrow (fun j hj => hb2.block j (hrow.lt j hj).2)
        have hnews : ∀ j u, [Value.int .i64 k][j]? = some u → w2.cell? ((⟨wr.heap.size, 0, none⟩ : Addr).add j) = some u := fun j u hu => by
          rw [hw2]; exact cell_one_new wr (.int .i64 k) 3 j u hu
        have hs2 : w2.heap.size = wr.heap.size + 1 := by rw [hw2]; simp
        have HROW := Lib.hid hrow2
        have HB := Lib.hid hbr
        have HB2 := Lib.hid hb2
        have HS2 := Lib.hid hs2
        have HN := Lib.hid hnews
        have HW2 := Lib.hid hw2
        have HM := Lib.hid hm
        clear hwt hrow hrow2 hw2 hb2 hnews hs2 hbr hm
        go_wp2_with (at_builtin; refine wpList_append_lies _ rfl _ _ 30 rfl w.heap.size 3 i0 (.int .i64 0) 1 8 Try.underlying30 hi hz0 hz1 hz2 rfl (by omega) vx m (d.waitsTo k) rfl (by rw [← HW2.out]; exact HROW.out) ⟨wr.heap.size, 0, none⟩ 1 1 [.int .i64 k] rfl rfl (by rw [← HW2.out]; exact HN.out) (fun u hu => by simp at hu; subst hu; rfl) (by omega) (by unfold maxLen; omega) (by omega) (by rw [← HW2.out, HS2.out]; have := HB.out.size; omega) (wr.heap.size + 1) (by rw [← HW2.out, HS2.out]) ?_; intro g cap w4 hown4 hgrow hat hlt4; rw [← HW2.out] at hgrow)
        have hlen : (d.waitsTo (k + 1)).length = m + 1 := by rw [HR.out, List.length_append, ← HM.out]; rfl
        have hbx : Below w.heap.size w w4 := (HB.out.trans (HB2.out.mono HB.out.size)).grown hgrow (by have := HS2.out; have := HB.out.size; omega) (fun j hj => (HROW.out.lt j hj).1)
        go_roundw
        case rel => exact ⟨k + 1, m + 1, _, rfl, by omega, by go_num, hlen.symm, by omega, by rw [HR.out]; exact hown4, hbx⟩
        case measure => simp [RowKit.intOf]; omega
    · have hk' : k = n := by omega
      subst hk'
      subst hm
      go_wp2
      go_ret
      exact ⟨_, rfl, hrow, hbr⟩
end Go.Proofs.Ytfcfclgjalofnaa
