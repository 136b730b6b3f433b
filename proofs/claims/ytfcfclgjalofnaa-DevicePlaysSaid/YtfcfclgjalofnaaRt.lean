/-
  The contract of the law's does: the device that comes back, the writes; and all deeds.
  Conditions: named in each theorem.
-/
import Derived.Test.YtfcfclgjalofnaaRs
import Derived.Deep.RegionWith
namespace Go.Proofs.Ytfcfclgjalofnaa
open Go.RowKit Dk
set_option linter.unusedVariables false
set_option maxHeartbeats 2000000 in
set_option maxRecDepth 100000 in
theorem does_after (B g gr : Nat) (d : St) (k : Nat) (at_ : Int) (l : List UInt8) (A : Option Addr) (lost : List Int) (c : Nat) (w : World) (hP : Pair w B g gr d) (hB : B ≤ w.heap.size) (hI : IntsAt w A lost) (hm : lost.length ≤ maxLen) (hk : (k : Int) % 8 = 6) :
    Calls Try.prog 13 #[ptr g, ptr gr, deed k at_ l A lost c] w (DoesPost w B d.n) := by
  obtain ⟨L, Lr, hD, hR, hL⟩ := hP
  obtain ⟨w0, hw0⟩ : ∃ w0, w0 = w.alloc (.cells #[.int .u8 k, .int .i64 at_, .string (txt l), .slice A lost.length c] 32) := ⟨_, rfl⟩
  have hb0 : Below w.heap.size w w0 := by rw [hw0]; exact (Below.refl _ _).alloc (Nat.le_refl _) _
  have hblk : w0.heap[w.heap.size]? = some (.cells #[.int .u8 k, .int .i64 at_, .string (txt l), .slice A lost.length c] 32 (0, 0)) := by rw [hw0]; exact heap_alloc_new w _
  have q0 : w0.cell? ⟨w.heap.size, 0, none⟩ = some (.int .u8 k) := cell_of_row w0 _ 0 _ 32 (0, 0) hblk
  have q3 : w0.drew.cell? ⟨w.heap.size, 3, none⟩ = some (.slice A lost.length c) := cell_of_row w0 _ 3 _ 32 (0, 0) hblk
  have hI0 := hI.below hb0
  have hs0 : w0.heap.size = w.heap.size + 1 := by rw [hw0]; simp
  have hD0 := Lib.hid (hD.below hb0)
  have hR0 := Lib.hid (hR.below hb0)
  have HB0 := Lib.hid (hb0.mono hB)
  have HK := Lib.hid hblk
  have HS0 := Lib.hid hs0
  have HL := Lib.hid hL
  have HB := Lib.hid hB
  have HLT := Lib.hid (fun j (hj : j ∈ L) => hD.lt j hj)
  have HLTR := Lib.hid (fun j (hj : j ∈ Lr) => hR.lt j hj)
  have HLOW := Lib.hid hR.low
  clear hb0 hblk hD hR hL hs0 hB
  unfold ptr deed
  go_enter Try.func13, Try.ntmps13
  go_upto_region 1 with fail
  refine wp_at (w := w0) hw0.symm ?_
  clear hw0
  have HC1 := Lib.hid (fun wx (hx : Below w0.heap.size w0 wx) => after_any g L d A lost c wx (hD0.out.below hx) (hI0.below hx) hm)
  have HC2 := Lib.hid (fun wx (hx : Below w0.heap.size w0 wx) => rafter_any B gr Lr d A lost c wx (hR0.out.below hx) (hI0.below hx) hm)
  have hbz : Below w0.heap.size w0 w0.drew := (Below.refl _ _).drew
  have hlt0 : w.heap.size < w0.heap.size := by have := HS0.out; omega
  have Q3 := Lib.hid (show w0.cell? ⟨w.heap.size, 3, none⟩ = some (.slice A lost.length c) from q3)
  have hBw : B ≤ w0.heap.size := by have := HS0.out; have := HB.out; omega
  unfold ptr at *
  clear hI hI0
  go_upto_region 13 with fail
  go_region_with (first | (go_at_call 25; (first | refine (HC1.out _ hbz).mono ?_ | refine (HC1.out _ hbR).mono ?_); rintro e wD ⟨gD, LD, rfl, hDD, hDL, hDf⟩; (try have hbD : Below w0.heap.size w0 wD := hbz.trans hDf); (try have q3D : wD.cell? ⟨w.heap.size, 3, none⟩ = some (.slice A lost.length c) := (hbD.cell (p := ⟨w.heap.size, 3, none⟩) hlt0).trans Q3.out)) | (go_at_call 33; (first | refine (HC2.out _ hbz).mono ?_ | refine (HC2.out _ hbD).mono ?_); rintro e wR ⟨gR, LR, rfl, hRR, hRf⟩; (try have hbR : Below w0.heap.size w0 wR := hbz.trans hRf); (try have q3R : wR.cell? ⟨w.heap.size, 3, none⟩ = some (.slice A lost.length c) := (hbR.cell (p := ⟨w.heap.size, 3, none⟩) hlt0).trans Q3.out)))
  all_goals
    go_wp2
    go_ret3
    first
      | exact ⟨gD, gR, d.after lost, rfl, ⟨LD, LR, hDD.below hRf, hRR.base (Nat.le_trans hBw hbD.size), fun j hj => Nat.le_trans hBw (hDL j hj)⟩, rfl, HB0.out.trans ((hbD.trans (hRf.mono hbD.size)).mono hBw)⟩
      | exact ⟨gD, gR, d.after lost, rfl, ⟨LD, LR, hDD, (hRR.below hDf).base hBw, fun j hj => Nat.le_trans (Nat.le_trans hBw hbR.size) (hDL j hj)⟩, rfl, HB0.out.trans ((hbR.trans (hDf.mono hbR.size)).mono hBw)⟩
end Go.Proofs.Ytfcfclgjalofnaa
