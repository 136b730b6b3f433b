/-
  The contract of the law's does: the writes; and all deeds.
  Conditions: named in each theorem.
-/
import Derived.Test.YtfcfclgjalofnaaRt
namespace Go.Proofs.Ytfcfclgjalofnaa
open Go.RowKit Dk
set_option linter.unusedVariables false
set_option maxHeartbeats 2000000 in
set_option maxRecDepth 100000 in
theorem does_write (B g gr : Nat) (d : St) (k : Nat) (at_ : Int) (l : List UInt8) (A : Option Addr) (lost : List Int) (c : Nat) (w : World) (hP : Pair w B g gr d) (hB : B ≤ w.heap.size) (q : Int) (hk : (k : Int) % 8 = q) (n3 : (q == 3) = false) (n4 : (q == 4) = false) (n5 : (q == 5) = false) (n6 : (q == 6) = false) (n7 : (q == 7) = false) :
    Calls Try.prog 13 #[ptr g, ptr gr, deed k at_ l A lost c] w (DoesPost w B d.n) := by
  obtain ⟨L, Lr, hD, hR, hL⟩ := hP
  obtain ⟨w0, hw0⟩ : ∃ w0, w0 = w.alloc (.cells #[.int .u8 k, .int .i64 at_, .string (txt l), .slice A lost.length c] 32) := ⟨_, rfl⟩
  have hb0 : Below w.heap.size w w0 := by rw [hw0]; exact (Below.refl _ _).alloc (Nat.le_refl _) _
  have hblk : w0.heap[w.heap.size]? = some (.cells #[.int .u8 k, .int .i64 at_, .string (txt l), .slice A lost.length c] 32 (0, 0)) := by rw [hw0]; exact heap_alloc_new w _
  have q0 : w0.cell? ⟨w.heap.size, 0, none⟩ = some (.int .u8 k) := cell_of_row w0 _ 0 _ 32 (0, 0) hblk
  have q1 : w0.drew.cell? ⟨w.heap.size, 1, none⟩ = some (.int .i64 at_) := cell_of_row w0.drew _ 1 _ 32 (0, 0) hblk
  have q2 : w0.drew.cell? ⟨w.heap.size, 2, none⟩ = some (.string (txt l)) := cell_of_row w0.drew _ 2 _ 32 (0, 0) hblk
  have hs0 : w0.heap.size = w.heap.size + 1 := by rw [hw0]; simp
  have hD0 := Lib.hid (hD.below hb0)
  have hR0 := Lib.hid (hR.below hb0)
  have HB0 := Lib.hid (hb0.mono hB)
  have HK := Lib.hid hblk
  have HS0 := Lib.hid hs0
  have HL := Lib.hid hL
  have HB := Lib.hid hB
  have HLT := Lib.hid (fun j (hj : j ∈ L) => hD.lt j hj)
  have HLTR := Lib.hid (fun j (hj : j ∈ Lr) => hR.lt j hj)
  have HLOW := Lib.hid hR.low
  clear hb0 hblk hD hR hL hs0 hB
  unfold ptr deed
  go_enter Try.func13, Try.ntmps13
  go_upto_region 1 with fail
  refine wp_at (w := w0) hw0.symm ?_
  clear hw0
  have hnL : w.heap.size ∉ L := fun hm => by have := HLT.out _ hm; omega
  have hnLr : w.heap.size ∉ Lr := fun hm => by have := HLTR.out _ hm; omega
  have hlt0 : w.heap.size < w0.heap.size := by have := HS0.out; omega
  have HN1 := Lib.hid hnL
  have HN2 := Lib.hid hnLr
  obtain ⟨d1, hd1⟩ : ∃ d1, d1 = (d.write at_ l).1 := ⟨_, rfl⟩
  obtain ⟨r, hr⟩ : ∃ r, r = (d.write at_ l).2 := ⟨_, rfl⟩
  have hn1 : Hid (d1.n = d.n) := by
    show _ = _
    rw [hd1]
    unfold St.write
    split
    · rfl
    · split
      · rfl
      · unfold St.try_
        split
        · rfl
        · split <;> rfl
  have HC1 : Hid (∀ wx, Dv wx g L d → w.heap.size < wx.heap.size → (wx.cell? ⟨w.heap.size, 1, none⟩ = some (.int .i64 at_) ∧ wx.cell? ⟨w.heap.size, 2, none⟩ = some (.string (txt l))) →
      Calls Try.prog 23 #[ptr g, .int .i64 at_, .string (txt l)] wx fun e w' => e = .returned (.int .i64 r) ∧ Moves g L d1 wx w' ∧ w'.cell? ⟨w.heap.size, 1, none⟩ = some (.int .i64 at_) ∧ w'.cell? ⟨w.heap.size, 2, none⟩ = some (.string (txt l)) ∧ (∀ e', Rf wx B gr Lr e' → Rf w' B gr Lr e') ∧ w.heap.size < w'.heap.size) := by
    intro wx hDx hlx hcx
    rw [hd1, hr]
    refine (write_any g L d at_ l wx hDx).mono ?_
    rintro e w' ⟨he, L', h1, h2, h3⟩
    have hcell : ∀ o, w'.cell? ⟨w.heap.size, o, none⟩ = wx.cell? ⟨w.heap.size, o, none⟩ := fun o => World.cell?_of_block (h2.block w.heap.size hlx HN1.out)
    exact ⟨he, ⟨L', h1, h2, h3⟩, (hcell 1).trans hcx.1, (hcell 2).trans hcx.2, fun e' hR' => hR'.keep h2 (rf_apart hR' hDx), Nat.lt_of_lt_of_le hlx h2.size⟩
  have HC2 : Hid (∀ wx, Rf wx B gr Lr d → w.heap.size < wx.heap.size → (wx.cell? ⟨w.heap.size, 1, none⟩ = some (.int .i64 at_) ∧ wx.cell? ⟨w.heap.size, 2, none⟩ = some (.string (txt l))) →
      Calls Try.prog 34 #[ptr gr, .int .i64 at_, .string (txt l)] wx fun e w' => e = .returned (.int .i64 r) ∧ (Rf w' B gr Lr d1 ∧ Keep Lr wx w') ∧ w'.cell? ⟨w.heap.size, 1, none⟩ = some (.int .i64 at_) ∧ w'.cell? ⟨w.heap.size, 2, none⟩ = some (.string (txt l)) ∧ (∀ L' e', Dv wx g L' e' → Dv w' g L' e') ∧ w.heap.size < w'.heap.size) := by
    intro wx hRx hlx hcx
    rw [hd1, hr]
    refine (rwrite_any B gr Lr d at_ l wx hRx).mono ?_
    rintro e w' ⟨he, h1, h2⟩
    have hcell : ∀ o, w'.cell? ⟨w.heap.size, o, none⟩ = wx.cell? ⟨w.heap.size, o, none⟩ := fun o => World.cell?_of_block (h2.block w.heap.size hlx HN2.out)
    exact ⟨he, ⟨h1, h2⟩, (hcell 1).trans hcx.1, (hcell 2).trans hcx.2, fun L' e' hD' => hD'.keep h2 (fun j hj hm => rf_apart hRx hD' j hm hj), Nat.lt_of_lt_of_le hlx h2.size⟩
  have hDz : Dv w0.drew g L d := hD0.out.below (Below.refl _ _).drew
  have hRz : Rf w0.drew B gr Lr d := hR0.out.below (Below.refl _ _).drew
  have hltz : w.heap.size < w0.drew.heap.size := hlt0
  have hbz : Below B w w0.drew := HB0.out.drew
  have hBw : B ≤ w0.drew.heap.size := by have := HS0.out; have := HB.out; show B ≤ w0.heap.size; omega
  clear hnL hnLr hd1 hr
  unfold ptr at *
  go_upto_region 18 with fail
  go_region_held3 (fun W => W.cell? ⟨w.heap.size, 1, none⟩ = some (.int .i64 at_) ∧ W.cell? ⟨w.heap.size, 2, none⟩ = some (.string (txt l))) ((constructor <;> assumption)) (first
    | (go_at_call 23; ((first | with_reducible refine (HC1.out _ hDz hltz ⟨q1, q2⟩).mono ?_ | with_reducible refine (HC1.out _ (hTR _ _ hDz) hlR ⟨c1R, c2R⟩).mono ?_); rintro e wD ⟨rfl, hMD, c1D, c2D, hTD, hlD⟩))
    | (go_at_call 34; ((first | with_reducible refine (HC2.out _ hRz hltz ⟨q1, q2⟩).mono ?_ | with_reducible refine (HC2.out _ (hTD _ hRz) hlD ⟨c1D, c2D⟩).mono ?_); rintro e wR ⟨rfl, hMR, c1R, c2R, hTR, hlR⟩)))
  all_goals
    go_wp2
    go_ret3
    first
      | (obtain ⟨LD, hDD, hKD, hFD⟩ := hMD
         have hlow := hFD.low hBw HL.out
         exact ⟨g, gr, d1, rfl, ⟨LD, Lr, hTR _ _ hDD, hMR.1, hlow⟩, hn1.out, Keep.below (Keep.below hbz hKD hBw HL.out) hMR.2 (Nat.le_trans hBw hKD.size) HLOW.out⟩)
      | (obtain ⟨LD, hDD, hKD, hFD⟩ := hMD
         have hBR := Nat.le_trans hBw hMR.2.size
         have hlow := hFD.low hBR HL.out
         exact ⟨g, gr, d1, rfl, ⟨LD, Lr, hDD, hTD _ hMR.1, hlow⟩, hn1.out, Keep.below (Keep.below hbz hMR.2 hBw HLOW.out) hKD hBR HL.out⟩)
/-- Every deed: the two devices stay alike. -/
theorem does_any (B g gr : Nat) (d : St) (k : Nat) (at_ : Int) (l : List UInt8) (A : Option Addr) (lost : List Int) (c : Nat) (w : World) (hP : Pair w B g gr d) (hB : B ≤ w.heap.size)
    (h1 : -9223372036854775808 ≤ at_) (h2 : at_ ≤ 9223372036854775807) (hI : IntsAt w A lost) (hm : lost.length ≤ maxLen) :
    Calls Try.prog 13 #[ptr g, ptr gr, deed k at_ l A lost c] w (DoesPost w B d.n) := by
  have hq : (k : Int) % 8 = 0 ∨ (k : Int) % 8 = 1 ∨ (k : Int) % 8 = 2 ∨ (k : Int) % 8 = 3 ∨ (k : Int) % 8 = 4 ∨ (k : Int) % 8 = 5 ∨ (k : Int) % 8 = 6 ∨ (k : Int) % 8 = 7 := by omega
  rcases hq with hq | hq | hq | hq | hq | hq | hq | hq
  · exact does_write B g gr d k at_ l A lost c w hP hB 0 hq rfl rfl rfl rfl rfl
  · exact does_write B g gr d k at_ l A lost c w hP hB 1 hq rfl rfl rfl rfl rfl
  · exact does_write B g gr d k at_ l A lost c w hP hB 2 hq rfl rfl rfl rfl rfl
  · exact does_read B g gr d k at_ l A lost c w hP hB hq
  · exact does_flush B g gr d k at_ l A lost c w hP hB hq
  · exact does_arm B g gr d k at_ l A lost c w hP hB h1 h2 hq
  · exact does_after B g gr d k at_ l A lost c w hP hB hI hm hq
  · exact does_image B g gr d k at_ l A lost c w hP hB hq
end Go.Proofs.Ytfcfclgjalofnaa
