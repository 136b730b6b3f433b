/-
  The contracts of the law's same, and of its does, the reads, flushes, arms and images.
  Conditions: named in each theorem.
-/
import Derived.Test.YtfcfclgjalofnaaRy
import Derived.Test.YtfcfclgjalofnaaOfLaw
namespace Go.Proofs.Ytfcfclgjalofnaa
open Go.RowKit Dk
set_option linter.unusedVariables false
set_option maxHeartbeats 1000000 in
set_option maxRecDepth 100000 in
theorem same_any (A A' : Option Addr) (xs : List Int) (c c' : Nat) (w : World) (h : IntsAt w A xs) (h' : IntsAt w A' xs) (hm : xs.length ≤ 4096) :
    Calls Try.prog 14 #[.slice A xs.length c, .slice A' xs.length c'] w fun e w' => e = .returned (.bool true) ∧ Below w.heap.size w w' := by
  have H := Lib.hid h
  have H' := Lib.hid h'
  clear h h'
  obtain ⟨n, hn⟩ : ∃ n, n = xs.length := ⟨_, rfl⟩
  rw [← hn]
  have HN := Lib.hid hn
  rw [← hn] at hm
  clear hn
  have hnn : (n != n) = false := by simp
  go_enter Try.func14, Try.ntmps14
  go_wp2_with fail
  go_loopw [5] (fun i wr => ∃ k : Nat, k ≤ n ∧ i = .int .i64 k ∧ Below w.heap.size w wr) (fun i _ => n - (RowKit.intOf i).toNat)
  case atStart => exact ⟨0, Nat.zero_le _, rfl, Below.refl _ _⟩
  case round =>
    obtain ⟨k, hk, rfl, hbr⟩ := hrel
    by_cases hlt : k < n
    · have hlt' : k < xs.length := by have := HN.out; omega
      obtain ⟨x, hx⟩ : ∃ x, x = xs[k] := ⟨_, rfl⟩
      have hx' : xs[k]? = some x := by rw [List.getElem?_eq_getElem hlt', hx]
      obtain ⟨hxw, ad, hAe, hadb, hadc⟩ := H.out k x hx'
      obtain ⟨_, ad', hAe', hadb', hadc'⟩ := H'.out k x hx'
      subst hAe hAe'
      have hcx : wr.cell? (ad.add k) = some (.int .i64 x) := (hbr.cell (p := ad.add k) (by rw [block_of_add]; exact hadb)).trans hadc
      have hcx' : wr.cell? (ad'.add k) = some (.int .i64 x) := (hbr.cell (p := ad'.add k) (by rw [block_of_add]; exact hadb')).trans hadc'
      have hk0 : (0 : Int) ≤ k := by omega
      have hk1 : (k : Int) < n := by omega
      have hxx : (x != x) = false := by simp
      have HB := Lib.hid hbr
      clear hx hx' hadc hadc' hbr hlt'
      go_wp2_with fail
      go_quiet (fail)
      go_wp2
      go_roundw
      case rel => exact ⟨k + 1, by omega, by go_num, ⟨HB.out.os, HB.out.tape, HB.out.output, HB.out.size, HB.out.block⟩⟩
      case measure => simp [RowKit.intOf]; omega
    · have hk' : k = n := by omega
      subst hk'
      go_wp2
      go_ret
      exact ⟨rfl, hbr⟩
theorem Dk.Dv.keep' {w w' : World} {g : Nat} {L K : List Nat} {d : St} (h : Dv w g L d) (hk : Keep K w w') (hd : ∀ k ∈ L, k ∉ K) : Dv w' g L d := h.keep hk hd
/-- The two devices, alike. -/
def Pair (w : World) (B g gr : Nat) (d : St) : Prop := ∃ L Lr, Dv w g L d ∧ Rf w B gr Lr d ∧ ∀ k ∈ L, B ≤ k
/-- What a deed is, in memory. -/
def deed (k : Nat) (at_ : Int) (l : List UInt8) (A : Option Addr) (lost : List Int) (c : Nat) : Value := .agg #[.int .u8 k, .int .i64 at_, .string (txt l), .slice A lost.length c]
def DoesPost (w : World) (B : Nat) (n : Nat) (e : Ending) (w' : World) : Prop := ∃ g' gr' d', e = .returned (.tuple #[ptr g', ptr gr', .bool true]) ∧ Pair w' B g' gr' d' ∧ d'.n = n ∧ Below B w w'
set_option maxHeartbeats 1000000 in
set_option maxRecDepth 100000 in
theorem does_read (B g gr : Nat) (d : St) (k : Nat) (at_ : Int) (l : List UInt8) (A : Option Addr) (lost : List Int) (c : Nat) (w : World) (hP : Pair w B g gr d) (hB : B ≤ w.heap.size) (hk : (k : Int) % 8 = 3) :
    Calls Try.prog 13 #[ptr g, ptr gr, deed k at_ l A lost c] w (DoesPost w B d.n) := by
  obtain ⟨L, Lr, hD, hR, hL⟩ := hP
  obtain ⟨w0, hw0⟩ : ∃ w0, w0 = w.alloc (.cells #[.int .u8 k, .int .i64 at_, .string (txt l), .slice A lost.length c] 32) := ⟨_, rfl⟩
  have hb0 : Below w.heap.size w w0 := by rw [hw0]; exact (Below.refl _ _).alloc (Nat.le_refl _) _
  have hblk : w0.heap[w.heap.size]? = some (.cells #[.int .u8 k, .int .i64 at_, .string (txt l), .slice A lost.length c] 32 (0, 0)) := by rw [hw0]; exact heap_alloc_new w _
  have q0 : w0.cell? ⟨w.heap.size, 0, none⟩ = some (.int .u8 k) := cell_of_row w0 _ 0 _ 32 (0, 0) hblk
  have q1 : w0.cell? ⟨w.heap.size, 1, none⟩ = some (.int .i64 at_) := cell_of_row w0 _ 1 _ 32 (0, 0) hblk
  have hs0 : w0.heap.size = w.heap.size + 1 := by rw [hw0]; simp
  have hD0 := Lib.hid (hD.below hb0)
  have hR0 := Lib.hid (hR.below hb0)
  have HB0 := Lib.hid (hb0.mono hB)
  have HK := Lib.hid hblk
  have HS0 := Lib.hid hs0
  have HL := Lib.hid hL
  have HB := Lib.hid hB
  have HLT := Lib.hid (fun j (hj : j ∈ L) => hD.lt j hj)
  have HLTR := Lib.hid (fun j (hj : j ∈ Lr) => hR.lt j hj)
  have HLOW := Lib.hid hR.low
  clear hb0 hblk hD hR hL hs0 hB
  unfold ptr deed
  go_enter Try.func13, Try.ntmps13
  go_upto_region 1 with fail
  refine wp_at (w := w0) hw0.symm ?_
  clear hw0
  have HC1 := Lib.hid (read_any g L d at_ w0 hD0.out)
  have HC2 := Lib.hid (fun wx (hx : Below w0.heap.size w0 wx) => rread_any B gr Lr d at_ wx (hR0.out.below hx))
  unfold ptr at *
  go_wp2_with fail
  refine HC1.out.mono ?_
  rintro e w1 ⟨rfl, hb1⟩
  have q1' : w1.cell? ⟨w.heap.size, 1, none⟩ = some (.int .i64 at_) := (hb1.cell (p := ⟨w.heap.size, 1, none⟩) (by have := HS0.out; show w.heap.size < _; omega)).trans q1
  go_wp2_with fail
  refine (HC2.out w1 hb1).mono ?_
  rintro e w2 ⟨rfl, rfl⟩
  go_wp2
  go_ret3
  exact ⟨g, gr, d, rfl, ⟨L, Lr, hD0.out.below hb1, hR0.out.below hb1, HL.out⟩, rfl, HB0.out.trans (hb1.mono (by have := HS0.out; have := HB.out; omega))⟩
set_option maxHeartbeats 1000000 in
set_option maxRecDepth 100000 in
theorem does_flush (B g gr : Nat) (d : St) (k : Nat) (at_ : Int) (l : List UInt8) (A : Option Addr) (lost : List Int) (c : Nat) (w : World) (hP : Pair w B g gr d) (hB : B ≤ w.heap.size) (hk : (k : Int) % 8 = 4) :
    Calls Try.prog 13 #[ptr g, ptr gr, deed k at_ l A lost c] w (DoesPost w B d.n) := by
  obtain ⟨L, Lr, hD, hR, hL⟩ := hP
  obtain ⟨w0, hw0⟩ : ∃ w0, w0 = w.alloc (.cells #[.int .u8 k, .int .i64 at_, .string (txt l), .slice A lost.length c] 32) := ⟨_, rfl⟩
  have hb0 : Below w.heap.size w w0 := by rw [hw0]; exact (Below.refl _ _).alloc (Nat.le_refl _) _
  have hblk : w0.heap[w.heap.size]? = some (.cells #[.int .u8 k, .int .i64 at_, .string (txt l), .slice A lost.length c] 32 (0, 0)) := by rw [hw0]; exact heap_alloc_new w _
  have q0 : w0.cell? ⟨w.heap.size, 0, none⟩ = some (.int .u8 k) := cell_of_row w0 _ 0 _ 32 (0, 0) hblk
  have q1 : w0.cell? ⟨w.heap.size, 1, none⟩ = some (.int .i64 at_) := cell_of_row w0 _ 1 _ 32 (0, 0) hblk
  have hs0 : w0.heap.size = w.heap.size + 1 := by rw [hw0]; simp
  have hD0 := Lib.hid (hD.below hb0)
  have hR0 := Lib.hid (hR.below hb0)
  have HB0 := Lib.hid (hb0.mono hB)
  have HK := Lib.hid hblk
  have HS0 := Lib.hid hs0
  have HL := Lib.hid hL
  have HB := Lib.hid hB
  have HLT := Lib.hid (fun j (hj : j ∈ L) => hD.lt j hj)
  have HLTR := Lib.hid (fun j (hj : j ∈ Lr) => hR.lt j hj)
  have HLOW := Lib.hid hR.low
  clear hb0 hblk hD hR hL hs0 hB
  unfold ptr deed
  go_enter Try.func13, Try.ntmps13
  go_upto_region 1 with fail
  refine wp_at (w := w0) hw0.symm ?_
  clear hw0
  have HC1 := Lib.hid (flush_any g L d w0 hD0.out)
  unfold ptr at *
  go_wp2_with fail
  refine HC1.out.mono ?_
  rintro e w1 ⟨rfl, L1, hD1, hK1, hF1⟩
  have hR1 := hR0.out.keep hK1 (rf_apart hR0.out hD0.out)
  have hap : ∀ j ∈ L1, j ∉ Lr := fun j hj hm => rf_apart hR1 hD1 j hm hj
  have hb1 : Below B w w1 := Keep.below HB0.out hK1 (by have := HS0.out; have := HB.out; omega) HL.out
  have hL1 : ∀ j ∈ L1, B ≤ j := hF1.low (by have := HS0.out; have := HB.out; omega) HL.out
  have HC2 := Lib.hid (rflush_any B gr Lr d w1 hR1)
  unfold ptr at *
  go_wp2_with fail
  refine HC2.out.mono ?_
  rintro e w2 ⟨rfl, hR2, hK2⟩
  have hb2 : Below B w w2 := Keep.below hb1 hK2 (by have := HS0.out; have := HB.out; have := hK1.size; omega) HLOW.out
  go_wp2
  go_ret3
  exact ⟨g, gr, d.flush.1, rfl, ⟨L1, Lr, hD1.keep hK2 hap, hR2, hL1⟩, by unfold St.flush St.try_; split; rfl; split; rfl; rfl, hb2⟩
set_option maxHeartbeats 1000000 in
set_option maxRecDepth 100000 in
theorem does_arm (B g gr : Nat) (d : St) (k : Nat) (at_ : Int) (l : List UInt8) (A : Option Addr) (lost : List Int) (c : Nat) (w : World) (hP : Pair w B g gr d) (hB : B ≤ w.heap.size) (h1 : -9223372036854775808 ≤ at_) (h2 : at_ ≤ 9223372036854775807) (hk : (k : Int) % 8 = 5) :
    Calls Try.prog 13 #[ptr g, ptr gr, deed k at_ l A lost c] w (DoesPost w B d.n) := by
  obtain ⟨L, Lr, hD, hR, hL⟩ := hP
  obtain ⟨w0, hw0⟩ : ∃ w0, w0 = w.alloc (.cells #[.int .u8 k, .int .i64 at_, .string (txt l), .slice A lost.length c] 32) := ⟨_, rfl⟩
  have hb0 : Below w.heap.size w w0 := by rw [hw0]; exact (Below.refl _ _).alloc (Nat.le_refl _) _
  have hblk : w0.heap[w.heap.size]? = some (.cells #[.int .u8 k, .int .i64 at_, .string (txt l), .slice A lost.length c] 32 (0, 0)) := by rw [hw0]; exact heap_alloc_new w _
  have q0 : w0.cell? ⟨w.heap.size, 0, none⟩ = some (.int .u8 k) := cell_of_row w0 _ 0 _ 32 (0, 0) hblk
  have q1 : w0.cell? ⟨w.heap.size, 1, none⟩ = some (.int .i64 at_) := cell_of_row w0 _ 1 _ 32 (0, 0) hblk
  have hs0 : w0.heap.size = w.heap.size + 1 := by rw [hw0]; simp
  have hD0 := Lib.hid (hD.below hb0)
  have hR0 := Lib.hid (hR.below hb0)
  have HB0 := Lib.hid (hb0.mono hB)
  have HK := Lib.hid hblk
  have HS0 := Lib.hid hs0
  have HL := Lib.hid hL
  have HB := Lib.hid hB
  have HLT := Lib.hid (fun j (hj : j ∈ L) => hD.lt j hj)
  have HLTR := Lib.hid (fun j (hj : j ∈ Lr) => hR.lt j hj)
  have HLOW := Lib.hid hR.low
  clear hb0 hblk hD hR hL hs0 hB
  unfold ptr deed
  go_enter Try.func13, Try.ntmps13
  go_upto_region 1 with fail
  refine wp_at (w := w0) hw0.symm ?_
  clear hw0
  have HC1 := Lib.hid (arm_any g L d at_ w0 hD0.out h1 h2)
  unfold ptr at *
  go_wp2_with fail
  refine HC1.out.mono ?_
  rintro e w1 ⟨rfl, L1, hD1, hK1, hF1⟩
  have hR1 := hR0.out.keep hK1 (rf_apart hR0.out hD0.out)
  have hap : ∀ j ∈ L1, j ∉ Lr := fun j hj hm => rf_apart hR1 hD1 j hm hj
  have hb1 : Below B w w1 := Keep.below HB0.out hK1 (by have := HS0.out; have := HB.out; omega) HL.out
  have hL1 : ∀ j ∈ L1, B ≤ j := hF1.low (by have := HS0.out; have := HB.out; omega) HL.out
  have q1' : w1.cell? ⟨w.heap.size, 1, none⟩ = some (.int .i64 at_) := cell_of_row w1 _ 1 _ 32 (0, 0) ((hK1.block w.heap.size (by have := HS0.out; omega) (fun hm => by have := HLT.out _ hm; omega)).trans HK.out)
  have HC2 := Lib.hid (rarm_any B gr Lr d at_ w1 hR1 h1 h2)
  unfold ptr at *
  go_wp2_with fail
  refine HC2.out.mono ?_
  rintro e w2 ⟨rfl, hR2, hK2⟩
  have hb2 : Below B w w2 := Keep.below hb1 hK2 (by have := HS0.out; have := HB.out; have := hK1.size; omega) HLOW.out
  go_wp2
  go_ret3
  exact ⟨g, gr, d.arm at_, rfl, ⟨L1, Lr, hD1.keep hK2 hap, hR2, hL1⟩, rfl, hb2⟩
set_option maxHeartbeats 1000000 in
set_option maxRecDepth 100000 in
theorem does_image (B g gr : Nat) (d : St) (k : Nat) (at_ : Int) (l : List UInt8) (A : Option Addr) (lost : List Int) (c : Nat) (w : World) (hP : Pair w B g gr d) (hB : B ≤ w.heap.size) (hk : (k : Int) % 8 = 7) :
    Calls Try.prog 13 #[ptr g, ptr gr, deed k at_ l A lost c] w (DoesPost w B d.n) := by
  obtain ⟨L, Lr, hD, hR, hL⟩ := hP
  obtain ⟨w0, hw0⟩ : ∃ w0, w0 = w.alloc (.cells #[.int .u8 k, .int .i64 at_, .string (txt l), .slice A lost.length c] 32) := ⟨_, rfl⟩
  have hb0 : Below w.heap.size w w0 := by rw [hw0]; exact (Below.refl _ _).alloc (Nat.le_refl _) _
  have hblk : w0.heap[w.heap.size]? = some (.cells #[.int .u8 k, .int .i64 at_, .string (txt l), .slice A lost.length c] 32 (0, 0)) := by rw [hw0]; exact heap_alloc_new w _
  have q0 : w0.cell? ⟨w.heap.size, 0, none⟩ = some (.int .u8 k) := cell_of_row w0 _ 0 _ 32 (0, 0) hblk
  have q1 : w0.cell? ⟨w.heap.size, 1, none⟩ = some (.int .i64 at_) := cell_of_row w0 _ 1 _ 32 (0, 0) hblk
  have hs0 : w0.heap.size = w.heap.size + 1 := by rw [hw0]; simp
  have hD0 := Lib.hid (hD.below hb0)
  have hR0 := Lib.hid (hR.below hb0)
  have HB0 := Lib.hid (hb0.mono hB)
  have HK := Lib.hid hblk
  have HS0 := Lib.hid hs0
  have HL := Lib.hid hL
  have HB := Lib.hid hB
  have HLT := Lib.hid (fun j (hj : j ∈ L) => hD.lt j hj)
  have HLTR := Lib.hid (fun j (hj : j ∈ Lr) => hR.lt j hj)
  have HLOW := Lib.hid hR.low
  clear hb0 hblk hD hR hL hs0 hB
  unfold ptr deed
  go_enter Try.func13, Try.ntmps13
  go_upto_region 1 with fail
  refine wp_at (w := w0) hw0.symm ?_
  clear hw0
  have ho := hD0.out.1
  have HIL := Lib.hid (image_length ho)
  have hn1 := ho.n1
  have hn2 := ho.n2
  have HC1 := Lib.hid (image_any g L d w0 hD0.out)
  have HC3 := Lib.hid (fun wx (hx : Below w0.heap.size w0 wx) => rimage_any B gr Lr d wx (hR0.out.below hx))
  obtain ⟨im, him⟩ : ∃ im, im = d.image := ⟨_, rfl⟩
  rw [← him] at HIL HC1 HC3
  clear ho him
  unfold ptr at *
  go_wp2_with fail
  refine HC1.out.mono ?_
  rintro e w1 ⟨rfl, hb1⟩
  go_wp2_with fail
  refine (of_yes im d.n w1 HIL.out hn1 hn2).mono ?_
  rintro e w2 ⟨g', L', rfl, hD2, hL2, hb2⟩
  have hb02 : Below w0.heap.size w0 w2 := hb1.trans (hb2.mono hb1.size)
  unfold ptr at *
  go_wp2_with fail
  refine (HC3.out w2 hb02).mono ?_
  rintro e w2' ⟨rfl, rfl⟩
  go_wp2_with fail
  refine (rof_yes im d.n w2 HIL.out hn1 hn2).mono ?_
  rintro e w3 ⟨gr', Lr', rfl, hR3, hb3⟩
  have hb03 : Below w0.heap.size w0 w3 := hb02.trans (hb3.mono hb02.size)
  have hBw : B ≤ w0.heap.size := by have := HS0.out; have := HB.out; omega
  have hfin := HB0.out.trans (hb03.mono hBw)
  unfold ptr at *
  go_wp2
  go_ret3
  exact ⟨g', gr', _, rfl, ⟨L', Lr', hD2.below hb3, hR3.base (Nat.le_trans hBw hb02.size), fun j hj => Nat.le_trans (Nat.le_trans hBw hb1.size) (hL2 j hj)⟩, rfl, hfin⟩
end Go.Proofs.Ytfcfclgjalofnaa
