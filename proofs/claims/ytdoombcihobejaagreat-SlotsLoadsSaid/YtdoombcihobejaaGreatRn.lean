/-
  The contracts of the document's own New and Of.
  Conditions: named in each theorem.
-/
import Derived.Test.YtdoombcihobejaaGreatRf
import Derived.Deep.RegionLaw
import Derived.Deep.CutRange
namespace Go.Proofs.YtdoombcihobejaaGreat
open Go.RowKit Dk
set_option linter.unusedVariables false
theorem rnew_no (n : Int) (w : World) (h : n < 1 ∨ 4096 < n) :
    Calls Tryz.prog 6 #[.int .i64 n] w fun e w' => e = .returned (.pointer none) ∧ w = w' := by
  by_cases h0 : n < 1
  · clear h
    have h0' : decide (n < 1) = true := decide_eq_true h0
    go_enter Tryz.func6, Tryz.ntmps6
    go_wp2
    go_ret
    exact ⟨rfl, rfl⟩
  · have h1 : 4096 < n := by omega
    clear h
    have h0' : decide (n < 1) = false := decide_eq_false h0
    go_enter Tryz.func6, Tryz.ntmps6
    go_wp2
    go_ret
    exact ⟨rfl, rfl⟩
def zV (_ : Nat) : Value := .string (txt zsec)
def fV (_ : Nat) : Value := .bool false
/-- The document's own device half made. -/
structure Mid (w : World) (B : Nat) (v1 v2 v3 : Value) (k1 k2 k3 : Nat) : Prop where
  blk : w.heap[B]? = some (.cells #[v1, v2, v3, .int .i64 (-1), .bool false] 66 (0, 0))
  r1 : w.ownsRow B 9 1 v1 k1 (rowV zV k1)
  r2 : w.ownsRow B 9 1 v2 k2 (rowV zV k2)
  r3 : w.ownsRow B 4 1 v3 k3 (rowV fV k3)
  ap : ∀ k, v1.ownBlock = some k → v2.ownBlock ≠ some k
section
variable {w w' : World} {B : Nat} {v1 v2 v3 : Value} {k1 k2 k3 : Nat}
theorem Mid.ne1 (h : Mid w B v1 v2 v3 k1 k2 k3) : v1.ownBlock ≠ some B := fun e => by
  obtain ⟨cur, hh⟩ := own_heap h.r1 e
  have := hh.symm.trans h.blk; simp at this
theorem Mid.ne2 (h : Mid w B v1 v2 v3 k1 k2 k3) : v2.ownBlock ≠ some B := fun e => by
  obtain ⟨cur, hh⟩ := own_heap h.r2 e
  have := hh.symm.trans h.blk; simp at this
theorem Mid.ne3 (h : Mid w B v1 v2 v3 k1 k2 k3) : v3.ownBlock ≠ some B := fun e => by
  obtain ⟨cur, hh⟩ := own_heap h.r3 e
  have := hh.symm.trans h.blk; simp at this
theorem own_ne {e e' s n s' n' k : Nat} {v v' : Value} {xs xs' : List Value} {B' : Nat} (h : w.ownsRow B e s v n xs) (h' : w.ownsRow B' e' s' v' n' xs') (hne : e ≠ e') (hk : v.ownBlock = some k) : v'.ownBlock ≠ some k := fun e1 => by
  obtain ⟨cur, hh⟩ := own_heap h hk
  obtain ⟨cur', hh'⟩ := own_heap h' e1
  have := hh.symm.trans hh'
  simp only [Option.some.injEq, Obj.cells.injEq] at this
  exact hne this.2.1
theorem Mid.below (h : Mid w B v1 v2 v3 k1 k2 k3) (hb : Below w.heap.size w w') : Mid w' B v1 v2 v3 k1 k2 k3 :=
  ⟨(hb.block B (lt_of_heap h.blk)).trans h.blk, row_of_heap h.r1 (fun k hk => hb.block k (h.r1.lt k hk).2), row_of_heap h.r2 (fun k hk => hb.block k (h.r2.lt k hk).2), row_of_heap h.r3 (fun k hk => hb.block k (h.r3.lt k hk).2), h.ap⟩
/-- Behind an append to the first row, and its store. -/
theorem Mid.now {g cap : Nat} (h : Mid w B v1 v2 v3 k1 k2 k3) (hg : w.grownBy w' v1.ownBlock) (ho : w'.ownsRow B 9 1 (.slice (some ⟨g, 0, none⟩) (k1 + 1) cap) (k1 + 1) (rowV zV k1 ++ [.string (txt zsec)])) (hat : v1.ownBlock = some g ∨ w.heap.size ≤ g) :
    Mid (w'.setCell ⟨B, 0, none⟩ (.slice (some ⟨g, 0, none⟩) (k1 + 1) cap)) B (.slice (some ⟨g, 0, none⟩) (k1 + 1) cap) v2 v3 (k1 + 1) k2 k3 := by
  have hB := lt_of_heap h.blk
  have hgB : g ≠ B := by
    rcases hat with e | e
    · rintro rfl; exact h.ne1 e
    · omega
  have so : ∀ k, k ≠ B → (w'.setCell ⟨B, 0, none⟩ (.slice (some ⟨g, 0, none⟩) (k1 + 1) cap)).heap[k]? = w'.heap[k]? := fun k hk => heap_setCell_other w' ⟨B, 0, none⟩ k _ hk
  refine ⟨?_, ?_, ?_, ?_, ?_⟩
  · exact heap_setCell_same w' B 0 _ 66 _ ((hg.block B hB (fun e => h.ne1 e.symm)).trans h.blk)
  · rw [rowV_succ]
    refine row_of_heap ho (fun k hk => so k ?_)
    have : g = k := by simpa [Value.ownBlock] using hk
    omega
  · refine row_of_heap h.r2 (fun k hk => (so k (fun e => h.ne2 (e ▸ hk))).trans (hg.block k (h.r2.lt k hk).2 (fun e => h.ap k e.symm hk)))
  · refine row_of_heap h.r3 (fun k hk => (so k (fun e => h.ne3 (e ▸ hk))).trans (hg.block k (h.r3.lt k hk).2 (fun e => own_ne h.r1 h.r3 (by decide) e.symm hk)))
  · intro k hk hk2
    have e : g = k := by simpa [Value.ownBlock] using hk
    subst e
    rcases hat with e | e
    · exact h.ap g e hk2
    · have := (h.r2.lt g hk2).2; omega
/-- Behind an append to the second row, and its store. -/
theorem Mid.old {g cap : Nat} (h : Mid w B v1 v2 v3 k1 k2 k3) (hg : w.grownBy w' v2.ownBlock) (ho : w'.ownsRow B 9 1 (.slice (some ⟨g, 0, none⟩) (k2 + 1) cap) (k2 + 1) (rowV zV k2 ++ [.string (txt zsec)])) (hat : v2.ownBlock = some g ∨ w.heap.size ≤ g) :
    Mid (w'.setCell ⟨B, 1, none⟩ (.slice (some ⟨g, 0, none⟩) (k2 + 1) cap)) B v1 (.slice (some ⟨g, 0, none⟩) (k2 + 1) cap) v3 k1 (k2 + 1) k3 := by
  have hB := lt_of_heap h.blk
  have hgB : g ≠ B := by
    rcases hat with e | e
    · rintro rfl; exact h.ne2 e
    · omega
  have so : ∀ k, k ≠ B → (w'.setCell ⟨B, 1, none⟩ (.slice (some ⟨g, 0, none⟩) (k2 + 1) cap)).heap[k]? = w'.heap[k]? := fun k hk => heap_setCell_other w' ⟨B, 1, none⟩ k _ hk
  refine ⟨?_, ?_, ?_, ?_, ?_⟩
  · exact heap_setCell_same w' B 1 _ 66 _ ((hg.block B hB (fun e => h.ne2 e.symm)).trans h.blk)
  · refine row_of_heap h.r1 (fun k hk => (so k (fun e => h.ne1 (e ▸ hk))).trans (hg.block k (h.r1.lt k hk).2 (fun e => h.ap k hk e.symm)))
  · rw [rowV_succ]
    refine row_of_heap ho (fun k hk => so k ?_)
    have : g = k := by simpa [Value.ownBlock] using hk
    omega
  · refine row_of_heap h.r3 (fun k hk => (so k (fun e => h.ne3 (e ▸ hk))).trans (hg.block k (h.r3.lt k hk).2 (fun e => own_ne h.r2 h.r3 (by decide) e.symm hk)))
  · intro k hk hk2
    have e : g = k := by simpa [Value.ownBlock] using hk2
    subst e
    rcases hat with e | e
    · exact h.ap g hk e
    · have := (h.r1.lt g hk).2; omega
/-- Behind an append to the third row, and its store. -/
theorem Mid.wait {g cap : Nat} (h : Mid w B v1 v2 v3 k1 k2 k3) (hg : w.grownBy w' v3.ownBlock) (ho : w'.ownsRow B 4 1 (.slice (some ⟨g, 0, none⟩) (k3 + 1) cap) (k3 + 1) (rowV fV k3 ++ [.bool false])) (hat : v3.ownBlock = some g ∨ w.heap.size ≤ g) :
    Mid (w'.setCell ⟨B, 2, none⟩ (.slice (some ⟨g, 0, none⟩) (k3 + 1) cap)) B v1 v2 (.slice (some ⟨g, 0, none⟩) (k3 + 1) cap) k1 k2 (k3 + 1) := by
  have hB := lt_of_heap h.blk
  have hgB : g ≠ B := by
    rcases hat with e | e
    · rintro rfl; exact h.ne3 e
    · omega
  have so : ∀ k, k ≠ B → (w'.setCell ⟨B, 2, none⟩ (.slice (some ⟨g, 0, none⟩) (k3 + 1) cap)).heap[k]? = w'.heap[k]? := fun k hk => heap_setCell_other w' ⟨B, 2, none⟩ k _ hk
  refine ⟨?_, ?_, ?_, ?_, h.ap⟩
  · exact heap_setCell_same w' B 2 _ 66 _ ((hg.block B hB (fun e => h.ne3 e.symm)).trans h.blk)
  · refine row_of_heap h.r1 (fun k hk => (so k (fun e => h.ne1 (e ▸ hk))).trans (hg.block k (h.r1.lt k hk).2 (fun e => own_ne h.r3 h.r1 (by decide) e.symm hk)))
  · refine row_of_heap h.r2 (fun k hk => (so k (fun e => h.ne2 (e ▸ hk))).trans (hg.block k (h.r2.lt k hk).2 (fun e => own_ne h.r3 h.r2 (by decide) e.symm hk)))
  · rw [rowV_succ]
    refine row_of_heap ho (fun k hk => so k ?_)
    have : g = k := by simpa [Value.ownBlock] using hk
    omega
end
set_option maxHeartbeats 4000000 in
set_option maxRecDepth 100000 in
theorem rnew_yes (n : Nat) (w : World) (h1 : 1 ≤ n) (h2 : n ≤ 4096) :
    Calls Tryz.prog 6 #[.int .i64 n] w fun e w' => ∃ gr L, e = .returned (ptr gr) ∧ Rf w' w.heap.size gr L (St.fresh n (fun _ => zsec)) ∧ Below w.heap.size w w' := by
  obtain ⟨i0, hi, hz0, hz1, hz2⟩ := info_parts Tryz.info5
  obtain ⟨i9, hi9, hz90, hz91, hz92⟩ := info_parts Tryz.info9
  obtain ⟨i4, hi4, hz40, hz41, hz42⟩ := info_parts Tryz.info4
  have h0' : decide ((n : Int) < 1) = false := decide_eq_false (by omega)
  have h1' : decide (4096 < (n : Int)) = false := decide_eq_false (by omega)
  go_enter Tryz.func6, Tryz.ntmps6
  go_wp2_with fail
  have hblk0 : (w.alloc (.cells #[.slice none 0 0, .slice none 0 0, .slice none 0 0, .int .i64 (-1), .bool false] 66)).heap[w.heap.size]? = _ := heap_alloc_new w _
  go_loopw [4] (fun i wr => ∃ (k : Nat) (v1 v2 v3 : Value), k ≤ n ∧ i = .int .i64 k ∧ Mid wr w.heap.size v1 v2 v3 k k k ∧ Below w.heap.size w wr) (fun i _ => n - (RowKit.intOf i).toNat)
  case atStart =>
    exact ⟨0, _, _, _, by omega, rfl, ⟨hblk0, World.ownsRow_nil _ _ _ _, World.ownsRow_nil _ _ _ _, World.ownsRow_nil _ _ _ _, fun k hk => by simp [Value.ownBlock] at hk⟩, (Below.refl _ _).alloc (Nat.le_refl _) _⟩
  case round =>
    obtain ⟨k, v1, v2, v3, hk, rfl, hA, hbr⟩ := hrel
    by_cases hlt : k < n
    · -- a sector of zeros as a text
      have hlB : w.heap.size < wr.heap.size := lt_of_heap hA.blk
      obtain ⟨M, hM⟩ : ∃ M, M = (Lib.byteCells zsec).toArray := ⟨_, rfl⟩
      have hmk : (Instr.makeSlice 67 (.int .i64 64) (.int .i64 64)).run Tryz.prog wr.drew = .ok (.slice (some ⟨wr.heap.size, 0, none⟩) 64 64) (wr.alloc (.cells M 5)).drew := by
        have h1 := run_make (P := Tryz.prog) wr.drew 67 5 i0 (.int .u8 0) Tryz.underlying67 hi hz0 .i64 .i64 64 64 (by omega) (by omega) (by rw [hz2]; omega) (by omega)
        have e : madeCells (Value.int .u8 0).cells ((64 : Int).toNat * i0.size) = M := by
          rw [hM, hz1]
          apply Array.ext'
          have h2 := toList_madeCells_one (Value.int .u8 0) 64
          show (madeCells #[Value.int IntKind.u8 0] 64).toList = _
          rw [h2]
          simp [Lib.byteCells, zsec]
        rw [e] at h1
        exact h1
      have hcv : (convert 67 9 (.slice (some ⟨wr.heap.size, 0, none⟩) 64 64)).run Tryz.prog (wr.alloc (.cells M 5)).drew = .ok (.string (txt zsec)) (wr.alloc (.cells M 5)).drew := by
        refine conv_sec zsec_length (fun j u hu => ?_)
        have hh : (wr.alloc (.cells M 5)).drew.heap[wr.heap.size]? = some (.cells M 5 (0, 0)) := heap_alloc_new wr _
        rw [cell_of_row _ _ _ _ 5 (0, 0) hh, Nat.zero_add, hM]
        simpa using hu
      have hcv2 : (convert 67 9 (.slice (some ⟨wr.heap.size, 0, none⟩) 64 64)).run Tryz.prog (wr.alloc (.cells M 5)).drew = .ok (.string (txt zsec)) (wr.alloc (.cells M 5)).drew := hcv
      obtain ⟨w2, hw2⟩ : ∃ w2, w2 = ((wr.alloc (.cells M 5)).alloc (.cells #[.string (txt zsec)] 9)).drew := ⟨_, rfl⟩
      have hb2 : Below wr.heap.size wr w2 := by rw [hw2]; exact (((Below.refl _ wr).alloc (Nat.le_refl _) _).alloc (by simp) _).drew
      have hb1 : Below wr.heap.size wr (wr.alloc (.cells M 5)).drew := ((Below.refl _ wr).alloc (Nat.le_refl _) _).drew
      have hA2 : Mid w2 w.heap.size v1 v2 v3 k k k := hA.below hb2
      have hnews : ∀ j u, [Value.string (txt zsec)][j]? = some u → w2.cell? ((⟨wr.heap.size + 1, 0, none⟩ : Addr).add j) = some u := fun j u hu => by
        rw [hw2]
        have h1 := cell_one_new (wr.alloc (.cells M 5)) (.string (txt zsec)) 9 j u hu
        rw [World.size_alloc] at h1
        exact h1
      have hs2 : w2.heap.size = wr.heap.size + 2 := by rw [hw2]; simp
      have c0 : wr.drew.cell? ⟨w.heap.size, 0, none⟩ = some v1 := cell_of_row wr.drew w.heap.size 0 _ 66 (0, 0) hA.blk
      have q1 : (wr.alloc (.cells M 5)).drew.cell? ⟨w.heap.size, 0, none⟩ = some v1 := (hb1.cell (p := ⟨w.heap.size, 0, none⟩) hlB).trans c0
      have q2 : ((wr.alloc (.cells M 5)).alloc (.cells #[.string (txt zsec)] 9)).drew.cell? ⟨w.heap.size, 0, none⟩ = some v1 := by rw [← hw2]; exact (hb2.cell (p := ⟨w.heap.size, 0, none⟩) hlB).trans c0
      have f2 : w2.frozen? ⟨w.heap.size, 0, none⟩ = false := frozen_of_row w2 w.heap.size 0 _ 66 hA2.blk
      have HA2 := Lib.hid hA2
      have HB := Lib.hid hbr
      have HB2 := Lib.hid hb2
      have HS2 := Lib.hid hs2
      have HN := Lib.hid hnews
      have Q2 := Lib.hid q2
      have F2 := Lib.hid f2
      have HW2 := Lib.hid hw2
      clear hA hbr hblk0 hM hw2 hb2 hnews hA2 hs2 hb1 f2 hcv2
      go_upto_region 7 with fail
      go_cut [13] from 13 to 53 (fun s13 wx => s13 = s13 ∧ ∃ u1, Mid wx w.heap.size u1 v2 v3 (k + 1) k k ∧ Below w.heap.size w wx)
      case first =>
        go_region_law ((refine step_append_lies _ (by rfl) _ _ 63 (by rfl) w.heap.size 9 i9 (.string ⟨#[]⟩) 1 16 Tryz.underlying63 hi9 hz90 hz91 hz92 (by rfl) (by omega) v1 k (rowV zV k) (by rfl) (by rw [← HW2.out]; exact HA2.out.r1) ⟨wr.heap.size + 1, 0, none⟩ 1 1 [.string (txt zsec)] (by rfl) rfl (by rw [← HW2.out]; exact HN.out) (fun u hu => by simp at hu; subst hu; rfl) (by omega) (by unfold maxLen; omega) (by omega) (by rw [← HW2.out, HS2.out]; omega) (wr.heap.size + 2) (by rw [← HW2.out, HS2.out]) ?_; intro g cap w4 hown4 hgrow hat hlt4; rw [← HW2.out] at hgrow; have d0 : w4.cell? ⟨w.heap.size, 0, none⟩ = some v1 := World.grownBy.cell hgrow (by rw [HW2.out]; exact Q2.out) (fun e => HA2.out.ne1 e.symm); have g0 : w4.frozen? ⟨w.heap.size, 0, none⟩ = false := (World.frozen?_of_block (hgrow.block _ (lt_of_heap HA2.out.blk) (fun e => HA2.out.ne1 e.symm))).trans F2.out))
        all_goals
          go_wp2_with fail
          go_meet
          exact ⟨trivial, _, HA2.out.now hgrow hown4 (hat.imp id (fun e => by have := HS2.out; omega)), ((HB.out.trans (HB2.out.mono (by omega))).grown hgrow (by have := HS2.out; omega) (fun j hj => (HA2.out.r1.lt j hj).1)).setCell (p := ⟨w.heap.size, 0, none⟩) (Nat.le_refl _) _⟩
      case rest =>
        obtain ⟨_, u1, hA, hbr⟩ := hcut
        clear HA2 HB HB2 HS2 HN Q2 F2 HW2 hmk hcv c0 q1 q2
        have hlC : w.heap.size < wc.heap.size := lt_of_heap hA.blk
        obtain ⟨g1, cap1, rfl, hg1⟩ := hA.r1.form (by omega)
        have hbw : Below wc.heap.size wc (wc.alloc (.cells #[.string (txt zsec)] 9)).drew := ((Below.refl _ wc).alloc (Nat.le_refl _) _).drew
        obtain ⟨w2, hw2⟩ : ∃ w2, w2 = (wc.alloc (.cells #[.string (txt zsec)] 9)).drew := ⟨_, rfl⟩
        have hb2 : Below wc.heap.size wc w2 := by rw [hw2]; exact hbw
        have hA2 := hA.below hb2
        have hnews : ∀ j u, [Value.string (txt zsec)][j]? = some u → w2.cell? ((⟨wc.heap.size, 0, none⟩ : Addr).add j) = some u := fun j u hu => by
          rw [hw2]
          exact cell_one_new wc (.string (txt zsec)) 9 j u hu
        have hs2 : w2.heap.size = wc.heap.size + 1 := by rw [hw2]; simp
        have c0 : wc.drew.cell? ⟨w.heap.size, 0, none⟩ = some (.slice (some ⟨g1, 0, none⟩) (k + 1) cap1) := cell_of_row wc.drew w.heap.size 0 _ 66 (0, 0) hA.blk
        have c1 : wc.drew.cell? ⟨w.heap.size, 1, none⟩ = some v2 := cell_of_row wc.drew w.heap.size 1 _ 66 (0, 0) hA.blk
        have q1 : (wc.alloc (.cells #[.string (txt zsec)] 9)).drew.cell? ⟨w.heap.size, 1, none⟩ = some v2 := (hbw.cell (p := ⟨w.heap.size, 1, none⟩) hlC).trans c1
        have cz : wc.drew.cell? ⟨g1, k, none⟩ = some (.string (txt zsec)) := by
          have h1 := hA.r1.cellAt k (by omega)
          rw [rowV_get zV (k + 1) k (by omega)] at h1
          exact h1
        have f2 : w2.frozen? ⟨w.heap.size, 1, none⟩ = false := frozen_of_row w2 w.heap.size 1 _ 66 hA2.blk
        have hk0 : (0 : Int) ≤ k := by omega
        have hk1 : (k : Int) < (k : Int) + 1 := by omega
        have HA2 := Lib.hid hA2
        have HB := Lib.hid hbr
        have HB2 := Lib.hid hb2
        have HS2 := Lib.hid hs2
        have HN := Lib.hid hnews
        have Q2 := Lib.hid q1
        have F2 := Lib.hid f2
        have HW2 := Lib.hid hw2
        clear hA hbr hw2 hb2 hnews hA2 hs2 f2 hbw
        go_upto_region 8 with fail
        go_cut [13] from 13 to 53 (fun s13 wx => s13 = s13 ∧ ∃ u1 u2, Mid wx w.heap.size u1 u2 v3 (k + 1) (k + 1) k ∧ Below w.heap.size w wx)
        case first =>
          go_region_law ((refine step_append_lies _ (by rfl) _ _ 63 (by rfl) w.heap.size 9 i9 (.string ⟨#[]⟩) 1 16 Tryz.underlying63 hi9 hz90 hz91 hz92 (by rfl) (by omega) v2 k (rowV zV k) (by rfl) (by rw [← HW2.out]; exact HA2.out.r2) ⟨wc.heap.size, 0, none⟩ 1 1 [.string (txt zsec)] (by rfl) rfl (by rw [← HW2.out]; exact HN.out) (fun u hu => by simp at hu; subst hu; rfl) (by omega) (by unfold maxLen; omega) (by omega) (by rw [← HW2.out, HS2.out]; omega) (wc.heap.size + 1) (by rw [← HW2.out, HS2.out]) ?_; intro g cap w4 hown4 hgrow hat hlt4; rw [← HW2.out] at hgrow; have d0 : w4.cell? ⟨w.heap.size, 1, none⟩ = some v2 := World.grownBy.cell hgrow (by rw [HW2.out]; exact Q2.out) (fun e => HA2.out.ne2 e.symm); have g0 : w4.frozen? ⟨w.heap.size, 1, none⟩ = false := (World.frozen?_of_block (hgrow.block _ (lt_of_heap HA2.out.blk) (fun e => HA2.out.ne2 e.symm))).trans F2.out))
          all_goals
            go_wp2_with fail
            go_meet
            exact ⟨trivial, _, _, HA2.out.old hgrow hown4 (hat.imp id (fun e => by have := HS2.out; omega)), ((HB.out.trans (HB2.out.mono (by omega))).grown hgrow (by have := HS2.out; omega) (fun j hj => (HA2.out.r2.lt j hj).1)).setCell (p := ⟨w.heap.size, 1, none⟩) (Nat.le_refl _) _⟩
        case rest =>
          obtain ⟨_, u1, u2, hA, hbr⟩ := hcut
          clear HA2 HB HB2 HS2 HN Q2 F2 HW2 c0 c1 q1 cz hg1
          have hlD : w.heap.size < wc.heap.size := lt_of_heap hA.blk
          have c2 : wc.cell? ⟨w.heap.size, 2, none⟩ = some v3 := cell_of_row wc w.heap.size 2 _ 66 (0, 0) hA.blk
          obtain ⟨w2, hw2⟩ : ∃ w2, w2 = wc.alloc (.cells #[.bool false] 4) := ⟨_, rfl⟩
          have hb2 : Below wc.heap.size wc w2 := by rw [hw2]; exact (Below.refl _ wc).alloc (Nat.le_refl _) _
          have hA2 := hA.below hb2
          have hnews : ∀ j u, [Value.bool false][j]? = some u → w2.cell? ((⟨wc.heap.size, 0, none⟩ : Addr).add j) = some u := fun j u hu => by
            rw [hw2]; exact cell_one_new wc (.bool false) 4 j u hu
          have hs2 : w2.heap.size = wc.heap.size + 1 := by rw [hw2]; simp
          have HA2 := Lib.hid hA2
          have HB := Lib.hid hbr
          have HB2 := Lib.hid hb2
          have HS2 := Lib.hid hs2
          have HN := Lib.hid hnews
          have HW2 := Lib.hid hw2
          clear hA hbr hw2 hb2 hnews hA2 hs2
          go_wp2_with (at_builtin; refine wpList_append_lies _ rfl _ _ 64 rfl w.heap.size 4 i4 (.bool false) 1 1 Tryz.underlying64 hi4 hz40 hz41 hz42 rfl (by omega) v3 k (rowV fV k) rfl (by rw [← HW2.out]; exact HA2.out.r3) ⟨wc.heap.size, 0, none⟩ 1 1 [.bool false] rfl rfl (by rw [← HW2.out]; exact HN.out) (fun u hu => by simp at hu; subst hu; rfl) (by omega) (by unfold maxLen; omega) (by omega) (by rw [← HW2.out, HS2.out]; omega) (wc.heap.size + 1) (by rw [← HW2.out, HS2.out]) ?_; intro g cap w4 hown4 hgrow hat hlt4; rw [← HW2.out] at hgrow; have d0 : w4.cell? ⟨w.heap.size, 2, none⟩ = some v3 := (World.grownBy.cell hgrow (cell_of_row w2 w.heap.size 2 _ 66 (0, 0) HA2.out.blk) (fun e => HA2.out.ne3 e.symm)); have g0 : w4.frozen? ⟨w.heap.size, 2, none⟩ = false := (World.frozen?_of_block (hgrow.block _ (lt_of_heap HA2.out.blk) (fun e => HA2.out.ne3 e.symm))).trans (frozen_of_row w2 w.heap.size 2 _ 66 HA2.out.blk))
          have hM := HA2.out.wait hgrow hown4 (hat.imp id (fun e => by have := HS2.out; omega))
          have hBW : Below w.heap.size w (w4.setCell ⟨w.heap.size, 2, none⟩ (.slice (some ⟨g, 0, none⟩) (k + 1) cap)) := ((HB.out.trans (HB2.out.mono (by omega))).grown hgrow (by have := HS2.out; omega) (fun j hj => (HA2.out.r3.lt j hj).1)).setCell (p := ⟨w.heap.size, 2, none⟩) (Nat.le_refl _) _
          have HM := Lib.hid hM
          have HBW := Lib.hid hBW
          clear hM hBW
          go_wp2
          go_roundw
          case rel => exact ⟨k + 1, _, _, _, by omega, by go_num, HM.out, HBW.out⟩
          case measure => simp [RowKit.intOf]; omega
    · have hk' : k = n := by omega
      subst hk'
      go_wp2
      go_ret
      exact ⟨w.heap.size, blks w.heap.size v1 v2 v3, rfl, ⟨St.fresh_ok h1 h2 (fun _ => zsec_length), v1, v2, v3, rfl, ⟨hA.blk, hA.r1, hA.r2, hA.r3, hA.ap, Nat.le_refl _⟩⟩, hbr⟩
end Go.Proofs.YtdoombcihobejaaGreat
