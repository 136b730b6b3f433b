/-
  A slice of deeds that came in, opened.
  Conditions: named in each theorem.
-/
import Derived.Test.YtmdippnfnadadaaRows
import Derived.Test.YtmdippnfnadadaaLPlays
import Derived.WalkKit
import Derived.ProofKit
import Derived.OpenShut
import Derived.ShutString
import Derived.ChangeOld
import Derived.Below
import Derived.SizedLaws
import Derived.Carry
import Derived.Deep.Slices
import Derived.ChangeSame
namespace Go.Proofs.Ytmdippnfnadadaa
open Go.ChangeShapes Go.WideShapes Go.ChangeAt Go.RowKit
open Go.ChangeMaps (open_string shut_string)
set_option linter.unusedVariables false
theorem lt_of_cellD {w : World} {a : Addr} {v : Value} (h : w.cell? a = some v) : a.block < w.heap.size := by
  rcases Nat.lt_or_ge a.block w.heap.size with h1 | h1
  · exact h1
  · simp [World.cell?, Array.getElem?_eq_none h1] at h
theorem seat_laidOut : laidOutB Try.prog = true := by kernel_rfl
theorem deed_cells39 : Try.prog.cellsOf 39 = 5 := by kernel_rfl
theorem deed_cells3 : Try.prog.cellsOf 3 = 1 := by kernel_rfl
theorem deed_cells5 : Try.prog.cellsOf 5 = 1 := by kernel_rfl
theorem deed_cells9 : Try.prog.cellsOf 9 = 1 := by kernel_rfl
theorem deed_cells22 : Try.prog.cellsOf 22 = 1 := by kernel_rfl
theorem deed_cells37 : Try.prog.cellsOf 37 = 1 := by kernel_rfl
set_option maxHeartbeats 1000000 in
set_option maxRecDepth 100000 in
/-- A slice of deeds that came in. -/
theorem open_deeds {H : Type} {enc : TypeId × Value → H} {w : World} {base fuel : Nat} {A : Option Addr} {len cap : Nat} {held : Bool} {x : DataW H × List MemPlace}
    (h : DataW.trod enc Try.prog w base (fun _ => true) held fuel 30 [.slice A len cap] = some x) : DeedsAt w A len ∧ (len : Int) ≤ 9223372036854775807 := by
  rcases Deep.open_slice Try.underlying30 h with ⟨hcs, _⟩ | ⟨a, len', cap', m, n, D, Pl, hcs, _, hl, hm, hmm, _, hx⟩
  · simp at hcs
    obtain ⟨rfl, rfl, rfl⟩ := hcs
    exact ⟨fun i hi => by omega, by omega⟩
  · simp at hcs
    obtain ⟨rfl, rfl, rfl⟩ := hcs
    simp only [if_true] at hmm
    refine ⟨fun i hi => ?_, by simp only [maxLen] at hm; omega⟩
    obtain ⟨cs', g1, g2⟩ := hx i (by omega)
    rw [deed_cells39] at g1
    obtain ⟨_, hlen, hcell⟩ := World.cells?_some g1
    obtain ⟨xs, k, hk, hxy, _, hxl, hf⟩ := DataW.trod_struct Try.underlying39 g2
    match xs, hxl, cs', hlen with
    | [y0, y1, y2, y3, y4], _, [v0, v1, v2, v3, v4], _ =>
      have t0 := hf 0 _ rfl
      have t1 := hf 1 _ rfl
      have t2 := hf 2 _ rfl
      have t3 := hf 3 _ rfl
      have t4 := hf 4 _ rfl
      simp [deed_cells3, deed_cells5, deed_cells9, deed_cells22, deed_cells37] at t0 t1 t2 t3 t4
      have e0 := hcell 0 (by omega)
      have e1 := hcell 1 (by omega)
      have e2 := hcell 2 (by omega)
      have e3 := hcell 3 (by omega)
      have e4 := hcell 4 (by omega)
      rw [Deep.add_add] at e0 e1 e2 e3 e4
      obtain ⟨u, hu, _, hw0⟩ := DataW.trod_int Try.underlying5 t0
      obtain ⟨z, hz, _, hw1⟩ := DataW.trod_int Try.underlying3 t1
      obtain ⟨s, hs, _, _⟩ := DataW.trod_string Try.underlying9 t2
      obtain ⟨G, hG, _, hw3⟩ := DataW.trod_int Try.underlying22 t3
      have hb := bounds_u8 hw0
      obtain ⟨kk, rfl⟩ := Int.eq_ofNat_of_zero_le hb.1
      have hz1 := bounds_i64 hw1
      have hg3 := bounds_u64 hw3
      obtain ⟨GG, rfl⟩ := Int.eq_ofNat_of_zero_le hg3.1
      simp at hu hz hs hG
      subst hu hz hs hG
      have hE3 : ∃ (LA : Option Addr) (lost : List Int) (c : Nat), v4 = .slice LA lost.length c ∧ lost.length ≤ maxLen ∧ IntsAt w LA lost := by
        rcases Deep.open_slice1 Try.underlying37 deed_cells3 t4 with ⟨hc3, _⟩ | ⟨a3, l3, c3, m3, n3, V, D3, P3, hc3, _, hl3, hm3, hmm3, _, hx3⟩
        · simp at hc3
          exact ⟨none, [], 0, hc3, Nat.zero_le _, fun j x hj => by simp at hj⟩
        · simp at hc3
          simp only [if_true] at hmm3
          refine ⟨some a3, (List.range l3).map (fun j => match V j with | .int _ y => y | _ => 0), c3, by rw [hc3]; simp, by simp; omega, fun j x hj => ?_⟩
          rw [List.getElem?_map] at hj
          obtain ⟨j', hj', rfl⟩ := Option.map_eq_some_iff.1 hj
          obtain ⟨hjl, hje⟩ := List.getElem?_eq_some_iff.1 hj'
          rw [List.getElem_range] at hje
          subst hje
          rw [List.length_range] at hjl
          obtain ⟨hcj, htj⟩ := hx3 j (by omega)
          obtain ⟨y, hy, _, hwy⟩ := DataW.trod_int Try.underlying3 htj
          simp at hy
          have hby := bounds_i64 hwy
          rw [hy] at hcj ⊢
          exact ⟨by simpa using hby, a3, rfl, by have := lt_of_cellD hcj; rwa [padd] at this, hcj⟩
      obtain ⟨LA, lost, c, rfl, hll, hI⟩ := hE3
      exact ⟨a, kk, z, s, GG, LA, lost, c, rfl, by have := lt_of_cellD e0; rwa [padd] at this, by omega, hz1, by omega, hll, by simpa using e0, by simpa using e1, by simpa using e2, by simpa using e3, by simpa using e4, hI⟩
end Go.Proofs.Ytmdippnfnadadaa
