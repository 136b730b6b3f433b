/-
  A slice of Hards that came in, opened.
  Conditions: named in each theorem.
-/
import Derived.Test.YtdoombcihobejaaOpenL
import Derived.Test.YtdoombcihobejaaLA
import Derived.Deep.Slices
namespace Go.Proofs.Ytdoombcihobejaa
open Go.ChangeShapes Go.WideShapes Go.ChangeAt Go.RowKit Sl
set_option linter.unusedVariables false
set_option maxHeartbeats 1000000 in
set_option maxRecDepth 100000 in
/-- A slice of Hards that came in. -/
theorem open_hds {H : Type} {enc : TypeId × Value → H} {w : World} {base fuel : Nat} {A : Option Addr} {len cap : Nat} {held : Bool} {x : DataW H × List MemPlace}
    (h : DataW.trod enc Try.prog w base (fun _ => true) held fuel 64 [.slice A len cap] = some x) : HdsAt w A len ∧ (len : Int) ≤ 9223372036854775807 := by
  rcases Deep.open_slice Try.underlying64 h with ⟨hcs, _⟩ | ⟨a, len', cap', m, n, D, Pl, hcs, _, hl, hm, hmm, _, hx⟩
  · simp at hcs
    obtain ⟨rfl, rfl, rfl⟩ := hcs
    exact ⟨fun i hi => by omega, by omega⟩
  · simp at hcs
    obtain ⟨rfl, rfl, rfl⟩ := hcs
    simp only [if_true] at hmm
    refine ⟨fun i hi => ?_, by simp only [maxLen] at hm; omega⟩
    obtain ⟨cs', g1, g2⟩ := hx i (by omega)
    rw [cells26] at g1
    obtain ⟨_, hlen, hcell⟩ := World.cells?_some g1
    obtain ⟨xs, k, hk, hxy, _, hxl, hf⟩ := DataW.trod_struct Try.underlying26 g2
    match xs, hxl, cs', hlen with
    | [y0, y1, y2], _, [v0, v1, v2], _ =>
      have t0 := hf 0 _ rfl
      have t1 := hf 1 _ rfl
      have t2 := hf 2 _ rfl
      simp [cells3, cells24] at t0 t1 t2
      have e0 := hcell 0 (by omega)
      have e1 := hcell 1 (by omega)
      have e2 := hcell 2 (by omega)
      rw [Deep.add_add] at e0 e1 e2
      obtain ⟨u0, h0, _, k0⟩ := DataW.trod_int Try.underlying24 t0
      obtain ⟨u1, h1, _, k1⟩ := DataW.trod_int Try.underlying3 t1
      obtain ⟨u2, h2, _, k2⟩ := DataW.trod_int Try.underlying24 t2
      have b0 := bounds_u64 k0
      have b1 := bounds_i64 k1
      have b2 := bounds_u64 k2
      simp at h0 h1 h2
      subst h0 h1 h2
      obtain ⟨m0, rfl⟩ := Int.eq_ofNat_of_zero_le b0.1
      obtain ⟨m2, rfl⟩ := Int.eq_ofNat_of_zero_le b2.1
      exact ⟨a, ⟨m0, u1, m2⟩, rfl, by have := World.block_lt_of_cell? w _ e0; rwa [padd] at this, ⟨by dsimp only; omega, by dsimp only; omega, by dsimp only; omega, by dsimp only; omega⟩, by simpa using e0, by simpa using e1, by simpa using e2⟩
end Go.Proofs.Ytdoombcihobejaa
