/-
  DevicePlays: for every input the law's function returns true, and leaves what was there as it was.
  Conditions: none but those of the given statement.
-/
import Derived.Test.YtfcfclgjalofnaaRows
import Derived.Test.YtfcfclgjalofnaaPlLaw
import Derived.WalkKit
import Derived.ProofKit
import Derived.OpenShut
import Derived.ShutString
import Derived.ChangeOld
import Derived.Below
import Derived.SizedLaws
import Derived.Carry
import Derived.Deep.Slices
import Derived.ChangeSame
namespace Go.Proofs.Ytfcfclgjalofnaa
open Go.ChangeShapes Go.WideShapes Go.ChangeAt Go.RowKit
open Go.ChangeMaps (open_string shut_string)
set_option linter.unusedVariables false

theorem lt_of_cell {w : World} {a : Addr} {v : Value} (h : w.cell? a = some v) : a.block < w.heap.size := by
  rcases Nat.lt_or_ge a.block w.heap.size with h1 | h1
  · exact h1
  · simp [World.cell?, Array.getElem?_eq_none h1] at h
theorem devicePlays_cells32 : Try.prog.cellsOf 32 = 4 := by kernel_rfl
theorem devicePlays_cells3 : Try.prog.cellsOf 3 = 1 := by kernel_rfl
theorem devicePlays_cells5 : Try.prog.cellsOf 5 = 1 := by kernel_rfl
theorem devicePlays_cells9 : Try.prog.cellsOf 9 = 1 := by kernel_rfl
theorem devicePlays_cells30 : Try.prog.cellsOf 30 = 1 := by kernel_rfl
theorem devicePlays_laidOut : laidOutB Try.prog = true := by kernel_rfl
set_option maxHeartbeats 1000000 in
set_option maxRecDepth 100000 in
/-- A slice of deeds that came in. -/
theorem open_deeds {H : Type} {enc : TypeId × Value → H} {w : World} {base fuel : Nat} {A : Option Addr} {len cap : Nat} {held : Bool} {x : DataW H × List MemPlace}
    (h : DataW.trod enc Try.prog w base (fun _ => true) held fuel 22 [.slice A len cap] = some x) : DeedsAt w A len ∧ (len : Int) ≤ 9223372036854775807 := by
  rcases Deep.open_slice Try.underlying22 h with ⟨hcs, _⟩ | ⟨a, len', cap', m, n, D, Pl, hcs, _, hl, hm, hmm, _, hx⟩
  · simp at hcs
    obtain ⟨rfl, rfl, rfl⟩ := hcs
    exact ⟨fun i hi => by omega, by omega⟩
  · simp at hcs
    obtain ⟨rfl, rfl, rfl⟩ := hcs
    simp only [if_true] at hmm
    refine ⟨fun i hi => ?_, by simp only [maxLen] at hm; omega⟩
    obtain ⟨cs', g1, g2⟩ := hx i (by omega)
    rw [devicePlays_cells32] at g1
    obtain ⟨_, hlen, hcell⟩ := World.cells?_some g1
    obtain ⟨xs, k, hk, hxy, _, hxl, hf⟩ := DataW.trod_struct Try.underlying32 g2
    match xs, hxl, cs', hlen with
    | [y0, y1, y2, y3], _, [v0, v1, v2, v3], _ =>
      have t0 := hf 0 _ rfl
      have t1 := hf 1 _ rfl
      have t2 := hf 2 _ rfl
      have t3 := hf 3 _ rfl
      simp [devicePlays_cells3, devicePlays_cells5, devicePlays_cells9, devicePlays_cells30] at t0 t1 t2 t3
      have e0 := hcell 0 (by omega)
      have e1 := hcell 1 (by omega)
      have e2 := hcell 2 (by omega)
      have e3 := hcell 3 (by omega)
      rw [Deep.add_add] at e0 e1 e2 e3
      obtain ⟨u, hu, _, hw0⟩ := DataW.trod_int Try.underlying5 t0
      obtain ⟨z, hz, _, hw1⟩ := DataW.trod_int Try.underlying3 t1
      obtain ⟨s, hs, _, _⟩ := DataW.trod_string Try.underlying9 t2
      have hb := bounds_u8 hw0
      obtain ⟨kk, rfl⟩ := Int.eq_ofNat_of_zero_le hb.1
      have hz1 := bounds_i64 hw1
      simp at hu hz hs
      subst hu hz hs
      have hE3 : ∃ (LA : Option Addr) (lost : List Int) (c : Nat), v3 = .slice LA lost.length c ∧ lost.length ≤ maxLen ∧ IntsAt w LA lost := by
        rcases Deep.open_slice1 Try.underlying30 devicePlays_cells3 t3 with ⟨hc3, _⟩ | ⟨a3, l3, c3, m3, n3, V, D3, P3, hc3, _, hl3, hm3, hmm3, _, hx3⟩
        · simp at hc3
          exact ⟨none, [], 0, hc3, Nat.zero_le _, fun j x hj => by simp at hj⟩
        · simp at hc3
          simp only [if_true] at hmm3
          refine ⟨some a3, (List.range l3).map (fun j => match V j with | .int _ y => y | _ => 0), c3, by rw [hc3]; simp, by simp; omega, fun j x hj => ?_⟩
          rw [List.getElem?_map] at hj
          obtain ⟨j', hj', rfl⟩ := Option.map_eq_some_iff.1 hj
          obtain ⟨hjl, hje⟩ := List.getElem?_eq_some_iff.1 hj'
          rw [List.getElem_range] at hje
          subst hje
          rw [List.length_range] at hjl
          obtain ⟨hcj, htj⟩ := hx3 j (by omega)
          obtain ⟨y, hy, _, hwy⟩ := DataW.trod_int Try.underlying3 htj
          simp at hy
          have hby := bounds_i64 hwy
          rw [hy] at hcj ⊢
          exact ⟨by simpa using hby, a3, rfl, by have := lt_of_cell hcj; rwa [block_of_add] at this, hcj⟩
      obtain ⟨LA, lost, c, rfl, hll, hI⟩ := hE3
      exact ⟨a, kk, z, s.data.toList, LA, lost, c, rfl, by have := lt_of_cell e0; rwa [block_of_add] at this, by omega, hz1, hll, by simpa using e0, by simpa using e1, by rw [Dk.txt_of]; simpa using e2, by simpa using e3, hI⟩
theorem devicePlays_own : ownKnob Try.prog.godebug = none := by kernel_rfl

set_option maxRecDepth 100000 in
theorem devicePlays_lifted (os : Os) (started : os.Started) (H : Type) (enc : TypeId × Value → H) :
    ReturnsInHanded {} Try.checked os 3 .any (Rows.devicePlaysSpec.pre6 enc Try.prog Try.f3 Rows.devicePlaysRow.domain false) (Rows.devicePlaysSpec.post enc Try.prog Try.f3 false true false false) := by
  refine returnsInHanded_of_change_sized (C := Try.checked) devicePlays_own started (by kernel_rfl) Try.func3
    (ChangeSpec.witness6 (enc := enc) (C := Try.checked) false ⟨#[], #[.int .i64 0, .bool false, .slice none 0 0], []⟩ 8 (by kernel_rfl) (by kernel_rfl) (by kernel_rfl) (by kernel_rfl)) ?_
  intro W base args ds gs before hval0 hW hcnd hsz0 _
  have hval : ∀ (j : Nat) t v, Try.f3.params[j]? = some t → args[j]? = some v → Value.okWide Try.prog W .any base t v := hval0
  have hsz : (DataW.weightsEach Try.prog (Try.f3.params.toList ++ Rows.devicePlaysSpec.plain.varTypes Try.prog) (ds ++ gs)).all (· ≤ reachBytes) = true := hsz0
  have hW' := hW
  obtain ⟨p, q, hA0, hV, rfl, hfz, hnd⟩ := hW
  have hA : DataW.TrodAll enc Try.prog W 0 (fun _ => true) true Try.f3.params.toList args.toList ds p := hA0
  rw [Try.params3] at hA hval hsz
  obtain ⟨v0, vs0, d0, ds0, p0, q0, hargs, rfl, rfl, h0, r0⟩ := trodAll_cons hA
  obtain ⟨v1, vs1, d1, ds1, p1, q1, rfl, rfl, rfl, h1, r1⟩ := trodAll_cons r0
  obtain ⟨v2, vs2, d2, ds2, p2, q2, rfl, rfl, rfl, h2, r2⟩ := trodAll_cons r1
  obtain ⟨rfl, rfl, rfl⟩ := trodAll_nil r2
  obtain rfl : args = #[v0, v1, v2] := by cases args; simp_all
  obtain ⟨rfl, rfl⟩ := trodVars_none hV
  obtain ⟨a0, rfl, rfl, rfl, w0⟩ := open_int Try.underlying3 (hval 0 3 v0 rfl rfl) h0
  have z0 : -9223372036854775808 ≤ a0 ∧ a0 ≤ 9223372036854775807 := by have y := bounds_i64 w0; omega
  obtain ⟨a1, rfl, rfl, rfl⟩ := open_bool Try.underlying4 (hval 1 4 v1 rfl rfl) h1
  obtain ⟨A, len, cap, rfl⟩ := okWide_slice Try.underlying22 (hval 2 22 v2 rfl rfl)
  have h2k := h2
  obtain ⟨fuel, hf⟩ := h2
  clear hA0 hval0 hsz0
  simp only [List.append_nil] at hW'
  have hlt : ∀ x ∈ p2, x.block < W.heap.size := fun x hx => by simpa using hW'.lt x (by simpa using hx)
  have hD := open_deeds (by simpa [Value.cells] using hf)
  refine (lplays_any a0 a1 A len cap W z0 hD.1 hD.2).mono fun e W' ⟨he, bel⟩ => ?_
  subst he
  exact ⟨_, rfl, _, _, _, [], _, [], hW', trodAll_mk1 (shut_bool Try.underlying4 _), (trodAll_cons_mk (shut_int Try.underlying3 w0) (trodAll_cons_mk (shut_bool Try.underlying4 a1) (trodAll_cons_mk (Below.trod devicePlays_laidOut (by kernel_rfl) (of_decide_eq_true (by kernel_rfl)) h2k bel hlt) trodAll_mk0))), rfl, bel.frame _, fun h => by cases h⟩

theorem devicePlays_holds : Rows.DevicePlaysSaid :=
  OpenClaim.holds_of_wide 3 Try.f3 rfl rfl rfl rfl rfl rfl rfl ⟨rfl, rfl, rfl, rfl, rfl⟩ rfl rfl rfl rfl rfl (by kernel_rfl) Try.func3 (by kernel_rfl)
    (of_decide_eq_true (by kernel_rfl)) (by unfold Func.isWrapper; first | (rw [if_pos (by decide +kernel)]; kernel_rfl) | (rw [if_neg (by decide +kernel)]; exact ⟨rfl, rfl⟩))
    (fun os started H enc _ => devicePlays_lifted os started H enc)

end Go.Proofs.Ytfcfclgjalofnaa
