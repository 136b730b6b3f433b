/-
  VarintReads: for every input the law's function returns true, and leaves what was there as it was.
  Conditions: none but those of the given statement.
-/
import Derived.Test.YteodbdgjfalgcaaRows
import Derived.Test.YteodbdgjfalgcaaReads
import Derived.WalkKit
import Derived.ProofKit
import Derived.OpenShut
import Derived.ShutString
import Derived.ChangeOld
import Derived.Below
import Derived.SizedLaws
import Derived.Carry
import Derived.Deep.SlicePairs
namespace Go.Proofs.Yteodbdgjfalgcaa
open Go.ChangeShapes Go.WideShapes Go.ChangeAt Go.RowKit
open Go.ChangeMaps (open_string shut_string)
set_option linter.unusedVariables false

theorem varintReads_own : ownKnob Try.prog.godebug = none := by kernel_rfl
theorem varintReads_laidOut : laidOutB Try.prog = true := by kernel_rfl
theorem varintReads_cells34 : Try.prog.cellsOf 34 = 2 := by kernel_rfl
theorem varintReads_cells5 : Try.prog.cellsOf 5 = 1 := by kernel_rfl
theorem varintReads_cells3 : Try.prog.cellsOf 3 = 1 := by kernel_rfl

set_option maxRecDepth 100000 in
theorem varintReads_lifted (os : Os) (started : os.Started) (H : Type) (enc : TypeId × Value → H) :
    ReturnsInHanded {} Try.checked os 4 .any (Rows.varintReadsSpec.pre6 enc Try.prog Try.f4 Rows.varintReadsRow.domain false) (Rows.varintReadsSpec.post enc Try.prog Try.f4 false true false false) := by
  refine returnsInHanded_of_change_sized (C := Try.checked) varintReads_own started (by kernel_rfl) Try.func4
    (ChangeSpec.witness6 (enc := enc) (C := Try.checked) false ⟨#[], #[.string ByteArray.empty, .slice none 0 0], []⟩ 8 (by kernel_rfl) (by kernel_rfl) (by kernel_rfl) (by kernel_rfl)) ?_
  intro W base args ds gs before hval0 hW hcnd hsz0 _
  have hval : ∀ (j : Nat) t v, Try.f4.params[j]? = some t → args[j]? = some v → Value.okWide Try.prog W .any base t v := hval0
  have hsz : (DataW.weightsEach Try.prog (Try.f4.params.toList ++ Rows.varintReadsSpec.plain.varTypes Try.prog) (ds ++ gs)).all (· ≤ reachBytes) = true := hsz0
  have hW' := hW
  obtain ⟨p, q, hA0, hV, rfl, hfz, hnd⟩ := hW
  have hA : DataW.TrodAll enc Try.prog W 0 (fun _ => true) true Try.f4.params.toList args.toList ds p := hA0
  rw [Try.params4] at hA hval hsz
  obtain ⟨v0, vs0, d0, ds0, p0, q0, hargs, rfl, rfl, h0, r0⟩ := trodAll_cons hA
  obtain ⟨v1, vs1, d1, ds1, p1, q1, rfl, rfl, rfl, h1, r1⟩ := trodAll_cons r0
  obtain ⟨rfl, rfl, rfl⟩ := trodAll_nil r1
  obtain rfl : args = #[v0, v1] := by cases args; simp_all
  obtain ⟨rfl, rfl⟩ := trodVars_none hV
  obtain ⟨a0, rfl, rfl, rfl, w0⟩ := open_string Try.underlying9 (hval 0 9 v0 rfl rfl) h0
  have z0 : a0.size ≤ 140737488351232 := by
    have hq := sized_string hsz (j := 0) (t := 9) rfl rfl
    simp only [reachBytes, Array.length_toList] at hq
    exact hq
  obtain ⟨A, len, cap, rfl⟩ := okWide_slice Try.underlying28 (hval 1 28 v1 rfl rfl)
  have h1k := h1
  obtain ⟨fuel, hf⟩ := h1
  clear hA0 hval0 hsz0
  simp only [List.append_nil] at hW'
  have hlt : ∀ x ∈ p1, x.block < W.heap.size := fun x hx => by simpa using hW'.lt x (by simpa using hx)
  have fin : Calls Try.prog 4 #[.string a0, .slice A len cap] W (fun e w' => e = .returned (.bool true) ∧ Below W.heap.size W w') := by
    rcases Deep.open_slice_pairs Try.underlying28 Try.underlying34 varintReads_cells34 rfl rfl varintReads_cells5 varintReads_cells3 hf with ⟨hcs, hx⟩ | ⟨a, len', cap', m, n, V0, V1, D0, D1, P0, P1, hcs, _, hl, hm, hmm, hx, hcell⟩
    · simp [Value.cells] at hcs
      obtain ⟨rfl, rfl, rfl⟩ := hcs
      exact reads_nil a0 W
    · simp [Value.cells] at hcs
      obtain ⟨rfl, rfl, rfl⟩ := hcs
      simp only [Prod.mk.injEq] at hx
      obtain ⟨rfl, rfl⟩ := hx
      simp only [if_true] at hmm
      have hlm : len ≤ m := by omega
      have each : ∀ i, i < len → ∃ (k : Nat) (z : Int), V0 i = .int .u8 (k : Int) ∧ V1 i = .int .i64 z ∧ k < 256 := fun i hi => by
        obtain ⟨_, _, t0, t1⟩ := hcell i (by omega)
        obtain ⟨u, hu, _, hw⟩ := DataW.trod_int Try.underlying5 t0
        obtain ⟨z, hz, _, _⟩ := DataW.trod_int Try.underlying3 t1
        have hb := bounds_u8 hw
        obtain ⟨k, rfl⟩ := Int.eq_ofNat_of_zero_le hb.1
        exact ⟨k, z, by simpa using hu, by simpa using hz, by omega⟩
      refine reads_some a0 a len cap (fun i => match V0 i with | .int _ u => u.toNat | _ => 0) (fun i => match V1 i with | .int _ u => u | _ => 0) W z0 ?_ ?_ ?_ ?_ ?_
      · intro hpos
        obtain ⟨b, off, spot⟩ := a
        exact hlt (.cell b off) (List.mem_append_left _ (MemPlace.mem_row.2 ⟨0, by omega, by simp⟩))
      · simp only [maxLen] at hm; omega
      · intro j hj
        obtain ⟨k, z, e0, e1, hk⟩ := each j hj
        simp only [e0, Int.toNat_natCast]; exact hk
      · intro j hj
        obtain ⟨k, z, e0, e1, hk⟩ := each j hj
        rw [(hcell j (by omega)).1]
        simp only [e0, Int.toNat_natCast]
      · intro j hj
        obtain ⟨k, z, e0, e1, hk⟩ := each j hj
        rw [(hcell j (by omega)).2.1]
        simp only [e1]
  refine fin.mono fun e W' ⟨he, bel⟩ => ?_
  subst he
  exact ⟨_, rfl, _, _, _, [], _, [], hW', trodAll_mk1 (shut_bool Try.underlying4 _), (trodAll_cons_mk (shut_string Try.underlying9 w0) (trodAll_cons_mk (Below.trod varintReads_laidOut (by kernel_rfl) (of_decide_eq_true (by kernel_rfl)) h1k bel hlt) trodAll_mk0)), rfl, bel.frame _, fun h => by cases h⟩

theorem varintReads_holds : Rows.VarintReadsSaid :=
  OpenClaim.holds_of_wide 4 Try.f4 rfl rfl rfl rfl rfl rfl rfl ⟨rfl, rfl, rfl, rfl, rfl⟩ rfl rfl rfl rfl rfl (by kernel_rfl) Try.func4 (by kernel_rfl)
    (of_decide_eq_true (by kernel_rfl)) (by unfold Func.isWrapper; first | (rw [if_pos (by decide +kernel)]; kernel_rfl) | (rw [if_neg (by decide +kernel)]; exact ⟨rfl, rfl⟩))
    (fun os started H enc _ => varintReads_lifted os started H enc)

end Go.Proofs.Yteodbdgjfalgcaa
