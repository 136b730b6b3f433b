/-
  The law's entry by its parts, out of the lifting.
  Conditions: named in each theorem.
-/
import Derived.Test.YtmalcldpihpfpaaGreatMade
import Derived.WalkKit
import Derived.ProofKit
import Derived.OpenShut
import Derived.SizedLaws
import Derived.Carry
import Derived.ChangeSame
import Derived.Lib.SmallJoins
namespace Go.Proofs.YtmalcldpihpfpaaGreat
open Go.ChangeShapes Go.WideShapes Go.ChangeAt Go.RowKit
set_option linter.unusedVariables false
theorem cells22 : Tryz.prog.cellsOf 22 = 1 := by kernel_rfl
theorem cells26 : Tryz.prog.cellsOf 26 = 12 := by kernel_rfl
theorem cells24 : Tryz.prog.cellsOf 24 = 11 := by kernel_rfl
theorem cells3 : Tryz.prog.cellsOf 3 = 1 := by kernel_rfl
theorem cells4 : Tryz.prog.cellsOf 4 = 1 := by kernel_rfl
theorem cells9 : Tryz.prog.cellsOf 9 = 1 := by kernel_rfl
theorem seat_laidOut : laidOutB Tryz.prog = true := by kernel_rfl
/-- A limb of a struct weighs no more than the struct. -/
theorem DataW.weights_mem_agg {H : Type} {P : Program} {t : TypeId} {fs : Array Field} {ds : List (DataW H)} (hu : P.underlying t = some (.struct fs)) (j : Nat) {t' : TypeId} {d : DataW H}
    (ht : (fs.toList.map (·.type))[j]? = some t') (hd : ds[j]? = some d) : ∀ n ∈ d.weights P t', n ∈ (DataW.agg ds).weights P t := by
  intro n hn
  simp only [DataW.weights, hu]
  exact DataW.weights_mem_each ht hd n hn
set_option maxHeartbeats 2000000 in
set_option maxRecDepth 100000 in
/-- The cells of an entry, as they read. -/
theorem open_entry {H : Type} {enc : TypeId × Value → H} {w : World} {base fuel : Nat} {sp : Nat → Bool} {held : Bool} {x : DataW H × List MemPlace} {c0 c1 c2 c3 c4 c5 c6 c7 c8 c9 c10 : Value}
    (h : DataW.trod enc Tryz.prog w base sp held fuel 24 [c0, c1, c2, c3, c4, c5, c6, c7, c8, c9, c10] = some x) (hz : ∀ n ∈ x.1.weights Tryz.prog 24, n ≤ reachBytes) :
    ∃ e : En, [c0, c1, c2, c3, c4, c5, c6, c7, c8, c9, c10] = (ec e).toList ∧ e.Ok := by
  obtain ⟨xs, n, _, rfl, hl, hlen, hf⟩ := DataW.trod_struct Tryz.underlying24 h
  match xs, hlen with
  | [y0, y1, y2, y3, y4, y5, y6, y7, y8, y9, y10], _ =>
    have t0 := hf 0 _ rfl
    have t1 := hf 1 _ rfl
    have t2 := hf 2 _ rfl
    have t3 := hf 3 _ rfl
    have t4 := hf 4 _ rfl
    have t5 := hf 5 _ rfl
    have t6 := hf 6 _ rfl
    have t7 := hf 7 _ rfl
    have t8 := hf 8 _ rfl
    have t9 := hf 9 _ rfl
    have t10 := hf 10 _ rfl
    simp [cells22, cells3, cells9] at t0 t1 t2 t3 t4 t5 t6 t7 t8 t9 t10
    obtain ⟨u0, h0, _, k0⟩ := DataW.trod_int Tryz.underlying22 t0
    obtain ⟨u1, h1, _, k1⟩ := DataW.trod_int Tryz.underlying22 t1
    obtain ⟨u2, h2, _, k2⟩ := DataW.trod_int Tryz.underlying3 t2
    obtain ⟨u3, h3, _, k3⟩ := DataW.trod_int Tryz.underlying22 t3
    obtain ⟨u4, h4, _, k4⟩ := DataW.trod_int Tryz.underlying22 t4
    obtain ⟨u5, h5, _, k5⟩ := DataW.trod_int Tryz.underlying22 t5
    obtain ⟨u6, h6, _, k6⟩ := DataW.trod_int Tryz.underlying22 t6
    obtain ⟨u7, h7, _, k7⟩ := DataW.trod_int Tryz.underlying3 t7
    obtain ⟨u8, h8, _, k8⟩ := DataW.trod_int Tryz.underlying3 t8
    obtain ⟨u9, h9, d9, _⟩ := DataW.trod_string Tryz.underlying9 t9
    obtain ⟨u10, h10, d10, _⟩ := DataW.trod_string Tryz.underlying9 t10
    have b0 := bounds_u64 k0
    have b1 := bounds_u64 k1
    have b2 := bounds_i64 k2
    have b3 := bounds_u64 k3
    have b4 := bounds_u64 k4
    have b5 := bounds_u64 k5
    have b6 := bounds_u64 k6
    have b7 := bounds_i64 k7
    have b8 := bounds_i64 k8
    simp at h0 h1 h2 h3 h4 h5 h6 h7 h8 h9 h10
    subst h0 h1 h2 h3 h4 h5 h6 h7 h8 h9 h10
    have e9 : u9.size ≤ 140737488351232 := by
      have hq := hz u9.data.toList.length (DataW.weights_mem_agg Tryz.underlying24 9 rfl (by rw [d9]; rfl) _ (by simp [DataW.weights]))
      simp only [reachBytes, Array.length_toList] at hq
      exact hq
    have e10 : u10.size ≤ 140737488351232 := by
      have hq := hz u10.data.toList.length (DataW.weights_mem_agg Tryz.underlying24 10 rfl (by rw [d10]; rfl) _ (by simp [DataW.weights]))
      simp only [reachBytes, Array.length_toList] at hq
      exact hq
    refine ⟨⟨u0, u1, u2, u3, u4, u5, u6, u7, u8, u9, u10⟩, rfl, ?_⟩
    constructor <;> first | exact Nat.le_trans e9 (by omega) | exact Nat.le_trans e10 (by omega) | (dsimp only; omega)
set_option maxHeartbeats 2000000 in
set_option maxRecDepth 100000 in
/-- A made entry that came in: its value. -/
theorem open_made {H : Type} {enc : TypeId × Value → H} {w : World} {base base0 : Nat} {r : Reach} {sp : Nat → Bool} {held : Bool} {v : Value} {d : DataW H} {p : List MemPlace}
    (hv : Value.okWide Tryz.prog w r base0 26 v) (h : DataW.Trod enc Tryz.prog w base sp held 26 v d p) (hz : ∀ n ∈ d.weights Tryz.prog 26, n ≤ reachBytes) :
    ∃ (e : En) (o : Bool), v = mdv e o ∧ e.Ok := by
  obtain ⟨cs, rfl, hsz⟩ := okWide_struct Tryz.underlying26 hv
  rw [cells26] at hsz
  obtain ⟨fuel, hf⟩ := h
  obtain ⟨y0, y1, m, hx, _, hy0, hy1⟩ := trod_struct2 Tryz.underlying26 hf
  obtain ⟨l⟩ := cs
  match l, hsz with
  | [c0, c1, c2, c3, c4, c5, c6, c7, c8, c9, c10, c11], _ =>
    simp [Value.cells, cells24, cells4] at hy0 hy1
    simp only [Prod.mk.injEq] at hx
    obtain ⟨rfl, _⟩ := hx
    obtain ⟨e, he, ok⟩ := open_entry hy0 fun n hn => hz n (DataW.weights_mem_agg Tryz.underlying26 0 rfl rfl n hn)
    obtain ⟨b, hb, _⟩ := DataW.trod_bool Tryz.underlying4 hy1
    simp at he hb
    obtain ⟨rfl, rfl, rfl, rfl, rfl, rfl, rfl, rfl, rfl, rfl, rfl⟩ := he
    subst hb
    exact ⟨e, b, rfl, ok⟩
end Go.Proofs.YtmalcldpihpfpaaGreat
