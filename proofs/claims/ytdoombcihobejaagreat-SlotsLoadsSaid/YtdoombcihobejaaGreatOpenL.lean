/-
  A Super and a Hard that came in, opened.
  Conditions: named in each theorem.
-/
import Derived.Test.YtdoombcihobejaaGreatSlA
import Derived.WalkKit
import Derived.ProofKit
import Derived.OpenShut
import Derived.SizedLaws
import Derived.Carry
import Derived.ChangeSame
namespace Go.Proofs.YtdoombcihobejaaGreat
open Go.ChangeShapes Go.WideShapes Go.ChangeAt Go.RowKit Sl
set_option linter.unusedVariables false
theorem cells3 : Tryz.prog.cellsOf 3 = 1 := by kernel_rfl
theorem cells24 : Tryz.prog.cellsOf 24 = 1 := by kernel_rfl
theorem cells23 : Tryz.prog.cellsOf 23 = 7 := by kernel_rfl
theorem cells26 : Tryz.prog.cellsOf 26 = 3 := by kernel_rfl
theorem seat_laidOut : laidOutB Tryz.prog = true := by kernel_rfl
set_option maxHeartbeats 2000000 in
set_option maxRecDepth 100000 in
theorem open_su {H : Type} {enc : TypeId × Value → H} {w : World} {base base0 : Nat} {r : Reach} {sp : Nat → Bool} {held : Bool} {v : Value} {d : DataW H} {p : List MemPlace}
    (hv : Value.okWide Tryz.prog w r base0 23 v) (h : DataW.Trod enc Tryz.prog w base sp held 23 v d p) : ∃ s : Su, v = s.val ∧ s.Ok := by
  obtain ⟨cs, rfl, hsz⟩ := okWide_struct Tryz.underlying23 hv
  rw [cells23] at hsz
  obtain ⟨fuel, hf⟩ := h
  obtain ⟨xs, n, _, _, hl, hlen, hf⟩ := DataW.trod_struct Tryz.underlying23 hf
  obtain ⟨l⟩ := cs
  match l, hsz, xs, hlen with
  | [c0, c1, c2, c3, c4, c5, c6], _, [y0, y1, y2, y3, y4, y5, y6], _ =>
    have t0 := hf 0 _ rfl
    have t1 := hf 1 _ rfl
    have t2 := hf 2 _ rfl
    have t3 := hf 3 _ rfl
    have t4 := hf 4 _ rfl
    have t5 := hf 5 _ rfl
    have t6 := hf 6 _ rfl
    simp [Value.cells, cells3] at t0 t1 t2 t3 t4 t5 t6
    obtain ⟨u0, h0, _, k0⟩ := DataW.trod_int Tryz.underlying3 t0
    obtain ⟨u1, h1, _, k1⟩ := DataW.trod_int Tryz.underlying3 t1
    obtain ⟨u2, h2, _, k2⟩ := DataW.trod_int Tryz.underlying3 t2
    obtain ⟨u3, h3, _, k3⟩ := DataW.trod_int Tryz.underlying3 t3
    obtain ⟨u4, h4, _, k4⟩ := DataW.trod_int Tryz.underlying3 t4
    obtain ⟨u5, h5, _, k5⟩ := DataW.trod_int Tryz.underlying3 t5
    obtain ⟨u6, h6, _, k6⟩ := DataW.trod_int Tryz.underlying3 t6
    have b0 := bounds_i64 k0
    have b1 := bounds_i64 k1
    have b2 := bounds_i64 k2
    have b3 := bounds_i64 k3
    have b4 := bounds_i64 k4
    have b5 := bounds_i64 k5
    have b6 := bounds_i64 k6
    simp at h0 h1 h2 h3 h4 h5 h6
    subst h0 h1 h2 h3 h4 h5 h6
    refine ⟨⟨u0, u1, u2, u3, u4, u5, u6⟩, rfl, ?_⟩
    constructor <;> (dsimp only; omega)
set_option maxHeartbeats 2000000 in
set_option maxRecDepth 100000 in
theorem open_hd {H : Type} {enc : TypeId × Value → H} {w : World} {base base0 : Nat} {r : Reach} {sp : Nat → Bool} {held : Bool} {v : Value} {d : DataW H} {p : List MemPlace}
    (hv : Value.okWide Tryz.prog w r base0 26 v) (h : DataW.Trod enc Tryz.prog w base sp held 26 v d p) : ∃ s : Hd, v = s.val ∧ s.Ok := by
  obtain ⟨cs, rfl, hsz⟩ := okWide_struct Tryz.underlying26 hv
  rw [cells26] at hsz
  obtain ⟨fuel, hf⟩ := h
  obtain ⟨xs, n, _, _, hl, hlen, hf⟩ := DataW.trod_struct Tryz.underlying26 hf
  obtain ⟨l⟩ := cs
  match l, hsz, xs, hlen with
  | [c0, c1, c2], _, [y0, y1, y2], _ =>
    have t0 := hf 0 _ rfl
    have t1 := hf 1 _ rfl
    have t2 := hf 2 _ rfl
    simp [Value.cells, cells3, cells24] at t0 t1 t2
    obtain ⟨u0, h0, _, k0⟩ := DataW.trod_int Tryz.underlying24 t0
    obtain ⟨u1, h1, _, k1⟩ := DataW.trod_int Tryz.underlying3 t1
    obtain ⟨u2, h2, _, k2⟩ := DataW.trod_int Tryz.underlying24 t2
    have b0 := bounds_u64 k0
    have b1 := bounds_i64 k1
    have b2 := bounds_u64 k2
    simp at h0 h1 h2
    subst h0 h1 h2
    obtain ⟨m0, rfl⟩ := Int.eq_ofNat_of_zero_le b0.1
    obtain ⟨m2, rfl⟩ := Int.eq_ofNat_of_zero_le b2.1
    exact ⟨⟨m0, u1, m2⟩, rfl, by dsimp only; omega, by dsimp only; omega, by dsimp only; omega, by dsimp only; omega⟩
end Go.Proofs.YtdoombcihobejaaGreat
