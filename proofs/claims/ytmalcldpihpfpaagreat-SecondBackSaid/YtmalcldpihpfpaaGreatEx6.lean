/-
  The law's examples.
  Conditions: none.
-/
import Derived.Test.YtmalcldpihpfpaaGreatGetM0
import Derived.Test.YtmalcldpihpfpaaGreatGet6
import Derived.Test.YtmalcldpihpfpaaGreatSMath
namespace Go.Proofs.YtmalcldpihpfpaaGreat
open Go.RowKit
open Vi
set_option linter.unusedVariables false
set_option linter.unusedSimpArgs false

abbrev x1 : En := ⟨1, 1, 0, 0, 0, 0, 0, 0, 0, ⟨#[]⟩, ⟨#[]⟩⟩
abbrev x2 : En := ⟨1, 1, 11, 1, 0, 0, 0, 0, 0, ⟨#[]⟩, ⟨#[97]⟩⟩
theorem x1_ok : x1.Ok := by constructor <;> decide
theorem x2_ok : x2.Ok := by constructor <;> decide
theorem x1_r : rightB x1 = true := by decide +kernel
theorem x2_r : rightB x2 = true := by decide +kernel
theorem putB_s {n : Nat} (h : n < 128) : putB n = ⟨#[UInt8.ofNat n]⟩ := by
  unfold putB
  rw [put_small n h]
  apply ByteArray.ext
  apply Array.ext'
  rfl
theorem nb_s {v : Int} (h0 : 1 ≤ v) (h : v < 128) : nb v = ⟨#[UInt8.ofNat v.toNat]⟩ := by
  unfold nb
  rw [if_neg (by omega), putB_s (by omega)]
theorem nb_0 : nb 0 = ⟨#[]⟩ := rfl
theorem tb_0 : tb ⟨#[]⟩ = ⟨#[]⟩ := rfl
theorem x1_p : putS x1 = ⟨#[2, 1, 3, 1, 0]⟩ := by
  unfold putS
  rw [if_pos x1_r, sbE_eq]
  show rdn 1 (nb 0) ++ rdn 2 (nb 1) ++ rdn 3 (nb 1) ++ rdn 4 (nb 0) ++ rdn 5 (nb 0) ++ rdn 6 (nb 0) ++ rdn 7 (nb 0) ++ rdn 8 (nb 0) ++ rdn 9 (nb 0) ++ rdn 10 (tb ⟨#[]⟩) ++ rdn 11 (tb ⟨#[]⟩) ++ _ = _
  rw [nb_0, tb_0, nb_s (by decide) (by decide)]
  unfold rdn
  rw [putB_s (n := 2) (by decide), putB_s (n := 3) (by decide)]
  decide +kernel
theorem x2_p : putS x2 = ⟨#[1, 11, 2, 1, 3, 1, 4, 1, 11, 1, 97, 0]⟩ := by
  unfold putS
  rw [if_pos x2_r, sbE_eq]
  show rdn 1 (nb 11) ++ rdn 2 (nb 1) ++ rdn 3 (nb 1) ++ rdn 4 (nb 1) ++ rdn 5 (nb 0) ++ rdn 6 (nb 0) ++ rdn 7 (nb 0) ++ rdn 8 (nb 0) ++ rdn 9 (nb 0) ++ rdn 10 (tb ⟨#[]⟩) ++ rdn 11 (tb ⟨#[97]⟩) ++ _ = _
  have t : tb ⟨#[97]⟩ = ⟨#[1, 97]⟩ := by
    unfold tb
    rw [if_neg (by decide)]
    show putB 1 ++ _ = _
    rw [putB_s (by decide)]
    decide +kernel
  rw [nb_0, tb_0, t, nb_s (v := 1) (by decide) (by decide), nb_s (v := 11) (by decide) (by decide)]
  unfold rdn
  rw [putB_s (n := 1) (by decide), putB_s (n := 2) (by decide), putB_s (n := 3) (by decide), putB_s (n := 4) (by decide), putB_s (n := 11) (by decide)]
  decide +kernel

set_option maxHeartbeats 4000000 in
set_option maxRecDepth 100000 in
theorem examples_any (w : World) : Calls Tryz.prog 9 #[] w fun q w' => q = .returned (.bool true) ∧ Below w.heap.size w w' := by
  have K1 : Hid (∀ W, Calls Tryz.prog 10 #[ev x1] W fun q w' => q = .returned (.tuple #[.string ⟨#[2, 1, 3, 1, 0]⟩, .bool true]) ∧ Below W.heap.size W w') := fun W => (putE_any x1 W x1_ok).mono fun q w' ⟨h1, h2⟩ => ⟨by rw [h1, x1_p, x1_r], h2⟩
  have K2 : Hid (∀ W, Calls Tryz.prog 10 #[ev x2] W fun q w' => q = .returned (.tuple #[.string ⟨#[1, 11, 2, 1, 3, 1, 4, 1, 11, 1, 97, 0]⟩, .bool true]) ∧ Below W.heap.size W w') := fun W => (putE_any x2 W x2_ok).mono fun q w' ⟨h1, h2⟩ => ⟨by rw [h1, x2_p, x2_r], h2⟩
  have K3 := Lib.hid (fun (W : World) => getM_nil W)
  go_enter Tryz.func9, Tryz.ntmps9
  go_wp2_with (first
    | (go_at_call 10; (with_reducible refine (K1.out _).mono ?_); rintro q w1 ⟨rfl, b1⟩; have HB1 := Lib.hid b1; clear b1)
    | (go_at_call 10; (with_reducible refine (K2.out _).mono ?_); rintro q w2 ⟨rfl, b2⟩; have HB2 : Hid (Below w.heap.size w w2) := HB1.out.trans (b2.mono HB1.out.size); clear b2)
    | (go_at_call 23; (with_reducible refine (K3.out _).mono ?_); rintro q w3 ⟨rfl, b3⟩; have HB3 : Hid (Below w.heap.size w w3) := HB2.out.trans (b3.mono HB2.out.size); clear b3))
  go_ret
  exact ⟨rfl, HB3.out.alloc HB3.out.size _⟩
end Go.Proofs.YtmalcldpihpfpaaGreat
