/-
  The law's examples.
  Conditions: none.
-/
import Derived.Test.YtpdbeijfchmlgaaFB
import Derived.Test.YtpdbeijfchmlgaaFS
namespace Go.Proofs.Ytpdbeijfchmlgaa
open Go.RowKit
open Vi
set_option linter.unusedVariables false
set_option linter.unusedSimpArgs false
theorem putB_s {n : Nat} (h : n < 128) : putB n = ⟨#[UInt8.ofNat n]⟩ := by
  unfold putB
  rw [put_small n h]
  apply ByteArray.ext
  apply Array.ext'
  rfl
abbrev hiB : ByteArray := ⟨#[104, 105]⟩
abbrev e1B : ByteArray := ⟨#[161, 0, 0, 0, 2, 80, 155, 55, 241, 104, 105]⟩
abbrev e2B : ByteArray := ⟨#[162, 2, 57, 22, 73, 239, 104, 105]⟩
theorem e1_eq : pack 1 hiB = e1B := by decide +kernel
theorem e2_eq : pack 2 hiB = e2B := by
  unfold pack
  have h : hdF 2 hiB.size = ⟨#[162, 2]⟩ := by
    show fxB 162 1 ++ (if (2 : Int) = 1 then fxB 2 4 else putB 2) = _
    rw [if_neg (by decide), putB_s (by decide)]
    decide +kernel
  rw [h]
  decide +kernel
theorem hi_o (v : Int) (hv : v = 1 ∨ v = 2) : pkO v hiB = true := pkO_short hv (by decide)
theorem e_nil : uO ⟨#[]⟩ = false := by
  have h : nOk ⟨#[]⟩ = false := by
    have h1 : nV ⟨#[]⟩ = -160 := by decide +kernel
    unfold nOk
    rw [h1]
    rfl
  unfold uO
  rw [h]
  rfl
abbrev pbM : Ms := ⟨9, 1, 2, 3, 0, 0, 0, 4, false, none, 0, 0, [], ⟨#[]⟩⟩
theorem pbM_wide : pbM.Wide := by
  constructor <;> first | decide | (intro e he; cases he)
theorem pbM_right : mrightB pbM = true := by decide +kernel
set_option maxHeartbeats 2000000 in
set_option maxRecDepth 100000 in
theorem examples_any (w : World) : Calls Try.prog 8 #[] w fun q w' => q = .returned (.bool true) ∧ Below w.heap.size w w' := by
  have K1 : Hid (∀ W, Calls Try.prog 9 #[.int .i64 1, .string hiB] W fun q w' => q = .returned (.tuple #[.string e1B, .bool true]) ∧ Below W.heap.size W w') := fun W => by rw [← e1_eq]; exact packK_any 1 hiB W (.inl rfl) (by decide)
  have K2 : Hid (∀ W, Calls Try.prog 9 #[.int .i64 2, .string hiB] W fun q w' => q = .returned (.tuple #[.string e2B, .bool true]) ∧ Below W.heap.size W w') := fun W => by rw [← e2_eq]; exact packK_any 2 hiB W (.inr rfl) (by decide)
  have U2 := u_pack (hi_o 2 (.inr rfl))
  rw [e2_eq] at U2
  have K3 : Hid (∀ W, Calls Try.prog 14 #[.string e2B] W fun q w' => q = .returned (.tuple #[.int .i64 2, .string hiB, .bool true]) ∧ Below W.heap.size W w') := fun W => (unpack_any e2B W (by decide)).mono fun q w' ⟨h1, h2⟩ => ⟨by rw [h1, U2.1, U2.2.1, U2.2.2], h2⟩
  have K4 : Hid (∀ W, Calls Try.prog 14 #[.string ⟨#[]⟩] W fun q w' => q = .returned (.tuple #[.int .i64 0, .string ⟨#[]⟩, .bool false]) ∧ Below W.heap.size W w') := fun W => (unpack_any ⟨#[]⟩ W (by decide)).mono fun q w' ⟨h1, h2⟩ => ⟨h1.trans (u_ret_no e_nil).symm, h2⟩
  have K5 : Hid (∀ W, Calls Try.prog 16 #[mv pbM] W (Shimd pbM W)) := fun W => shim_9 pbM W (ents_nil _ _ _) pbM_wide pbM_right rfl
  have hy : Hid (shimO pbM = true ∧ shimM pbM = ⟨5, 1, 2, 3, 0, 0, 0, 4, false, none, 0, 0, [], ⟨#[]⟩⟩) := by
    show _ ∧ _
    have h : shimO pbM = true := by unfold shimO; rw [pbM_right]; rfl
    refine ⟨h, ?_⟩
    unfold shimM
    rw [h, if_neg (by decide), if_pos rfl]
  clear U2
  go_enter Try.func8, Try.ntmps8
  go_wp2_with fail
  refine (K1.out _).mono ?_
  rintro q w1 ⟨rfl, b1⟩
  have B1 := Lib.hid b1
  clear b1
  go_wp2_with fail
  refine (K2.out _).mono ?_
  rintro q w2 ⟨rfl, b2⟩
  have B2 : Hid (Below w.heap.size w w2) := B1.out.trans (b2.mono B1.out.size)
  clear b2
  go_wp2_with fail
  refine (K3.out _).mono ?_
  rintro q w3 ⟨rfl, b3⟩
  have B3 : Hid (Below w.heap.size w w3) := B2.out.trans (b3.mono B2.out.size)
  clear b3
  go_wp2_with fail
  refine (K4.out _).mono ?_
  rintro q w4 ⟨rfl, b4⟩
  have B4 : Hid (Below w.heap.size w w4) := B3.out.trans (b4.mono B3.out.size)
  clear b4
  go_wp2_with fail
  refine (K5.out _).mono ?_
  rintro q w5 ⟨M, rfl, _, ⟨A, c, hM⟩, b5⟩
  rw [hy.out.1]
  rw [hy.out.2] at hM
  subst hM
  have B5 : Hid (Below w.heap.size w w5) := B4.out.trans (b5.mono B4.out.size)
  clear b5
  go_wp2
  go_ret
  exact ⟨rfl, B5.out.alloc B5.out.size _⟩
end Go.Proofs.Ytpdbeijfchmlgaa
