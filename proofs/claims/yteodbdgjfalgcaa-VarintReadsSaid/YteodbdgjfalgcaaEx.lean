/-
  The chapter's examples hold.
  Conditions: none.
-/
import Derived.Test.YteodbdgjfalgcaaRef
namespace Go.Proofs.Yteodbdgjfalgcaa
open Go.RowKit
namespace Vi
theorem ex1 : varV ⟨#[172, 2, 1, 0]⟩ = 300 := by decide +kernel
theorem ex2 : varT ⟨#[172, 2, 1, 0]⟩ = ⟨#[1, 0]⟩ := by decide +kernel
theorem ex3 : varO ⟨#[172, 2, 1, 0]⟩ = true := by decide +kernel
theorem ex4 : fixV ⟨#[1, 0]⟩ 2 = 256 := by decide +kernel
theorem ex5 : fixT ⟨#[1, 0]⟩ 2 = ⟨#[]⟩ := by decide +kernel
theorem ex6 : hasF ⟨#[1, 0]⟩ 2 = true := by decide +kernel
theorem ex7 : varV ⟨#[]⟩ = 0 := by decide +kernel
theorem ex8 : varT ⟨#[]⟩ = ⟨#[]⟩ := by decide +kernel
theorem ex9 : varO ⟨#[]⟩ = false := by decide +kernel
theorem ex10 : putB 300 = ⟨#[172, 2]⟩ := by
  unfold putB
  rw [put_big 300 (by decide), put_small (300 / 128) (by decide)]
  decide +kernel
theorem ex11 : fxB 258 2 = ⟨#[1, 2]⟩ := by decide +kernel
theorem ex12 : putB 2 = ⟨#[2]⟩ := by
  unfold putB
  rw [put_small 2 (by decide)]
  decide +kernel
theorem ex13 : ((putB 2 ++ ⟨#[97, 98]⟩).toList == [2, 97, 98]) = true := by rw [ex12]; decide +kernel
end Vi
set_option maxHeartbeats 1000000 in
set_option maxRecDepth 100000 in
theorem examples_any (w : World) :
    Calls Try.prog 10 #[] w fun e w' => e = .returned (.bool true) ∧ Below w.heap.size w w' := by
  go_enter Try.func10, Try.ntmps10
  go_wp2_with fail
  refine (new_any _ w).mono ?_
  rintro e w0 ⟨rfl, hw0⟩
  have hr0 : Rd 52 w.heap.size ⟨#[172, 2, 1, 0]⟩ false w0 := by rw [hw0]; exact Rd.new _ _ _ _
  have hB0 : Below w.heap.size w w0 := by rw [hw0]; exact (Below.refl _ _).alloc (Nat.le_refl _) _
  clear hw0
  unfold rdp
  go_wp2_with fail
  refine (var_any _ _ _ w0 hr0 (by decide)).mono ?_
  rintro e w1 ⟨rfl, hr1, hg1⟩
  have hB1 := below_grownBy hB0 hg1 hB0.size (Nat.le_refl _)
  rw [Vi.ex2, Vi.ex3] at hr1
  rw [Vi.ex1]
  clear hr0 hg1 hB0
  go_wp2_with fail
  refine (fixedr_any _ _ _ 2 w1 hr1 (by decide)).mono ?_
  rintro e w2 ⟨rfl, hr2, hg2⟩
  have hB2 := below_grownBy hB1 hg2 hB1.size (Nat.le_refl _)
  rw [Vi.ex5, Vi.ex6] at hr2
  rw [Vi.ex4]
  clear hr1 hg2 hB1
  go_wp2_with fail
  refine (var_any _ _ _ w2 hr2 (by decide)).mono ?_
  rintro e w3 ⟨rfl, hr3, hg3⟩
  have hB3 := below_grownBy hB2 hg3 hB2.size (Nat.le_refl _)
  rw [Vi.ex8, Vi.ex9] at hr3
  rw [Vi.ex7]
  clear hr2 hg3 hB2
  go_wp2_with fail
  refine (put_any 300 w3 (by omega)).mono ?_
  rintro e w4 ⟨rfl, hb4⟩
  have hr4 := hr3.below hb4 hr3.lt
  have hB4 := hB3.trans (hb4.mono hB3.size)
  rw [Vi.ex10]
  clear hr3 hb4 hB3
  go_wp2_with fail
  refine (ok_any _ _ _ w4 hr4).mono ?_
  rintro e w5 ⟨rfl, rfl⟩
  go_wp2_with fail
  refine (fixed_any 258 2 w4).mono ?_
  rintro e w5 ⟨rfl, hb5⟩
  have hB5 := hB4.trans (hb5.mono hB4.size)
  rw [Vi.ex11]
  clear hb5 hB4
  go_wp2_with fail
  refine (text_any _ w5 (by decide)).mono ?_
  rintro e w6 ⟨rfl, hb6⟩
  have hB6 := hB5.trans (hb6.mono hB5.size)
  go_wp2
  go_ret
  refine ⟨?_, hB6⟩
  rw [Vi.ex13]; rfl
end Go.Proofs.Yteodbdgjfalgcaa
