/-
  The walk of the law VarintFails.
  Conditions: a text of at most 2^47 bytes.
-/
import Derived.Test.YteodbdgjfalgcaaEx
namespace Go.Proofs.Yteodbdgjfalgcaa
open Go.RowKit
namespace Vi
theorem fl1 : bytV ⟨#[]⟩ 0 = ⟨#[]⟩ := by decide +kernel
theorem fl2 : bytT ⟨#[]⟩ 0 = ⟨#[]⟩ := by decide +kernel
theorem fl3 : fixV ⟨#[]⟩ 1 = 0 := by decide +kernel
theorem fl4 : fixT ⟨#[]⟩ 1 = ⟨#[]⟩ := by decide +kernel
theorem fl5 : texV ⟨#[]⟩ = ⟨#[]⟩ := by decide +kernel
theorem fl6 : texT ⟨#[]⟩ = ⟨#[]⟩ := by decide +kernel
end Vi
set_option maxHeartbeats 1000000 in
set_option maxRecDepth 100000 in
theorem fails_law (s : ByteArray) (n : Nat) (w : World) (hs : s.size ≤ 140737488351232) (hn : n < 256) :
    Calls Try.prog 7 #[.string s, .int .u8 n] w fun e w' => e = .returned (.bool true) ∧ Below w.heap.size w w' := by
  have hni : (n : Int) ≤ 255 := by omega
  clear hn
  have hno : ∀ m : Int, m = (s.size : Int) + 1 + n → Vi.hasB s m = false := fun m hm => decide_eq_false (by omega)
  have HNO := Lib.hid hno
  clear hno
  have q1 : IntKind.i64.wrap ((s.size : Int) + 1) = (s.size : Int) + 1 := IntWalk.i64_in _ (by omega)
  have q2 : IntKind.i64.wrap ((s.size : Int) + 1 + n) = (s.size : Int) + 1 + n := IntWalk.i64_in _ (by omega)
  go_enter Try.func7, Try.ntmps7
  go_wp2_with fail
  refine (examples_any w).mono ?_
  rintro e w0 ⟨rfl, hB0⟩
  go_wp2_with fail
  refine (new_any s w0).mono ?_
  rintro e w1 ⟨rfl, hw1⟩
  have hr1 : Rd 52 w0.heap.size s false w1 := by rw [hw1]; exact Rd.new _ _ _ _
  have hB1 : Below w.heap.size w w1 := by rw [hw1]; exact hB0.alloc hB0.size _
  have hg := hB0.size
  clear hw1 hB0
  generalize w0.heap.size = g at *
  unfold rdp
  go_wp2_with fail
  refine (bytes_any g s _ ((s.size : Int) + 1 + n) w1 hr1 (by omega)).mono ?_
  rintro e w2 ⟨rfl, hr2, hg2⟩
  have hB2 := below_grownBy hB1 hg2 hB1.size hg
  have hno := HNO.out _ rfl
  rw [hno] at hr2
  have e1 : Vi.bytV s ((s.size : Int) + 1 + n) = ⟨#[]⟩ := by unfold Vi.bytV; rw [hno, if_neg (by decide)]
  have e2 : Vi.bytT s ((s.size : Int) + 1 + n) = ⟨#[]⟩ := by unfold Vi.bytT; rw [hno, if_neg (by decide)]
  rw [e2] at hr2
  rw [e1]
  clear e1 e2 hno hr1 hB1 hg2
  go_wp2_with fail
  refine (bytes_any g _ _ 0 w2 hr2 (by decide)).mono ?_
  rintro e w3 ⟨rfl, hr3, hg3⟩
  have hB3 := below_grownBy hB2 hg3 hB2.size hg
  rw [Vi.fl2] at hr3
  rw [Vi.fl1]
  clear hr2 hB2 hg3
  go_wp2_with fail
  refine (fixedr_any g _ _ 1 w3 hr3 (by decide)).mono ?_
  rintro e w4 ⟨rfl, hr4, hg4⟩
  have hB4 := below_grownBy hB3 hg4 hB3.size hg
  rw [Vi.fl4] at hr4
  rw [Vi.fl3]
  clear hr3 hB3 hg4
  go_wp2_with fail
  refine (textr_any g _ _ w4 hr4 (by decide)).mono ?_
  rintro e w5 ⟨rfl, hr5, hg5⟩
  have hB5 := below_grownBy hB4 hg5 hB4.size hg
  rw [Vi.fl6] at hr5
  rw [Vi.fl5]
  clear hr4 hB4 hg5
  go_wp2_with fail
  refine (ok_any g _ _ w5 hr5).mono ?_
  rintro e w6 ⟨rfl, rfl⟩
  go_wp2_with fail
  refine (left_any g _ _ w5 hr5).mono ?_
  rintro e w6 ⟨rfl, rfl⟩
  go_wp2
  go_ret
  exact ⟨rfl, hB5⟩
end Go.Proofs.Yteodbdgjfalgcaa
