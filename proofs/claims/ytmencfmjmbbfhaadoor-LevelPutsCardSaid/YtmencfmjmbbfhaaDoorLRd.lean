/-
  Is a config right; May, Quorum.
  Conditions: the lists' lengths are below 2^40.
-/
import Derived.Test.YtmencfmjmbbfhaaDoorLRb
import Derived.Test.YtmencfmjmbbfhaaDoorLRc
namespace Go.Proofs.YtmencfmjmbbfhaaDoor
open Go.RowKit
set_option linter.unusedVariables false
set_option linter.unusedSimpArgs false
theorem lright_any (bm cm bh ch : Nat) (c : Cf) (w : World) (hm : Rw w bm cm c.m) (hh : Rw w bh ch c.h) (hn1 : c.m.length ≤ 1099511627776) (hn2 : c.h.length ≤ 1099511627776) :
    Calls Tryd.prog 16 #[cvl bm cm bh ch c] w fun e w' => e = .returned (.bool (rightC c)) ∧ Below w.heap.size w w' := by
  by_cases h1 : 1 ≤ c.m.length
  · cases h2 : rise 1 c.m
    · rw [show rightC c = false from by unfold rightC; rw [h2]; simp]
      exact lright_B bm cm bh ch c w hm hh hn1 hn2 h1 h2
    · cases h3 : wthn 1 2 c.l
      · rw [show rightC c = false from by unfold rightC; rw [h3]; simp]
        exact lright_C bm cm bh ch c w hm hh hn1 hn2 h1 h2 h3
      · by_cases h4 : c.l = 2
        · by_cases h6 : c.h.length = c.m.length
          · rw [show rightC c = c.h.all (wthn c.l 2) from by unfold rightC; rw [h2, h3, h4, h6]; simp [h1]]
            exact lright_F1 bm cm bh ch c w hm hh hn1 hn2 h1 h2 h3 h4 h6
          · rw [show rightC c = false from by unfold rightC; simp [h6]]
            exact lright_E1 bm cm bh ch c w hm hh hn1 hn2 h1 h2 h3 h4 h6
        · cases h5 : c.f
          · by_cases h6 : c.h.length = c.m.length
            · rw [show rightC c = c.h.all (wthn c.l 2) from by unfold rightC; rw [h2, h3, h5, h6]; simp [h1]]
              exact lright_F2 bm cm bh ch c w hm hh hn1 hn2 h1 h2 h3 h4 h5 h6
            · rw [show rightC c = false from by unfold rightC; simp [h6]]
              exact lright_E2 bm cm bh ch c w hm hh hn1 hn2 h1 h2 h3 h4 h5 h6
          · rw [show rightC c = false from by unfold rightC; simp [h4, h5]]
            exact lright_D bm cm bh ch c w hm hh hn1 hn2 h1 h2 h3 h4 h5
  · rw [show rightC c = false from by unfold rightC; simp [h1]]
    exact lright_A bm cm bh ch c w hm hh hn1 hn2 h1
set_option maxHeartbeats 4000000 in
set_option maxRecDepth 100000 in
theorem lright_nil (l : Int) (f : Bool) (w : World) :
    Calls Tryd.prog 16 #[.agg #[.slice none 0 0, .slice none 0 0, .int .i64 l, .bool f]] w fun e w' => e = .returned (.bool false) ∧ Below w.heap.size w w' := by
  obtain ⟨W0, hW0⟩ : ∃ W0, W0 = w.alloc (.cells #[.slice none 0 0, .slice none 0 0, .int .i64 l, .bool f] 25) := ⟨_, rfl⟩
  have hb : Below w.heap.size w W0 := by rw [hW0]; exact (Below.refl _ w).alloc (Nat.le_refl _) _
  have hh : W0.heap[w.heap.size]? = some (.cells #[.slice none 0 0, .slice none 0 0, .int .i64 l, .bool f] 25 (0, 0)) := by rw [hW0]; exact heap_alloc_new w _
  have a0 : W0.cell? ⟨w.heap.size, 0, none⟩ = some (.slice none 0 0) := cell_of_row W0 _ 0 _ 25 (0, 0) hh
  have HB := Lib.hid hb
  have HH := Lib.hid hW0
  go_enter Tryd.func16, Tryd.ntmps16
  go_upto_region 1 with fail
  rw [← hW0]
  clear hb hh hW0
  go_quiet (fail)
  go_wp2
  go_ret
  exact ⟨rfl, ⟨HB.out.os, HB.out.tape, HB.out.output, HB.out.size, HB.out.block⟩⟩
end Go.Proofs.YtmencfmjmbbfhaaDoor
