/-
  The fields of a message, as closures in memory.
  Conditions: named in each theorem.
-/
import Derived.Test.YtmalcldpihpfpaaGreatFl
namespace Go.Proofs.YtmalcldpihpfpaaGreat
open Go.RowKit
set_option linter.unusedVariables false
set_option linter.unusedSimpArgs false
abbrev FMI (lo : Nat) (fa : FuncId) (v1 v2 : Value) (w : World) : Prop := FldI lo 120 139 140 141 138 139 fa 104 105 106 v1 v2 w
abbrev FMU (lo : Nat) (fa : FuncId) (v1 v2 : Value) (w : World) : Prop := FldI lo 122 143 61 144 140 141 fa 108 109 110 v1 v2 w
abbrev FMB (lo : Nat) (fa : FuncId) (v1 v2 : Value) (w : World) : Prop := FldI lo 125 151 152 153 142 143 fa 119 120 121 v1 v2 w
abbrev FMT (lo : Nat) (fa : FuncId) (v1 v2 : Value) (w : World) : Prop := FldI lo 127 146 114 147 145 146 fa 112 113 114 v1 v2 w
abbrev FME (lo : Nat) (fa : FuncId) (v1 v2 : Value) (w : World) : Prop := FldI lo 130 131 132 133 123 124 fa 95 96 97 v1 v2 w

set_option maxHeartbeats 1000000 in
set_option maxRecDepth 100000 in
theorem madeMI_any (fa : FuncId) (w : World) :
    Calls Tryz.prog 116 #[.func (.func fa) #[] #[], .func (.func 104) #[] #[], .func (.func 105) #[] #[], .func (.func 106) #[] #[]] w fun e w' => ∃ v1 v2, e = .returned (.agg #[v1, v2]) ∧ FMI w.heap.size fa v1 v2 w' ∧ Below w.heap.size w w' := by
  have hmf : ∀ (fn : Fn) (first cap : Array Value) (w : World), (Instr.makeFunc fn first cap).run Tryz.prog w = .ok (.func fn first cap) w := fun _ _ _ _ => rfl
  obtain ⟨W, hW⟩ : ∃ W, W = ((((w.alloc (Obj.cells #[.func (.func fa) #[] #[]] 120)).alloc (Obj.cells #[.func (.func 104) #[] #[]] 139)).alloc (Obj.cells #[.func (.func 105) #[] #[]] 140)).alloc (Obj.cells #[.func (.func 106) #[] #[]] 141)) := ⟨_, rfl⟩
  have hb : Below w.heap.size w W := by rw [hW]; exact ((((Below.refl _ _).alloc (Nat.le_refl _) _).alloc (by simp) _).alloc (by simp; omega) _).alloc (by simp; omega) _
  have k0 : W.heap[w.heap.size]? = some (.cells #[.func (.func fa) #[] #[]] 120 (0, 0)) := by
    have h := heap_alloc_new w (Obj.cells #[.func (.func fa) #[] #[]] 120)
    rw [hW]; exact blk_al _ (blk_al _ (blk_al _ (h)))
  have k1 : W.heap[w.heap.size + 1]? = some (.cells #[.func (.func 104) #[] #[]] 139 (0, 0)) := by
    have h := heap_alloc_new (w.alloc (Obj.cells #[.func (.func fa) #[] #[]] 120)) (Obj.cells #[.func (.func 104) #[] #[]] 139)
    rw [show (w.alloc (Obj.cells #[.func (.func fa) #[] #[]] 120)).heap.size = w.heap.size + 1 by simp] at h
    rw [hW]; exact blk_al _ (blk_al _ (h))
  have k2 : W.heap[w.heap.size + 1 + 1]? = some (.cells #[.func (.func 105) #[] #[]] 140 (0, 0)) := by
    have h := heap_alloc_new ((w.alloc (Obj.cells #[.func (.func fa) #[] #[]] 120)).alloc (Obj.cells #[.func (.func 104) #[] #[]] 139)) (Obj.cells #[.func (.func 105) #[] #[]] 140)
    rw [show ((w.alloc (Obj.cells #[.func (.func fa) #[] #[]] 120)).alloc (Obj.cells #[.func (.func 104) #[] #[]] 139)).heap.size = w.heap.size + 1 + 1 by simp] at h
    rw [hW]; exact blk_al _ (h)
  have k3 : W.heap[w.heap.size + 1 + 1 + 1]? = some (.cells #[.func (.func 106) #[] #[]] 141 (0, 0)) := by
    have h := heap_alloc_new (((w.alloc (Obj.cells #[.func (.func fa) #[] #[]] 120)).alloc (Obj.cells #[.func (.func 104) #[] #[]] 139)).alloc (Obj.cells #[.func (.func 105) #[] #[]] 140)) (Obj.cells #[.func (.func 106) #[] #[]] 141)
    rw [show (((w.alloc (Obj.cells #[.func (.func fa) #[] #[]] 120)).alloc (Obj.cells #[.func (.func 104) #[] #[]] 139)).alloc (Obj.cells #[.func (.func 105) #[] #[]] 140)).heap.size = w.heap.size + 1 + 1 + 1 by simp] at h
    rw [hW]; exact h
  have hWs : W.heap.size = w.heap.size + 1 + 1 + 1 + 1 := by rw [hW]; simp
  have HW := Lib.hid hW
  have HS := Lib.hid hWs
  have HB := Lib.hid hb
  have HK : Hid (FMI w.heap.size fa (.func (.func 138) #[] #[.pointer (some ⟨w.heap.size, 0, none⟩), .pointer (some ⟨w.heap.size + 1, 0, none⟩), .pointer (some ⟨w.heap.size + 1 + 1, 0, none⟩)]) (.func (.func 139) #[] #[.pointer (some ⟨w.heap.size + 1 + 1 + 1, 0, none⟩), .pointer (some ⟨w.heap.size + 1, 0, none⟩), .pointer (some ⟨w.heap.size, 0, none⟩)]) W) := ⟨_, _, _, _, ⟨Nat.le_refl _, by omega, by omega, by omega⟩, rfl, rfl, k0, k1, k2, k3⟩
  clear hW hWs hb k0 k1 k2 k3
  go_enter Tryz.func116, Tryz.ntmps116
  go_wp2
  refine bodyPost_ret (v := .agg #[.func (.func 138) #[] #[.pointer (some ⟨w.heap.size, 0, none⟩), .pointer (some ⟨w.heap.size + 1, 0, none⟩), .pointer (some ⟨w.heap.size + 1 + 1, 0, none⟩)], .func (.func 139) #[] #[.pointer (some ⟨w.heap.size + 1 + 1 + 1, 0, none⟩), .pointer (some ⟨w.heap.size + 1, 0, none⟩), .pointer (some ⟨w.heap.size, 0, none⟩)]]) (by simp [results, Tryz.results116, go_sem]) rfl ⟨_, _, rfl, ?_, ?_⟩
  · rw [← HW.out]
    exact HK.out.on (Stab.below ((Below.refl _ _).alloc (Nat.le_refl _) _)) (by decide)
  · rw [← HW.out]
    exact HB.out.alloc (by have := HS.out; omega) _

set_option maxHeartbeats 1000000 in
set_option maxRecDepth 100000 in
theorem madeMU_any (fa : FuncId) (w : World) :
    Calls Tryz.prog 117 #[.func (.func fa) #[] #[], .func (.func 108) #[] #[], .func (.func 109) #[] #[], .func (.func 110) #[] #[]] w fun e w' => ∃ v1 v2, e = .returned (.agg #[v1, v2]) ∧ FMU w.heap.size fa v1 v2 w' ∧ Below w.heap.size w w' := by
  have hmf : ∀ (fn : Fn) (first cap : Array Value) (w : World), (Instr.makeFunc fn first cap).run Tryz.prog w = .ok (.func fn first cap) w := fun _ _ _ _ => rfl
  obtain ⟨W, hW⟩ : ∃ W, W = ((((w.alloc (Obj.cells #[.func (.func fa) #[] #[]] 122)).alloc (Obj.cells #[.func (.func 108) #[] #[]] 143)).alloc (Obj.cells #[.func (.func 109) #[] #[]] 61)).alloc (Obj.cells #[.func (.func 110) #[] #[]] 144)) := ⟨_, rfl⟩
  have hb : Below w.heap.size w W := by rw [hW]; exact ((((Below.refl _ _).alloc (Nat.le_refl _) _).alloc (by simp) _).alloc (by simp; omega) _).alloc (by simp; omega) _
  have k0 : W.heap[w.heap.size]? = some (.cells #[.func (.func fa) #[] #[]] 122 (0, 0)) := by
    have h := heap_alloc_new w (Obj.cells #[.func (.func fa) #[] #[]] 122)
    rw [hW]; exact blk_al _ (blk_al _ (blk_al _ (h)))
  have k1 : W.heap[w.heap.size + 1]? = some (.cells #[.func (.func 108) #[] #[]] 143 (0, 0)) := by
    have h := heap_alloc_new (w.alloc (Obj.cells #[.func (.func fa) #[] #[]] 122)) (Obj.cells #[.func (.func 108) #[] #[]] 143)
    rw [show (w.alloc (Obj.cells #[.func (.func fa) #[] #[]] 122)).heap.size = w.heap.size + 1 by simp] at h
    rw [hW]; exact blk_al _ (blk_al _ (h))
  have k2 : W.heap[w.heap.size + 1 + 1]? = some (.cells #[.func (.func 109) #[] #[]] 61 (0, 0)) := by
    have h := heap_alloc_new ((w.alloc (Obj.cells #[.func (.func fa) #[] #[]] 122)).alloc (Obj.cells #[.func (.func 108) #[] #[]] 143)) (Obj.cells #[.func (.func 109) #[] #[]] 61)
    rw [show ((w.alloc (Obj.cells #[.func (.func fa) #[] #[]] 122)).alloc (Obj.cells #[.func (.func 108) #[] #[]] 143)).heap.size = w.heap.size + 1 + 1 by simp] at h
    rw [hW]; exact blk_al _ (h)
  have k3 : W.heap[w.heap.size + 1 + 1 + 1]? = some (.cells #[.func (.func 110) #[] #[]] 144 (0, 0)) := by
    have h := heap_alloc_new (((w.alloc (Obj.cells #[.func (.func fa) #[] #[]] 122)).alloc (Obj.cells #[.func (.func 108) #[] #[]] 143)).alloc (Obj.cells #[.func (.func 109) #[] #[]] 61)) (Obj.cells #[.func (.func 110) #[] #[]] 144)
    rw [show (((w.alloc (Obj.cells #[.func (.func fa) #[] #[]] 122)).alloc (Obj.cells #[.func (.func 108) #[] #[]] 143)).alloc (Obj.cells #[.func (.func 109) #[] #[]] 61)).heap.size = w.heap.size + 1 + 1 + 1 by simp] at h
    rw [hW]; exact h
  have hWs : W.heap.size = w.heap.size + 1 + 1 + 1 + 1 := by rw [hW]; simp
  have HW := Lib.hid hW
  have HS := Lib.hid hWs
  have HB := Lib.hid hb
  have HK : Hid (FMU w.heap.size fa (.func (.func 140) #[] #[.pointer (some ⟨w.heap.size, 0, none⟩), .pointer (some ⟨w.heap.size + 1, 0, none⟩), .pointer (some ⟨w.heap.size + 1 + 1, 0, none⟩)]) (.func (.func 141) #[] #[.pointer (some ⟨w.heap.size + 1 + 1 + 1, 0, none⟩), .pointer (some ⟨w.heap.size + 1, 0, none⟩), .pointer (some ⟨w.heap.size, 0, none⟩)]) W) := ⟨_, _, _, _, ⟨Nat.le_refl _, by omega, by omega, by omega⟩, rfl, rfl, k0, k1, k2, k3⟩
  clear hW hWs hb k0 k1 k2 k3
  go_enter Tryz.func117, Tryz.ntmps117
  go_wp2
  refine bodyPost_ret (v := .agg #[.func (.func 140) #[] #[.pointer (some ⟨w.heap.size, 0, none⟩), .pointer (some ⟨w.heap.size + 1, 0, none⟩), .pointer (some ⟨w.heap.size + 1 + 1, 0, none⟩)], .func (.func 141) #[] #[.pointer (some ⟨w.heap.size + 1 + 1 + 1, 0, none⟩), .pointer (some ⟨w.heap.size + 1, 0, none⟩), .pointer (some ⟨w.heap.size, 0, none⟩)]]) (by simp [results, Tryz.results117, go_sem]) rfl ⟨_, _, rfl, ?_, ?_⟩
  · rw [← HW.out]
    exact HK.out.on (Stab.below ((Below.refl _ _).alloc (Nat.le_refl _) _)) (by decide)
  · rw [← HW.out]
    exact HB.out.alloc (by have := HS.out; omega) _

set_option maxHeartbeats 1000000 in
set_option maxRecDepth 100000 in
theorem madeMB_any (fa : FuncId) (w : World) :
    Calls Tryz.prog 118 #[.func (.func fa) #[] #[], .func (.func 119) #[] #[], .func (.func 120) #[] #[], .func (.func 121) #[] #[]] w fun e w' => ∃ v1 v2, e = .returned (.agg #[v1, v2]) ∧ FMB w.heap.size fa v1 v2 w' ∧ Below w.heap.size w w' := by
  have hmf : ∀ (fn : Fn) (first cap : Array Value) (w : World), (Instr.makeFunc fn first cap).run Tryz.prog w = .ok (.func fn first cap) w := fun _ _ _ _ => rfl
  obtain ⟨W, hW⟩ : ∃ W, W = ((((w.alloc (Obj.cells #[.func (.func fa) #[] #[]] 125)).alloc (Obj.cells #[.func (.func 119) #[] #[]] 151)).alloc (Obj.cells #[.func (.func 120) #[] #[]] 152)).alloc (Obj.cells #[.func (.func 121) #[] #[]] 153)) := ⟨_, rfl⟩
  have hb : Below w.heap.size w W := by rw [hW]; exact ((((Below.refl _ _).alloc (Nat.le_refl _) _).alloc (by simp) _).alloc (by simp; omega) _).alloc (by simp; omega) _
  have k0 : W.heap[w.heap.size]? = some (.cells #[.func (.func fa) #[] #[]] 125 (0, 0)) := by
    have h := heap_alloc_new w (Obj.cells #[.func (.func fa) #[] #[]] 125)
    rw [hW]; exact blk_al _ (blk_al _ (blk_al _ (h)))
  have k1 : W.heap[w.heap.size + 1]? = some (.cells #[.func (.func 119) #[] #[]] 151 (0, 0)) := by
    have h := heap_alloc_new (w.alloc (Obj.cells #[.func (.func fa) #[] #[]] 125)) (Obj.cells #[.func (.func 119) #[] #[]] 151)
    rw [show (w.alloc (Obj.cells #[.func (.func fa) #[] #[]] 125)).heap.size = w.heap.size + 1 by simp] at h
    rw [hW]; exact blk_al _ (blk_al _ (h))
  have k2 : W.heap[w.heap.size + 1 + 1]? = some (.cells #[.func (.func 120) #[] #[]] 152 (0, 0)) := by
    have h := heap_alloc_new ((w.alloc (Obj.cells #[.func (.func fa) #[] #[]] 125)).alloc (Obj.cells #[.func (.func 119) #[] #[]] 151)) (Obj.cells #[.func (.func 120) #[] #[]] 152)
    rw [show ((w.alloc (Obj.cells #[.func (.func fa) #[] #[]] 125)).alloc (Obj.cells #[.func (.func 119) #[] #[]] 151)).heap.size = w.heap.size + 1 + 1 by simp] at h
    rw [hW]; exact blk_al _ (h)
  have k3 : W.heap[w.heap.size + 1 + 1 + 1]? = some (.cells #[.func (.func 121) #[] #[]] 153 (0, 0)) := by
    have h := heap_alloc_new (((w.alloc (Obj.cells #[.func (.func fa) #[] #[]] 125)).alloc (Obj.cells #[.func (.func 119) #[] #[]] 151)).alloc (Obj.cells #[.func (.func 120) #[] #[]] 152)) (Obj.cells #[.func (.func 121) #[] #[]] 153)
    rw [show (((w.alloc (Obj.cells #[.func (.func fa) #[] #[]] 125)).alloc (Obj.cells #[.func (.func 119) #[] #[]] 151)).alloc (Obj.cells #[.func (.func 120) #[] #[]] 152)).heap.size = w.heap.size + 1 + 1 + 1 by simp] at h
    rw [hW]; exact h
  have hWs : W.heap.size = w.heap.size + 1 + 1 + 1 + 1 := by rw [hW]; simp
  have HW := Lib.hid hW
  have HS := Lib.hid hWs
  have HB := Lib.hid hb
  have HK : Hid (FMB w.heap.size fa (.func (.func 142) #[] #[.pointer (some ⟨w.heap.size, 0, none⟩), .pointer (some ⟨w.heap.size + 1, 0, none⟩), .pointer (some ⟨w.heap.size + 1 + 1, 0, none⟩)]) (.func (.func 143) #[] #[.pointer (some ⟨w.heap.size + 1 + 1 + 1, 0, none⟩), .pointer (some ⟨w.heap.size + 1, 0, none⟩), .pointer (some ⟨w.heap.size, 0, none⟩)]) W) := ⟨_, _, _, _, ⟨Nat.le_refl _, by omega, by omega, by omega⟩, rfl, rfl, k0, k1, k2, k3⟩
  clear hW hWs hb k0 k1 k2 k3
  go_enter Tryz.func118, Tryz.ntmps118
  go_wp2
  refine bodyPost_ret (v := .agg #[.func (.func 142) #[] #[.pointer (some ⟨w.heap.size, 0, none⟩), .pointer (some ⟨w.heap.size + 1, 0, none⟩), .pointer (some ⟨w.heap.size + 1 + 1, 0, none⟩)], .func (.func 143) #[] #[.pointer (some ⟨w.heap.size + 1 + 1 + 1, 0, none⟩), .pointer (some ⟨w.heap.size + 1, 0, none⟩), .pointer (some ⟨w.heap.size, 0, none⟩)]]) (by simp [results, Tryz.results118, go_sem]) rfl ⟨_, _, rfl, ?_, ?_⟩
  · rw [← HW.out]
    exact HK.out.on (Stab.below ((Below.refl _ _).alloc (Nat.le_refl _) _)) (by decide)
  · rw [← HW.out]
    exact HB.out.alloc (by have := HS.out; omega) _

set_option maxHeartbeats 1000000 in
set_option maxRecDepth 100000 in
theorem madeMT_any (fa : FuncId) (w : World) :
    Calls Tryz.prog 122 #[.func (.func fa) #[] #[], .func (.func 112) #[] #[], .func (.func 113) #[] #[], .func (.func 114) #[] #[]] w fun e w' => ∃ v1 v2, e = .returned (.agg #[v1, v2]) ∧ FMT w.heap.size fa v1 v2 w' ∧ Below w.heap.size w w' := by
  have hmf : ∀ (fn : Fn) (first cap : Array Value) (w : World), (Instr.makeFunc fn first cap).run Tryz.prog w = .ok (.func fn first cap) w := fun _ _ _ _ => rfl
  obtain ⟨W, hW⟩ : ∃ W, W = ((((w.alloc (Obj.cells #[.func (.func fa) #[] #[]] 127)).alloc (Obj.cells #[.func (.func 112) #[] #[]] 146)).alloc (Obj.cells #[.func (.func 113) #[] #[]] 114)).alloc (Obj.cells #[.func (.func 114) #[] #[]] 147)) := ⟨_, rfl⟩
  have hb : Below w.heap.size w W := by rw [hW]; exact ((((Below.refl _ _).alloc (Nat.le_refl _) _).alloc (by simp) _).alloc (by simp; omega) _).alloc (by simp; omega) _
  have k0 : W.heap[w.heap.size]? = some (.cells #[.func (.func fa) #[] #[]] 127 (0, 0)) := by
    have h := heap_alloc_new w (Obj.cells #[.func (.func fa) #[] #[]] 127)
    rw [hW]; exact blk_al _ (blk_al _ (blk_al _ (h)))
  have k1 : W.heap[w.heap.size + 1]? = some (.cells #[.func (.func 112) #[] #[]] 146 (0, 0)) := by
    have h := heap_alloc_new (w.alloc (Obj.cells #[.func (.func fa) #[] #[]] 127)) (Obj.cells #[.func (.func 112) #[] #[]] 146)
    rw [show (w.alloc (Obj.cells #[.func (.func fa) #[] #[]] 127)).heap.size = w.heap.size + 1 by simp] at h
    rw [hW]; exact blk_al _ (blk_al _ (h))
  have k2 : W.heap[w.heap.size + 1 + 1]? = some (.cells #[.func (.func 113) #[] #[]] 114 (0, 0)) := by
    have h := heap_alloc_new ((w.alloc (Obj.cells #[.func (.func fa) #[] #[]] 127)).alloc (Obj.cells #[.func (.func 112) #[] #[]] 146)) (Obj.cells #[.func (.func 113) #[] #[]] 114)
    rw [show ((w.alloc (Obj.cells #[.func (.func fa) #[] #[]] 127)).alloc (Obj.cells #[.func (.func 112) #[] #[]] 146)).heap.size = w.heap.size + 1 + 1 by simp] at h
    rw [hW]; exact blk_al _ (h)
  have k3 : W.heap[w.heap.size + 1 + 1 + 1]? = some (.cells #[.func (.func 114) #[] #[]] 147 (0, 0)) := by
    have h := heap_alloc_new (((w.alloc (Obj.cells #[.func (.func fa) #[] #[]] 127)).alloc (Obj.cells #[.func (.func 112) #[] #[]] 146)).alloc (Obj.cells #[.func (.func 113) #[] #[]] 114)) (Obj.cells #[.func (.func 114) #[] #[]] 147)
    rw [show (((w.alloc (Obj.cells #[.func (.func fa) #[] #[]] 127)).alloc (Obj.cells #[.func (.func 112) #[] #[]] 146)).alloc (Obj.cells #[.func (.func 113) #[] #[]] 114)).heap.size = w.heap.size + 1 + 1 + 1 by simp] at h
    rw [hW]; exact h
  have hWs : W.heap.size = w.heap.size + 1 + 1 + 1 + 1 := by rw [hW]; simp
  have HW := Lib.hid hW
  have HS := Lib.hid hWs
  have HB := Lib.hid hb
  have HK : Hid (FMT w.heap.size fa (.func (.func 145) #[] #[.pointer (some ⟨w.heap.size, 0, none⟩), .pointer (some ⟨w.heap.size + 1, 0, none⟩), .pointer (some ⟨w.heap.size + 1 + 1, 0, none⟩)]) (.func (.func 146) #[] #[.pointer (some ⟨w.heap.size + 1 + 1 + 1, 0, none⟩), .pointer (some ⟨w.heap.size + 1, 0, none⟩), .pointer (some ⟨w.heap.size, 0, none⟩)]) W) := ⟨_, _, _, _, ⟨Nat.le_refl _, by omega, by omega, by omega⟩, rfl, rfl, k0, k1, k2, k3⟩
  clear hW hWs hb k0 k1 k2 k3
  go_enter Tryz.func122, Tryz.ntmps122
  go_wp2
  refine bodyPost_ret (v := .agg #[.func (.func 145) #[] #[.pointer (some ⟨w.heap.size, 0, none⟩), .pointer (some ⟨w.heap.size + 1, 0, none⟩), .pointer (some ⟨w.heap.size + 1 + 1, 0, none⟩)], .func (.func 146) #[] #[.pointer (some ⟨w.heap.size + 1 + 1 + 1, 0, none⟩), .pointer (some ⟨w.heap.size + 1, 0, none⟩), .pointer (some ⟨w.heap.size, 0, none⟩)]]) (by simp [results, Tryz.results122, go_sem]) rfl ⟨_, _, rfl, ?_, ?_⟩
  · rw [← HW.out]
    exact HK.out.on (Stab.below ((Below.refl _ _).alloc (Nat.le_refl _) _)) (by decide)
  · rw [← HW.out]
    exact HB.out.alloc (by have := HS.out; omega) _

set_option maxHeartbeats 1000000 in
set_option maxRecDepth 100000 in
theorem madeME_any (fa : FuncId) (w : World) :
    Calls Tryz.prog 93 #[.func (.func fa) #[] #[], .func (.func 95) #[] #[], .func (.func 96) #[] #[], .func (.func 97) #[] #[]] w fun e w' => ∃ v1 v2, e = .returned (.agg #[v1, v2]) ∧ FME w.heap.size fa v1 v2 w' ∧ Below w.heap.size w w' := by
  have hmf : ∀ (fn : Fn) (first cap : Array Value) (w : World), (Instr.makeFunc fn first cap).run Tryz.prog w = .ok (.func fn first cap) w := fun _ _ _ _ => rfl
  obtain ⟨W, hW⟩ : ∃ W, W = ((((w.alloc (Obj.cells #[.func (.func fa) #[] #[]] 130)).alloc (Obj.cells #[.func (.func 95) #[] #[]] 131)).alloc (Obj.cells #[.func (.func 96) #[] #[]] 132)).alloc (Obj.cells #[.func (.func 97) #[] #[]] 133)) := ⟨_, rfl⟩
  have hb : Below w.heap.size w W := by rw [hW]; exact ((((Below.refl _ _).alloc (Nat.le_refl _) _).alloc (by simp) _).alloc (by simp; omega) _).alloc (by simp; omega) _
  have k0 : W.heap[w.heap.size]? = some (.cells #[.func (.func fa) #[] #[]] 130 (0, 0)) := by
    have h := heap_alloc_new w (Obj.cells #[.func (.func fa) #[] #[]] 130)
    rw [hW]; exact blk_al _ (blk_al _ (blk_al _ (h)))
  have k1 : W.heap[w.heap.size + 1]? = some (.cells #[.func (.func 95) #[] #[]] 131 (0, 0)) := by
    have h := heap_alloc_new (w.alloc (Obj.cells #[.func (.func fa) #[] #[]] 130)) (Obj.cells #[.func (.func 95) #[] #[]] 131)
    rw [show (w.alloc (Obj.cells #[.func (.func fa) #[] #[]] 130)).heap.size = w.heap.size + 1 by simp] at h
    rw [hW]; exact blk_al _ (blk_al _ (h))
  have k2 : W.heap[w.heap.size + 1 + 1]? = some (.cells #[.func (.func 96) #[] #[]] 132 (0, 0)) := by
    have h := heap_alloc_new ((w.alloc (Obj.cells #[.func (.func fa) #[] #[]] 130)).alloc (Obj.cells #[.func (.func 95) #[] #[]] 131)) (Obj.cells #[.func (.func 96) #[] #[]] 132)
    rw [show ((w.alloc (Obj.cells #[.func (.func fa) #[] #[]] 130)).alloc (Obj.cells #[.func (.func 95) #[] #[]] 131)).heap.size = w.heap.size + 1 + 1 by simp] at h
    rw [hW]; exact blk_al _ (h)
  have k3 : W.heap[w.heap.size + 1 + 1 + 1]? = some (.cells #[.func (.func 97) #[] #[]] 133 (0, 0)) := by
    have h := heap_alloc_new (((w.alloc (Obj.cells #[.func (.func fa) #[] #[]] 130)).alloc (Obj.cells #[.func (.func 95) #[] #[]] 131)).alloc (Obj.cells #[.func (.func 96) #[] #[]] 132)) (Obj.cells #[.func (.func 97) #[] #[]] 133)
    rw [show (((w.alloc (Obj.cells #[.func (.func fa) #[] #[]] 130)).alloc (Obj.cells #[.func (.func 95) #[] #[]] 131)).alloc (Obj.cells #[.func (.func 96) #[] #[]] 132)).heap.size = w.heap.size + 1 + 1 + 1 by simp] at h
    rw [hW]; exact h
  have hWs : W.heap.size = w.heap.size + 1 + 1 + 1 + 1 := by rw [hW]; simp
  have HW := Lib.hid hW
  have HS := Lib.hid hWs
  have HB := Lib.hid hb
  have HK : Hid (FME w.heap.size fa (.func (.func 123) #[] #[.pointer (some ⟨w.heap.size, 0, none⟩), .pointer (some ⟨w.heap.size + 1, 0, none⟩), .pointer (some ⟨w.heap.size + 1 + 1, 0, none⟩)]) (.func (.func 124) #[] #[.pointer (some ⟨w.heap.size + 1 + 1 + 1, 0, none⟩), .pointer (some ⟨w.heap.size + 1, 0, none⟩), .pointer (some ⟨w.heap.size, 0, none⟩)]) W) := ⟨_, _, _, _, ⟨Nat.le_refl _, by omega, by omega, by omega⟩, rfl, rfl, k0, k1, k2, k3⟩
  clear hW hWs hb k0 k1 k2 k3
  go_enter Tryz.func93, Tryz.ntmps93
  go_wp2
  refine bodyPost_ret (v := .agg #[.func (.func 123) #[] #[.pointer (some ⟨w.heap.size, 0, none⟩), .pointer (some ⟨w.heap.size + 1, 0, none⟩), .pointer (some ⟨w.heap.size + 1 + 1, 0, none⟩)], .func (.func 124) #[] #[.pointer (some ⟨w.heap.size + 1 + 1 + 1, 0, none⟩), .pointer (some ⟨w.heap.size + 1, 0, none⟩), .pointer (some ⟨w.heap.size, 0, none⟩)]]) (by simp [results, Tryz.results93, go_sem]) rfl ⟨_, _, rfl, ?_, ?_⟩
  · rw [← HW.out]
    exact HK.out.on (Stab.below ((Below.refl _ _).alloc (Nat.le_refl _) _)) (by decide)
  · rw [← HW.out]
    exact HB.out.alloc (by have := HS.out; omega) _

set_option maxHeartbeats 1000000 in
set_option maxRecDepth 100000 in
theorem numMI_any (fa : FuncId) (w : World) :
    Calls Tryz.prog 79 #[.func (.func fa) #[] #[]] w fun e w' => ∃ v1 v2, e = .returned (.agg #[v1, v2]) ∧ FMI (w.heap.size + 1) fa v1 v2 w' ∧ Below w.heap.size w w' := by
  have K := Lib.hid (fun (W : World) => madeMI_any fa W)
  obtain ⟨W0, hW0⟩ : ∃ W0, W0 = w.alloc (Obj.cells #[.nilFunc, .nilFunc] 118) := ⟨_, rfl⟩
  have hb0 : Below w.heap.size w W0 := by rw [hW0]; exact (Below.refl _ _).alloc (Nat.le_refl _) _
  have hs0 : W0.heap.size = w.heap.size + 1 := by rw [hW0]; simp
  have hk0 : W0.heap[w.heap.size]? = some (.cells #[.nilFunc, .nilFunc] 118 (0, 0)) := by rw [hW0]; exact heap_alloc_new w _
  have HW := Lib.hid hW0
  have HB := Lib.hid hb0
  have HS := Lib.hid hs0
  have HK := Lib.hid hk0
  clear hW0 hb0 hs0 hk0
  go_enter Tryz.func79, Tryz.ntmps79
  go_wp2_with fail
  rw [← HW.out]
  refine (K.out _).mono ?_
  rintro e w1 ⟨v1, v2, rfl, ⟨a, n, p, r, h0, rfl, rfl, h3, h4, h5, h6⟩, hb1⟩
  have hk1 : w1.heap[w.heap.size]? = some (.cells #[.nilFunc, .nilFunc] 118 (0, 0)) := (hb1.block _ (by have := HS.out; omega)).trans HK.out
  have c0 : w1.cell? ⟨w.heap.size, 0, none⟩ = some .nilFunc := cell_of_row w1 _ 0 _ 118 (0, 0) hk1
  have c1 : w1.cell? ⟨w.heap.size, 1, none⟩ = some .nilFunc := cell_of_row w1 _ 1 _ 118 (0, 0) hk1
  have fz : ∀ i, w1.frozen? ⟨w.heap.size, i, none⟩ = false := fun i => Lib.frozen_of_heap hk1 i
  have HF : Hid (FMI W0.heap.size fa (.func (.func 138) #[] #[.pointer (some ⟨a, 0, none⟩), .pointer (some ⟨n, 0, none⟩), .pointer (some ⟨p, 0, none⟩)]) (.func (.func 139) #[] #[.pointer (some ⟨r, 0, none⟩), .pointer (some ⟨n, 0, none⟩), .pointer (some ⟨a, 0, none⟩)]) w1) := ⟨a, n, p, r, h0, rfl, rfl, h3, h4, h5, h6⟩
  have HB1 : Hid (Below w.heap.size w w1) := HB.out.trans (hb1.mono HB.out.size)
  clear h0 h3 h4 h5 h6 hb1 hk1
  go_wp2
  refine bodyPost_ret (v := .agg #[.func (.func 138) #[] #[.pointer (some ⟨a, 0, none⟩), .pointer (some ⟨n, 0, none⟩), .pointer (some ⟨p, 0, none⟩)], .func (.func 139) #[] #[.pointer (some ⟨r, 0, none⟩), .pointer (some ⟨n, 0, none⟩), .pointer (some ⟨a, 0, none⟩)]]) (by simp [results, Tryz.results79, go_sem, c0, c1]) rfl ⟨_, _, rfl, ?_, ?_⟩
  · have hs := HS.out
    have h := HF.out
    rw [hs] at h
    exact (h.set (by simp)).set (by simp)
  · exact (HB1.out.setCell (p := ⟨w.heap.size, 0, none⟩) (Nat.le_refl _) _).setCell (p := ⟨w.heap.size, 1, none⟩) (Nat.le_refl _) _

set_option maxHeartbeats 1000000 in
set_option maxRecDepth 100000 in
theorem numMU_any (fa : FuncId) (w : World) :
    Calls Tryz.prog 83 #[.func (.func fa) #[] #[]] w fun e w' => ∃ v1 v2, e = .returned (.agg #[v1, v2]) ∧ FMU (w.heap.size + 1) fa v1 v2 w' ∧ Below w.heap.size w w' := by
  have K := Lib.hid (fun (W : World) => madeMU_any fa W)
  obtain ⟨W0, hW0⟩ : ∃ W0, W0 = w.alloc (Obj.cells #[.nilFunc, .nilFunc] 118) := ⟨_, rfl⟩
  have hb0 : Below w.heap.size w W0 := by rw [hW0]; exact (Below.refl _ _).alloc (Nat.le_refl _) _
  have hs0 : W0.heap.size = w.heap.size + 1 := by rw [hW0]; simp
  have hk0 : W0.heap[w.heap.size]? = some (.cells #[.nilFunc, .nilFunc] 118 (0, 0)) := by rw [hW0]; exact heap_alloc_new w _
  have HW := Lib.hid hW0
  have HB := Lib.hid hb0
  have HS := Lib.hid hs0
  have HK := Lib.hid hk0
  clear hW0 hb0 hs0 hk0
  go_enter Tryz.func83, Tryz.ntmps83
  go_wp2_with fail
  rw [← HW.out]
  refine (K.out _).mono ?_
  rintro e w1 ⟨v1, v2, rfl, ⟨a, n, p, r, h0, rfl, rfl, h3, h4, h5, h6⟩, hb1⟩
  have hk1 : w1.heap[w.heap.size]? = some (.cells #[.nilFunc, .nilFunc] 118 (0, 0)) := (hb1.block _ (by have := HS.out; omega)).trans HK.out
  have c0 : w1.cell? ⟨w.heap.size, 0, none⟩ = some .nilFunc := cell_of_row w1 _ 0 _ 118 (0, 0) hk1
  have c1 : w1.cell? ⟨w.heap.size, 1, none⟩ = some .nilFunc := cell_of_row w1 _ 1 _ 118 (0, 0) hk1
  have fz : ∀ i, w1.frozen? ⟨w.heap.size, i, none⟩ = false := fun i => Lib.frozen_of_heap hk1 i
  have HF : Hid (FMU W0.heap.size fa (.func (.func 140) #[] #[.pointer (some ⟨a, 0, none⟩), .pointer (some ⟨n, 0, none⟩), .pointer (some ⟨p, 0, none⟩)]) (.func (.func 141) #[] #[.pointer (some ⟨r, 0, none⟩), .pointer (some ⟨n, 0, none⟩), .pointer (some ⟨a, 0, none⟩)]) w1) := ⟨a, n, p, r, h0, rfl, rfl, h3, h4, h5, h6⟩
  have HB1 : Hid (Below w.heap.size w w1) := HB.out.trans (hb1.mono HB.out.size)
  clear h0 h3 h4 h5 h6 hb1 hk1
  go_wp2
  refine bodyPost_ret (v := .agg #[.func (.func 140) #[] #[.pointer (some ⟨a, 0, none⟩), .pointer (some ⟨n, 0, none⟩), .pointer (some ⟨p, 0, none⟩)], .func (.func 141) #[] #[.pointer (some ⟨r, 0, none⟩), .pointer (some ⟨n, 0, none⟩), .pointer (some ⟨a, 0, none⟩)]]) (by simp [results, Tryz.results83, go_sem, c0, c1]) rfl ⟨_, _, rfl, ?_, ?_⟩
  · have hs := HS.out
    have h := HF.out
    rw [hs] at h
    exact (h.set (by simp)).set (by simp)
  · exact (HB1.out.setCell (p := ⟨w.heap.size, 0, none⟩) (Nat.le_refl _) _).setCell (p := ⟨w.heap.size, 1, none⟩) (Nat.le_refl _) _

set_option maxHeartbeats 1000000 in
set_option maxRecDepth 100000 in
theorem numMB_any (fa : FuncId) (w : World) :
    Calls Tryz.prog 89 #[.func (.func fa) #[] #[]] w fun e w' => ∃ v1 v2, e = .returned (.agg #[v1, v2]) ∧ FMB (w.heap.size + 1) fa v1 v2 w' ∧ Below w.heap.size w w' := by
  have K := Lib.hid (fun (W : World) => madeMB_any fa W)
  obtain ⟨W0, hW0⟩ : ∃ W0, W0 = w.alloc (Obj.cells #[.nilFunc, .nilFunc] 118) := ⟨_, rfl⟩
  have hb0 : Below w.heap.size w W0 := by rw [hW0]; exact (Below.refl _ _).alloc (Nat.le_refl _) _
  have hs0 : W0.heap.size = w.heap.size + 1 := by rw [hW0]; simp
  have hk0 : W0.heap[w.heap.size]? = some (.cells #[.nilFunc, .nilFunc] 118 (0, 0)) := by rw [hW0]; exact heap_alloc_new w _
  have HW := Lib.hid hW0
  have HB := Lib.hid hb0
  have HS := Lib.hid hs0
  have HK := Lib.hid hk0
  clear hW0 hb0 hs0 hk0
  go_enter Tryz.func89, Tryz.ntmps89
  go_wp2_with fail
  rw [← HW.out]
  refine (K.out _).mono ?_
  rintro e w1 ⟨v1, v2, rfl, ⟨a, n, p, r, h0, rfl, rfl, h3, h4, h5, h6⟩, hb1⟩
  have hk1 : w1.heap[w.heap.size]? = some (.cells #[.nilFunc, .nilFunc] 118 (0, 0)) := (hb1.block _ (by have := HS.out; omega)).trans HK.out
  have c0 : w1.cell? ⟨w.heap.size, 0, none⟩ = some .nilFunc := cell_of_row w1 _ 0 _ 118 (0, 0) hk1
  have c1 : w1.cell? ⟨w.heap.size, 1, none⟩ = some .nilFunc := cell_of_row w1 _ 1 _ 118 (0, 0) hk1
  have fz : ∀ i, w1.frozen? ⟨w.heap.size, i, none⟩ = false := fun i => Lib.frozen_of_heap hk1 i
  have HF : Hid (FMB W0.heap.size fa (.func (.func 142) #[] #[.pointer (some ⟨a, 0, none⟩), .pointer (some ⟨n, 0, none⟩), .pointer (some ⟨p, 0, none⟩)]) (.func (.func 143) #[] #[.pointer (some ⟨r, 0, none⟩), .pointer (some ⟨n, 0, none⟩), .pointer (some ⟨a, 0, none⟩)]) w1) := ⟨a, n, p, r, h0, rfl, rfl, h3, h4, h5, h6⟩
  have HB1 : Hid (Below w.heap.size w w1) := HB.out.trans (hb1.mono HB.out.size)
  clear h0 h3 h4 h5 h6 hb1 hk1
  go_wp2
  refine bodyPost_ret (v := .agg #[.func (.func 142) #[] #[.pointer (some ⟨a, 0, none⟩), .pointer (some ⟨n, 0, none⟩), .pointer (some ⟨p, 0, none⟩)], .func (.func 143) #[] #[.pointer (some ⟨r, 0, none⟩), .pointer (some ⟨n, 0, none⟩), .pointer (some ⟨a, 0, none⟩)]]) (by simp [results, Tryz.results89, go_sem, c0, c1]) rfl ⟨_, _, rfl, ?_, ?_⟩
  · have hs := HS.out
    have h := HF.out
    rw [hs] at h
    exact (h.set (by simp)).set (by simp)
  · exact (HB1.out.setCell (p := ⟨w.heap.size, 0, none⟩) (Nat.le_refl _) _).setCell (p := ⟨w.heap.size, 1, none⟩) (Nat.le_refl _) _

set_option maxHeartbeats 1000000 in
set_option maxRecDepth 100000 in
theorem numMT_any (fa : FuncId) (w : World) :
    Calls Tryz.prog 91 #[.func (.func fa) #[] #[]] w fun e w' => ∃ v1 v2, e = .returned (.agg #[v1, v2]) ∧ FMT (w.heap.size + 1) fa v1 v2 w' ∧ Below w.heap.size w w' := by
  have K := Lib.hid (fun (W : World) => madeMT_any fa W)
  obtain ⟨W0, hW0⟩ : ∃ W0, W0 = w.alloc (Obj.cells #[.nilFunc, .nilFunc] 118) := ⟨_, rfl⟩
  have hb0 : Below w.heap.size w W0 := by rw [hW0]; exact (Below.refl _ _).alloc (Nat.le_refl _) _
  have hs0 : W0.heap.size = w.heap.size + 1 := by rw [hW0]; simp
  have hk0 : W0.heap[w.heap.size]? = some (.cells #[.nilFunc, .nilFunc] 118 (0, 0)) := by rw [hW0]; exact heap_alloc_new w _
  have HW := Lib.hid hW0
  have HB := Lib.hid hb0
  have HS := Lib.hid hs0
  have HK := Lib.hid hk0
  clear hW0 hb0 hs0 hk0
  go_enter Tryz.func91, Tryz.ntmps91
  go_wp2_with fail
  rw [← HW.out]
  refine (K.out _).mono ?_
  rintro e w1 ⟨v1, v2, rfl, ⟨a, n, p, r, h0, rfl, rfl, h3, h4, h5, h6⟩, hb1⟩
  have hk1 : w1.heap[w.heap.size]? = some (.cells #[.nilFunc, .nilFunc] 118 (0, 0)) := (hb1.block _ (by have := HS.out; omega)).trans HK.out
  have c0 : w1.cell? ⟨w.heap.size, 0, none⟩ = some .nilFunc := cell_of_row w1 _ 0 _ 118 (0, 0) hk1
  have c1 : w1.cell? ⟨w.heap.size, 1, none⟩ = some .nilFunc := cell_of_row w1 _ 1 _ 118 (0, 0) hk1
  have fz : ∀ i, w1.frozen? ⟨w.heap.size, i, none⟩ = false := fun i => Lib.frozen_of_heap hk1 i
  have HF : Hid (FMT W0.heap.size fa (.func (.func 145) #[] #[.pointer (some ⟨a, 0, none⟩), .pointer (some ⟨n, 0, none⟩), .pointer (some ⟨p, 0, none⟩)]) (.func (.func 146) #[] #[.pointer (some ⟨r, 0, none⟩), .pointer (some ⟨n, 0, none⟩), .pointer (some ⟨a, 0, none⟩)]) w1) := ⟨a, n, p, r, h0, rfl, rfl, h3, h4, h5, h6⟩
  have HB1 : Hid (Below w.heap.size w w1) := HB.out.trans (hb1.mono HB.out.size)
  clear h0 h3 h4 h5 h6 hb1 hk1
  go_wp2
  refine bodyPost_ret (v := .agg #[.func (.func 145) #[] #[.pointer (some ⟨a, 0, none⟩), .pointer (some ⟨n, 0, none⟩), .pointer (some ⟨p, 0, none⟩)], .func (.func 146) #[] #[.pointer (some ⟨r, 0, none⟩), .pointer (some ⟨n, 0, none⟩), .pointer (some ⟨a, 0, none⟩)]]) (by simp [results, Tryz.results91, go_sem, c0, c1]) rfl ⟨_, _, rfl, ?_, ?_⟩
  · have hs := HS.out
    have h := HF.out
    rw [hs] at h
    exact (h.set (by simp)).set (by simp)
  · exact (HB1.out.setCell (p := ⟨w.heap.size, 0, none⟩) (Nat.le_refl _) _).setCell (p := ⟨w.heap.size, 1, none⟩) (Nat.le_refl _) _

/-- A message's fields, in block b. -/
def MFlds (b : Nat) (w : World) : Prop :=
  ∃ v : Nat → Value × Value, w.heap[b]? = some (.cells #[.nilFunc, .nilFunc, (v 1).1, (v 1).2, (v 2).1, (v 2).2, (v 3).1, (v 3).2, (v 4).1, (v 4).2, (v 5).1, (v 5).2, (v 6).1, (v 6).2, (v 7).1, (v 7).2, (v 8).1, (v 8).2, (v 9).1, (v 9).2, (v 10).1, (v 10).2, (v 11).1, (v 11).2] 118 (0, 0)) ∧ FMI 0 80 (v 1).1 (v 1).2 w ∧ FMI 0 81 (v 2).1 (v 2).2 w ∧ FMI 0 82 (v 3).1 (v 3).2 w ∧ FMU 0 84 (v 4).1 (v 4).2 w ∧ FMU 0 85 (v 5).1 (v 5).2 w ∧ FMU 0 86 (v 6).1 (v 6).2 w ∧ FMU 0 87 (v 7).1 (v 7).2 w ∧ FMU 0 88 (v 8).1 (v 8).2 w ∧ FMB 0 90 (v 9).1 (v 9).2 w ∧ FMT 0 92 (v 10).1 (v 10).2 w ∧ FME 0 94 (v 11).1 (v 11).2 w
theorem MFlds.on {b : Nat} {w w' : World} (h : MFlds b w) (hs : Stab w w') : MFlds b w' := by
  obtain ⟨v, h0, h1, h2, h3, h4, h5, h6, h7, h8, h9, h10, h11⟩ := h
  exact ⟨v, hs _ _ _ h0 (by decide) (by decide) (by decide), h1.on hs (by decide), h2.on hs (by decide), h3.on hs (by decide), h4.on hs (by decide), h5.on hs (by decide), h6.on hs (by decide), h7.on hs (by decide), h8.on hs (by decide), h9.on hs (by decide), h10.on hs (by decide), h11.on hs (by decide)⟩
theorem MFlds.lt {b : Nat} {w : World} (h : MFlds b w) : b < w.heap.size := by
  obtain ⟨v, h0, _⟩ := h
  exact (Array.getElem?_eq_some_iff.1 h0).1
def mpairs (p1 p2 p3 p4 p5 p6 p7 p8 p9 p10 p11 : Value × Value) : Nat → Value × Value
  | 1 => p1
  | 2 => p2
  | 3 => p3
  | 4 => p4
  | 5 => p5
  | 6 => p6
  | 7 => p7
  | 8 => p8
  | 9 => p9
  | 10 => p10
  | 11 => p11
  | _ => p1

set_option maxHeartbeats 4000000 in
set_option maxRecDepth 100000 in
theorem mfields_any2 (w : World) :
    Calls Tryz.prog 42 #[] w fun e w' => ∃ b, e = .returned (.slice (some ⟨b, 0, none⟩) 12 12) ∧ MFlds b w' ∧ Below w.heap.size w w' := by
  have KMI := Lib.hid (fun (fa : FuncId) (W : World) => numMI_any fa W)
  have KMU := Lib.hid (fun (fa : FuncId) (W : World) => numMU_any fa W)
  have KMB := Lib.hid (fun (fa : FuncId) (W : World) => numMB_any fa W)
  have KMT := Lib.hid (fun (fa : FuncId) (W : World) => numMT_any fa W)
  have KME := Lib.hid (fun (fa : FuncId) (W : World) => madeME_any fa W)
  go_enter Tryz.func42, Tryz.ntmps42
  go_wp2_with fail
  refine (KMI.out 80 _).mono ?_
  rintro e w1 ⟨_, _, rfl, ⟨a1, n1, p1, r1, o1, rfl, rfl, ha1, hn1, hp1, hr1⟩, hb1⟩
  have HF1 : Hid (FMI 0 80 (.func (.func 138) #[] #[.pointer (some ⟨a1, 0, none⟩), .pointer (some ⟨n1, 0, none⟩), .pointer (some ⟨p1, 0, none⟩)]) (.func (.func 139) #[] #[.pointer (some ⟨r1, 0, none⟩), .pointer (some ⟨n1, 0, none⟩), .pointer (some ⟨a1, 0, none⟩)]) w1) := ⟨_, _, _, _, ⟨Nat.zero_le _, Nat.zero_le _, Nat.zero_le _, Nat.zero_le _⟩, rfl, rfl, ha1, hn1, hp1, hr1⟩
  have HB1 := Lib.hid hb1
  clear o1 ha1 hn1 hp1 hr1 hb1
  go_wp2_with fail
  refine (KMI.out 81 _).mono ?_
  rintro e w2 ⟨_, _, rfl, ⟨a2, n2, p2, r2, o2, rfl, rfl, ha2, hn2, hp2, hr2⟩, hb2⟩
  have HF2 : Hid (FMI 0 81 (.func (.func 138) #[] #[.pointer (some ⟨a2, 0, none⟩), .pointer (some ⟨n2, 0, none⟩), .pointer (some ⟨p2, 0, none⟩)]) (.func (.func 139) #[] #[.pointer (some ⟨r2, 0, none⟩), .pointer (some ⟨n2, 0, none⟩), .pointer (some ⟨a2, 0, none⟩)]) w2) := ⟨_, _, _, _, ⟨Nat.zero_le _, Nat.zero_le _, Nat.zero_le _, Nat.zero_le _⟩, rfl, rfl, ha2, hn2, hp2, hr2⟩
  have HB2 := Lib.hid hb2
  clear o2 ha2 hn2 hp2 hr2 hb2
  go_wp2_with fail
  refine (KMI.out 82 _).mono ?_
  rintro e w3 ⟨_, _, rfl, ⟨a3, n3, p3, r3, o3, rfl, rfl, ha3, hn3, hp3, hr3⟩, hb3⟩
  have HF3 : Hid (FMI 0 82 (.func (.func 138) #[] #[.pointer (some ⟨a3, 0, none⟩), .pointer (some ⟨n3, 0, none⟩), .pointer (some ⟨p3, 0, none⟩)]) (.func (.func 139) #[] #[.pointer (some ⟨r3, 0, none⟩), .pointer (some ⟨n3, 0, none⟩), .pointer (some ⟨a3, 0, none⟩)]) w3) := ⟨_, _, _, _, ⟨Nat.zero_le _, Nat.zero_le _, Nat.zero_le _, Nat.zero_le _⟩, rfl, rfl, ha3, hn3, hp3, hr3⟩
  have HB3 := Lib.hid hb3
  clear o3 ha3 hn3 hp3 hr3 hb3
  go_wp2_with fail
  refine (KMU.out 84 _).mono ?_
  rintro e w4 ⟨_, _, rfl, ⟨a4, n4, p4, r4, o4, rfl, rfl, ha4, hn4, hp4, hr4⟩, hb4⟩
  have HF4 : Hid (FMU 0 84 (.func (.func 140) #[] #[.pointer (some ⟨a4, 0, none⟩), .pointer (some ⟨n4, 0, none⟩), .pointer (some ⟨p4, 0, none⟩)]) (.func (.func 141) #[] #[.pointer (some ⟨r4, 0, none⟩), .pointer (some ⟨n4, 0, none⟩), .pointer (some ⟨a4, 0, none⟩)]) w4) := ⟨_, _, _, _, ⟨Nat.zero_le _, Nat.zero_le _, Nat.zero_le _, Nat.zero_le _⟩, rfl, rfl, ha4, hn4, hp4, hr4⟩
  have HB4 := Lib.hid hb4
  clear o4 ha4 hn4 hp4 hr4 hb4
  go_wp2_with fail
  refine (KMU.out 85 _).mono ?_
  rintro e w5 ⟨_, _, rfl, ⟨a5, n5, p5, r5, o5, rfl, rfl, ha5, hn5, hp5, hr5⟩, hb5⟩
  have HF5 : Hid (FMU 0 85 (.func (.func 140) #[] #[.pointer (some ⟨a5, 0, none⟩), .pointer (some ⟨n5, 0, none⟩), .pointer (some ⟨p5, 0, none⟩)]) (.func (.func 141) #[] #[.pointer (some ⟨r5, 0, none⟩), .pointer (some ⟨n5, 0, none⟩), .pointer (some ⟨a5, 0, none⟩)]) w5) := ⟨_, _, _, _, ⟨Nat.zero_le _, Nat.zero_le _, Nat.zero_le _, Nat.zero_le _⟩, rfl, rfl, ha5, hn5, hp5, hr5⟩
  have HB5 := Lib.hid hb5
  clear o5 ha5 hn5 hp5 hr5 hb5
  go_wp2_with fail
  refine (KMU.out 86 _).mono ?_
  rintro e w6 ⟨_, _, rfl, ⟨a6, n6, p6, r6, o6, rfl, rfl, ha6, hn6, hp6, hr6⟩, hb6⟩
  have HF6 : Hid (FMU 0 86 (.func (.func 140) #[] #[.pointer (some ⟨a6, 0, none⟩), .pointer (some ⟨n6, 0, none⟩), .pointer (some ⟨p6, 0, none⟩)]) (.func (.func 141) #[] #[.pointer (some ⟨r6, 0, none⟩), .pointer (some ⟨n6, 0, none⟩), .pointer (some ⟨a6, 0, none⟩)]) w6) := ⟨_, _, _, _, ⟨Nat.zero_le _, Nat.zero_le _, Nat.zero_le _, Nat.zero_le _⟩, rfl, rfl, ha6, hn6, hp6, hr6⟩
  have HB6 := Lib.hid hb6
  clear o6 ha6 hn6 hp6 hr6 hb6
  go_wp2_with fail
  refine (KMU.out 87 _).mono ?_
  rintro e w7 ⟨_, _, rfl, ⟨a7, n7, p7, r7, o7, rfl, rfl, ha7, hn7, hp7, hr7⟩, hb7⟩
  have HF7 : Hid (FMU 0 87 (.func (.func 140) #[] #[.pointer (some ⟨a7, 0, none⟩), .pointer (some ⟨n7, 0, none⟩), .pointer (some ⟨p7, 0, none⟩)]) (.func (.func 141) #[] #[.pointer (some ⟨r7, 0, none⟩), .pointer (some ⟨n7, 0, none⟩), .pointer (some ⟨a7, 0, none⟩)]) w7) := ⟨_, _, _, _, ⟨Nat.zero_le _, Nat.zero_le _, Nat.zero_le _, Nat.zero_le _⟩, rfl, rfl, ha7, hn7, hp7, hr7⟩
  have HB7 := Lib.hid hb7
  clear o7 ha7 hn7 hp7 hr7 hb7
  go_wp2_with fail
  refine (KMU.out 88 _).mono ?_
  rintro e w8 ⟨_, _, rfl, ⟨a8, n8, p8, r8, o8, rfl, rfl, ha8, hn8, hp8, hr8⟩, hb8⟩
  have HF8 : Hid (FMU 0 88 (.func (.func 140) #[] #[.pointer (some ⟨a8, 0, none⟩), .pointer (some ⟨n8, 0, none⟩), .pointer (some ⟨p8, 0, none⟩)]) (.func (.func 141) #[] #[.pointer (some ⟨r8, 0, none⟩), .pointer (some ⟨n8, 0, none⟩), .pointer (some ⟨a8, 0, none⟩)]) w8) := ⟨_, _, _, _, ⟨Nat.zero_le _, Nat.zero_le _, Nat.zero_le _, Nat.zero_le _⟩, rfl, rfl, ha8, hn8, hp8, hr8⟩
  have HB8 := Lib.hid hb8
  clear o8 ha8 hn8 hp8 hr8 hb8
  go_wp2_with fail
  refine (KMB.out 90 _).mono ?_
  rintro e w9 ⟨_, _, rfl, ⟨a9, n9, p9, r9, o9, rfl, rfl, ha9, hn9, hp9, hr9⟩, hb9⟩
  have HF9 : Hid (FMB 0 90 (.func (.func 142) #[] #[.pointer (some ⟨a9, 0, none⟩), .pointer (some ⟨n9, 0, none⟩), .pointer (some ⟨p9, 0, none⟩)]) (.func (.func 143) #[] #[.pointer (some ⟨r9, 0, none⟩), .pointer (some ⟨n9, 0, none⟩), .pointer (some ⟨a9, 0, none⟩)]) w9) := ⟨_, _, _, _, ⟨Nat.zero_le _, Nat.zero_le _, Nat.zero_le _, Nat.zero_le _⟩, rfl, rfl, ha9, hn9, hp9, hr9⟩
  have HB9 := Lib.hid hb9
  clear o9 ha9 hn9 hp9 hr9 hb9
  go_wp2_with fail
  refine (KMT.out 92 _).mono ?_
  rintro e w10 ⟨_, _, rfl, ⟨a10, n10, p10, r10, o10, rfl, rfl, ha10, hn10, hp10, hr10⟩, hb10⟩
  have HF10 : Hid (FMT 0 92 (.func (.func 145) #[] #[.pointer (some ⟨a10, 0, none⟩), .pointer (some ⟨n10, 0, none⟩), .pointer (some ⟨p10, 0, none⟩)]) (.func (.func 146) #[] #[.pointer (some ⟨r10, 0, none⟩), .pointer (some ⟨n10, 0, none⟩), .pointer (some ⟨a10, 0, none⟩)]) w10) := ⟨_, _, _, _, ⟨Nat.zero_le _, Nat.zero_le _, Nat.zero_le _, Nat.zero_le _⟩, rfl, rfl, ha10, hn10, hp10, hr10⟩
  have HB10 := Lib.hid hb10
  clear o10 ha10 hn10 hp10 hr10 hb10
  go_wp2_with fail
  refine (KME.out 94 _).mono ?_
  rintro e w11 ⟨_, _, rfl, ⟨a11, n11, p11, r11, o11, rfl, rfl, ha11, hn11, hp11, hr11⟩, hb11⟩
  have HF11 : Hid (FME 0 94 (.func (.func 123) #[] #[.pointer (some ⟨a11, 0, none⟩), .pointer (some ⟨n11, 0, none⟩), .pointer (some ⟨p11, 0, none⟩)]) (.func (.func 124) #[] #[.pointer (some ⟨r11, 0, none⟩), .pointer (some ⟨n11, 0, none⟩), .pointer (some ⟨a11, 0, none⟩)]) w11) := ⟨_, _, _, _, ⟨Nat.zero_le _, Nat.zero_le _, Nat.zero_le _, Nat.zero_le _⟩, rfl, rfl, ha11, hn11, hp11, hr11⟩
  have HB11 := Lib.hid hb11
  clear o11 ha11 hn11 hp11 hr11 hb11
  go_wp2
  go_ret
  have s12 := Stab.below ((Below.refl w11.heap.size w11).alloc (Nat.le_refl _) (Obj.cells #[.nilFunc, .nilFunc, .func (.func 138) #[] #[.pointer (some ⟨a1, 0, none⟩), .pointer (some ⟨n1, 0, none⟩), .pointer (some ⟨p1, 0, none⟩)], .func (.func 139) #[] #[.pointer (some ⟨r1, 0, none⟩), .pointer (some ⟨n1, 0, none⟩), .pointer (some ⟨a1, 0, none⟩)], .func (.func 138) #[] #[.pointer (some ⟨a2, 0, none⟩), .pointer (some ⟨n2, 0, none⟩), .pointer (some ⟨p2, 0, none⟩)], .func (.func 139) #[] #[.pointer (some ⟨r2, 0, none⟩), .pointer (some ⟨n2, 0, none⟩), .pointer (some ⟨a2, 0, none⟩)], .func (.func 138) #[] #[.pointer (some ⟨a3, 0, none⟩), .pointer (some ⟨n3, 0, none⟩), .pointer (some ⟨p3, 0, none⟩)], .func (.func 139) #[] #[.pointer (some ⟨r3, 0, none⟩), .pointer (some ⟨n3, 0, none⟩), .pointer (some ⟨a3, 0, none⟩)], .func (.func 140) #[] #[.pointer (some ⟨a4, 0, none⟩), .pointer (some ⟨n4, 0, none⟩), .pointer (some ⟨p4, 0, none⟩)], .func (.func 141) #[] #[.pointer (some ⟨r4, 0, none⟩), .pointer (some ⟨n4, 0, none⟩), .pointer (some ⟨a4, 0, none⟩)], .func (.func 140) #[] #[.pointer (some ⟨a5, 0, none⟩), .pointer (some ⟨n5, 0, none⟩), .pointer (some ⟨p5, 0, none⟩)], .func (.func 141) #[] #[.pointer (some ⟨r5, 0, none⟩), .pointer (some ⟨n5, 0, none⟩), .pointer (some ⟨a5, 0, none⟩)], .func (.func 140) #[] #[.pointer (some ⟨a6, 0, none⟩), .pointer (some ⟨n6, 0, none⟩), .pointer (some ⟨p6, 0, none⟩)], .func (.func 141) #[] #[.pointer (some ⟨r6, 0, none⟩), .pointer (some ⟨n6, 0, none⟩), .pointer (some ⟨a6, 0, none⟩)], .func (.func 140) #[] #[.pointer (some ⟨a7, 0, none⟩), .pointer (some ⟨n7, 0, none⟩), .pointer (some ⟨p7, 0, none⟩)], .func (.func 141) #[] #[.pointer (some ⟨r7, 0, none⟩), .pointer (some ⟨n7, 0, none⟩), .pointer (some ⟨a7, 0, none⟩)], .func (.func 140) #[] #[.pointer (some ⟨a8, 0, none⟩), .pointer (some ⟨n8, 0, none⟩), .pointer (some ⟨p8, 0, none⟩)], .func (.func 141) #[] #[.pointer (some ⟨r8, 0, none⟩), .pointer (some ⟨n8, 0, none⟩), .pointer (some ⟨a8, 0, none⟩)], .func (.func 142) #[] #[.pointer (some ⟨a9, 0, none⟩), .pointer (some ⟨n9, 0, none⟩), .pointer (some ⟨p9, 0, none⟩)], .func (.func 143) #[] #[.pointer (some ⟨r9, 0, none⟩), .pointer (some ⟨n9, 0, none⟩), .pointer (some ⟨a9, 0, none⟩)], .func (.func 145) #[] #[.pointer (some ⟨a10, 0, none⟩), .pointer (some ⟨n10, 0, none⟩), .pointer (some ⟨p10, 0, none⟩)], .func (.func 146) #[] #[.pointer (some ⟨r10, 0, none⟩), .pointer (some ⟨n10, 0, none⟩), .pointer (some ⟨a10, 0, none⟩)], .func (.func 123) #[] #[.pointer (some ⟨a11, 0, none⟩), .pointer (some ⟨n11, 0, none⟩), .pointer (some ⟨p11, 0, none⟩)], .func (.func 124) #[] #[.pointer (some ⟨r11, 0, none⟩), .pointer (some ⟨n11, 0, none⟩), .pointer (some ⟨a11, 0, none⟩)]] 118))
  have s11 : Stab w11 _ := s12
  have s10 := (Stab.below HB11.out).trans s11
  have s9 := (Stab.below HB10.out).trans s10
  have s8 := (Stab.below HB9.out).trans s9
  have s7 := (Stab.below HB8.out).trans s8
  have s6 := (Stab.below HB7.out).trans s7
  have s5 := (Stab.below HB6.out).trans s6
  have s4 := (Stab.below HB5.out).trans s5
  have s3 := (Stab.below HB4.out).trans s4
  have s2 := (Stab.below HB3.out).trans s3
  have s1 := (Stab.below HB2.out).trans s2
  have b1 := HB1.out
  have b2 := b1.trans (HB2.out.mono b1.size)
  have b3 := b2.trans (HB3.out.mono b2.size)
  have b4 := b3.trans (HB4.out.mono b3.size)
  have b5 := b4.trans (HB5.out.mono b4.size)
  have b6 := b5.trans (HB6.out.mono b5.size)
  have b7 := b6.trans (HB7.out.mono b6.size)
  have b8 := b7.trans (HB8.out.mono b7.size)
  have b9 := b8.trans (HB9.out.mono b8.size)
  have b10 := b9.trans (HB10.out.mono b9.size)
  have b11 := b10.trans (HB11.out.mono b10.size)
  refine ⟨_, rfl, ⟨mpairs (.func (.func 138) #[] #[.pointer (some ⟨a1, 0, none⟩), .pointer (some ⟨n1, 0, none⟩), .pointer (some ⟨p1, 0, none⟩)], .func (.func 139) #[] #[.pointer (some ⟨r1, 0, none⟩), .pointer (some ⟨n1, 0, none⟩), .pointer (some ⟨a1, 0, none⟩)]) (.func (.func 138) #[] #[.pointer (some ⟨a2, 0, none⟩), .pointer (some ⟨n2, 0, none⟩), .pointer (some ⟨p2, 0, none⟩)], .func (.func 139) #[] #[.pointer (some ⟨r2, 0, none⟩), .pointer (some ⟨n2, 0, none⟩), .pointer (some ⟨a2, 0, none⟩)]) (.func (.func 138) #[] #[.pointer (some ⟨a3, 0, none⟩), .pointer (some ⟨n3, 0, none⟩), .pointer (some ⟨p3, 0, none⟩)], .func (.func 139) #[] #[.pointer (some ⟨r3, 0, none⟩), .pointer (some ⟨n3, 0, none⟩), .pointer (some ⟨a3, 0, none⟩)]) (.func (.func 140) #[] #[.pointer (some ⟨a4, 0, none⟩), .pointer (some ⟨n4, 0, none⟩), .pointer (some ⟨p4, 0, none⟩)], .func (.func 141) #[] #[.pointer (some ⟨r4, 0, none⟩), .pointer (some ⟨n4, 0, none⟩), .pointer (some ⟨a4, 0, none⟩)]) (.func (.func 140) #[] #[.pointer (some ⟨a5, 0, none⟩), .pointer (some ⟨n5, 0, none⟩), .pointer (some ⟨p5, 0, none⟩)], .func (.func 141) #[] #[.pointer (some ⟨r5, 0, none⟩), .pointer (some ⟨n5, 0, none⟩), .pointer (some ⟨a5, 0, none⟩)]) (.func (.func 140) #[] #[.pointer (some ⟨a6, 0, none⟩), .pointer (some ⟨n6, 0, none⟩), .pointer (some ⟨p6, 0, none⟩)], .func (.func 141) #[] #[.pointer (some ⟨r6, 0, none⟩), .pointer (some ⟨n6, 0, none⟩), .pointer (some ⟨a6, 0, none⟩)]) (.func (.func 140) #[] #[.pointer (some ⟨a7, 0, none⟩), .pointer (some ⟨n7, 0, none⟩), .pointer (some ⟨p7, 0, none⟩)], .func (.func 141) #[] #[.pointer (some ⟨r7, 0, none⟩), .pointer (some ⟨n7, 0, none⟩), .pointer (some ⟨a7, 0, none⟩)]) (.func (.func 140) #[] #[.pointer (some ⟨a8, 0, none⟩), .pointer (some ⟨n8, 0, none⟩), .pointer (some ⟨p8, 0, none⟩)], .func (.func 141) #[] #[.pointer (some ⟨r8, 0, none⟩), .pointer (some ⟨n8, 0, none⟩), .pointer (some ⟨a8, 0, none⟩)]) (.func (.func 142) #[] #[.pointer (some ⟨a9, 0, none⟩), .pointer (some ⟨n9, 0, none⟩), .pointer (some ⟨p9, 0, none⟩)], .func (.func 143) #[] #[.pointer (some ⟨r9, 0, none⟩), .pointer (some ⟨n9, 0, none⟩), .pointer (some ⟨a9, 0, none⟩)]) (.func (.func 145) #[] #[.pointer (some ⟨a10, 0, none⟩), .pointer (some ⟨n10, 0, none⟩), .pointer (some ⟨p10, 0, none⟩)], .func (.func 146) #[] #[.pointer (some ⟨r10, 0, none⟩), .pointer (some ⟨n10, 0, none⟩), .pointer (some ⟨a10, 0, none⟩)]) (.func (.func 123) #[] #[.pointer (some ⟨a11, 0, none⟩), .pointer (some ⟨n11, 0, none⟩), .pointer (some ⟨p11, 0, none⟩)], .func (.func 124) #[] #[.pointer (some ⟨r11, 0, none⟩), .pointer (some ⟨n11, 0, none⟩), .pointer (some ⟨a11, 0, none⟩)]), heap_alloc_new w11 _, HF1.out.on s1 (by decide), HF2.out.on s2 (by decide), HF3.out.on s3 (by decide), HF4.out.on s4 (by decide), HF5.out.on s5 (by decide), HF6.out.on s6 (by decide), HF7.out.on s7 (by decide), HF8.out.on s8 (by decide), HF9.out.on s9 (by decide), HF10.out.on s10 (by decide), HF11.out.on s11 (by decide)⟩, b11.alloc b11.size _⟩
end Go.Proofs.YtmalcldpihpfpaaGreat
