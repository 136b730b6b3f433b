/-
  Texts of the layer below and of this one: FCm, SVx, SW, SW2.
  Conditions: named in each theorem.
-/
import Derived.Test.YtnobeoppffoomaaGreatG18
import Derived.Test.YtnobeoppffoomaaGreatG20
import Derived.Test.YtnobeoppffoomaaGreatG08
import Derived.Lib.OthersKept
import Derived.Lib.Builder
import Derived.Lib.AppendStr
import Derived.Lib.UnsafeStr
import Derived.Laws.Externs
import Derived.Shelf.RegionOpenPlain
namespace Go.Proofs.YtnobeoppffoomaaGreat
open Go.RowKit
open Vi
set_option linter.unusedVariables false
set_option linter.unusedSimpArgs false
set_option maxHeartbeats 4000000 in
set_option maxRecDepth 100000 in
theorem fGetE_any (s : ByteArray) (Y : En) (v : Int) (o : Bool) (w : World)
    (hK : ∀ (g a1 a2 : Nat) (W : World), W.heap[g]? = some (.map (two (whv a1) (whv a2)) 2) → W.heap[a1]? = some (.cells #[.func (.func 164) #[] #[]] 214 (0, 0)) → W.heap[a2]? = some (.cells #[.func (.func 165) #[] #[]] 214 (0, 0)) →
      Calls Tryz.prog 162 #[.map (some g), .string s] W fun q w' => q = .returned (.tuple #[ev Y, .int .i64 v, .bool o]) ∧ Below W.heap.size W w') :
    Calls Tryz.prog 120 #[.string s] w fun q w' => q = .returned (.tuple #[ev Y, .int .i64 v, .bool o]) ∧ Below w.heap.size w w' := by
  have hmm := @run_makeMap Tryz.prog
  obtain ⟨W0, hW0⟩ : ∃ W0, W0 = (w.alloc (Obj.cells (ec ezz) 28)).alloc (.map #[] 0) := ⟨_, rfl⟩
  have b0 : Below w.heap.size w W0 := by rw [hW0]; exact ((Below.refl _ _).alloc (Nat.le_refl _) _).alloc (by simp) _
  have k0 : W0.heap[w.heap.size]? = some (.cells (ec ezz) 28 (0, 0)) := by rw [hW0]; exact (Lib.alloc_old _ _ _ (by simp)).trans (heap_alloc_new w _)
  have m0 : W0.heap[w.heap.size + 1]? = some (.map #[] 0) := by rw [hW0]; have h := heap_alloc_new (w.alloc (Obj.cells (ec ezz) 28)) (.map #[] 0); simpa using h
  have s0 : W0.heap.size = w.heap.size + 2 := by rw [hW0]; simp
  obtain ⟨W1, hW1⟩ : ∃ W1, W1 = W0.alloc (Obj.cells #[.func (.func 164) #[] #[]] 214) := ⟨_, rfl⟩
  have b1 : Below w.heap.size w W1 := by rw [hW1]; exact b0.alloc (by omega) _
  have m1 : W1.heap[w.heap.size + 1]? = some (.map #[] 0) := by rw [hW1]; exact (Lib.alloc_old _ _ _ (by omega)).trans m0
  have a1 : W1.heap[W0.heap.size]? = some (.cells #[.func (.func 164) #[] #[]] 214 (0, 0)) := by rw [hW1]; exact heap_alloc_new W0 _
  have k1 : W1.heap[w.heap.size]? = some (.cells (ec ezz) 28 (0, 0)) := by rw [hW1]; exact (Lib.alloc_old _ _ _ (by omega)).trans k0
  have s1 : W1.heap.size = w.heap.size + 3 := by rw [hW1]; simp; omega
  obtain ⟨w1, e1, h1, bb1, o1, z1⟩ := ins_step (T := 215) 1 (whv W0.heap.size) Tryz.underlying215 m1 rfl b1 (by omega)
  have ka1 : w1.heap[W0.heap.size]? = some (.cells #[.func (.func 164) #[] #[]] 214 (0, 0)) := (o1 _ (by omega)).trans a1
  have kk1 : w1.heap[w.heap.size]? = some (.cells (ec ezz) 28 (0, 0)) := (o1 _ (by omega)).trans k1
  obtain ⟨W2, hW2⟩ : ∃ W2, W2 = w1.alloc (Obj.cells #[.func (.func 165) #[] #[]] 214) := ⟨_, rfl⟩
  have b2 : Below w.heap.size w W2 := by rw [hW2]; exact bb1.alloc (by omega) _
  have m2 := (by rw [hW2]; exact (Lib.alloc_old _ _ _ (by omega)).trans h1 : W2.heap[w.heap.size + 1]? = some (.map (#[].push { key := .int .i64 1, val := whv W0.heap.size, born := 0 }) (0 + 1)))
  have a2 : W2.heap[w1.heap.size]? = some (.cells #[.func (.func 165) #[] #[]] 214 (0, 0)) := by rw [hW2]; exact heap_alloc_new w1 _
  have aa1 : W2.heap[W0.heap.size]? = some (.cells #[.func (.func 164) #[] #[]] 214 (0, 0)) := by rw [hW2]; exact (Lib.alloc_old _ _ _ (by omega)).trans ka1
  have k2 : W2.heap[w.heap.size]? = some (.cells (ec ezz) 28 (0, 0)) := by rw [hW2]; exact (Lib.alloc_old _ _ _ (by omega)).trans kk1
  obtain ⟨w2, e2, h2, bb2, o2, z2⟩ := ins_step (T := 215) 2 (whv w1.heap.size) Tryz.underlying215 m2 rfl b2 (by omega)
  have HM : Hid (w2.heap[w.heap.size + 1]? = some (.map (two (whv W0.heap.size) (whv w1.heap.size)) 2)) := h2
  have HK2 : Hid (w2.heap[w.heap.size]? = some (.cells (ec ezz) 28 (0, 0))) := (o2 _ (by omega)).trans k2
  have KG := Lib.hid (hK _ _ _ w2 HM.out ((o2 _ (by omega)).trans aa1) ((o2 _ (by omega)).trans a2))
  have HB2 := Lib.hid bb2
  have F1 : Hid (Calls Tryz.prog 163 #[.func (.func 164) #[] #[]] W0 fun q w' => q = .returned (whv W0.heap.size) ∧ w' = W1) := by rw [hW1]; exact wholef1_any W0
  have F2 : Hid (Calls Tryz.prog 163 #[.func (.func 165) #[] #[]] w1 fun q w' => q = .returned (whv w1.heap.size) ∧ w' = W2) := by rw [hW2]; exact wholef2_any w1
  have HW0 := Lib.hid hW0
  clear hK b0 k0 m0 s0 b1 m1 a1 k1 s1 h1 bb1 o1 z1 ka1 kk1 b2 m2 a2 aa1 k2 h2 bb2 o2 z2 hW0 hW1 hW2
  go_enter Tryz.func120, Tryz.ntmps120
  go_wp2_with fail
  rw [← HW0.out]
  refine F1.out.mono ?_
  rintro q u1 ⟨rfl, rfl⟩
  go_wp2_with fail
  refine F2.out.mono ?_
  rintro q u2 ⟨rfl, rfl⟩
  go_wp2_with fail
  refine KG.out.mono ?_
  rintro q w3 ⟨rfl, b3⟩
  have HK3 : Hid (w3.heap[w.heap.size]? = some (.cells (ec ezz) 28 (0, 0))) := (b3.block _ (Array.getElem?_eq_some_iff.1 HK2.out).1).trans HK2.out
  have HB3 : Hid (Below w.heap.size w w3) := HB2.out.trans (b3.mono HB2.out.size)
  clear b3 e1 e2
  have z0 : w3.cell? ⟨w.heap.size, 0, none⟩ = some (.int .u64 0) := cell_of_row w3 _ 0 _ 28 (0, 0) HK3.out
  have z1 : w3.cell? ⟨w.heap.size, 1, none⟩ = some (.int .u64 0) := cell_of_row w3 _ 1 _ 28 (0, 0) HK3.out
  have z2 : w3.cell? ⟨w.heap.size, 2, none⟩ = some (.int .i64 0) := cell_of_row w3 _ 2 _ 28 (0, 0) HK3.out
  have z3 : w3.cell? ⟨w.heap.size, 3, none⟩ = some (.int .u64 0) := cell_of_row w3 _ 3 _ 28 (0, 0) HK3.out
  have z4 : w3.cell? ⟨w.heap.size, 4, none⟩ = some (.int .u64 0) := cell_of_row w3 _ 4 _ 28 (0, 0) HK3.out
  have z5 : w3.cell? ⟨w.heap.size, 5, none⟩ = some (.int .u64 0) := cell_of_row w3 _ 5 _ 28 (0, 0) HK3.out
  have z6 : w3.cell? ⟨w.heap.size, 6, none⟩ = some (.int .u64 0) := cell_of_row w3 _ 6 _ 28 (0, 0) HK3.out
  have z7 : w3.cell? ⟨w.heap.size, 7, none⟩ = some (.int .i64 0) := cell_of_row w3 _ 7 _ 28 (0, 0) HK3.out
  have z8 : w3.cell? ⟨w.heap.size, 8, none⟩ = some (.int .i64 0) := cell_of_row w3 _ 8 _ 28 (0, 0) HK3.out
  have z9 : w3.cell? ⟨w.heap.size, 9, none⟩ = some (.string ⟨#[]⟩) := cell_of_row w3 _ 9 _ 28 (0, 0) HK3.out
  have z10 : w3.cell? ⟨w.heap.size, 10, none⟩ = some (.string ⟨#[]⟩) := cell_of_row w3 _ 10 _ 28 (0, 0) HK3.out
  have fz : ∀ i, w3.frozen? ⟨w.heap.size, i, none⟩ = false := fun i => Lib.frozen_of_heap HK3.out i
  obtain ⟨WF, hWF⟩ : ∃ WF, WF = wz w3 w.heap.size Y := ⟨_, rfl⟩
  have hblk : WF.heap[w.heap.size]? = some (.cells (ec Y) 28 (0, 0)) := by rw [hWF]; exact store_all Y HK3.out
  have HBF : Hid (Below w.heap.size w WF) := by rw [hWF]; exact below_all Y HB3.out (Nat.le_refl _)
  have HBK := Lib.hid hblk
  have HWF := Lib.hid hWF
  clear hblk hWF
  go_wp2
  have hWF := HWF.out
  unfold wz at hWF
  rw [← hWF]
  have f0 : WF.cell? ⟨w.heap.size, 0, none⟩ = some (.int .u64 Y.term) := cell_of_row WF _ 0 _ 28 (0, 0) HBK.out
  have f1 : WF.cell? ⟨w.heap.size, 1, none⟩ = some (.int .u64 Y.index) := cell_of_row WF _ 1 _ 28 (0, 0) HBK.out
  have f2 : WF.cell? ⟨w.heap.size, 2, none⟩ = some (.int .i64 Y.kind) := cell_of_row WF _ 2 _ 28 (0, 0) HBK.out
  have f3 : WF.cell? ⟨w.heap.size, 3, none⟩ = some (.int .u64 Y.client) := cell_of_row WF _ 3 _ 28 (0, 0) HBK.out
  have f4 : WF.cell? ⟨w.heap.size, 4, none⟩ = some (.int .u64 Y.seq) := cell_of_row WF _ 4 _ 28 (0, 0) HBK.out
  have f5 : WF.cell? ⟨w.heap.size, 5, none⟩ = some (.int .u64 Y.block) := cell_of_row WF _ 5 _ 28 (0, 0) HBK.out
  have f6 : WF.cell? ⟨w.heap.size, 6, none⟩ = some (.int .u64 Y.many) := cell_of_row WF _ 6 _ 28 (0, 0) HBK.out
  have f7 : WF.cell? ⟨w.heap.size, 7, none⟩ = some (.int .i64 Y.node) := cell_of_row WF _ 7 _ 28 (0, 0) HBK.out
  have f8 : WF.cell? ⟨w.heap.size, 8, none⟩ = some (.int .i64 Y.level) := cell_of_row WF _ 8 _ 28 (0, 0) HBK.out
  have f9 : WF.cell? ⟨w.heap.size, 9, none⟩ = some (.string Y.data) := cell_of_row WF _ 9 _ 28 (0, 0) HBK.out
  have f10 : WF.cell? ⟨w.heap.size, 10, none⟩ = some (.string Y.old) := cell_of_row WF _ 10 _ 28 (0, 0) HBK.out
  exact bodyPost_ret (v := .tuple #[ev Y, .int .i64 v, .bool o]) (by simp [results, Tryz.results120, go_sem, f0, f1, f2, f3, f4, f5, f6, f7, f8, f9, f10]) rfl ⟨rfl, HBF.out⟩
end Go.Proofs.YtnobeoppffoomaaGreat
namespace Go.Proofs.YtnobeoppffoomaaGreat
open Go.RowKit
set_option linter.unusedVariables false
set_option linter.unusedSimpArgs false
set_option maxHeartbeats 400000 in
theorem text_any (s : ByteArray) (w : World) (hs : s.size ≤ 140737488355328) :
    Calls Tryz.prog 182 #[.string s] w fun e w' => e = .returned (.string (Vi.putB s.size ++ s)) ∧ Below w.heap.size w w' := by
  have hp := putB_size s.size (by omega)
  go_enter Tryz.func182, Tryz.ntmps182
  go_wp2_with fail
  refine (put_any s.size w (by omega)).mono ?_
  rintro e w1 ⟨rfl, hb⟩
  go_wp2
  go_ret
  exact ⟨rfl, hb⟩
set_option maxHeartbeats 400000 in
theorem rtext_any (s : ByteArray) (w : World) (hs : s.size ≤ 140737488355328) :
    Calls Tryz.prog 154 #[.string s] w fun e w' => e = .returned (.string (Vi.putB s.size ++ s)) ∧ Below w.heap.size w w' := by
  have hp := putB_size s.size (by omega)
  go_enter Tryz.func154, Tryz.ntmps154
  go_wp2_with fail
  refine (rput_any s.size w (by omega)).mono ?_
  rintro e w1 ⟨rfl, hb⟩
  go_wp2
  go_ret
  exact ⟨rfl, hb⟩
namespace Vi
def texV (s : ByteArray) : ByteArray := bytV (varT s) (varV s)
def texT (s : ByteArray) : ByteArray := bytT (varT s) (varV s)
def texO (s : ByteArray) : Bool := varO s && hasB (varT s) (varV s)
end Vi
set_option maxHeartbeats 400000 in
set_option maxRecDepth 100000 in
theorem textr_any (g : Nat) (s : ByteArray) (bad : Bool) (w : World) (h : Rd 225 g s bad w) (hm : s.size ≤ 281474976710656) :
    Calls Tryz.prog 203 #[rdp g] w fun e w' => e = .returned (.string (Vi.texV s)) ∧ Rd 225 g (Vi.texT s) (bad || !Vi.texO s) w' ∧ w.grownBy w' (some g) := by
  have hmf : ∀ (fn : Fn) (first cap : Array Value) (w : World), (Instr.makeFunc fn first cap).run Tryz.prog w = .ok (.func fn first cap) w := fun _ _ _ _ => rfl
  have hV := Lib.hid (var_any g s bad w h hm)
  have hvl := Vi.varV_lt s
  have hts := Vi.varT_size s
  unfold Vi.texV Vi.texT Vi.texO
  generalize Vi.varV s = n at *
  generalize Vi.varT s = t at *
  have hw : Hid (IntKind.u64.wrap (t.size : Int) = (t.size : Int)) := IntWalk.u64_in _ (by omega)
  have HVL := Lib.hid hvl
  clear hvl
  by_cases hn : n ≤ t.size
  · have HN : Hid (IntKind.i64.wrap (n : Int) = (n : Int)) := IntWalk.i64_in _ (by omega)
    unfold rdp at *
    go_enter Tryz.func203, Tryz.ntmps203
    go_wp2_with fail
    refine hV.out.mono ?_
    rintro e w1 ⟨rfl, h1, h2⟩
    clear hV
    go_wp2_with fail
    refine (left_any g t _ w1 h1).mono ?_
    rintro e w2 ⟨rfl, rfl⟩
    go_wp2_with fail
    refine (bytes_any g t _ n w1 h1 (by omega)).mono ?_
    rintro e w2 ⟨rfl, h3, h4⟩
    go_wp2
    go_ret
    rw [bools3] at h3
    exact ⟨rfl, h3, h2.trans h4⟩
  · have hh : Vi.hasB t n = false := decide_eq_false (by omega)
    have e1 : Vi.bytV t n = ⟨#[]⟩ := by unfold Vi.bytV; rw [hh, if_neg (by decide)]
    have e2 : Vi.bytT t n = ⟨#[]⟩ := by unfold Vi.bytT; rw [hh, if_neg (by decide)]
    rw [e1, e2, hh, Bool.and_false, Bool.not_false, Bool.or_true]
    clear e1 e2 hh
    unfold rdp at *
    go_enter Tryz.func203, Tryz.ntmps203
    go_wp2_with fail
    refine hV.out.mono ?_
    rintro e w1 ⟨rfl, h1, h2⟩
    clear hV
    go_wp2_with fail
    refine (left_any g t _ w1 h1).mono ?_
    rintro e w2 ⟨rfl, rfl⟩
    go_wp2_with fail
    refine (fail_any g t _ w1 h1).mono ?_
    rintro e w2 ⟨rfl, h3, h4⟩
    go_wp2
    go_ret
    exact ⟨rfl, h3, h2.trans h4⟩
theorem Vi.sane_tex (s : ByteArray) (bad : Bool) (h : Vi.Sane s bad) : Vi.Sane (Vi.texT s) (bad || !Vi.texO s) := by
  have := Vi.sane_byt _ _ (Vi.varV s) (Vi.sane_var s bad h)
  rw [bools3] at this
  exact this
set_option maxHeartbeats 400000 in
set_option maxRecDepth 100000 in
theorem rtextr_any (g : Nat) (s : ByteArray) (bad : Bool) (w : World) (h : Rd 145 g s bad w) (hs : Vi.Sane s bad) (hm : s.size ≤ 281474976710656) :
    Calls Tryz.prog 166 #[rdp g] w fun e w' => e = .returned (.string (Vi.texV s)) ∧ Rd 145 g (Vi.texT s) (bad || !Vi.texO s) w' ∧ w.grownBy w' (some g) := by
  have hV := Lib.hid (rvar_any g s bad w h hm)
  have HSane := Lib.hid (Vi.sane_var s bad hs)
  have hvl := Vi.varV_lt s
  have hts := Vi.varT_size s
  unfold Vi.texV Vi.texT Vi.texO
  generalize Vi.varV s = n at *
  generalize Vi.varT s = t at *
  have hw : Hid (IntKind.u64.wrap (t.size : Int) = (t.size : Int)) := IntWalk.u64_in _ (by omega)
  have HVL := Lib.hid hvl
  clear hvl
  by_cases hn : n ≤ t.size
  · have HN : Hid (IntKind.i64.wrap (n : Int) = (n : Int)) := IntWalk.i64_in _ (by omega)
    unfold rdp at *
    go_enter Tryz.func166, Tryz.ntmps166
    go_wp2_with fail
    refine hV.out.mono ?_
    rintro e w1 ⟨rfl, h1, h2⟩
    clear hV
    have c1 := h1.cell0
    go_wp2_with fail
    refine (rbytes_any g t _ n w1 h1 HSane.out (by omega)).mono ?_
    rintro e w2 ⟨rfl, h3, h4⟩
    go_wp2
    go_ret
    rw [bools3] at h3
    exact ⟨rfl, h3, h2.trans h4⟩
  · have hh : Vi.hasB t n = false := decide_eq_false (by omega)
    have e1 : Vi.bytV t n = ⟨#[]⟩ := by unfold Vi.bytV; rw [hh, if_neg (by decide)]
    have e2 : Vi.bytT t n = ⟨#[]⟩ := by unfold Vi.bytT; rw [hh, if_neg (by decide)]
    rw [e1, e2, hh, Bool.and_false, Bool.not_false, Bool.or_true]
    clear e1 e2 hh
    unfold rdp at *
    go_enter Tryz.func166, Tryz.ntmps166
    go_wp2_with fail
    refine hV.out.mono ?_
    rintro e w1 ⟨rfl, h1, h2⟩
    clear hV
    have c1 := h1.cell0
    go_wp2_with fail
    refine (rfail_any g t _ w1 h1).mono ?_
    rintro e w2 ⟨rfl, h3, h4⟩
    go_wp2
    go_ret
    exact ⟨rfl, h3, h2.trans h4⟩
end Go.Proofs.YtnobeoppffoomaaGreat
namespace Go.Proofs.YtnobeoppffoomaaGreat
open Go.RowKit
set_option linter.unusedVariables false
theorem wsize64_b : (Tryz.prog.info? 81).map (·.size) = some 2 := by kernel_rfl
theorem wlies_b : liesAt Tryz.prog Tryz.prog.depth 81 (2 / Tryz.prog.cellsOf 81) 0 81 1 = true := by kernel_rfl
theorem wcells5_b : Tryz.prog.cellsOf 5 = 1 := by kernel_rfl
set_option maxHeartbeats 1000000 in
set_option maxRecDepth 100000 in
theorem wcheck_used_b (b : Nat) (w : World) (h0 : w.cell? ⟨b, 0, none⟩ = some (.pointer (some ⟨b, 0, none⟩))) :
    Calls Tryz.prog 80 #[.pointer (some ⟨b, 0, none⟩)] w fun e w' => e = .returned (.tuple #[]) ∧ w' = w := by
  obtain ⟨j, hj, _⟩ := Option.map_eq_some_iff.1 wsize64_b
  go_enter Tryz.func80, Tryz.ntmps80
  go_wp2
  rw [Lib.run_neq_ptr_same w _ Tryz.underlying79 hj]
  go_wp2
  go_end0
  exact ⟨rfl, rfl⟩
set_option maxHeartbeats 1000000 in
set_option maxRecDepth 100000 in
theorem wcheck_fresh_b (b : Nat) (w : World) (h0 : w.cell? ⟨b, 0, none⟩ = some (.pointer none)) (hsh : w.shape? b = some (81, 2)) (hfz : w.frozen? ⟨b, 0, none⟩ = false) :
    Calls Tryz.prog 80 #[.pointer (some ⟨b, 0, none⟩)] w fun e w' => e = .returned (.tuple #[]) ∧ w' = w.setCell ⟨b, 0, none⟩ (.pointer (some ⟨b, 0, none⟩)) := by
  obtain ⟨j, hj, hjs⟩ := Option.map_eq_some_iff.1 wsize64_b
  go_enter Tryz.func80, Tryz.ntmps80
  go_wp2
  rw [Lib.run_to_unsafe w ⟨b, 0, none⟩ Tryz.underlying79 Tryz.underlying163 hj (by rw [hjs]; decide) hsh (Nat.zero_lt_succ 1)]
  simp only [Result.andThen]
  rw [Oper.upon_value]
  go_wp2
  rw [run_callFunc_extern Tryz.func109 (by kernel_rfl) (by kernel_rfl) (by kernel_rfl) (e := Extern.AbiNoEscape.same) (by kernel_rfl)]
  rw [Lib.run_noEscape]
  simp only [Result.andThen]
  rw [Oper.upon_value]
  go_wp2
  rw [Lib.run_from_unsafe w ⟨b, 0, none⟩ Tryz.underlying163 Tryz.underlying79 hj hsh wlies_b]
  simp only [Result.andThen]
  rw [Oper.upon_value]
  go_wp2
  go_end0
  exact ⟨rfl, rfl⟩
theorem wcheck_b (B b : Nat) (bs : List Value) (w : World) (h : Lib.IsBuilder 81 5 B b bs w) :
    Calls Tryz.prog 80 #[.pointer (some ⟨b, 0, none⟩)] w fun e w' => e = .returned (.tuple #[]) ∧ Lib.BuilderAt 81 5 B b (.pointer (some ⟨b, 0, none⟩)) bs w' ∧ Below B w w' ∧ Lib.OthersKept 5 (some b) w w' := by
  rcases h with h | h
  · refine (wcheck_fresh_b b w h.cell0 h.shape h.frozen0).mono ?_
    rintro e w' ⟨rfl, rfl⟩
    exact ⟨rfl, h.used _, (Below.refl B w).setCell (p := ⟨b, 0, none⟩) h.1 _, (Lib.OthersKept.refl _ _ w).setCell ⟨b, 0, none⟩ rfl _⟩
  · refine (wcheck_used_b b w h.cell0).mono ?_
    rintro e w' ⟨rfl, rfl⟩
    exact ⟨rfl, h, Below.refl B _, Lib.OthersKept.refl _ _ _⟩
def Wt_b (B b : Nat) (x : ByteArray) (w : World) : Prop := Lib.IsBuilder 81 5 B b (Lib.strCells x) w
theorem strCells_app_b (x s : ByteArray) : Lib.strCells x ++ Lib.strCells s = Lib.strCells (x ++ s) := by
  unfold Lib.strCells
  simp
set_option maxHeartbeats 2000000 in
set_option maxRecDepth 100000 in
theorem wwrite_b (B b : Nat) (x s : ByteArray) (w : World) (h : Wt_b B b x w) (hlen : x.size + s.size ≤ 140737488355328) (hBw : B ≤ w.heap.size) :
    Calls Tryz.prog 37 #[.pointer (some ⟨b, 0, none⟩), .string s] w fun e w' => e = .returned (.tuple #[.int .i64 s.size, .nilIface]) ∧ Wt_b B b (x ++ s) w' ∧ Below B w w' ∧ Lib.OthersKept 5 (some b) w w' := by
  obtain ⟨i0, hi, hz0, hz1, hz2⟩ := info_parts Tryz.info5
  have hck := Lib.hid (wcheck_b B b _ w h)
  clear h
  have hlx := Lib.strCells_length x
  go_enter Tryz.func37, Tryz.ntmps37
  go_wp2_with (go_at_call 80; refine hck.out.mono ?_)
  rintro e w1 ⟨rfl, h1, hb1, ho1⟩
  obtain ⟨hB, v, hbk, hown, hne⟩ := h1
  have c0 : w1.cell? ⟨b, 0, none⟩ = some (.pointer (some ⟨b, 0, none⟩)) := by rw [Lib.cell_of_heap hbk]; rfl
  have c1 : w1.cell? ⟨b, 1, none⟩ = some v := by rw [Lib.cell_of_heap hbk]; rfl
  go_wp2_with (at_builtin; refine Lib.wpList_append_own_string _ rfl _ _ 68 9 rfl B 5 i0 Tryz.underlying68 Tryz.underlying9 hi hz0 hz1 hz2 _ _ _ rfl hown s rfl ?c3 ?c4 ?c5 ?_)
  case c3 => unfold maxLen; omega
  case c4 => omega
  case c5 => have := hb1.size; omega
  intro v' w2 hown' hgrow _
  have hlt : b < w1.heap.size := (Array.getElem?_eq_some_iff.1 hbk).1
  have hb2 : w2.heap[b]? = some (.cells #[.pointer (some ⟨b, 0, none⟩), v] 81 (0, 0)) := by
    rw [hgrow.block b hlt (fun e => hne e.symm)]
    exact hbk
  have d0 : w2.cell? ⟨b, 0, none⟩ = some (.pointer (some ⟨b, 0, none⟩)) := by rw [Lib.cell_of_heap hb2]; rfl
  have d1 : w2.cell? ⟨b, 1, none⟩ = some v := by rw [Lib.cell_of_heap hb2]; rfl
  have f1 : w2.frozen? ⟨b, 1, none⟩ = false := Lib.frozen_of_heap hb2 1
  obtain ⟨ao, n', cap, rfl⟩ : ∃ ao n' cap, v' = .slice ao n' cap := by
    rcases hown'.2 with ⟨hv, _⟩ | ⟨g, cap, cur, hv, _⟩
    · exact ⟨_, _, _, hv⟩
    · exact ⟨_, _, _, hv⟩
  go_wp2
  go_ret2
  refine ⟨rfl, ?_, ?_, ?_⟩
  · refine .inr ?_
    rw [← strCells_app_b]
    exact Lib.BuilderAt.put (T := 81) (e := 5) hB hb2 (bs' := Lib.strCells x ++ Lib.strCells s) (by simpa [Lib.strCells_length] using hown') (by decide)
  · exact (hb1.grown hgrow (by have := hb1.size; omega) (fun k hk => (hown.lt k hk).1)).setCell (p := ⟨b, 1, none⟩) hB _
  · refine (ho1.trans ?_ : Lib.OthersKept 5 (some b) w w2).setCell ⟨b, 1, none⟩ rfl _
    refine (Lib.OthersKept.refl 5 (some b) w1).grown hgrow fun g hg => ?_
    rcases hown.2 with ⟨hv, _⟩ | ⟨g', cap', cur, hv, _, hg', _⟩
    · rw [hv] at hg; simp [Value.ownBlock] at hg
    · rw [hv] at hg
      simp only [Value.ownBlock, Option.some.injEq] at hg
      subst hg
      exact ⟨cur, _, hg'⟩
end Go.Proofs.YtnobeoppffoomaaGreat
namespace Go.Proofs.YtnobeoppffoomaaGreat
open Go.RowKit
set_option linter.unusedVariables false
theorem strCells_bytes_b (x : ByteArray) : Lib.strCells x = Lib.byteCells x.data.toList := by
  unfold Lib.strCells Lib.byteCells
  simp
set_option maxHeartbeats 1000000 in
set_option maxRecDepth 100000 in
theorem wstring_b (B b : Nat) (x : ByteArray) (w : World) (h : Wt_b B b x w) (hx : 0 < x.size) :
    Calls Tryz.prog 41 #[.pointer (some ⟨b, 0, none⟩)] w fun e w' => e = .returned (.string x) ∧ Below B w w' := by
  obtain ⟨p, hB, v, hbk, hown, hne⟩ : ∃ p, Lib.BuilderAt 81 5 B b p (Lib.byteCells x.data.toList) w := by
    unfold Wt_b at h
    rw [strCells_bytes_b] at h
    rcases h with h | h
    · exact ⟨_, h⟩
    · exact ⟨_, h⟩
  obtain ⟨l, hl⟩ : ∃ l, l = x.data.toList := ⟨_, rfl⟩
  have hxe : x = ⟨l.toArray⟩ := by rw [hl]
  have hl0 : l.length ≠ 0 := by rw [hl]; simp; intro e; rw [e] at hx; exact absurd hx (by decide)
  have hne0 : l ≠ [] := fun e => hl0 (by rw [e]; rfl)
  rw [← hl] at hown
  rw [hxe]
  clear hxe hl hx h
  rw [Lib.byteCells_length] at hown
  obtain ⟨g, cap, cur, rfl, hbg, hg, hnc, hcm, hcs, htake⟩ : ∃ g cap cur, v = .slice (some ⟨g, 0, none⟩) l.length cap ∧ B ≤ g ∧ w.heap[g]? = some (.cells cur 5 (0, 0)) ∧ l.length ≤ cap ∧ cap ≤ maxLen ∧ cur.size = cap * 1 ∧ cur.toList.take (l.length * 1) = Lib.byteCells l := by
    rcases hown.2 with ⟨_, hz⟩ | ⟨g, cap, cur, hv, r⟩
    · exact absurd hz hl0
    · exact ⟨g, cap, cur, hv, r⟩
  have c1 : w.drew.cell? ⟨b, 1, none⟩ = some (.slice (some ⟨g, 0, none⟩) l.length cap) := by
    have : w.drew.heap[b]? = some (.cells #[p, .slice (some ⟨g, 0, none⟩) l.length cap] 81 (0, 0)) := hbk
    rw [Lib.cell_of_heap this]; rfl
  have hSD : (Builtin.unsafeSliceData_ #[68] 136 #[.slice (some ⟨g, 0, none⟩) l.length cap]).run Tryz.prog w.drew = .ok (.pointer (some ⟨g, 0, none⟩)) w.drew :=
    Lib.run_unsafeSliceData_row _ _ _ _ _ _ (by omega)
  have hUS : (Builtin.unsafeString_ #[136, 3] 9 #[.pointer (some ⟨g, 0, none⟩), .int .i64 l.length]).run Tryz.prog w.drew = .ok (.string ⟨l.toArray⟩) (w.drew.freeze ⟨g, 0, none⟩ l.length) := by
    refine Lib.run_unsafeString_row w.drew 136 3 9 5 Tryz.underlying136 wcells5_b g cur.size (by have hg' : w.drew.heap[g]? = some (.cells cur 5 (0, 0)) := hg; simp [World.shape?, hg']) l hne0 (by omega) (by unfold maxLen at hcm; omega) ?_
    intro j x hx
    have := hown.cells (g := g) rfl j (.int .u8 x.toNat) (by simp [Lib.byteCells, hx])
    exact this
  have mixed : Tryz.prog.follows Departure.mixedOrders = true := by kernel_rfl
  go_enter Tryz.func41, Tryz.ntmps41
  go_wp2
  go_region_o
  all_goals (go_wp2; go_ret; exact ⟨rfl, Lib.below_freeze (Below.drew (Below.refl B w)) (p := ⟨g, 0, none⟩) hbg _⟩)
theorem Wt_b.below {B b : Nat} {x : ByteArray} {w w1 : World} (h : Wt_b B b x w) (hb : Below w.heap.size w w1) : Wt_b B b x w1 := by
  have key : ∀ p, Lib.BuilderAt 81 5 B b p (Lib.strCells x) w → Lib.BuilderAt 81 5 B b p (Lib.strCells x) w1 := by
    rintro p ⟨hB, v, hbk, hown, hne⟩
    refine ⟨hB, v, (hb.block b (Array.getElem?_eq_some_iff.1 hbk).1).trans hbk, ?_, hne⟩
    exact hown.kept (row := none) ⟨hb.os, hb.tape, hb.output, hb.size, fun k hk _ => hb.block k hk⟩ (by
      cases hv : v.ownBlock with
      | none => exact .inl rfl
      | some k => exact .inr (by simp))
  rcases h with h | h
  · exact .inl (key _ h)
  · exact .inr (key _ h)
end Go.Proofs.YtnobeoppffoomaaGreat
