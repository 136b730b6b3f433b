/-
  The contracts of super.Read and of the document's own: the newer of both.
  Conditions: a device that lies in memory.
-/
import Derived.Test.YtdoombcihobejaaGreatSR
import Derived.Test.YtdoombcihobejaaGreatRp
namespace Go.Proofs.YtdoombcihobejaaGreat
open Go.RowKit Vi Sp Dk
set_option linter.unusedVariables false
def gAt (d : St) (i : Int) : Nat := getG (secB d i)
def bAt (d : St) (i : Int) : ByteArray := getB (secB d i)
def rdE (d : St) (a : Int) : Int := if bothE d a ≠ 0 then bothE d a else if gAt d a = 0 ∧ gAt d (a + 1) = 0 then 6 else 0
def rdK (d : St) (a : Int) : Nat := if rdE d a = 0 then (if gAt d a < gAt d (a + 1) then 1 else 0) else 0
def rdG (d : St) (a : Int) : Nat := if rdE d a = 0 then (if gAt d a < gAt d (a + 1) then gAt d (a + 1) else gAt d a) else 0
def rdB (d : St) (a : Int) : ByteArray := if rdE d a = 0 then (if gAt d a < gAt d (a + 1) then bAt d (a + 1) else bAt d a) else ⟨#[]⟩
/-- What Read answers. -/
def rdV (d : St) (a : Int) : Ending := .returned (.tuple #[.string (rdB d a), .int .u64 (rdG d a), .int .i64 (rdK d a), .int .i64 (rdE d a)])
theorem rdV_err {d : St} {a : Int} (h : bothE d a ≠ 0) : rdV d a = .returned (.tuple #[.string ⟨#[]⟩, .int .u64 (0 : Nat), .int .i64 (0 : Nat), .int .i64 (bothE d a)]) := by
  have e : rdE d a = bothE d a := by unfold rdE; rw [if_pos h]
  unfold rdV rdB rdG rdK
  rw [e, if_neg h, if_neg h, if_neg h]
theorem rdV_none {d : St} {a : Int} (h : bothE d a = 0) (h0 : gAt d a = 0) (h1 : gAt d (a + 1) = 0) : rdV d a = .returned (.tuple #[.string ⟨#[]⟩, .int .u64 (0 : Nat), .int .i64 (0 : Nat), .int .i64 6]) := by
  have e : rdE d a = 6 := by unfold rdE; rw [if_neg (by rw [h]; simp), if_pos ⟨h0, h1⟩]
  unfold rdV rdB rdG rdK
  rw [e, if_neg (by decide), if_neg (by decide), if_neg (by decide)]
theorem rdE_zero {d : St} {a : Int} (h : bothE d a = 0) (h0 : gAt d a ≠ 0 ∨ gAt d (a + 1) ≠ 0) : rdE d a = 0 := by
  unfold rdE; rw [if_neg (by rw [h]; simp), if_neg (by omega)]
theorem rdV_one {d : St} {a : Int} (h : bothE d a = 0) (h0 : gAt d a < gAt d (a + 1)) : rdV d a = .returned (.tuple #[.string (bAt d (a + 1)), .int .u64 (gAt d (a + 1)), .int .i64 (1 : Nat), .int .i64 0]) := by
  have e : rdE d a = 0 := rdE_zero h (by omega)
  unfold rdV rdB rdG rdK
  rw [e, if_pos rfl, if_pos rfl, if_pos rfl, if_pos h0, if_pos h0, if_pos h0]
theorem rdV_zero {d : St} {a : Int} (h : bothE d a = 0) (h0 : ¬ gAt d a < gAt d (a + 1)) (h1 : gAt d a ≠ 0) : rdV d a = .returned (.tuple #[.string (bAt d a), .int .u64 (gAt d a), .int .i64 (0 : Nat), .int .i64 0]) := by
  have e : rdE d a = 0 := rdE_zero h (by omega)
  unfold rdV rdB rdG rdK
  rw [e, if_pos rfl, if_pos rfl, if_pos rfl, if_neg h0, if_neg h0, if_neg h0]
theorem Tryz.h2 : (Tryz.prog.info? 120).map (·.size) = some 2 := by kernel_rfl
theorem wpList_store_h2 {ops : Array Oper} {rest : List Oper} {op : Oper} {a : Act} {Q : Exit → Act → World → Prop} (hgd : op.guard = none) (x y : Operand) (ho : op.op = .store 120 x y)
    (w : World) (z g0 k0 : Nat) (b0 l0 : ByteArray) (hx : a.eval x = .pointer (some ⟨z, 0, none⟩)) (hy : a.eval y = .agg #[.int .u64 g0, .string b0]) (hz : w.heap[z]? = some (.cells #[.int .u64 k0, .string l0] 120 (0, 0)))
    (h : wpList Tryz.prog ops Q rest (a.put op.dst undef) (w.setRow z #[.int .u64 g0, .string b0])) : wpList Tryz.prog ops Q (op :: rest) a w :=
  wpList_store_row hgd 120 x y ho z _ hx hy 120 _ hz Tryz.h2 rfl (by simp [Value.oneCell']) h
set_option maxHeartbeats 4000000 in
set_option maxRecDepth 100000 in
theorem sread_any (g : Nat) (L : List Nat) (d : St) (at_ : Int) (w : World) (h : Dv w g L d) (ha1 : -9223372036854775808 ≤ at_) (ha2 : at_ ≤ 9223372036854775807) :
    Calls Tryz.prog 32 #[ptr g, .int .i64 at_] w fun e w' => e = rdV d at_ ∧ Below w.heap.size w w' := by
  have K := Lib.hid (both_any g L d at_ w h ha1 ha2)
  clear h ha1 ha2
  obtain ⟨E, hE⟩ : ∃ E, E = bothE d at_ := ⟨_, rfl⟩
  obtain ⟨V, hV⟩ : ∃ V, V = bothV d at_ := ⟨_, rfl⟩
  rw [← hE, ← hV] at K
  by_cases hz : E = 0
  · have hV2 : V = hv (gAt d at_) (bAt d at_) (gAt d (at_ + 1)) (bAt d (at_ + 1)) := by rw [hV]; unfold bothV; rw [if_pos (by rw [← hE]; exact hz)]; rfl
    have hB : bothE d at_ = 0 := by rw [← hE]; exact hz
    have R0 : Hid (gAt d at_ = 0 → gAt d (at_ + 1) = 0 → _) := fun h0 h1 => rdV_none hB h0 h1
    have R1 := Lib.hid (rdV_one hB)
    have R2 := Lib.hid (rdV_zero hB)
    rw [hz, hV2] at K
    clear hE hV hV2 hz hB V
    generalize gAt d at_ = g0 at *
    generalize bAt d at_ = b0 at *
    generalize gAt d (at_ + 1) = g1 at *
    generalize bAt d (at_ + 1) = b1 at *
    unfold ptr at *
    go_enter Tryz.func32, Tryz.ntmps32
    go_wp2_with fail
    refine K.out.mono ?_
    rintro e w1 ⟨rfl, hb1⟩
    obtain ⟨W, hW⟩ : ∃ W, W = (w1.alloc (.cells (hv 0 ⟨#[]⟩ 0 ⟨#[]⟩) 121)).setRow w1.heap.size (hv g0 b0 g1 b1) := ⟨_, rfl⟩
    obtain ⟨q, hq⟩ : ∃ q, q = w1.heap.size := ⟨_, rfl⟩
    have k0 : (w1.alloc (.cells (hv 0 ⟨#[]⟩ 0 ⟨#[]⟩) 121)).heap[w1.heap.size]? = some (.cells (hv 0 ⟨#[]⟩ 0 ⟨#[]⟩) 121 (0, 0)) := heap_alloc_new _ _
    have hh : W.heap[q]? = some (.cells (hv g0 b0 g1 b1) 121 (0, 0)) := by rw [hW, hq]; exact setRow_heap _ _ _ _ 121 (0, 0) k0
    have hbW : Below w.heap.size w W := by
      rw [hW]
      exact (hb1.alloc hb1.size _).trans ⟨rfl, rfl, rfl, by simp, fun k hk => setRow_other _ _ _ _ (by have := hb1.size; omega)⟩
    have K0 := Lib.hid k0
    have HW := Lib.hid hW
    have HH := Lib.hid hh
    have HB := Lib.hid hbW
    have HQ := Lib.hid hq
    clear K k0 hW hh hbW hq hb1
    go_wp2_with (refine wpList_store_hv rfl _ _ rfl _ _ g0 g1 0 0 b0 b1 ⟨#[]⟩ ⟨#[]⟩ rfl rfl K0.out ?_; refine wpList_at HW.out.symm ?_; rw [← HQ.out]; go_frame)
    clear K0
    have c0 : W.cell? ⟨q, 0, none⟩ = some (.int .u64 g0) := cell_of_row W q 0 _ 121 (0, 0) HH.out
    have c1 : W.cell? ⟨q, 1, none⟩ = some (.string b0) := cell_of_row W q 1 _ 121 (0, 0) HH.out
    have c2 : W.cell? ⟨q, 2, none⟩ = some (.int .u64 g1) := cell_of_row W q 2 _ 121 (0, 0) HH.out
    have c3 : W.cell? ⟨q, 3, none⟩ = some (.string b1) := cell_of_row W q 3 _ 121 (0, 0) HH.out
    have KN := Lib.hid (newer_any q g0 g1 b0 b1 W HH.out)
    unfold ptr at KN
    by_cases hlt : g0 < g1
    · rw [decide_eq_true hlt] at KN
      have R1' := Lib.hid (R1.out hlt)
      have hg1 : ((g1 : Int) == 0) = false := by simpa using (by omega : g1 ≠ 0)
      have hg1' : decide (g1 = 0) = false := decide_eq_false (by omega)
      clear R0 R1 R2 hlt
      go_wp2_with fail
      refine KN.out.mono ?_
      rintro e w2 ⟨rfl, n2, rfl⟩
      have c0' : (W.drewN n2).cell? ⟨q, 0, none⟩ = some (.int .u64 g0) := c0
      have c1' : (W.drewN n2).cell? ⟨q, 1, none⟩ = some (.string b0) := c1
      have c2' : (W.drewN n2).cell? ⟨q, 2, none⟩ = some (.int .u64 g1) := c2
      have c3' : (W.drewN n2).cell? ⟨q, 3, none⟩ = some (.string b1) := c3
      have HB3 : Hid (Below w.heap.size w (W.drewN n2)) := HB.out.trans ⟨rfl, rfl, rfl, Nat.le_refl _, fun _ _ => rfl⟩
      clear c0 c1 c2 c3 HW HH HB KN HQ
      generalize W.drewN n2 = X at *
      clear W
      have k0 : (X.alloc (.cells #[.int .u64 (0 : Nat), .string ⟨#[]⟩] 120)).heap[X.heap.size]? = some (.cells #[.int .u64 (0 : Nat), .string ⟨#[]⟩] 120 (0, 0)) := heap_alloc_new _ _
      obtain ⟨Y, hY⟩ : ∃ Y, Y = (X.alloc (.cells #[.int .u64 (0 : Nat), .string ⟨#[]⟩] 120)).setRow X.heap.size #[.int .u64 g1, .string b1] := ⟨_, rfl⟩
      have hb1 := HB3.out
      have hbY : Below w.heap.size w Y := by
        rw [hY]
        exact (hb1.alloc hb1.size _).trans ⟨rfl, rfl, rfl, by simp, fun k hk => setRow_other _ _ _ _ (by have := hb1.size; omega)⟩
      obtain ⟨r, hr⟩ : ∃ r, r = X.heap.size := ⟨_, rfl⟩
      have hy : Y.heap[r]? = some (.cells #[.int .u64 g1, .string b1] 120 (0, 0)) := by rw [hY, hr]; exact setRow_heap _ _ _ _ 120 (0, 0) k0
      have y0 : Y.cell? ⟨r, 0, none⟩ = some (.int .u64 g1) := cell_of_row Y r 0 _ 120 (0, 0) hy
      have y1 : Y.cell? ⟨r, 1, none⟩ = some (.string b1) := cell_of_row Y r 1 _ 120 (0, 0) hy
      have K0 := Lib.hid k0
      have HY := Lib.hid hY
      have HBY := Lib.hid hbY
      have HR := Lib.hid hr
      clear k0 hY hbY hr hb1 hy
      go_wp2_with (refine wpList_store_h2 rfl _ _ rfl _ _ g1 0 b1 ⟨#[]⟩ rfl rfl K0.out ?_; refine wpList_at HY.out.symm ?_; rw [← HR.out]; go_frame)
      go_quiet (fail)
      go_wp2
      refine bodyPost_ret (v := _) (by simp [results, Tryz.results32, go_sem]) rfl ⟨R1'.out.symm, HBY.out.trans ⟨rfl, rfl, rfl, Nat.le_refl _, fun _ _ => rfl⟩⟩
    · rw [decide_eq_false hlt] at KN
      by_cases h00 : g0 = 0
      · have R1' := Lib.hid (R0.out h00 (by omega))
        subst h00
        clear R0 R1 R2 hlt
        go_wp2_with fail
        refine KN.out.mono ?_
        rintro e w2 ⟨rfl, n2, rfl⟩
        have c0' : (W.drewN n2).cell? ⟨q, 0, none⟩ = some (.int .u64 (0 : Nat)) := c0
        have c1' : (W.drewN n2).cell? ⟨q, 1, none⟩ = some (.string b0) := c1
        have c2' : (W.drewN n2).cell? ⟨q, 2, none⟩ = some (.int .u64 g1) := c2
        have c3' : (W.drewN n2).cell? ⟨q, 3, none⟩ = some (.string b1) := c3
        have HB3 : Hid (Below w.heap.size w (W.drewN n2)) := HB.out.trans ⟨rfl, rfl, rfl, Nat.le_refl _, fun _ _ => rfl⟩
        clear c0 c1 c2 c3 HW HH HB KN HQ
        generalize W.drewN n2 = X at *
        clear W
        have k0 : (X.alloc (.cells #[.int .u64 (0 : Nat), .string ⟨#[]⟩] 120)).heap[X.heap.size]? = some (.cells #[.int .u64 (0 : Nat), .string ⟨#[]⟩] 120 (0, 0)) := heap_alloc_new _ _
        obtain ⟨Y, hY⟩ : ∃ Y, Y = (X.alloc (.cells #[.int .u64 (0 : Nat), .string ⟨#[]⟩] 120)).setRow X.heap.size #[.int .u64 (0 : Nat), .string b0] := ⟨_, rfl⟩
        have hb1 := HB3.out
        have hbY : Below w.heap.size w Y := by
          rw [hY]
          exact (hb1.alloc hb1.size _).trans ⟨rfl, rfl, rfl, by simp, fun k hk => setRow_other _ _ _ _ (by have := hb1.size; omega)⟩
        obtain ⟨r, hr⟩ : ∃ r, r = X.heap.size := ⟨_, rfl⟩
        have hy : Y.heap[r]? = some (.cells #[.int .u64 (0 : Nat), .string b0] 120 (0, 0)) := by rw [hY, hr]; exact setRow_heap _ _ _ _ 120 (0, 0) k0
        have y0 : Y.cell? ⟨r, 0, none⟩ = some (.int .u64 (0 : Nat)) := cell_of_row Y r 0 _ 120 (0, 0) hy
        have y1 : Y.cell? ⟨r, 1, none⟩ = some (.string b0) := cell_of_row Y r 1 _ 120 (0, 0) hy
        have K0 := Lib.hid k0
        have HY := Lib.hid hY
        have HBY := Lib.hid hbY
        have HR := Lib.hid hr
        clear k0 hY hbY hr hb1 hy
        go_wp2_with (refine wpList_store_h2 rfl _ _ rfl _ _ 0 0 b0 ⟨#[]⟩ rfl rfl K0.out ?_; refine wpList_at HY.out.symm ?_; rw [← HR.out]; go_frame)
        refine bodyPost_ret (v := _) (by simp [results, Tryz.results32, go_sem]) rfl ⟨R1'.out.symm, HBY.out⟩
      · have R1' := Lib.hid (R2.out hlt h00)
        have hg1 : ((g0 : Int) == 0) = false := by simpa using (by omega : g0 ≠ 0)
        have hg1' : decide (g0 = 0) = false := decide_eq_false (by omega)
        clear R0 R1 R2 hlt
        go_wp2_with fail
        refine KN.out.mono ?_
        rintro e w2 ⟨rfl, n2, rfl⟩
        have c0' : (W.drewN n2).cell? ⟨q, 0, none⟩ = some (.int .u64 g0) := c0
        have c1' : (W.drewN n2).cell? ⟨q, 1, none⟩ = some (.string b0) := c1
        have c2' : (W.drewN n2).cell? ⟨q, 2, none⟩ = some (.int .u64 g1) := c2
        have c3' : (W.drewN n2).cell? ⟨q, 3, none⟩ = some (.string b1) := c3
        have HB3 : Hid (Below w.heap.size w (W.drewN n2)) := HB.out.trans ⟨rfl, rfl, rfl, Nat.le_refl _, fun _ _ => rfl⟩
        clear c0 c1 c2 c3 HW HH HB KN HQ
        generalize W.drewN n2 = X at *
        clear W
        have k0 : (X.alloc (.cells #[.int .u64 (0 : Nat), .string ⟨#[]⟩] 120)).heap[X.heap.size]? = some (.cells #[.int .u64 (0 : Nat), .string ⟨#[]⟩] 120 (0, 0)) := heap_alloc_new _ _
        obtain ⟨Y, hY⟩ : ∃ Y, Y = (X.alloc (.cells #[.int .u64 (0 : Nat), .string ⟨#[]⟩] 120)).setRow X.heap.size #[.int .u64 g0, .string b0] := ⟨_, rfl⟩
        have hb1 := HB3.out
        have hbY : Below w.heap.size w Y := by
          rw [hY]
          exact (hb1.alloc hb1.size _).trans ⟨rfl, rfl, rfl, by simp, fun k hk => setRow_other _ _ _ _ (by have := hb1.size; omega)⟩
        obtain ⟨r, hr⟩ : ∃ r, r = X.heap.size := ⟨_, rfl⟩
        have hy : Y.heap[r]? = some (.cells #[.int .u64 g0, .string b0] 120 (0, 0)) := by rw [hY, hr]; exact setRow_heap _ _ _ _ 120 (0, 0) k0
        have y0 : Y.cell? ⟨r, 0, none⟩ = some (.int .u64 g0) := cell_of_row Y r 0 _ 120 (0, 0) hy
        have y1 : Y.cell? ⟨r, 1, none⟩ = some (.string b0) := cell_of_row Y r 1 _ 120 (0, 0) hy
        have K0 := Lib.hid k0
        have HY := Lib.hid hY
        have HBY := Lib.hid hbY
        have HR := Lib.hid hr
        clear k0 hY hbY hr hb1 hy
        go_wp2_with (refine wpList_store_h2 rfl _ _ rfl _ _ g0 0 b0 ⟨#[]⟩ rfl rfl K0.out ?_; refine wpList_at HY.out.symm ?_; rw [← HR.out]; go_frame)
        go_quiet (fail)
        go_wp2
        refine bodyPost_ret (v := _) (by simp [results, Tryz.results32, go_sem]) rfl ⟨R1'.out.symm, HBY.out.trans ⟨rfl, rfl, rfl, Nat.le_refl _, fun _ _ => rfl⟩⟩
  · have HR := Lib.hid (rdV_err (d := d) (a := at_) (by rw [← hE]; exact hz))
    rw [← hE] at HR
    have hbz : (E != 0) = true := by simpa using hz
    have hV2 : V = hv 0 ⟨#[]⟩ 0 ⟨#[]⟩ := by rw [hV]; unfold bothV; rw [if_neg (by rw [← hE]; exact hz)]
    rw [hV2] at K
    clear hE hV hV2 hz V
    unfold ptr at *
    go_enter Tryz.func32, Tryz.ntmps32
    go_wp2_with fail
    refine K.out.mono ?_
    rintro e w1 ⟨rfl, hb1⟩
    obtain ⟨W, hW⟩ : ∃ W, W = (w1.alloc (.cells (hv 0 ⟨#[]⟩ 0 ⟨#[]⟩) 121)).setRow w1.heap.size (hv 0 ⟨#[]⟩ 0 ⟨#[]⟩) := ⟨_, rfl⟩
    have k0 : (w1.alloc (.cells (hv 0 ⟨#[]⟩ 0 ⟨#[]⟩) 121)).heap[w1.heap.size]? = some (.cells (hv 0 ⟨#[]⟩ 0 ⟨#[]⟩) 121 (0, 0)) := heap_alloc_new _ _
    have hbW : Below w.heap.size w W := by
      rw [hW]
      exact (hb1.alloc hb1.size _).trans ⟨rfl, rfl, rfl, by simp, fun k hk => setRow_other _ _ _ _ (by have := hb1.size; omega)⟩
    have K0 := Lib.hid k0
    have HW := Lib.hid hW
    have HB := Lib.hid hbW
    clear K k0 hW hbW hb1
    go_wp2_with (refine wpList_store_hv rfl _ _ rfl _ _ 0 0 0 0 ⟨#[]⟩ ⟨#[]⟩ ⟨#[]⟩ ⟨#[]⟩ rfl rfl K0.out ?_; refine wpList_at HW.out.symm ?_; go_frame)
    refine bodyPost_ret (v := _) (by simp [results, Tryz.results32, go_sem]) rfl ⟨HR.out.symm, HB.out⟩
end Go.Proofs.YtdoombcihobejaaGreat
