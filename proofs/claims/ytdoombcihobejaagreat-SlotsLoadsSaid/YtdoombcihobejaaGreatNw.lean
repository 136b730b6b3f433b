/-
  The contracts of the device's now and Read.
  Conditions: named in each theorem.
-/
import Derived.Test.YtdoombcihobejaaGreatSe
namespace Go.Proofs.YtdoombcihobejaaGreat
open Go.RowKit Dk
set_option linter.unusedVariables false
/-- A look-up in the map of what waits. -/
theorem wpList_lookup_sec {ops : Array Oper} {rest : List Oper} {o : Oper} {a : Act} {Q : Exit → Act → World → Prop} (hg : o.guard = none) (m x : Operand) (hop : o.op = Op.lookup 81 m x true)
    (w : World) (mb i : Nat) (M : Nat → Option Sec) (hm : a.eval m = .map (some mb)) (hx : a.eval x = .int .i64 (i : Int)) (hM : MapAt w mb M) (hi : i < 4096)
    (hK : wpList Tryz.prog ops Q rest (a.put o.dst (.tuple #[sv ((M i).getD zsec), .bool (M i).isSome])) w) : wpList Tryz.prog ops Q (o :: rest) a w := by
  obtain ⟨D, hown, hMI⟩ := hM
  refine wpList_lookup_own_ok w hg m x 81 hop 3 98 law3 Tryz.underlying81 secR (z := sv zsec) (Tryz.zeroValue98 w) (.lit (.string zsec)) [] (secR_of zsec_length) mb 4096 D hm hown _ (.int .i64 (i : Int)) hx (key_i64 i hi) ?_
  intro v ps hv
  obtain ⟨l, hl, rfl, hy⟩ := secR_inv hv
  have h1 := hMI.1 (i : Int)
  simp only [Int.toNat_natCast, Int.natCast_nonneg, decide_true, Bool.true_and] at h1
  rw [h1]
  have e : l = (M i).getD zsec := by
    simp only [Prod.mk.injEq] at hy
    cases hmi : M i with
    | none =>
      rw [hmi] at h1
      rw [Maps.atKey_of_not_has h1] at hy
      have h2 := hy.1
      simp only [DataW.lit.injEq, Lit.string.injEq] at h2
      exact h2.symm
    | some s =>
      rw [hMI.2 i s hmi] at hy
      have h2 := hy.1
      simp only [DataW.lit.injEq, Lit.string.injEq] at h2
      exact h2.symm
  rw [e]
  exact hK
/-- A sector is stored into a sector's variable. -/
theorem wpList_store_sec {ops : Array Oper} {rest : List Oper} {op : Oper} {a : Act} {Q : Exit → Act → World → Prop} (hgd : op.guard = none) (x y : Operand) (ho : op.op = .store 98 x y)
    (w : World) (z : Nat) (old l : Sec) (hl : l.length = 64) (hol : old.length = 64) (hx : a.eval x = .pointer (some ⟨z, 0, none⟩)) (hy : a.eval y = sv l) (hz : w.heap[z]? = some (.cells (Lib.byteCells old).toArray 98 (0, 0)))
    (h : wpList Tryz.prog ops Q rest (a.put op.dst undef) (w.setRow z (Lib.byteCells l).toArray)) : wpList Tryz.prog ops Q (op :: rest) a w :=
  wpList_store_row hgd 98 x y ho z _ hx hy 98 _ hz (by rw [Tryz.sec64]; simp [Lib.byteCells_length, hl]) (by simp [Lib.byteCells_length, hl, hol]) (all_oneCell_toArray (Lib.byteCells_one l)) h
theorem wpList_load_sec {ops : Array Oper} {rest : List Oper} {op : Oper} {a : Act} {Q : Exit → Act → World → Prop} (hgd : op.guard = none) (x : Operand) (ho : op.op = .load 98 x)
    (w : World) (b o : Nat) (l : Sec) (hl : l.length = 64) (hx : a.eval x = .pointer (some ⟨b, o, none⟩)) (hr : w.rangeAt b o (Lib.byteCells l))
    (h : wpList Tryz.prog ops Q rest (a.put op.dst (sv l)) w) : wpList Tryz.prog ops Q (op :: rest) a w :=
  wpList_load_mid hgd 98 x ho b o hx _ _ hr Tryz.underlying98 rfl (by rw [Tryz.sec64, Lib.byteCells_length, hl]) h

/-- A variable of a sector's type is made. -/
theorem wpList_alloc_sec {ops : Array Oper} {rest : List Oper} {op : Oper} {a : Act} {Q : Exit → Act → World → Prop} (hgd : op.guard = none) (ho : op.op = .alloc 98) (w : World)
    (h : wpList Tryz.prog ops Q rest (a.put op.dst (.pointer (some ⟨w.heap.size, 0, none⟩))) (zw w)) : wpList Tryz.prog ops Q (op :: rest) a w := by
  refine wpList_plain hgd fun K hK => ?_
  unfold Oper.wp execOp
  simp only [ho]
  go_simp
  exact hK _ _ h
theorem wpList_at {P : Program} {ops rest : _} {Q : Exit → Act → World → Prop} {a : Act} {w w' : World} (h : w' = w) (k : wpList P ops Q rest a w) : wpList P ops Q rest a w' := by rw [h]; exact k
theorem zw_below (w : World) : Below w.heap.size w (zw w) := (Below.refl _ _).alloc (Nat.le_refl _) _
theorem zw_new (w : World) : (zw w).heap[w.heap.size]? = some (.cells (Lib.byteCells zsec).toArray 98 (0, 0)) := heap_alloc_new w _
theorem zw_size (w : World) : (zw w).heap.size = w.heap.size + 1 := by unfold zw; simp
theorem Dk.DevAt.below {w w' : World} {g fb mb cap : Nat} {d : St} (h : DevAt w g fb mb cap d) (hb : Below w.heap.size w w') : DevAt w' g fb mb cap d := h.of_heap (fun k hk => hb.block k (by
    rcases hk with rfl | rfl | rfl
    · exact lt_of_heap h.blk
    · exact h.row.lt
    · exact h.map.lt))
theorem below_setRow {B z : Nat} {w : World} (hz : B ≤ z) (cs : Array Value) : Below B w (w.setRow z cs) := ⟨rfl, rfl, rfl, by simp, fun k hk => setRow_other _ _ _ _ (by omega)⟩

set_option maxHeartbeats 1000000 in
set_option maxRecDepth 100000 in
theorem now_any (g : Nat) (L : List Nat) (d : St) (i : Nat) (w : World) (h : Dv w g L d) (hi : i < d.n) :
    Calls Tryz.prog 47 #[ptr g, .int .i64 i] w fun e w' => e = .returned (sv (d.now i)) ∧ Below w.heap.size w w' := by
  obtain ⟨ho, fb, mb, cap, rfl, hA⟩ := h
  have HO := Lib.hid ho
  have hi0 : (0 : Int) ≤ i := by omega
  have hi1 : (i : Int) < d.n := by omega
  have hi4 : i < 4096 := by have := ho.n2; omega
  have hA0 := hA.below (zw_below w)
  have c1 := hA0.c1
  have hM := hA0.map
  have hlen : ((d.wt i).getD zsec).length = 64 := by
    cases e : d.wt i with
    | none => exact zsec_length
    | some s => exact (ho.wlen i s e).2
  -- behind the look-up
  obtain ⟨w2, hw2⟩ : ∃ w2, w2 = (zw (zw w)).setRow (zw w).heap.size (Lib.byteCells ((d.wt i).getD zsec)).toArray := ⟨_, rfl⟩
  have hb2 : Below (zw w).heap.size (zw w) w2 := by rw [hw2]; exact (zw_below _).trans (below_setRow (Nat.le_refl _) _)
  have hA2 := hA0.below hb2
  have c0 := hA2.c0
  have hr2 := hA2.row.range ho.flen i hi
  have hn2 : w2.heap[(zw w).heap.size]? = some (.cells (Lib.byteCells ((d.wt i).getD zsec)).toArray 98 (0, 0)) := by rw [hw2]; exact setRow_heap _ _ _ _ 98 (0, 0) (zw_new _)
  have hz2 : w2.heap[w.heap.size]? = some (.cells (Lib.byteCells zsec).toArray 98 (0, 0)) := (hb2.block _ (by rw [zw_size]; omega)).trans (zw_new w)
  have hB : Below w.heap.size w w2 := (zw_below w).trans (hb2.mono (by rw [zw_size]; omega))
  have HW := Lib.hid hw2
  have HI := Lib.hid hi
  clear ho hA hA0 hb2 hA2 hw2 hi
  unfold ptr
  cases e : d.wt i with
  | none =>
    have HE := Lib.hid e
    rw [e] at hlen hn2 HW
    clear e
    have hfl := HO.out.flen i
    have hnow : Hid (d.now i = d.fl i) := by show _ = _; unfold St.now; rw [HE.out]; rfl
    go_enter Tryz.func47, Tryz.ntmps47
    go_wp2_with (first
      | (refine wpList_alloc_sec rfl rfl _ ?_; go_frame)
      | (at_lookup; refine wpList_lookup_sec rfl _ _ rfl _ mb i d.wt rfl rfl hM hi4 ?_; rw [HE.out]; go_frame)
      | (refine wpList_store_sec rfl _ _ rfl _ _ zsec _ hlen zsec_length rfl rfl (zw_new _) ?_; rw [← HW.out]; go_frame)
      | (refine wpList_load_sec rfl _ rfl _ fb (i * 64) (d.fl i) hfl rfl hr2 ?_; go_frame)
      | (refine wpList_store_sec rfl _ _ rfl _ w.heap.size zsec (d.fl i) hfl zsec_length rfl rfl hz2 ?_; go_frame))
    rw [hnow.out]
    exact bodyPost_ret (v := sv (d.fl i)) (results_cell_row Tryz.results47 _ _ w.heap.size 98 _ (0, 0) _ rfl (setRow_heap _ _ _ _ 98 (0, 0) hz2) Tryz.underlying98 rfl (by rw [Tryz.sec64]; simp [Lib.byteCells_length, hfl])) rfl
      ⟨rfl, hB.trans (below_setRow (Nat.le_refl _) _)⟩
  | some s =>
    have HE := Lib.hid e
    rw [e] at hlen hn2 HW
    change List.length s = 64 at hlen
    clear e
    have hnow : Hid (d.now i = s) := by show _ = _; unfold St.now; rw [HE.out]; rfl
    have hr3 : w2.rangeAt (zw w).heap.size 0 (Lib.byteCells s) := range_of_heap hn2
    go_enter Tryz.func47, Tryz.ntmps47
    go_wp2_with (first
      | (refine wpList_alloc_sec rfl rfl _ ?_; go_frame)
      | (at_lookup; refine wpList_lookup_sec rfl _ _ rfl _ mb i d.wt rfl rfl hM hi4 ?_; rw [HE.out]; go_frame)
      | (refine wpList_store_sec rfl _ _ rfl _ _ zsec s hlen zsec_length rfl rfl (zw_new _) ?_; refine wpList_at HW.out.symm ?_; go_frame)
      | (refine wpList_load_sec rfl _ rfl _ (zw w).heap.size 0 s hlen rfl hr3 ?_; go_frame)
      | (refine wpList_store_sec rfl _ _ rfl _ w.heap.size zsec s hlen zsec_length rfl rfl hz2 ?_; go_frame))
    rw [hnow.out]
    exact bodyPost_ret (v := sv s) (results_cell_row Tryz.results47 _ _ w.heap.size 98 _ (0, 0) _ rfl (setRow_heap _ _ _ _ 98 (0, 0) hz2) Tryz.underlying98 rfl (by rw [Tryz.sec64]; simp [Lib.byteCells_length, hlen])) rfl
      ⟨rfl, hB.trans (below_setRow (Nat.le_refl _) _)⟩
end Go.Proofs.YtdoombcihobejaaGreat
