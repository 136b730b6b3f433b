/-
  The contracts of the device's Write and of what it hands to attempt.
  Conditions: named in each theorem.
-/
import Derived.Test.YtdoombcihobejaaGreatMp
import Derived.StillTailTactics
namespace Go.Proofs.YtdoombcihobejaaGreat
open Go.RowKit Dk
set_option linter.unusedVariables false
theorem wp_at {P : Program} {c : Code} {Q : Exit → Act → World → Prop} {a : Act} {w w' : World} (h : w' = w) (k : c.wp P Q a w) : c.wp P Q a w' := by rw [h]; exact k
theorem pad_cells (s : List UInt8) : (List.take 0 (Lib.byteCells zsec).toArray.toList ++ Lib.byteCells (txt s).data.toList ++ List.drop (0 + (txt s).size) (Lib.byteCells zsec).toArray.toList).toArray = (Lib.byteCells (pad s)).toArray := by
  have e : (Lib.byteCells zsec).drop s.length = Lib.byteCells (List.replicate (64 - s.length) 0) := by
    unfold Lib.byteCells zsec
    rw [← List.map_drop, List.drop_replicate]
  rw [List.take_zero, List.nil_append, Nat.zero_add, txt_list, txt_size]
  unfold pad
  rw [Lib.byteCells_append, ← e]
/-- A sector by value out of a block. -/
theorem load_sec {w : World} {b o : Nat} {l : Sec} (hl : l.length = 64) (h : w.rangeAt b o (Lib.byteCells l)) : (Instr.loadAt 98 (.pointer (some ⟨b, o, none⟩))).run Tryz.prog w = .ok (sv l) w :=
  run_loadAt_mid w b o 98 (Lib.byteCells l) _ h Tryz.underlying98 rfl (by rw [Lib.byteCells_length, hl]; kernel_rfl)
theorem range_of_heap {w : World} {b : Nat} {l : Sec} (h : w.heap[b]? = some (.cells (Lib.byteCells l).toArray 98 (0, 0))) : w.rangeAt b 0 (Lib.byteCells l) := fun j v hv => by
  rw [cell_of_row w b _ _ 98 (0, 0) h, Nat.zero_add]
  simpa using hv
theorem key_i64 (i : Nat) (hi : i < 4096) : keyOf Tryz.prog 3 (.int .i64 (i : Int)) = some (.int .i64 (i : Int)) := Maps.keyOf_int_mk Tryz.underlying3 (WalkArith.wf_i64 (by omega))
theorem Dk.MapAt.stored {w' : World} {mb i n : Nat} {M : Nat → Option Sec} {s : Sec} {D : DataW Unit} (hM : MapIs D M) (hm : Maps.IsMap D) (hn : ∀ j t, M j = some t → j < n) (hi : i < n) (hn4 : n ≤ 4096)
    (h : w'.ownsMap Tryz.prog 3 secR mb (4096 + 1) (D.put (.int .i64 i) (.lit (.string s)))) : MapAt w' mb (fun j => if j = i then some s else M j) := by
  have h2 := mapIs_put hM hm i s
  refine ⟨_, owns_tight h (Nat.le_trans (mapSize_le (n := n) h h2 (fun j t hj => ?_)) hn4), h2⟩
  change (if j = i then some s else M j) = some t at hj
  split at hj
  · omega
  · exact hn j t hj
theorem still_load {P : Program} {ops : Array Oper} {w : World} {Q : Act → Prop} {a : Act} {o : Oper} {rest : List Oper} (hg : o.guard = none) (ty : TypeId) (x : Operand) (ho : o.op = .load ty x)
    (p v : Value) (hx : a.eval x = p) (hr : (Instr.loadAt ty p).run P w = .ok v w) (h : wpStill P ops w Q rest (a.put o.dst v)) : wpStill P ops w Q (o :: rest) a := by
  have hw : Region.wanted o (yielded ops a.tmps) = true := by simp [Region.wanted, hg]
  unfold wpStill
  rw [if_pos hw]
  unfold Oper.still execOp
  simp [ho, hx, hr, Result.andThen, Oper.stillUpon]
  exact h
/-- The world with a sector of zeros behind. -/
def zw (w : World) : World := w.alloc (.cells (Lib.byteCells zsec).toArray 98)
set_option maxHeartbeats 400000 in
set_option maxRecDepth 100000 in
theorem write1_any (g sb db ib i : Nat) (L : List Nat) (d : St) (s : List UInt8) (w : World) (h : Dv w g L d) (hs : s.length ≤ 64) (hi : i < d.n)
    (cs : w.cell? ⟨sb, 0, none⟩ = some (.string (txt s))) (cd : w.cell? ⟨db, 0, none⟩ = some (ptr g)) (ci : w.cell? ⟨ib, 0, none⟩ = some (.int .i64 i)) :
    Calls Tryz.prog 68 #[ptr sb, ptr db, ptr ib] w fun e w' => e = .returned (.tuple #[]) ∧ Moves g L (d.put i (pad s)) w w' := by
  unfold ptr at *
  go_enter Tryz.func68, Tryz.ntmps68
  go_wp2
  refine wp_at (w := zw w) rfl ?_
  have hbl : Below w.heap.size w (zw w) := (Below.refl _ w).alloc (Nat.le_refl _) _
  have e1 := World.block_lt_of_cell? w _ cs
  have e2 := World.block_lt_of_cell? w _ cd
  have e3 := World.block_lt_of_cell? w _ ci
  have cs' := (hbl.cell e1).trans cs
  have cd' := (hbl.cell e2).trans cd
  have ci' := (hbl.cell e3).trans ci
  have hg : (zw w).heap[w.heap.size]? = some (.cells (Lib.byteCells zsec).toArray 98 (0, 0)) := heap_alloc_new w _
  have hD := h.below hbl
  have hzl : ∀ k ∈ L, k < w.heap.size := h.lt
  clear cs cd ci
  generalize zw w = w0 at *
  generalize hz : w.heap.size = z at *
  have hcp := Lib.run_copy_row_string (P := Tryz.prog) w0.drew 67 9 3 5 z 0 64 64 (txt s) (Lib.byteCells zsec).toArray 98 Tryz.underlying67 (by kernel_rfl) hg (by rw [txt_size]; exact hs) (by rw [txt_size]; simp [Lib.byteCells_length, zsec_length]; exact hs)
  rw [pad_cells, txt_size] at hcp
  go_still_tail 2, (by kernel_rfl)
  change wpList _ _ _ _ _ w0.drew
  have hg1 : (w0.drew.setRow z (Lib.byteCells (pad s)).toArray).heap[z]? = some (.cells (Lib.byteCells (pad s)).toArray 98 (0, 0)) := setRow_heap _ _ _ _ 98 (0, 0) hg
  have hb1 : Below z w0 (w0.drew.setRow z (Lib.byteCells (pad s)).toArray) := ⟨rfl, rfl, rfl, by simp, fun k hk => setRow_other _ _ _ _ (by omega)⟩
  have HB1 := Lib.hid hb1
  have HG1 := Lib.hid hg1
  clear hb1 hg1
  go_wp2
  have hb1 := HB1.out
  have hg1 := HG1.out
  clear HB1 HG1 hcp
  generalize w0.drew.setRow z (Lib.byteCells (pad s)).toArray = w1 at *
  -- the second region
  have hps := pad_length s hs
  have hD1 := hD.of_heap (w' := w1.drew) (fun k hk => hb1.block k (hzl k hk))
  have cd1 : w1.drew.cell? ⟨db, 0, none⟩ = _ := (hb1.cell e2).trans cd'
  have ci1 : w1.drew.cell? ⟨ib, 0, none⟩ = _ := (hb1.cell e3).trans ci'
  have hld := load_sec hps (range_of_heap (w := w1.drew) hg1)
  obtain ⟨ho, fb, mb, cap, rfl, hA⟩ := hD1
  have c1 := hA.c1
  obtain ⟨D, hown, hMI⟩ := hA.map
  have hkey := key_i64 i (by have := ho.n2; omega)
  have HA := Lib.hid hA
  have HO := Lib.hid ho
  clear hA hD hg1 ho
  go_still_tail 6, (by kernel_rfl)
  refine still_load rfl 98 _ rfl _ _ rfl hld ?_
  refine wpStill_nil ?_
  change wpList _ _ _ _ _ w1.drew
  have hm := hown.isMap
  have hlt := hown.lt
  have HM := Lib.hid hMI
  have hk2 : Below z w1 w1.drew := (Below.refl _ _).drew
  clear hld c1 cd1 ci1 hMI
  generalize w1.drew = w2 at *
  go_wp2_with (at_mapUpdate; refine wpList_mapUpdate_own _ rfl _ _ _ 81 rfl 3 98 law3 Tryz.underlying81 secR mb 4096 D rfl hown (by unfold maxLen; omega) _ _ _ rfl rfl hkey (.lit (.string (pad s))) [] (secR_of hps) ?_; intro w3 hown3 hg3)
  go_end0
  have ho := HO.out
  have hA := HA.out
  have hr : ∀ k, some k ≠ some mb → w3.heap[k]? = w2.heap[k]? ∨ w2.heap.size ≤ k := fun k hk => by
    rcases Nat.lt_or_ge k w2.heap.size with h1 | h1
    · exact .inl (hg3.block k h1 hk)
    · exact .inr h1
  have h3 : ∀ k, k = g ∨ k = fb → w3.heap[k]? = w2.heap[k]? := fun k hk => by
    refine hg3.block k ?_ ?_
    · rcases hk with rfl | rfl
      · exact lt_of_heap hA.blk
      · exact hA.row.lt
    · rcases hk with rfl | rfl
      · exact fun e => hA.gm (Option.some.inj e)
      · exact fun e => hA.fm (Option.some.inj e)
  refine ⟨rfl, [g, fb, mb], ⟨ho.put hi hps, fb, mb, cap, rfl, ⟨(h3 g (.inl rfl)).trans hA.blk, hA.row.of_heap (h3 fb (.inr rfl)), ?_, hA.hcap⟩⟩, ?_, Fresh.refl _ _⟩
  · exact MapAt.stored HM.out hm (fun j t hj => (ho.wlen j t hj).1) hi ho.n2 hown3
  · have hb2 : Below z w w2 := hbl.trans (hb1.trans hk2)
    have hk : Keep [g, fb, mb] w2 w3 := Keep.of_grown hg3 (fun k hk => .inl (by cases hk; simp))
    exact (Keep.of_below (by rw [hz]; exact hb2)).trans hk

theorem heap3 (w : World) (A B C : Obj) : (((w.alloc A).alloc B).alloc C).heap[w.heap.size]? = some A ∧ (((w.alloc A).alloc B).alloc C).heap[w.heap.size + 1]? = some B ∧ (((w.alloc A).alloc B).alloc C).heap[w.heap.size + 2]? = some C := by
  show (((w.heap.push A).push B).push C)[w.heap.size]? = some A ∧ (((w.heap.push A).push B).push C)[w.heap.size + 1]? = some B ∧ (((w.heap.push A).push B).push C)[w.heap.size + 2]? = some C
  refine ⟨?_, ?_, ?_⟩
  · rw [Array.getElem?_push, if_neg (by simp; omega), Array.getElem?_push, if_neg (by simp), Array.getElem?_push, if_pos rfl]
  · rw [Array.getElem?_push, if_neg (by simp), Array.getElem?_push, if_pos (by simp)]
  · rw [Array.getElem?_push, if_pos (by simp)]
set_option maxHeartbeats 1000000 in
theorem write_no (g : Nat) (L : List Nat) (d : St) (at_ : Int) (s : List UInt8) (w : World) (h : Dv w g L d) (hr : d.refuses at_ ≠ 0) :
    Calls Tryz.prog 34 #[ptr g, .int .i64 at_, .string (txt s)] w fun e w' => e = .returned (.int .i64 (d.refuses at_)) ∧ Below w.heap.size w w' := by
  have HC := Lib.hid (fun w1 (h1 : Dv w1 g L d) => refuses_any g L d at_ w1 h1)
  have hb : Below w.heap.size w (((w.alloc (.cells #[ptr g] 28)).alloc (.cells #[.int .i64 at_] 3)).alloc (.cells #[.string (txt s)] 9)) :=
    (((Below.refl _ w).alloc (Nat.le_refl _) _).alloc (by simp) _).alloc (by simp; omega) _
  have hD := h.below hb
  have HD := Lib.hid hD
  have HB := Lib.hid hb
  clear h hD hb
  have hne : (d.refuses at_ != 0) = true := by simpa using hr
  generalize d.refuses at_ = r at *
  unfold ptr at *
  go_enter Tryz.func34, Tryz.ntmps34
  go_wp2_with fail
  refine (HC.out _ HD.out).mono ?_
  rintro e w1 ⟨rfl, rfl⟩
  have hne : (r != 0) = true := by simpa using hr
  go_wp2
  go_ret
  exact ⟨rfl, HB.out⟩
set_option maxHeartbeats 1000000 in
theorem write_long (g : Nat) (L : List Nat) (d : St) (at_ : Int) (s : List UInt8) (w : World) (h : Dv w g L d) (hr : d.refuses at_ = 0) (hs : 64 < s.length) :
    Calls Tryz.prog 34 #[ptr g, .int .i64 at_, .string (txt s)] w fun e w' => e = .returned (.int .i64 3) ∧ Below w.heap.size w w' := by
  have HC := Lib.hid (fun w1 (h1 : Dv w1 g L d) => refuses_any g L d at_ w1 h1)
  rw [hr] at HC
  have hb : Below w.heap.size w (((w.alloc (.cells #[ptr g] 28)).alloc (.cells #[.int .i64 at_] 3)).alloc (.cells #[.string (txt s)] 9)) :=
    (((Below.refl _ w).alloc (Nat.le_refl _) _).alloc (by simp) _).alloc (by simp; omega) _
  have hD := h.below hb
  have HD := Lib.hid hD
  have HB := Lib.hid hb
  have hl : (64 : Int) < (txt s).size := by rw [txt_size]; omega
  generalize txt s = t at *
  clear h hD hb hr hs
  unfold ptr at *
  go_enter Tryz.func34, Tryz.ntmps34
  go_wp2_with fail
  refine (HC.out _ HD.out).mono ?_
  rintro e w1 ⟨rfl, rfl⟩
  go_wp2
  go_ret
  exact ⟨rfl, HB.out⟩
set_option maxHeartbeats 1000000 in
theorem write_try (g : Nat) (L : List Nat) (d : St) (i : Nat) (s : List UInt8) (w : World) (h : Dv w g L d) (hr : d.refuses i = 0) (hs : s.length ≤ 64) :
    Calls Tryz.prog 34 #[ptr g, .int .i64 i, .string (txt s)] w fun e w' => e = .returned (.int .i64 (d.try_ (fun x => x.put i (pad s))).2) ∧ Moves g L (d.try_ (fun x => x.put i (pad s))).1 w w' := by
  have hdd : d.dead = false ∧ i < d.n := by
    unfold St.refuses at hr
    cases hd : d.dead
    · rw [hd, if_neg (by decide)] at hr
      split at hr
      · cases hr
      · exact ⟨rfl, by omega⟩
    · rw [hd, if_pos rfl] at hr; cases hr
  have HC := Lib.hid (fun w1 (h1 : Dv w1 g L d) => refuses_any g L d i w1 h1)
  rw [hr] at HC
  have hw : ∃ W, W = ((w.alloc (.cells #[ptr g] 28)).alloc (.cells #[.int .i64 i] 3)).alloc (.cells #[.string (txt s)] 9) := ⟨_, rfl⟩
  obtain ⟨W, hW⟩ := hw
  have hb : Below w.heap.size w W := by
    rw [hW]; exact (((Below.refl _ w).alloc (Nat.le_refl _) _).alloc (by simp) _).alloc (by simp; omega) _
  have hD := h.below hb
  have c5 : W.cell? ⟨w.heap.size + 2, 0, none⟩ = some (.string (txt s)) := cell_of_row W _ 0 #[.string (txt s)] 9 (0, 0) (by rw [hW]; exact (heap3 w _ _ _).2.2)
  have c3 : W.cell? ⟨w.heap.size, 0, none⟩ = some (ptr g) := cell_of_row W _ 0 #[ptr g] 28 (0, 0) (by rw [hW]; exact (heap3 w _ _ _).1)
  have c4 : W.cell? ⟨w.heap.size + 1, 0, none⟩ = some (.int .i64 i) := cell_of_row W _ 0 #[.int .i64 i] 3 (0, 0) (by rw [hW]; exact (heap3 w _ _ _).2.1)
  have key : Calls Tryz.prog 67 #[ptr g, .func (.func 68) #[] #[ptr (w.heap.size + 2), ptr w.heap.size, ptr (w.heap.size + 1)]] W fun e w' =>
      e = .returned (.int .i64 (d.try_ (fun x => x.put i (pad s))).2) ∧ Moves g L (d.try_ (fun x => x.put i (pad s))).1 w w' := by
    have hk : Keep L w W := Keep.of_below hb
    unfold St.try_
    by_cases hl : d.left = 0
    · rw [if_pos hl]
      refine (attempt_zero g L d _ W hD hl).mono ?_
      rintro e w' ⟨rfl, L', h1, h2, h3⟩
      exact ⟨rfl, L', h1, hk.trans h2, (Fresh.refl w L).trans (fun k hk' => (h3 k hk').elim .inl (fun h => .inr h)) hb.size⟩
    · rw [if_neg hl, hdd.1, if_neg (by decide)]
      refine (attempt_go 68 (.inr rfl) g L d #[] _ W hD hl hdd.1 (fun w' => Moves g L (d.step.put i (pad s)) w w') (.inr ⟨rfl, rfl, _, _, _, rfl⟩) ?_).mono ?_
      · intro w1 hd1 hk1 hsz
        have hn : ∀ k ∈ L, k < w.heap.size := h.lt
        have hcell : ∀ k, w.heap.size ≤ k → k < W.heap.size → w1.heap[k]? = W.heap[k]? := fun k hk2 hk3 => hk1.block k hk3 (fun hm => by have := hn k hm; omega)
        have hWs : W.heap.size = w.heap.size + 3 := by rw [hW]; simp
        refine (write1_any g (w.heap.size + 2) w.heap.size (w.heap.size + 1) i L d.step s w1 hd1 hs hdd.2 ?_ ?_ ?_).mono ?_
        · exact (World.cell?_of_block (w := W) (a := ⟨w.heap.size + 2, 0, none⟩) (hcell (w.heap.size + 2) (by omega) (by omega))).trans c5
        · exact (World.cell?_of_block (w := W) (a := ⟨w.heap.size, 0, none⟩) (hcell (w.heap.size) (by omega) (by omega))).trans c3
        · exact (World.cell?_of_block (w := W) (a := ⟨w.heap.size + 1, 0, none⟩) (hcell (w.heap.size + 1) (by omega) (by omega))).trans c4
        · rintro e w' ⟨rfl, L', h1, h2, h3⟩
          exact ⟨rfl, L', h1, (hk.trans hk1).trans h2, (Fresh.refl w L).trans (fun k hk' => (h3 k hk').elim .inl (fun h => .inr h)) (Nat.le_trans hb.size hk1.size)⟩
      · rintro e w' ⟨rfl, hR⟩
        exact ⟨rfl, hR⟩
  have HK := Lib.hid key
  have HW := Lib.hid hW
  have HD := Lib.hid hD
  have H5 := Lib.hid c5
  have H3 := Lib.hid c3
  have hl : ((txt s).size : Int) ≤ 64 := by rw [txt_size]; omega
  generalize txt s = t at *
  clear key hW hD c5 c3 c4 hb hdd h hr
  unfold ptr at *
  go_enter Tryz.func34, Tryz.ntmps34
  go_wp2_with fail
  rw [← HW.out]
  refine (HC.out _ HD.out).mono ?_
  rintro e w1 ⟨rfl, rfl⟩
  have c5 := H5.out
  have c3 := H3.out
  clear H5 H3
  go_wp2_with fail
  refine HK.out.mono ?_
  rintro e w1 ⟨rfl, hR⟩
  go_wp2
  go_ret
  exact ⟨rfl, hR⟩
theorem write_any (g : Nat) (L : List Nat) (d : St) (at_ : Int) (s : List UInt8) (w : World) (h : Dv w g L d) :
    Calls Tryz.prog 34 #[ptr g, .int .i64 at_, .string (txt s)] w fun e w' => e = .returned (.int .i64 (d.write at_ s).2) ∧ Moves g L (d.write at_ s).1 w w' := by
  unfold St.write
  by_cases hr : d.refuses at_ = 0
  · rw [if_neg (by simpa using hr)]
    by_cases hs : 64 < s.length
    · rw [if_pos hs]
      exact (write_long g L d at_ s w h hr hs).mono fun e w' ⟨he, hb⟩ => ⟨he, Moves.same h (Keep.of_below hb) (h.below hb)⟩
    · rw [if_neg hs]
      have h0 : 0 ≤ at_ := by
        unfold St.refuses at hr
        split at hr
        · cases hr
        · split at hr
          · cases hr
          · omega
      obtain ⟨i, rfl⟩ := Int.eq_ofNat_of_zero_le h0
      exact write_try g L d i s w h hr (by omega)
  · rw [if_pos hr]
    exact (write_no g L d at_ s w h hr).mono fun e w' ⟨he, hb⟩ => ⟨he, Moves.same h (Keep.of_below hb) (h.below hb)⟩
end Go.Proofs.YtdoombcihobejaaGreat
