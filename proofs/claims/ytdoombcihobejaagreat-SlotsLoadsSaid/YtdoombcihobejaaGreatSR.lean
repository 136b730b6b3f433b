/-
  The contract of super.Read: what both sectors hold, and which one is newer.
  Conditions: a device that lies in memory.
-/
import Derived.Test.YtdoombcihobejaaGreatSH
import Derived.Test.YtdoombcihobejaaGreatRd
import Derived.BigQuiet
import Derived.Deep.QuietTactic
import Derived.Laws.ResultCell
namespace Go.Proofs.YtdoombcihobejaaGreat
open Go.RowKit Vi Sp Dk
set_option linter.unusedVariables false
/-- Two of what a sector holds, in memory. -/
def hv (g0 : Nat) (b0 : ByteArray) (g1 : Nat) (b1 : ByteArray) : Array Value := #[.int .u64 g0, .string b0, .int .u64 g1, .string b1]
set_option maxHeartbeats 400000 in
theorem newer_any (bb g0 g1 : Nat) (b0 b1 : ByteArray) (w : World) (h : w.heap[bb]? = some (.cells (hv g0 b0 g1 b1) 121 (0, 0))) :
    Calls Tryz.prog 62 #[.int .i64 1, .int .i64 0, ptr bb] w fun e w' => e = .returned (.bool (decide (g0 < g1))) ∧ ∃ n, w' = w.drewN n := by
  have c0 : w.cell? ⟨bb, 0, none⟩ = some (.int .u64 g0) := cell_of_row w bb 0 _ 121 (0, 0) h
  have c2 : w.cell? ⟨bb, 2, none⟩ = some (.int .u64 g1) := cell_of_row w bb 2 _ 121 (0, 0) h
  have hd : decide ((g0 : Int) < (g1 : Int)) = decide (g0 < g1) := by rw [decide_eq_decide]; omega
  clear h
  unfold ptr
  go_enter Tryz.func62, Tryz.ntmps62
  go_wp2_with fail
  go_quiet (fail)
  go_wp2
  go_ret
  exact ⟨by first | rfl | rw [← hd], _, rfl⟩
/-- Which error, if any, stops a look at both. -/
def bothE (d : St) (at_ : Int) : Int := if d.refuses at_ ≠ 0 then d.refuses at_ else d.refuses (at_ + 1)
def secB (d : St) (at_ : Int) : ByteArray := txt (d.now at_.toNat)
def cG (k j : Nat) (g : Nat) : Nat := if k < j then g else 0
def cB (k j : Nat) (b : ByteArray) : ByteArray := if k < j then b else ⟨#[]⟩
theorem Tryz.hv4 : (Tryz.prog.info? 121).map (·.size) = some 4 := by kernel_rfl
theorem hv_size (g0 : Nat) (b0 : ByteArray) (g1 : Nat) (b1 : ByteArray) : (hv g0 b0 g1 b1).size = 4 := rfl
theorem wpList_store_hv {ops : Array Oper} {rest : List Oper} {op : Oper} {a : Act} {Q : Exit → Act → World → Prop} (hgd : op.guard = none) (x y : Operand) (ho : op.op = .store 121 x y)
    (w : World) (z g0 g1 k0 k1 : Nat) (b0 b1 l0 l1 : ByteArray) (hx : a.eval x = .pointer (some ⟨z, 0, none⟩)) (hy : a.eval y = .agg (hv g0 b0 g1 b1)) (hz : w.heap[z]? = some (.cells (hv k0 l0 k1 l1) 121 (0, 0)))
    (h : wpList Tryz.prog ops Q rest (a.put op.dst undef) (w.setRow z (hv g0 b0 g1 b1))) : wpList Tryz.prog ops Q (op :: rest) a w :=
  wpList_store_row hgd 121 x y ho z _ hx hy 121 _ hz Tryz.hv4 rfl (by simp [hv, Value.oneCell']) h
theorem wpList_load_hv {ops : Array Oper} {rest : List Oper} {op : Oper} {a : Act} {Q : Exit → Act → World → Prop} (hgd : op.guard = none) (x : Operand) (ho : op.op = .load 121 x)
    (w : World) (z g0 g1 : Nat) (b0 b1 : ByteArray) (hx : a.eval x = .pointer (some ⟨z, 0, none⟩)) (hz : w.heap[z]? = some (.cells (hv g0 b0 g1 b1) 121 (0, 0)))
    (h : wpList Tryz.prog ops Q rest (a.put op.dst (.agg (hv g0 b0 g1 b1))) w) : wpList Tryz.prog ops Q (op :: rest) a w :=
  wpList_load_row hgd 121 x ho z hx 121 _ (0, 0) _ hz Tryz.underlying121 rfl Tryz.hv4 h
def bothV (d : St) (at_ : Int) : Array Value := if bothE d at_ = 0 then hv (getG (secB d at_)) (getB (secB d at_)) (getG (secB d (at_ + 1))) (getB (secB d (at_ + 1))) else hv 0 ⟨#[]⟩ 0 ⟨#[]⟩
theorem res43 (tmps : Array Value) (w : World) (p : Nat) (cs : Array Value) (hp : tmps.getD 4 undef = .pointer (some ⟨p, 0, none⟩)) (hg : w.heap[p]? = some (.cells cs 121 (0, 0))) (hs : cs.size = 4) :
    (results Tryz.f61 tmps).run Tryz.prog w = .ok (.tuple #[.agg cs, tmps.getD 5 undef]) w := by
  rw [results_cell_tmp Tryz.results61, hp]
  simp [asAddr, run_loadVar_row w p 121 121 cs (0, 0) _ hg Tryz.underlying121 rfl (by rw [hs]; exact Tryz.hv4)]
theorem set_hv {w : World} {q : Nat} {cs ds : Array Value} (h : w.heap[q]? = some (.cells cs 121 (0, 0))) (i : Nat) (v : Value) (he : cs.setIfInBounds i v = ds) : (w.setCell ⟨q, i, none⟩ v).heap[q]? = some (.cells ds 121 (0, 0)) := by
  rw [← he]; exact heap_setCell_same w q i _ 121 v h
set_option maxHeartbeats 2000000 in
set_option maxRecDepth 100000 in
theorem both_any (g : Nat) (L : List Nat) (d : St) (at_ : Int) (w : World) (h : Dv w g L d) (ha1 : -9223372036854775808 ≤ at_) (ha2 : at_ ≤ 9223372036854775807) :
    Calls Tryz.prog 61 #[ptr g, .int .i64 at_] w fun e w' => e = .returned (.tuple #[.agg (bothV d at_), .int .i64 (bothE d at_)]) ∧ Below w.heap.size w w' := by
  have ho := h.1.n2
  obtain ⟨W0, hW0⟩ : ∃ W0, W0 = (w.alloc (.cells (hv 0 ⟨#[]⟩ 0 ⟨#[]⟩) 121)).alloc (.cells (hv 0 ⟨#[]⟩ 0 ⟨#[]⟩) 121) := ⟨_, rfl⟩
  have hb0 : Below w.heap.size w W0 := by rw [hW0]; exact ((Below.refl _ _).alloc (Nat.le_refl _) _).alloc (by simp) _
  have k0 : W0.heap[w.heap.size]? = some (.cells (hv 0 ⟨#[]⟩ 0 ⟨#[]⟩) 121 (0, 0)) := by rw [hW0, heap_alloc_old (h := by simp)]; exact heap_alloc_new _ _
  have k1 : W0.heap[w.heap.size + 1]? = some (.cells (hv 0 ⟨#[]⟩ 0 ⟨#[]⟩) 121 (0, 0)) := by rw [hW0]; exact heap_alloc2_new _ _ _
  have HD := Lib.hid h
  have HW := Lib.hid hW0
  have HB0 := Lib.hid hb0
  have K0 := Lib.hid k0
  have K1 := Lib.hid k1
  clear h hb0 k0 k1 hW0
  obtain ⟨p, hp⟩ : ∃ p, p = w.heap.size := ⟨_, rfl⟩
  rw [← hp] at K0 K1
  have HP := Lib.hid hp
  obtain ⟨gA, hgA⟩ : ∃ x, x = getG (secB d at_) := ⟨_, rfl⟩
  obtain ⟨bA, hbA⟩ : ∃ x, x = getB (secB d at_) := ⟨_, rfl⟩
  obtain ⟨gB, hgB⟩ : ∃ x, x = getG (secB d (at_ + 1)) := ⟨_, rfl⟩
  obtain ⟨bB, hbB⟩ : ∃ x, x = getB (secB d (at_ + 1)) := ⟨_, rfl⟩
  have HV0 : Hid (bothE d at_ ≠ 0 → bothV d at_ = hv 0 ⟨#[]⟩ 0 ⟨#[]⟩) := fun h => by unfold bothV; rw [if_neg h]
  have HV1 : Hid (bothE d at_ = 0 → bothV d at_ = hv gA bA gB bB) := fun h => by unfold bothV; rw [if_pos h, hgA, hbA, hgB, hbB]
  have S64 : Hid (∀ i : Int, (secB d i).size ≤ 281474976710656) := fun i => by
    unfold secB; rw [txt_size, HD.out.1.now]; omega
  have KA := Lib.hid (fun W => sget_any (secB d at_) W (S64.out _))
  have KB := Lib.hid (fun W => sget_any (secB d (at_ + 1)) W (S64.out _))
  rw [← hgA, ← hbA] at KA
  rw [← hgB, ← hbB] at KB
  have KR := Lib.hid (fun (i : Int) (W : World) (hb : Below p w W) => read_any g L d i W (HD.out.below (by rw [← HP.out]; exact hb)))
  clear hp hgA hbA hgB hbB
  unfold ptr at *
  go_enter Tryz.func61, Tryz.ntmps61
  go_wp2_with fail
  refine wp_at (w := W0) HW.out.symm ?_
  rw [← HP.out]
  go_loopw [7, 8, 9, 10] (fun _ _ _ i wr => ∃ j : Nat, j ≤ 2 ∧ i = .int .i64 j ∧ wr.heap[p]? = some (.cells (hv 0 ⟨#[]⟩ 0 ⟨#[]⟩) 121 (0, 0)) ∧ wr.heap[p + 1]? = some (.cells (hv (cG 0 j gA) (cB 0 j bA) (cG 1 j gB) (cB 1 j bB)) 121 (0, 0)) ∧ Below p w wr ∧ (0 < j → d.refuses at_ = 0) ∧ (1 < j → d.refuses (at_ + 1) = 0)) (fun _ _ _ i _ => 2 - (RowKit.intOf i).toNat)
  case atStart => exact ⟨0, by omega, rfl, K0.out, K1.out, by rw [HP.out]; exact HB0.out, fun h => by omega, fun h => by omega⟩
  case round =>
    obtain ⟨j, hj, rfl, r0, r1, hbr, q0, q1⟩ := hrel
    have hsz := hbr.size
    obtain rfl | rfl | rfl : j = 0 ∨ j = 1 ∨ j = 2 := by omega
    · have hwa : IntKind.i64.wrap at_ = at_ := IntWalk.i64_in _ (by omega)
      have K := Lib.hid (KR.out at_ wr hbr)
      have RT : Hid (d.refuses at_ = 0 → txt (d.readS at_) = secB d at_) := fun h => by unfold St.readS secB; rw [if_pos h]
      have HE : Hid (d.refuses at_ ≠ 0 → bothE d at_ = d.refuses at_) := fun h => by unfold bothE; rw [if_pos h]
      have R0 := Lib.hid r0
      have R1 : Hid (wr.heap[p + 1]? = some (.cells (hv 0 ⟨#[]⟩ 0 ⟨#[]⟩) 121 (0, 0))) := r1
      have B := Lib.hid hbr
      clear r0 r1 hbr q0 q1 KR K0 K1 HB0
      obtain ⟨re, hre⟩ : ∃ re, re = d.refuses at_ := ⟨_, rfl⟩
      obtain ⟨rs, hrs⟩ : ∃ rs, rs = txt (d.readS at_) := ⟨_, rfl⟩
      rw [← hre] at K RT HE
      rw [← hrs] at K RT
      have HRE := Lib.hid hre
      clear hre hrs
      go_wp2_with fail
      refine K.out.mono ?_
      rintro e w1 ⟨rfl, b1⟩
      by_cases hz : re = 0
      · have hrs2 := RT.out hz
        subst hrs2
        have HZ := Lib.hid hz
        rw [hz]
        clear hz
        go_wp2_with fail
        refine (KA.out _).mono ?_
        rintro e w2 ⟨rfl, b2⟩
        have b12 : Below wr.heap.size wr w2 := b1.trans (b2.mono b1.size)
        have x0 := (b12.block p (Array.getElem?_eq_some_iff.1 R0.out).1).trans R0.out
        have x1 := (b12.block (p + 1) (Array.getElem?_eq_some_iff.1 R1.out).1).trans R1.out
        have c0 : w2.cell? ⟨p + 1, 0, none⟩ = some (.int .u64 0) := cell_of_row w2 (p + 1) 0 _ 121 (0, 0) x1
        have f0 : w2.frozen? ⟨p + 1, 0, none⟩ = false := frozen_of_row w2 (p + 1) 0 _ 121 x1
        have x2 := set_hv x1 0 (.int .u64 gA) (ds := hv gA ⟨#[]⟩ 0 ⟨#[]⟩) rfl
        have c1 : (w2.setCell ⟨p + 1, 0, none⟩ (.int .u64 gA)).cell? ⟨p + 1, 1, none⟩ = some (.string ⟨#[]⟩) := cell_of_row _ (p + 1) 1 _ 121 (0, 0) x2
        have f1 : (w2.setCell ⟨p + 1, 0, none⟩ (.int .u64 gA)).frozen? ⟨p + 1, 1, none⟩ = false := frozen_of_row _ (p + 1) 1 _ 121 x2
        have x3 := set_hv x2 1 (.string bA) (ds := hv gA bA 0 ⟨#[]⟩) rfl
        have bq : Below p w2 ((w2.setCell ⟨p + 1, 0, none⟩ (.int .u64 gA)).setCell ⟨p + 1, 1, none⟩ (.string bA)) := ((Below.refl _ _).setCell (p := ⟨p + 1, 0, none⟩) (by show p ≤ p + 1; omega) _).setCell (p := ⟨p + 1, 1, none⟩) (by show p ≤ p + 1; omega) _
        have y0 : ((w2.setCell ⟨p + 1, 0, none⟩ (.int .u64 gA)).setCell ⟨p + 1, 1, none⟩ (.string bA)).heap[p]? = some (.cells (hv 0 ⟨#[]⟩ 0 ⟨#[]⟩) 121 (0, 0)) := by
          rw [heap_setCell_other _ _ p _ (by show p ≠ p + 1; omega), heap_setCell_other _ _ p _ (by show p ≠ p + 1; omega)]; exact x0
        have X3 := Lib.hid x3
        have Y0 := Lib.hid y0
        have BQ := Lib.hid ((B.out.trans (b12.mono (by rw [HP.out]; exact B.out.size))).trans bq)
        clear x0 x1 x2 x3 bq y0 b12 b1 b2 K KA RT HE R0 R1 B
        go_wp2_with fail
        go_roundw
        case rel => exact ⟨1, by omega, by go_num, Y0.out, X3.out, BQ.out, fun _ => by rw [← HRE.out]; exact HZ.out, fun h => by omega⟩
        case measure => simp [RowKit.intOf]
      · have hbz : (re != 0) = true := by simpa using hz
        have hne : bothE d at_ = re := HE.out hz
        have hz2 : bothE d at_ ≠ 0 := by rw [hne]; exact hz
        have HX : Hid (bothV d at_ = hv 0 ⟨#[]⟩ 0 ⟨#[]⟩) := HV0.out hz2
        have HNE := Lib.hid hne
        have BB : Hid (Below w.heap.size w w1) := by rw [← HP.out]; exact B.out.trans (b1.mono (by rw [HP.out]; exact B.out.size))
        have hsz1 := BB.out.size
        have r0' := Lib.hid ((b1.block p (Array.getElem?_eq_some_iff.1 R0.out).1).trans R0.out)
        clear hne hz2 hz K RT HE KA KB b1
        go_wp2_with (refine wpList_store_hv rfl _ _ rfl _ p 0 0 0 0 ⟨#[]⟩ ⟨#[]⟩ ⟨#[]⟩ ⟨#[]⟩ rfl rfl r0'.out ?_; go_frame)
        refine bodyPost_ret (v := .tuple #[.agg (hv 0 ⟨#[]⟩ 0 ⟨#[]⟩), .int .i64 re]) ?_ rfl ?_
        · exact res43 _ _ p _ rfl (setRow_heap _ _ _ _ 121 (0, 0) r0'.out) rfl
        exact ⟨by rw [HX.out, HNE.out], BB.out.trans ⟨rfl, rfl, rfl, by simp, fun k hk => setRow_other _ _ _ _ (by have := HP.out; omega)⟩⟩
    · have e1 := q0 (by omega)
      obtain ⟨n1, n2, _⟩ := refuses_nonneg e1
      have hwa : IntKind.i64.wrap (at_ + 1) = at_ + 1 := IntWalk.i64_in _ (by omega)
      have E1 := Lib.hid e1
      clear e1
      have K := Lib.hid (KR.out (at_ + 1) wr hbr)
      have RT : Hid (d.refuses (at_ + 1) = 0 → txt (d.readS (at_ + 1)) = secB d (at_ + 1)) := fun h => by unfold St.readS secB; rw [if_pos h]
      have HE : Hid (bothE d at_ = d.refuses (at_ + 1)) := by show _ = _; unfold bothE; rw [if_neg (by rw [E1.out]; simp)]
      have R0 := Lib.hid r0
      have R1 : Hid (wr.heap[p + 1]? = some (.cells (hv gA bA 0 ⟨#[]⟩) 121 (0, 0))) := r1
      have B := Lib.hid hbr
      clear r0 r1 hbr q0 q1 KR n1 n2 K0 K1 HB0
      obtain ⟨re, hre⟩ : ∃ re, re = d.refuses (at_ + 1) := ⟨_, rfl⟩
      obtain ⟨rs, hrs⟩ : ∃ rs, rs = txt (d.readS (at_ + 1)) := ⟨_, rfl⟩
      rw [← hre] at K RT HE
      rw [← hrs] at K RT
      have HRE := Lib.hid hre
      clear hre hrs
      go_wp2_with fail
      refine K.out.mono ?_
      rintro e w1 ⟨rfl, b1⟩
      by_cases hz : re = 0
      · have hrs2 := RT.out hz
        subst hrs2
        have HZ := Lib.hid hz
        rw [hz]
        clear hz
        go_wp2_with fail
        refine (KB.out _).mono ?_
        rintro e w2 ⟨rfl, b2⟩
        have b12 : Below wr.heap.size wr w2 := b1.trans (b2.mono b1.size)
        have x0 := (b12.block p (Array.getElem?_eq_some_iff.1 R0.out).1).trans R0.out
        have x1 := (b12.block (p + 1) (Array.getElem?_eq_some_iff.1 R1.out).1).trans R1.out
        have c0 : w2.cell? ⟨p + 1, 2, none⟩ = some (.int .u64 0) := cell_of_row w2 (p + 1) 2 _ 121 (0, 0) x1
        have f0 : w2.frozen? ⟨p + 1, 2, none⟩ = false := frozen_of_row w2 (p + 1) 2 _ 121 x1
        have x2 := set_hv x1 2 (.int .u64 gB) (ds := hv gA bA gB ⟨#[]⟩) rfl
        have c1 : (w2.setCell ⟨p + 1, 2, none⟩ (.int .u64 gB)).cell? ⟨p + 1, 3, none⟩ = some (.string ⟨#[]⟩) := cell_of_row _ (p + 1) 3 _ 121 (0, 0) x2
        have f1 : (w2.setCell ⟨p + 1, 2, none⟩ (.int .u64 gB)).frozen? ⟨p + 1, 3, none⟩ = false := frozen_of_row _ (p + 1) 3 _ 121 x2
        have x3 := set_hv x2 3 (.string bB) (ds := hv gA bA gB bB) rfl
        have bq : Below p w2 ((w2.setCell ⟨p + 1, 2, none⟩ (.int .u64 gB)).setCell ⟨p + 1, 3, none⟩ (.string bB)) := ((Below.refl _ _).setCell (p := ⟨p + 1, 2, none⟩) (by show p ≤ p + 1; omega) _).setCell (p := ⟨p + 1, 3, none⟩) (by show p ≤ p + 1; omega) _
        have y0 : ((w2.setCell ⟨p + 1, 2, none⟩ (.int .u64 gB)).setCell ⟨p + 1, 3, none⟩ (.string bB)).heap[p]? = some (.cells (hv 0 ⟨#[]⟩ 0 ⟨#[]⟩) 121 (0, 0)) := by
          rw [heap_setCell_other _ _ p _ (by show p ≠ p + 1; omega), heap_setCell_other _ _ p _ (by show p ≠ p + 1; omega)]; exact x0
        have X3 := Lib.hid x3
        have Y0 := Lib.hid y0
        have BQ := Lib.hid ((B.out.trans (b12.mono (by rw [HP.out]; exact B.out.size))).trans bq)
        clear x0 x1 x2 x3 bq y0 b12 b1 b2 K KB RT HE R0 R1 B
        go_wp2_with fail
        go_roundw
        case rel => exact ⟨2, by omega, by go_num, Y0.out, X3.out, BQ.out, fun _ => E1.out, fun _ => by rw [← HRE.out]; exact HZ.out⟩
        case measure => simp [RowKit.intOf]
      · have hbz : (re != 0) = true := by simpa using hz
        have hne : bothE d at_ = re := HE.out
        have hz2 : bothE d at_ ≠ 0 := by rw [hne]; exact hz
        have HX : Hid (bothV d at_ = hv 0 ⟨#[]⟩ 0 ⟨#[]⟩) := HV0.out hz2
        have HNE := Lib.hid hne
        have BB : Hid (Below w.heap.size w w1) := by rw [← HP.out]; exact B.out.trans (b1.mono (by rw [HP.out]; exact B.out.size))
        have hsz1 := BB.out.size
        have r0' := Lib.hid ((b1.block p (Array.getElem?_eq_some_iff.1 R0.out).1).trans R0.out)
        clear hne hz2 hz K RT HE KA KB b1
        go_wp2_with (refine wpList_store_hv rfl _ _ rfl _ p 0 0 0 0 ⟨#[]⟩ ⟨#[]⟩ ⟨#[]⟩ ⟨#[]⟩ rfl rfl r0'.out ?_; go_frame)
        refine bodyPost_ret (v := .tuple #[.agg (hv 0 ⟨#[]⟩ 0 ⟨#[]⟩), .int .i64 re]) ?_ rfl ?_
        · exact res43 _ _ p _ rfl (setRow_heap _ _ _ _ 121 (0, 0) r0'.out) rfl
        exact ⟨by rw [HX.out, HNE.out], BB.out.trans ⟨rfl, rfl, rfl, by simp, fun k hk => setRow_other _ _ _ _ (by have := HP.out; omega)⟩⟩
    · have e1 := q0 (by omega)
      have e2 := q1 (by omega)
      have hE : bothE d at_ = 0 := by unfold bothE; rw [if_neg (by rw [e1]; simp)]; exact e2
      have HX : Hid (bothV d at_ = hv gA bA gB bB) := HV1.out hE
      have HNE := Lib.hid hE
      have r1' : wr.heap[p + 1]? = some (.cells (hv gA bA gB bB) 121 (0, 0)) := r1
      have R0 := Lib.hid r0
      have R1 := Lib.hid r1'
      have BB : Hid (Below w.heap.size w wr) := by rw [← HP.out]; exact hbr
      have hsz1 := BB.out.size
      clear e1 e2 hE r1 r1' q0 q1 r0 hbr KA KB KR K0 K1 HB0
      go_wp2_with (first
        | (refine wpList_load_hv rfl _ rfl _ (p + 1) _ _ _ _ rfl R1.out ?_; go_frame)
        | (refine wpList_store_hv rfl _ _ rfl _ p _ _ _ _ _ _ _ _ rfl rfl R0.out ?_; go_frame))
      exact bodyPost_ret (v := .tuple #[.agg (hv gA bA gB bB), .int .i64 0]) (res43 _ _ p _ rfl (setRow_heap _ _ _ _ 121 (0, 0) R0.out) rfl) rfl
        ⟨by rw [HX.out, HNE.out], BB.out.trans ⟨rfl, rfl, rfl, by simp, fun k hk => setRow_other _ _ _ _ (by have := HP.out; omega)⟩⟩
end Go.Proofs.YtdoombcihobejaaGreat
