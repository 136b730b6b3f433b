/-
  EntryRight, walked: true for every input whose texts are short.
  Conditions: the table of powers of ten lies as its initialiser lays it; the numbers are those of their kinds; the texts are of at most 2^20 bytes.
-/
import Derived.Test.YtclohjcenkpgoaaDoorRR
import Derived.Test.YtclohjcenkpgoaaDoorRText
import Derived.Test.YtclohjcenkpgoaaDoorRSmall
import Derived.Test.YtclohjcenkpgoaaDoorSame
import Derived.Test.YtclohjcenkpgoaaDoorTexD
import Derived.Deep.RegionHeld3
import Derived.Deep.CutRange
namespace Go.Proofs.YtclohjcenkpgoaaDoor
open Go.RowKit
set_option linter.unusedVariables false

theorem same_self (X : En) : sameB X X = true := (sameB_iff X X).2 rfl
/-- What the law's made gives, right or as it is. -/
def mkO (e : En) (o : Bool) : En := if o then mk e else e
theorem made_any (e : En) (o : Bool) (w : World) (ok : e.Ok) : Calls Tryd.prog 10 #[mdv e o] w fun r w' => r = .returned (ev (mkO e o)) ∧ Below w.heap.size w w' := by
  cases o with
  | true => exact made_yes e w ok
  | false => exact made_no e w
theorem mkO_ok (e : En) (o : Bool) (ok : e.Ok) : (mkO e o).Ok := by
  cases o with
  | true => exact (mk_facts e ok).1
  | false => exact ok
theorem mkO_short (e : En) (o : Bool) (ok : e.Ok) (hd : e.data.size ≤ 1048576) (ho : e.old.size ≤ 1048576) : (mkO e o).data.size ≤ 1048576 ∧ (mkO e o).old.size ≤ 1048576 := by
  cases o with
  | true =>
    have h := mk_facts e ok
    exact ⟨Nat.le_trans h.2.2.1 (by omega), Nat.le_trans h.2.2.2.1 (by omega)⟩
  | false => exact ⟨hd, ho⟩
section
variable {w0 : World} {gx gy : Nat} {X Y : En} {W : World}
theorem S6.drew (h : S6 w0 gx gy X Y W) : S6 w0 gx gy X Y W.drew := ⟨⟨h.x.bx⟩, ⟨h.y.bx⟩, h.be.drew, h.tb⟩
theorem S6.all (h : S6 w0 gx gy X Y W) : S6 w0 gx gy X Y W ∧ W.cell? ⟨gx, 0, none⟩ = some (.int .u64 X.term) ∧ W.cell? ⟨gx, 1, none⟩ = some (.int .u64 X.index) ∧ W.cell? ⟨gx, 2, none⟩ = some (.int .i64 X.kind) ∧ W.cell? ⟨gx, 3, none⟩ = some (.int .u64 X.client) ∧ W.cell? ⟨gx, 4, none⟩ = some (.int .u64 X.seq) ∧ W.cell? ⟨gx, 5, none⟩ = some (.int .u64 X.block) ∧ W.cell? ⟨gx, 6, none⟩ = some (.int .u64 X.many) ∧ W.cell? ⟨gx, 7, none⟩ = some (.int .i64 X.node) ∧ W.cell? ⟨gx, 8, none⟩ = some (.int .i64 X.level) ∧ W.cell? ⟨gx, 9, none⟩ = some (.string X.data) ∧ W.cell? ⟨gx, 10, none⟩ = some (.string X.old) ∧ W.cell? ⟨gy, 0, none⟩ = some (.int .u64 Y.term) ∧ W.cell? ⟨gy, 1, none⟩ = some (.int .u64 Y.index) ∧ W.cell? ⟨gy, 2, none⟩ = some (.int .i64 Y.kind) ∧ W.cell? ⟨gy, 3, none⟩ = some (.int .u64 Y.client) ∧ W.cell? ⟨gy, 4, none⟩ = some (.int .u64 Y.seq) ∧ W.cell? ⟨gy, 5, none⟩ = some (.int .u64 Y.block) ∧ W.cell? ⟨gy, 6, none⟩ = some (.int .u64 Y.many) ∧ W.cell? ⟨gy, 7, none⟩ = some (.int .i64 Y.node) ∧ W.cell? ⟨gy, 8, none⟩ = some (.int .i64 Y.level) ∧ W.cell? ⟨gy, 9, none⟩ = some (.string Y.data) ∧ W.cell? ⟨gy, 10, none⟩ = some (.string Y.old) := ⟨h, h.x.cell 0, h.x.cell 1, h.x.cell 2, h.x.cell 3, h.x.cell 4, h.x.cell 5, h.x.cell 6, h.x.cell 7, h.x.cell 8, h.x.cell 9, h.x.cell 10, h.y.cell 0, h.y.cell 1, h.y.cell 2, h.y.cell 3, h.y.cell 4, h.y.cell 5, h.y.cell 6, h.y.cell 7, h.y.cell 8, h.y.cell 9, h.y.cell 10⟩
end

set_option maxRecDepth 100000 in
set_option maxHeartbeats 16000000 in
theorem lright_any (e : En) (o : Bool) (y : En) (q : Bool) (kind : Int) (w : World) (ok : e.Ok) (hd : e.data.size ≤ 1048576) (ho : e.old.size ≤ 1048576) (oky : y.Ok) (hdy : y.data.size ≤ 1048576) (hoy : y.old.size ≤ 1048576) (hk : -9223372036854775808 ≤ kind ∧ kind ≤ 9223372036854775807) (ht : Tab w) :
    Calls Tryd.prog 3 #[mdv e o, mdv y q, .int .i64 kind] w fun r w' => r = .returned (.bool true) ∧ Below w.heap.size w w' := by
  obtain ⟨X, hX⟩ : ∃ X, X = mkO e o := ⟨_, rfl⟩
  obtain ⟨Y, hY⟩ : ∃ Y, Y = mkO y q := ⟨_, rfl⟩
  have hXok : X.Ok := hX ▸ mkO_ok e o ok
  have hXs : X.data.size ≤ 1048576 ∧ X.old.size ≤ 1048576 := hX ▸ mkO_short e o ok hd ho
  obtain ⟨W0, hW0⟩ : ∃ W0, W0 = (w.alloc (Obj.cells (mdc e o) 26)).alloc (Obj.cells (mdc y q) 26) := ⟨_, rfl⟩
  have hb0 : Below w.heap.size w W0 := by rw [hW0]; exact ((Below.refl _ _).alloc (Nat.le_refl _) _).alloc (by simp) _
  have hk0 : W0.heap[w.heap.size]? = some (.cells (mdc e o) 26 (0, 0)) := by
    rw [hW0]; exact (Lib.alloc_old _ _ _ (by simp)).trans (heap_alloc_new w _)
  have hk1 : W0.heap[w.heap.size + 1]? = some (.cells (mdc y q) 26 (0, 0)) := by
    have h := heap_alloc_new (w.alloc (Obj.cells (mdc e o) 26)) (Obj.cells (mdc y q) 26)
    rw [show (w.alloc (Obj.cells (mdc e o) 26)).heap.size = w.heap.size + 1 by simp] at h
    rw [hW0]; exact h
  have hs0 : W0.heap.size = w.heap.size + 1 + 1 := by rw [hW0]; simp
  have KE := Lib.hid (examples_any W0 (ht.below hb0))
  have KXb : ∀ (W : World), Calls Tryd.prog 10 #[mdv e o] W fun r w' => r = .returned (ev X) ∧ Below W.heap.size W w' := fun W => hX ▸ made_any e o W ok
  have KYb : ∀ (W : World), Calls Tryd.prog 10 #[mdv y q] W fun r w' => r = .returned (ev Y) ∧ Below W.heap.size W w' := fun W => hY ▸ made_any y q W oky
  have KX := Lib.hid KXb
  have KY := Lib.hid KYb
  have HT := Lib.hid ht
  have HXO := Lib.hid hXok
  have HXS := Lib.hid hXs
  have HW0 := Lib.hid hW0
  have HB0 := Lib.hid hb0
  have HK0 := Lib.hid hk0
  have HK1 := Lib.hid hk1
  have HS0 := Lib.hid hs0
  clear KXb KYb hX hY hXok hXs hb0 hk0 hk1 hs0 ok oky hd ho hdy hoy ht hk
  go_enter Tryd.func3, Tryd.ntmps3
  go_upto_region 4 with (go_at_call 9; rw [← HW0.out]; (with_reducible refine KE.out.mono ?_); rintro r w1 ⟨rfl, hb1⟩)
  have hk0 : w1.heap[w.heap.size]? = some (.cells (mdc e o) 26 (0, 0)) := (hb1.block _ (by have := HS0.out; omega)).trans HK0.out
  have hk1 : w1.heap[w.heap.size + 1]? = some (.cells (mdc y q) 26 (0, 0)) := (hb1.block _ (by have := HS0.out; omega)).trans HK1.out
  have a0 : w1.cell? ⟨w.heap.size, 0, none⟩ = some (.int .u64 e.term) := cell_of_row w1 _ 0 _ 26 (0, 0) hk0
  have a1 : w1.cell? ⟨w.heap.size, 1, none⟩ = some (.int .u64 e.index) := cell_of_row w1 _ 1 _ 26 (0, 0) hk0
  have a2 : w1.cell? ⟨w.heap.size, 2, none⟩ = some (.int .i64 e.kind) := cell_of_row w1 _ 2 _ 26 (0, 0) hk0
  have a3 : w1.cell? ⟨w.heap.size, 3, none⟩ = some (.int .u64 e.client) := cell_of_row w1 _ 3 _ 26 (0, 0) hk0
  have a4 : w1.cell? ⟨w.heap.size, 4, none⟩ = some (.int .u64 e.seq) := cell_of_row w1 _ 4 _ 26 (0, 0) hk0
  have a5 : w1.cell? ⟨w.heap.size, 5, none⟩ = some (.int .u64 e.block) := cell_of_row w1 _ 5 _ 26 (0, 0) hk0
  have a6 : w1.cell? ⟨w.heap.size, 6, none⟩ = some (.int .u64 e.many) := cell_of_row w1 _ 6 _ 26 (0, 0) hk0
  have a7 : w1.cell? ⟨w.heap.size, 7, none⟩ = some (.int .i64 e.node) := cell_of_row w1 _ 7 _ 26 (0, 0) hk0
  have a8 : w1.cell? ⟨w.heap.size, 8, none⟩ = some (.int .i64 e.level) := cell_of_row w1 _ 8 _ 26 (0, 0) hk0
  have a9 : w1.cell? ⟨w.heap.size, 9, none⟩ = some (.string e.data) := cell_of_row w1 _ 9 _ 26 (0, 0) hk0
  have a10 : w1.cell? ⟨w.heap.size, 10, none⟩ = some (.string e.old) := cell_of_row w1 _ 10 _ 26 (0, 0) hk0
  have a11 : w1.cell? ⟨w.heap.size, 11, none⟩ = some (.bool o) := cell_of_row w1 _ 11 _ 26 (0, 0) hk0
  have HB1 : Hid (Below w.heap.size w w1) := HB0.out.trans (hb1.mono HB0.out.size)
  have HY1 := Lib.hid hk1
  clear hk0 hk1 hb1 hW0 HW0 KE HB0 HK0 HK1 HS0
  go_upto_region 8 with (first
    | (go_at_call 10; (with_reducible refine (KX.out _).mono ?_); rintro r w2 ⟨rfl, hb2⟩; have hbx : Below w.heap.size w (w2.alloc (Obj.cells (ec X) 24)) := ((HB1.out.trans (hb2.mono HB1.out.size)).alloc (Nat.le_trans HB1.out.size hb2.size) _); have hw2 : (w2.alloc (Obj.cells (ec X) 24)).heap[w.heap.size + 1]? = some (.cells (mdc y q) 26 (0, 0)) := (Lib.alloc_old w2 _ _ (Nat.lt_of_lt_of_le (Array.getElem?_eq_some_iff.1 HY1.out).1 hb2.size)).trans ((hb2.block _ (Array.getElem?_eq_some_iff.1 HY1.out).1).trans HY1.out); have n0 : (w2.alloc (Obj.cells (ec X) 24)).cell? ⟨w.heap.size + 1, 0, none⟩ = some (.int .u64 y.term) := cell_of_row _ _ 0 _ 26 (0, 0) hw2; have n1 : (w2.alloc (Obj.cells (ec X) 24)).cell? ⟨w.heap.size + 1, 1, none⟩ = some (.int .u64 y.index) := cell_of_row _ _ 1 _ 26 (0, 0) hw2; have n2 : (w2.alloc (Obj.cells (ec X) 24)).cell? ⟨w.heap.size + 1, 2, none⟩ = some (.int .i64 y.kind) := cell_of_row _ _ 2 _ 26 (0, 0) hw2; have n3 : (w2.alloc (Obj.cells (ec X) 24)).cell? ⟨w.heap.size + 1, 3, none⟩ = some (.int .u64 y.client) := cell_of_row _ _ 3 _ 26 (0, 0) hw2; have n4 : (w2.alloc (Obj.cells (ec X) 24)).cell? ⟨w.heap.size + 1, 4, none⟩ = some (.int .u64 y.seq) := cell_of_row _ _ 4 _ 26 (0, 0) hw2; have n5 : (w2.alloc (Obj.cells (ec X) 24)).cell? ⟨w.heap.size + 1, 5, none⟩ = some (.int .u64 y.block) := cell_of_row _ _ 5 _ 26 (0, 0) hw2; have n6 : (w2.alloc (Obj.cells (ec X) 24)).cell? ⟨w.heap.size + 1, 6, none⟩ = some (.int .u64 y.many) := cell_of_row _ _ 6 _ 26 (0, 0) hw2; have n7 : (w2.alloc (Obj.cells (ec X) 24)).cell? ⟨w.heap.size + 1, 7, none⟩ = some (.int .i64 y.node) := cell_of_row _ _ 7 _ 26 (0, 0) hw2; have n8 : (w2.alloc (Obj.cells (ec X) 24)).cell? ⟨w.heap.size + 1, 8, none⟩ = some (.int .i64 y.level) := cell_of_row _ _ 8 _ 26 (0, 0) hw2; have n9 : (w2.alloc (Obj.cells (ec X) 24)).cell? ⟨w.heap.size + 1, 9, none⟩ = some (.string y.data) := cell_of_row _ _ 9 _ 26 (0, 0) hw2; have n10 : (w2.alloc (Obj.cells (ec X) 24)).cell? ⟨w.heap.size + 1, 10, none⟩ = some (.string y.old) := cell_of_row _ _ 10 _ 26 (0, 0) hw2; have n11 : (w2.alloc (Obj.cells (ec X) 24)).cell? ⟨w.heap.size + 1, 11, none⟩ = some (.bool q) := cell_of_row _ _ 11 _ 26 (0, 0) hw2; have HBX := Lib.hid hbx; clear hb2 hw2 hbx)
    | (go_at_call 10; (with_reducible refine (KY.out _).mono ?_); rintro r w3 ⟨rfl, hb3⟩; have S0 : Hid (S6 w w2.heap.size w3.heap.size X Y (w3.alloc (Obj.cells (ec Y) 24))) := ⟨⟨(Lib.alloc_old w3 _ _ (Nat.lt_of_lt_of_le (by simp) hb3.size)).trans ((hb3.block _ (by simp)).trans (heap_alloc_new w2 _))⟩, ⟨heap_alloc_new w3 _⟩, (HBX.out.trans (hb3.mono HBX.out.size)).alloc (Nat.le_trans HBX.out.size hb3.size) _, HT.out.below ((HBX.out.trans (hb3.mono HBX.out.size)).alloc (Nat.le_trans HBX.out.size hb3.size) _)⟩; clear hb3)
    | (go_at_call 11; (with_reducible refine (fields_any kind _).mono ?_); rintro r w4 ⟨rfl, rfl⟩)
    | (go_at_call 12; (with_reducible refine (rfields_any kind _).mono ?_); rintro r w5 ⟨rfl, hb5⟩; have S1 := Lib.hid (S0.out.on hb5); clear hb5))
  obtain ⟨gx, hgx⟩ : ∃ gx, gx = w2.heap.size := ⟨_, rfl⟩
  obtain ⟨gy, hgy⟩ : ∃ gy, gy = w3.heap.size := ⟨_, rfl⟩
  rw [← hgx, ← hgy] at S1
  rw [← hgx, ← hgy]
  clear hgx hgy a0 a1 a2 a3 a4 a5 a6 a7 a8 a9 a10 a11 n0 n1 n2 n3 n4 n5 n6 n7 n8 n9 n10 n11 HBX S0 HB1 HY1 KX KY HT
  obtain ⟨rb, hrb⟩ : ∃ rb, rb = rightB X := ⟨_, rfl⟩
  obtain ⟨lv, hlv⟩ : ∃ lv, lv = lvl X.kind := ⟨_, rfl⟩
  obtain ⟨TX, hTX⟩ : ∃ TX, TX = textS X := ⟨_, rfl⟩
  obtain ⟨sb, hsb⟩ : ∃ sb, sb = sameB X Y := ⟨_, rfl⟩
  obtain ⟨F, hF⟩ : ∃ F, F = fl kind := ⟨_, rfl⟩
  obtain ⟨G, hG⟩ : ∃ G, G = fb kind := ⟨_, rfl⟩
  have hz1 : X.data.size ≤ 1099511627776 := Nat.le_trans HXS.out.1 (by omega)
  have hz2 : X.old.size ≤ 1099511627776 := Nat.le_trans HXS.out.2 (by omega)
  have K13 := Lib.hid (fun (W : World) (h : S6 w gx gy X Y W) => (right_any X W HXO.out).mono fun r w' ⟨h1, h2⟩ => And.intro (show r = Ending.returned (.bool rb) by rw [h1, hrb]) (h.on h2).all)
  have K14 := Lib.hid (fun (W : World) (h : S6 w gx gy X Y W) => (rright_any X W HXO.out).mono fun r w' ⟨h1, h2⟩ => And.intro (show r = Ending.returned (.bool rb) by rw [h1, hrb]) (h.on h2).all)
  have K15 := Lib.hid (fun (W : World) (h : S6 w gx gy X Y W) => (level_any X W).mono fun r w' ⟨h1, h2⟩ => And.intro (show r = Ending.returned (.int .i64 lv) by rw [h1, hlv]) (h.on h2).all)
  have K16 := Lib.hid (fun (W : World) (h : S6 w gx gy X Y W) => (rlevel_any X W).mono fun r w' ⟨h1, h2⟩ => And.intro (show r = Ending.returned (.int .i64 lv) by rw [h1, hlv]) (h.on h2).all)
  have K17 := Lib.hid (fun (W : World) (h : S6 w gx gy X Y W) => (text_any X W HXO.out hz1 hz2 h.tb).mono fun r w' ⟨h1, h2⟩ => And.intro (show r = Ending.returned (.string TX) by rw [h1, hTX]) (h.on h2).all)
  have K18 := Lib.hid (fun (W : World) (h : S6 w gx gy X Y W) => (rtext_any X W HXO.out hz1 hz2).mono fun r w' ⟨h1, h2⟩ => And.intro (show r = Ending.returned (.string TX) by rw [h1, hTX]) (h.on h2).all)
  have K19 := Lib.hid (fun (W : World) (h : S6 w gx gy X Y W) => (same_any X Y W).mono fun r w' ⟨h1, h2⟩ => And.intro (show r = Ending.returned (.bool sb) by rw [h1, hsb]) (h.on h2).all)
  have K20 := Lib.hid (fun (W : World) (h : S6 w gx gy X Y W) => (rsame_any X Y W).mono fun r w' ⟨h1, h2⟩ => And.intro (show r = Ending.returned (.bool sb) by rw [h1, hsb]) (h.on h2).all)
  have K9 := Lib.hid (fun (W : World) (h : S6 w gx gy X Y W) => (same_any X X W).mono fun r w' ⟨h1, h2⟩ => And.intro (show r = Ending.returned (.bool true) by rw [h1, same_self X]) (h.on h2).all)
  rw [← hF, ← hG]
  have hS := S1.out
  have hSd := hS.drew
  have r0 : w5.cell? ⟨gx, 0, none⟩ = some (.int .u64 X.term) := hS.x.cell 0
  have r1 : w5.cell? ⟨gx, 1, none⟩ = some (.int .u64 X.index) := hS.x.cell 1
  have r2 : w5.cell? ⟨gx, 2, none⟩ = some (.int .i64 X.kind) := hS.x.cell 2
  have r3 : w5.cell? ⟨gx, 3, none⟩ = some (.int .u64 X.client) := hS.x.cell 3
  have r4 : w5.cell? ⟨gx, 4, none⟩ = some (.int .u64 X.seq) := hS.x.cell 4
  have r5 : w5.cell? ⟨gx, 5, none⟩ = some (.int .u64 X.block) := hS.x.cell 5
  have r6 : w5.cell? ⟨gx, 6, none⟩ = some (.int .u64 X.many) := hS.x.cell 6
  have r7 : w5.cell? ⟨gx, 7, none⟩ = some (.int .i64 X.node) := hS.x.cell 7
  have r8 : w5.cell? ⟨gx, 8, none⟩ = some (.int .i64 X.level) := hS.x.cell 8
  have r9 : w5.cell? ⟨gx, 9, none⟩ = some (.string X.data) := hS.x.cell 9
  have r10 : w5.cell? ⟨gx, 10, none⟩ = some (.string X.old) := hS.x.cell 10
  have t0 : w5.cell? ⟨gy, 0, none⟩ = some (.int .u64 Y.term) := hS.y.cell 0
  have t1 : w5.cell? ⟨gy, 1, none⟩ = some (.int .u64 Y.index) := hS.y.cell 1
  have t2 : w5.cell? ⟨gy, 2, none⟩ = some (.int .i64 Y.kind) := hS.y.cell 2
  have t3 : w5.cell? ⟨gy, 3, none⟩ = some (.int .u64 Y.client) := hS.y.cell 3
  have t4 : w5.cell? ⟨gy, 4, none⟩ = some (.int .u64 Y.seq) := hS.y.cell 4
  have t5 : w5.cell? ⟨gy, 5, none⟩ = some (.int .u64 Y.block) := hS.y.cell 5
  have t6 : w5.cell? ⟨gy, 6, none⟩ = some (.int .u64 Y.many) := hS.y.cell 6
  have t7 : w5.cell? ⟨gy, 7, none⟩ = some (.int .i64 Y.node) := hS.y.cell 7
  have t8 : w5.cell? ⟨gy, 8, none⟩ = some (.int .i64 Y.level) := hS.y.cell 8
  have t9 : w5.cell? ⟨gy, 9, none⟩ = some (.string Y.data) := hS.y.cell 9
  have t10 : w5.cell? ⟨gy, 10, none⟩ = some (.string Y.old) := hS.y.cell 10
  clear hrb hlv hTX hsb hF hG hS S1 HXO HXS hz1 hz2
  go_region_held3 (fun w' => S6 w gx gy X Y w' ∧ w'.cell? ⟨gx, 0, none⟩ = some (.int .u64 X.term) ∧ w'.cell? ⟨gx, 1, none⟩ = some (.int .u64 X.index) ∧ w'.cell? ⟨gx, 2, none⟩ = some (.int .i64 X.kind) ∧ w'.cell? ⟨gx, 3, none⟩ = some (.int .u64 X.client) ∧ w'.cell? ⟨gx, 4, none⟩ = some (.int .u64 X.seq) ∧ w'.cell? ⟨gx, 5, none⟩ = some (.int .u64 X.block) ∧ w'.cell? ⟨gx, 6, none⟩ = some (.int .u64 X.many) ∧ w'.cell? ⟨gx, 7, none⟩ = some (.int .i64 X.node) ∧ w'.cell? ⟨gx, 8, none⟩ = some (.int .i64 X.level) ∧ w'.cell? ⟨gx, 9, none⟩ = some (.string X.data) ∧ w'.cell? ⟨gx, 10, none⟩ = some (.string X.old) ∧ w'.cell? ⟨gy, 0, none⟩ = some (.int .u64 Y.term) ∧ w'.cell? ⟨gy, 1, none⟩ = some (.int .u64 Y.index) ∧ w'.cell? ⟨gy, 2, none⟩ = some (.int .i64 Y.kind) ∧ w'.cell? ⟨gy, 3, none⟩ = some (.int .u64 Y.client) ∧ w'.cell? ⟨gy, 4, none⟩ = some (.int .u64 Y.seq) ∧ w'.cell? ⟨gy, 5, none⟩ = some (.int .u64 Y.block) ∧ w'.cell? ⟨gy, 6, none⟩ = some (.int .u64 Y.many) ∧ w'.cell? ⟨gy, 7, none⟩ = some (.int .i64 Y.node) ∧ w'.cell? ⟨gy, 8, none⟩ = some (.int .i64 Y.level) ∧ w'.cell? ⟨gy, 9, none⟩ = some (.string Y.data) ∧ w'.cell? ⟨gy, 10, none⟩ = some (.string Y.old))
    (first | exact ⟨hSd, r0, r1, r2, r3, r4, r5, r6, r7, r8, r9, r10, t0, t1, t2, t3, t4, t5, t6, t7, t8, t9, t10⟩ | (refine ⟨?_, ?_, ?_, ?_, ?_, ?_, ?_, ?_, ?_, ?_, ?_, ?_, ?_, ?_, ?_, ?_, ?_, ?_, ?_, ?_, ?_, ?_, ?_⟩ <;> assumption))
    (first
      | (go_at_call 13; (with_reducible refine (K13.out _ (by assumption)).mono ?_); rintro r w6 ⟨rfl, s5, e0, e1, e2, e3, e4, e5, e6, e7, e8, e9, e10, f0, f1, f2, f3, f4, f5, f6, f7, f8, f9, f10⟩)
      | (go_at_call 14; (with_reducible refine (K14.out _ (by assumption)).mono ?_); rintro r w6 ⟨rfl, s5, e0, e1, e2, e3, e4, e5, e6, e7, e8, e9, e10, f0, f1, f2, f3, f4, f5, f6, f7, f8, f9, f10⟩)
      | (go_at_call 15; (with_reducible refine (K15.out _ (by assumption)).mono ?_); rintro r w6 ⟨rfl, s5, e0, e1, e2, e3, e4, e5, e6, e7, e8, e9, e10, f0, f1, f2, f3, f4, f5, f6, f7, f8, f9, f10⟩)
      | (go_at_call 16; (with_reducible refine (K16.out _ (by assumption)).mono ?_); rintro r w6 ⟨rfl, s5, e0, e1, e2, e3, e4, e5, e6, e7, e8, e9, e10, f0, f1, f2, f3, f4, f5, f6, f7, f8, f9, f10⟩)
      | (go_at_call 17; (with_reducible refine (K17.out _ (by assumption)).mono ?_); rintro r w6 ⟨rfl, s5, e0, e1, e2, e3, e4, e5, e6, e7, e8, e9, e10, f0, f1, f2, f3, f4, f5, f6, f7, f8, f9, f10⟩)
      | (go_at_call 18; (with_reducible refine (K18.out _ (by assumption)).mono ?_); rintro r w6 ⟨rfl, s5, e0, e1, e2, e3, e4, e5, e6, e7, e8, e9, e10, f0, f1, f2, f3, f4, f5, f6, f7, f8, f9, f10⟩)
      | (go_at_call 19; (with_reducible refine (K19.out _ (by assumption)).mono ?_); rintro r w6 ⟨rfl, s5, e0, e1, e2, e3, e4, e5, e6, e7, e8, e9, e10, f0, f1, f2, f3, f4, f5, f6, f7, f8, f9, f10⟩)
      | (go_at_call 19; (with_reducible refine (K9.out _ (by assumption)).mono ?_); rintro r w6 ⟨rfl, s5, e0, e1, e2, e3, e4, e5, e6, e7, e8, e9, e10, f0, f1, f2, f3, f4, f5, f6, f7, f8, f9, f10⟩)
      | (go_at_call 20; (with_reducible refine (K20.out _ (by assumption)).mono ?_); rintro r w6 ⟨rfl, s5, e0, e1, e2, e3, e4, e5, e6, e7, e8, e9, e10, f0, f1, f2, f3, f4, f5, f6, f7, f8, f9, f10⟩))
  all_goals
    rename_i hk
    have hbe := hk.1.be
    clear hk
    go_wp2
    go_ret
    exact ⟨rfl, hbe⟩
end Go.Proofs.YtclohjcenkpgoaaDoor
