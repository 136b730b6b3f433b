/-
  EntryTexts, walked, one way.
  Conditions: the table of powers of ten lies as its initialiser lays it; the numbers are those of their kinds.
-/
import Derived.Test.YtclohjcenkpgoaaDoorTIff
import Derived.Test.YtclohjcenkpgoaaDoorTexD
namespace Go.Proofs.YtclohjcenkpgoaaDoor
open Go.RowKit
set_option linter.unusedVariables false
set_option maxRecDepth 100000 in
set_option maxHeartbeats 16000000 in
theorem texts_2 (e : En) (o : Bool) (how n : Int) (s : ByteArray) (w : World) (ok : e.Ok) (hn0 : 0 ≤ n) (hn1 : n ≤ 255) (hs : s.size ≤ 140737488351232) (h0 : 0 ≤ how) (hh : how % 7 = 2) (ht : Tab w) :
    Calls Tryd.prog 5 #[mdv e o, .int .u8 how, .int .u8 n, .string s] w fun r w' => r = .returned (.bool true) ∧ Below w.heap.size w w' := by
  have hbx : Below w.heap.size w (w.alloc (Obj.cells (mdc e o) 26)) := (Below.refl _ _).alloc (Nat.le_refl _) _
  have KE := Lib.hid (examples_any (w.alloc (Obj.cells (mdc e o) 26)) (ht.below hbx))
  obtain ⟨X, hX⟩ : ∃ X, X = mk e := ⟨_, rfl⟩
  have hmf := mk_facts e ok
  rw [← hX] at hmf
  obtain ⟨hXok, hXr, hXd, hXo, hXn0, hXn1⟩ := hmf
  have hM : ∀ W, Calls Tryd.prog 10 #[mdv e true] W fun r w' => r = .returned (ev X) ∧ Below W.heap.size W w' := fun W => by rw [hX]; exact made_yes e W ok
  have hYok : ({ X with block := n } : En).Ok := { hXok with b0 := hn0, b1 := by show n ≤ _; omega }
  have hRX : ∀ (gx gy : Nat) (W : World), S6 w gx gy X ({ X with block := n } : En) W → Calls Tryd.prog 13 #[ev X] W fun r w' => r = .returned (.bool true) ∧ S6 w gx gy X ({ X with block := n } : En) w' ∧ w'.cell? ⟨gx, 0, none⟩ = some (.int .u64 X.term) ∧ w'.cell? ⟨gx, 1, none⟩ = some (.int .u64 X.index) ∧ w'.cell? ⟨gx, 2, none⟩ = some (.int .i64 X.kind) ∧ w'.cell? ⟨gx, 3, none⟩ = some (.int .u64 X.client) ∧ w'.cell? ⟨gx, 4, none⟩ = some (.int .u64 X.seq) ∧ w'.cell? ⟨gx, 5, none⟩ = some (.int .u64 X.block) ∧ w'.cell? ⟨gx, 6, none⟩ = some (.int .u64 X.many) ∧ w'.cell? ⟨gx, 7, none⟩ = some (.int .i64 X.node) ∧ w'.cell? ⟨gx, 8, none⟩ = some (.int .i64 X.level) ∧ w'.cell? ⟨gx, 9, none⟩ = some (.string X.data) ∧ w'.cell? ⟨gx, 10, none⟩ = some (.string X.old) ∧ w'.cell? ⟨gy, 0, none⟩ = some (.int .u64 X.term) ∧ w'.cell? ⟨gy, 1, none⟩ = some (.int .u64 X.index) ∧ w'.cell? ⟨gy, 2, none⟩ = some (.int .i64 X.kind) ∧ w'.cell? ⟨gy, 3, none⟩ = some (.int .u64 X.client) ∧ w'.cell? ⟨gy, 4, none⟩ = some (.int .u64 X.seq) ∧ w'.cell? ⟨gy, 5, none⟩ = some (.int .u64 n) ∧ w'.cell? ⟨gy, 6, none⟩ = some (.int .u64 X.many) ∧ w'.cell? ⟨gy, 7, none⟩ = some (.int .i64 X.node) ∧ w'.cell? ⟨gy, 8, none⟩ = some (.int .i64 X.level) ∧ w'.cell? ⟨gy, 9, none⟩ = some (.string X.data) ∧ w'.cell? ⟨gy, 10, none⟩ = some (.string X.old) := fun gx gy W h => (right_any X W hXok).mono fun r w' ⟨h1, h2⟩ => ⟨by rw [h1, hXr], h.on h2, (h.on h2).x.cell 0, (h.on h2).x.cell 1, (h.on h2).x.cell 2, (h.on h2).x.cell 3, (h.on h2).x.cell 4, (h.on h2).x.cell 5, (h.on h2).x.cell 6, (h.on h2).x.cell 7, (h.on h2).x.cell 8, (h.on h2).x.cell 9, (h.on h2).x.cell 10, (h.on h2).y.cell 0, (h.on h2).y.cell 1, (h.on h2).y.cell 2, (h.on h2).y.cell 3, (h.on h2).y.cell 4, (h.on h2).y.cell 5, (h.on h2).y.cell 6, (h.on h2).y.cell 7, (h.on h2).y.cell 8, (h.on h2).y.cell 9, (h.on h2).y.cell 10⟩
  have hRY : ∀ (b : Bool), rightB ({ X with block := n } : En) = b → ∀ (gx gy : Nat) (W : World), S6 w gx gy X ({ X with block := n } : En) W → Calls Tryd.prog 13 #[ev ({ X with block := n } : En)] W fun r w' => r = .returned (.bool b) ∧ S6 w gx gy X ({ X with block := n } : En) w' ∧ w'.cell? ⟨gx, 0, none⟩ = some (.int .u64 X.term) ∧ w'.cell? ⟨gx, 1, none⟩ = some (.int .u64 X.index) ∧ w'.cell? ⟨gx, 2, none⟩ = some (.int .i64 X.kind) ∧ w'.cell? ⟨gx, 3, none⟩ = some (.int .u64 X.client) ∧ w'.cell? ⟨gx, 4, none⟩ = some (.int .u64 X.seq) ∧ w'.cell? ⟨gx, 5, none⟩ = some (.int .u64 X.block) ∧ w'.cell? ⟨gx, 6, none⟩ = some (.int .u64 X.many) ∧ w'.cell? ⟨gx, 7, none⟩ = some (.int .i64 X.node) ∧ w'.cell? ⟨gx, 8, none⟩ = some (.int .i64 X.level) ∧ w'.cell? ⟨gx, 9, none⟩ = some (.string X.data) ∧ w'.cell? ⟨gx, 10, none⟩ = some (.string X.old) ∧ w'.cell? ⟨gy, 0, none⟩ = some (.int .u64 X.term) ∧ w'.cell? ⟨gy, 1, none⟩ = some (.int .u64 X.index) ∧ w'.cell? ⟨gy, 2, none⟩ = some (.int .i64 X.kind) ∧ w'.cell? ⟨gy, 3, none⟩ = some (.int .u64 X.client) ∧ w'.cell? ⟨gy, 4, none⟩ = some (.int .u64 X.seq) ∧ w'.cell? ⟨gy, 5, none⟩ = some (.int .u64 n) ∧ w'.cell? ⟨gy, 6, none⟩ = some (.int .u64 X.many) ∧ w'.cell? ⟨gy, 7, none⟩ = some (.int .i64 X.node) ∧ w'.cell? ⟨gy, 8, none⟩ = some (.int .i64 X.level) ∧ w'.cell? ⟨gy, 9, none⟩ = some (.string X.data) ∧ w'.cell? ⟨gy, 10, none⟩ = some (.string X.old) := fun b hb gx gy W h => (right_any _ W hYok).mono fun r w' ⟨h1, h2⟩ => ⟨by rw [h1, hb], h.on h2, (h.on h2).x.cell 0, (h.on h2).x.cell 1, (h.on h2).x.cell 2, (h.on h2).x.cell 3, (h.on h2).x.cell 4, (h.on h2).x.cell 5, (h.on h2).x.cell 6, (h.on h2).x.cell 7, (h.on h2).x.cell 8, (h.on h2).x.cell 9, (h.on h2).x.cell 10, (h.on h2).y.cell 0, (h.on h2).y.cell 1, (h.on h2).y.cell 2, (h.on h2).y.cell 3, (h.on h2).y.cell 4, (h.on h2).y.cell 5, (h.on h2).y.cell 6, (h.on h2).y.cell 7, (h.on h2).y.cell 8, (h.on h2).y.cell 9, (h.on h2).y.cell 10⟩
  have hTX : ∀ (gx gy : Nat) (W : World), S6 w gx gy X ({ X with block := n } : En) W → Calls Tryd.prog 17 #[ev X] W fun r w' => r = .returned (.string (textS X)) ∧ S6 w gx gy X ({ X with block := n } : En) w' ∧ w'.cell? ⟨gx, 0, none⟩ = some (.int .u64 X.term) ∧ w'.cell? ⟨gx, 1, none⟩ = some (.int .u64 X.index) ∧ w'.cell? ⟨gx, 2, none⟩ = some (.int .i64 X.kind) ∧ w'.cell? ⟨gx, 3, none⟩ = some (.int .u64 X.client) ∧ w'.cell? ⟨gx, 4, none⟩ = some (.int .u64 X.seq) ∧ w'.cell? ⟨gx, 5, none⟩ = some (.int .u64 X.block) ∧ w'.cell? ⟨gx, 6, none⟩ = some (.int .u64 X.many) ∧ w'.cell? ⟨gx, 7, none⟩ = some (.int .i64 X.node) ∧ w'.cell? ⟨gx, 8, none⟩ = some (.int .i64 X.level) ∧ w'.cell? ⟨gx, 9, none⟩ = some (.string X.data) ∧ w'.cell? ⟨gx, 10, none⟩ = some (.string X.old) ∧ w'.cell? ⟨gy, 0, none⟩ = some (.int .u64 X.term) ∧ w'.cell? ⟨gy, 1, none⟩ = some (.int .u64 X.index) ∧ w'.cell? ⟨gy, 2, none⟩ = some (.int .i64 X.kind) ∧ w'.cell? ⟨gy, 3, none⟩ = some (.int .u64 X.client) ∧ w'.cell? ⟨gy, 4, none⟩ = some (.int .u64 X.seq) ∧ w'.cell? ⟨gy, 5, none⟩ = some (.int .u64 n) ∧ w'.cell? ⟨gy, 6, none⟩ = some (.int .u64 X.many) ∧ w'.cell? ⟨gy, 7, none⟩ = some (.int .i64 X.node) ∧ w'.cell? ⟨gy, 8, none⟩ = some (.int .i64 X.level) ∧ w'.cell? ⟨gy, 9, none⟩ = some (.string X.data) ∧ w'.cell? ⟨gy, 10, none⟩ = some (.string X.old) := fun gx gy W h => (text_any X W hXok (Nat.le_trans hXd (by omega)) (Nat.le_trans hXo (by omega)) h.tb).mono fun r w' ⟨h1, h2⟩ => ⟨h1, h.on h2, (h.on h2).x.cell 0, (h.on h2).x.cell 1, (h.on h2).x.cell 2, (h.on h2).x.cell 3, (h.on h2).x.cell 4, (h.on h2).x.cell 5, (h.on h2).x.cell 6, (h.on h2).x.cell 7, (h.on h2).x.cell 8, (h.on h2).x.cell 9, (h.on h2).x.cell 10, (h.on h2).y.cell 0, (h.on h2).y.cell 1, (h.on h2).y.cell 2, (h.on h2).y.cell 3, (h.on h2).y.cell 4, (h.on h2).y.cell 5, (h.on h2).y.cell 6, (h.on h2).y.cell 7, (h.on h2).y.cell 8, (h.on h2).y.cell 9, (h.on h2).y.cell 10⟩
  have hTY : ∀ (gx gy : Nat) (W : World), S6 w gx gy X ({ X with block := n } : En) W → Calls Tryd.prog 17 #[ev ({ X with block := n } : En)] W fun r w' => r = .returned (.string (textS ({ X with block := n } : En))) ∧ S6 w gx gy X ({ X with block := n } : En) w' ∧ w'.cell? ⟨gx, 0, none⟩ = some (.int .u64 X.term) ∧ w'.cell? ⟨gx, 1, none⟩ = some (.int .u64 X.index) ∧ w'.cell? ⟨gx, 2, none⟩ = some (.int .i64 X.kind) ∧ w'.cell? ⟨gx, 3, none⟩ = some (.int .u64 X.client) ∧ w'.cell? ⟨gx, 4, none⟩ = some (.int .u64 X.seq) ∧ w'.cell? ⟨gx, 5, none⟩ = some (.int .u64 X.block) ∧ w'.cell? ⟨gx, 6, none⟩ = some (.int .u64 X.many) ∧ w'.cell? ⟨gx, 7, none⟩ = some (.int .i64 X.node) ∧ w'.cell? ⟨gx, 8, none⟩ = some (.int .i64 X.level) ∧ w'.cell? ⟨gx, 9, none⟩ = some (.string X.data) ∧ w'.cell? ⟨gx, 10, none⟩ = some (.string X.old) ∧ w'.cell? ⟨gy, 0, none⟩ = some (.int .u64 X.term) ∧ w'.cell? ⟨gy, 1, none⟩ = some (.int .u64 X.index) ∧ w'.cell? ⟨gy, 2, none⟩ = some (.int .i64 X.kind) ∧ w'.cell? ⟨gy, 3, none⟩ = some (.int .u64 X.client) ∧ w'.cell? ⟨gy, 4, none⟩ = some (.int .u64 X.seq) ∧ w'.cell? ⟨gy, 5, none⟩ = some (.int .u64 n) ∧ w'.cell? ⟨gy, 6, none⟩ = some (.int .u64 X.many) ∧ w'.cell? ⟨gy, 7, none⟩ = some (.int .i64 X.node) ∧ w'.cell? ⟨gy, 8, none⟩ = some (.int .i64 X.level) ∧ w'.cell? ⟨gy, 9, none⟩ = some (.string X.data) ∧ w'.cell? ⟨gy, 10, none⟩ = some (.string X.old) := fun gx gy W h => (text_any _ W hYok (Nat.le_trans hXd (by omega)) (Nat.le_trans hXo (by omega)) h.tb).mono fun r w' ⟨h1, h2⟩ => ⟨h1, h.on h2, (h.on h2).x.cell 0, (h.on h2).x.cell 1, (h.on h2).x.cell 2, (h.on h2).x.cell 3, (h.on h2).x.cell 4, (h.on h2).x.cell 5, (h.on h2).x.cell 6, (h.on h2).x.cell 7, (h.on h2).x.cell 8, (h.on h2).x.cell 9, (h.on h2).x.cell 10, (h.on h2).y.cell 0, (h.on h2).y.cell 1, (h.on h2).y.cell 2, (h.on h2).y.cell 3, (h.on h2).y.cell 4, (h.on h2).y.cell 5, (h.on h2).y.cell 6, (h.on h2).y.cell 7, (h.on h2).y.cell 8, (h.on h2).y.cell 9, (h.on h2).y.cell 10⟩
  have hSM : ∀ (gx gy : Nat) (W : World), S6 w gx gy X ({ X with block := n } : En) W → Calls Tryd.prog 19 #[ev X, ev ({ X with block := n } : En)] W fun r w' => r = .returned (.bool (sameB X ({ X with block := n } : En))) ∧ S6 w gx gy X ({ X with block := n } : En) w' ∧ w'.cell? ⟨gx, 0, none⟩ = some (.int .u64 X.term) ∧ w'.cell? ⟨gx, 1, none⟩ = some (.int .u64 X.index) ∧ w'.cell? ⟨gx, 2, none⟩ = some (.int .i64 X.kind) ∧ w'.cell? ⟨gx, 3, none⟩ = some (.int .u64 X.client) ∧ w'.cell? ⟨gx, 4, none⟩ = some (.int .u64 X.seq) ∧ w'.cell? ⟨gx, 5, none⟩ = some (.int .u64 X.block) ∧ w'.cell? ⟨gx, 6, none⟩ = some (.int .u64 X.many) ∧ w'.cell? ⟨gx, 7, none⟩ = some (.int .i64 X.node) ∧ w'.cell? ⟨gx, 8, none⟩ = some (.int .i64 X.level) ∧ w'.cell? ⟨gx, 9, none⟩ = some (.string X.data) ∧ w'.cell? ⟨gx, 10, none⟩ = some (.string X.old) ∧ w'.cell? ⟨gy, 0, none⟩ = some (.int .u64 X.term) ∧ w'.cell? ⟨gy, 1, none⟩ = some (.int .u64 X.index) ∧ w'.cell? ⟨gy, 2, none⟩ = some (.int .i64 X.kind) ∧ w'.cell? ⟨gy, 3, none⟩ = some (.int .u64 X.client) ∧ w'.cell? ⟨gy, 4, none⟩ = some (.int .u64 X.seq) ∧ w'.cell? ⟨gy, 5, none⟩ = some (.int .u64 n) ∧ w'.cell? ⟨gy, 6, none⟩ = some (.int .u64 X.many) ∧ w'.cell? ⟨gy, 7, none⟩ = some (.int .i64 X.node) ∧ w'.cell? ⟨gy, 8, none⟩ = some (.int .i64 X.level) ∧ w'.cell? ⟨gy, 9, none⟩ = some (.string X.data) ∧ w'.cell? ⟨gy, 10, none⟩ = some (.string X.old) := fun gx gy W h => (same_any X _ W).mono fun r w' ⟨h1, h2⟩ => ⟨h1, h.on h2, (h.on h2).x.cell 0, (h.on h2).x.cell 1, (h.on h2).x.cell 2, (h.on h2).x.cell 3, (h.on h2).x.cell 4, (h.on h2).x.cell 5, (h.on h2).x.cell 6, (h.on h2).x.cell 7, (h.on h2).x.cell 8, (h.on h2).x.cell 9, (h.on h2).x.cell 10, (h.on h2).y.cell 0, (h.on h2).y.cell 1, (h.on h2).y.cell 2, (h.on h2).y.cell 3, (h.on h2).y.cell 4, (h.on h2).y.cell 5, (h.on h2).y.cell 6, (h.on h2).y.cell 7, (h.on h2).y.cell 8, (h.on h2).y.cell 9, (h.on h2).y.cell 10⟩
  have KM := Lib.hid hM
  have KRX := Lib.hid hRX
  have KRY := Lib.hid hRY
  have KTX := Lib.hid hTX
  have KTY := Lib.hid hTY
  have KSM := Lib.hid hSM
  have HT := Lib.hid ht
  have HBX := Lib.hid hbx
  have HX := Lib.hid hX
  have HXok := Lib.hid hXok
  have HYok := Lib.hid hYok
  have hiff : rightB ({ X with block := n } : En) = true → textS X = textS ({ X with block := n } : En) → X = ({ X with block := n } : En) := fun ry hxy => iff_block hXok hn0 hXr ry hxy
  have HIFF := Lib.hid hiff
  have HXr := Lib.hid hXr
  clear hM hRX hRY hTX hTY hSM ht hbx hX hXok hYok hiff hXr hXd hXo hXn0 hXn1 ok
  cases hry : rightB ({ X with block := n } : En) with
  | false =>
    have KRYb := Lib.hid (KRY.out false hry)
    clear hry
    go_enter Tryd.func5, Tryd.ntmps5
    go_wp2_with (first
      | (go_at_call 9; (with_reducible refine KE.out.mono ?_); rintro r w1 ⟨rfl, hb1⟩; have hbk : w1.heap[w.heap.size]? = some (.cells (mdc e o) 26 (0, 0)) := ((hb1.block _ (by simp)).trans (heap_alloc_new w _)); have b0 := cell12 hbk 0; have b1 := cell12 hbk 1; have b2 := cell12 hbk 2; have b3 := cell12 hbk 3; have b4 := cell12 hbk 4; have b5 := cell12 hbk 5; have b6 := cell12 hbk 6; have b7 := cell12 hbk 7; have b8 := cell12 hbk 8; have b9 := cell12 hbk 9; have b10 := cell12 hbk 10; have b11 := cell12 hbk 11; simp only [mdc, List.getElem?_toArray, List.getElem?_cons_succ, List.getElem?_cons_zero] at b0 b1 b2 b3 b4 b5 b6 b7 b8 b9 b10 b11; have fz1 : w1.frozen? ⟨w.heap.size, 11, none⟩ = false := Md.of hbk; have HB1 := Lib.hid (HBX.out.trans (hb1.mono (by simp))); clear hbk hb1)
      | (go_at_call 10; (with_reducible refine (KM.out _).mono ?_); rintro r w2 ⟨rfl, hb2⟩; have HB2 : Hid (Below w.heap.size w w2) := ((HB1.out.setCell (p := ⟨w.heap.size, 11, none⟩) (Nat.le_refl _) _).trans (hb2.mono (by simpa using HB1.out.size))); clear hb2; have S0 : Hid (S6 w w2.heap.size (w2.heap.size + 1) X ({ X with block := n } : En) ((w2.alloc (Obj.cells (ec X) 24)).alloc (Obj.cells (ec ({ X with block := n } : En)) 24))) := s6_start HB2.out HT.out)
      | (go_at_call 13; (with_reducible refine (KRX.out w2.heap.size (w2.heap.size + 1) _ S0.out).mono ?_); rintro r w3 ⟨rfl, s3, c0, c1, c2, c3, c4, c5, c6, c7, c8, c9, c10, d0, d1, d2, d3, d4, d5, d6, d7, d8, d9, d10⟩)
      | (go_at_call 13; (with_reducible refine (KRYb.out w2.heap.size (w2.heap.size + 1) _ s3).mono ?_); rintro r w4 ⟨rfl, s4, cc0, cc1, cc2, cc3, cc4, cc5, cc6, cc7, cc8, cc9, cc10, dd0, dd1, dd2, dd3, dd4, dd5, dd6, dd7, dd8, dd9, dd10⟩)
      | (go_at_call 13; (with_reducible refine (KRX.out w2.heap.size (w2.heap.size + 1) _ s4).mono ?_); rintro r w5 ⟨rfl, s5, ccc0, ccc1, ccc2, ccc3, ccc4, ccc5, ccc6, ccc7, ccc8, ccc9, ccc10, ddd0, ddd1, ddd2, ddd3, ddd4, ddd5, ddd6, ddd7, ddd8, ddd9, ddd10⟩))
    go_ret
    exact ⟨rfl, s5.be⟩
  | true =>
    have KRYb := Lib.hid (KRY.out true hry)
    have he := fun W => eql_entry X ({ X with block := n } : En) W
    have HRY := Lib.hid hry
    clear hry
    go_enter Tryd.func5, Tryd.ntmps5
    go_wp2_with (first
      | (go_at_call 9; (with_reducible refine KE.out.mono ?_); rintro r w1 ⟨rfl, hb1⟩; have hbk : w1.heap[w.heap.size]? = some (.cells (mdc e o) 26 (0, 0)) := ((hb1.block _ (by simp)).trans (heap_alloc_new w _)); have b0 := cell12 hbk 0; have b1 := cell12 hbk 1; have b2 := cell12 hbk 2; have b3 := cell12 hbk 3; have b4 := cell12 hbk 4; have b5 := cell12 hbk 5; have b6 := cell12 hbk 6; have b7 := cell12 hbk 7; have b8 := cell12 hbk 8; have b9 := cell12 hbk 9; have b10 := cell12 hbk 10; have b11 := cell12 hbk 11; simp only [mdc, List.getElem?_toArray, List.getElem?_cons_succ, List.getElem?_cons_zero] at b0 b1 b2 b3 b4 b5 b6 b7 b8 b9 b10 b11; have fz1 : w1.frozen? ⟨w.heap.size, 11, none⟩ = false := Md.of hbk; have HB1 := Lib.hid (HBX.out.trans (hb1.mono (by simp))); clear hbk hb1)
      | (go_at_call 10; (with_reducible refine (KM.out _).mono ?_); rintro r w2 ⟨rfl, hb2⟩; have HB2 : Hid (Below w.heap.size w w2) := ((HB1.out.setCell (p := ⟨w.heap.size, 11, none⟩) (Nat.le_refl _) _).trans (hb2.mono (by simpa using HB1.out.size))); clear hb2; have S0 : Hid (S6 w w2.heap.size (w2.heap.size + 1) X ({ X with block := n } : En) ((w2.alloc (Obj.cells (ec X) 24)).alloc (Obj.cells (ec ({ X with block := n } : En)) 24))) := s6_start HB2.out HT.out)
      | (go_at_call 13; (with_reducible refine (KRX.out w2.heap.size (w2.heap.size + 1) _ S0.out).mono ?_); rintro r w3 ⟨rfl, s3, c0, c1, c2, c3, c4, c5, c6, c7, c8, c9, c10, d0, d1, d2, d3, d4, d5, d6, d7, d8, d9, d10⟩)
      | (go_at_call 13; (with_reducible refine (KRYb.out w2.heap.size (w2.heap.size + 1) _ s3).mono ?_); rintro r w4 ⟨rfl, s4, cc0, cc1, cc2, cc3, cc4, cc5, cc6, cc7, cc8, cc9, cc10, dd0, dd1, dd2, dd3, dd4, dd5, dd6, dd7, dd8, dd9, dd10⟩))
    have sd4 : S6 w w2.heap.size (w2.heap.size + 1) X ({ X with block := n } : En) w4.drew := ⟨⟨s4.x.bx⟩, ⟨s4.y.bx⟩, ⟨s4.be.os, s4.be.tape, s4.be.output, s4.be.size, s4.be.block⟩, s4.tb⟩
    obtain ⟨TX, hTX⟩ : ∃ TX, TX = textS X := ⟨_, rfl⟩
    obtain ⟨TY, hTY⟩ : ∃ TY, TY = textS ({ X with block := n } : En) := ⟨_, rfl⟩
    have KT1 := KTX.out
    have KT2 := KTY.out
    rw [← hTX] at KT1
    rw [← hTY] at KT2
    obtain ⟨sb, hsb⟩ : ∃ sb, sb = sameB X ({ X with block := n } : En) := ⟨_, rfl⟩
    have KS1 := KSM.out
    rw [← hsb] at KS1 he
    have hcase : (TX = TY ∧ sb = true) ∨ (TX ≠ TY ∧ sb = false) := by
      by_cases hxy : X = ({ X with block := n } : En)
      · left
        exact ⟨by rw [hTX, hTY, ← hxy], by rw [hsb]; exact (sameB_iff _ _).2 hxy⟩
      · right
        refine ⟨fun h => hxy (HIFF.out HRY.out (by rw [← hTX, ← hTY, h])), ?_⟩
        rw [hsb]
        cases hq : sameB X ({ X with block := n } : En) with
        | false => rfl
        | true => exact absurd ((sameB_iff _ _).1 hq) hxy
    have K1 := Lib.hid KT1
    have K2 := Lib.hid KT2
    have K3 := Lib.hid KS1
    clear KT1 KT2 KS1 hTX hTY hsb s3 c0 c1 c2 c3 c4 c5 c6 c7 c8 c9 c10 d0 d1 d2 d3 d4 d5 d6 d7 d8 d9 d10
    have S4 := Lib.hid s4
    clear s4
    rcases hcase with ⟨rfl, rfl⟩ | ⟨hne, rfl⟩
    all_goals
      first
        | (have hne2 : (TX == TY) = false := ba_ne hne
           have hne3 : (TX.toList == TY.toList) = false := by simpa using ba_ne2 hne)
        | skip
      go_region_held3 (fun w' => S6 w w2.heap.size (w2.heap.size + 1) X ({ X with block := n } : En) w' ∧ w'.cell? ⟨(w2.heap.size), 0, none⟩ = some (.int .u64 X.term) ∧ w'.cell? ⟨(w2.heap.size), 1, none⟩ = some (.int .u64 X.index) ∧ w'.cell? ⟨(w2.heap.size), 2, none⟩ = some (.int .i64 X.kind) ∧ w'.cell? ⟨(w2.heap.size), 3, none⟩ = some (.int .u64 X.client) ∧ w'.cell? ⟨(w2.heap.size), 4, none⟩ = some (.int .u64 X.seq) ∧ w'.cell? ⟨(w2.heap.size), 5, none⟩ = some (.int .u64 X.block) ∧ w'.cell? ⟨(w2.heap.size), 6, none⟩ = some (.int .u64 X.many) ∧ w'.cell? ⟨(w2.heap.size), 7, none⟩ = some (.int .i64 X.node) ∧ w'.cell? ⟨(w2.heap.size), 8, none⟩ = some (.int .i64 X.level) ∧ w'.cell? ⟨(w2.heap.size), 9, none⟩ = some (.string X.data) ∧ w'.cell? ⟨(w2.heap.size), 10, none⟩ = some (.string X.old) ∧ w'.cell? ⟨(w2.heap.size + 1), 0, none⟩ = some (.int .u64 X.term) ∧ w'.cell? ⟨(w2.heap.size + 1), 1, none⟩ = some (.int .u64 X.index) ∧ w'.cell? ⟨(w2.heap.size + 1), 2, none⟩ = some (.int .i64 X.kind) ∧ w'.cell? ⟨(w2.heap.size + 1), 3, none⟩ = some (.int .u64 X.client) ∧ w'.cell? ⟨(w2.heap.size + 1), 4, none⟩ = some (.int .u64 X.seq) ∧ w'.cell? ⟨(w2.heap.size + 1), 5, none⟩ = some (.int .u64 n) ∧ w'.cell? ⟨(w2.heap.size + 1), 6, none⟩ = some (.int .u64 X.many) ∧ w'.cell? ⟨(w2.heap.size + 1), 7, none⟩ = some (.int .i64 X.node) ∧ w'.cell? ⟨(w2.heap.size + 1), 8, none⟩ = some (.int .i64 X.level) ∧ w'.cell? ⟨(w2.heap.size + 1), 9, none⟩ = some (.string X.data) ∧ w'.cell? ⟨(w2.heap.size + 1), 10, none⟩ = some (.string X.old))
        (first | exact ⟨sd4, cc0, cc1, cc2, cc3, cc4, cc5, cc6, cc7, cc8, cc9, cc10, dd0, dd1, dd2, dd3, dd4, dd5, dd6, dd7, dd8, dd9, dd10⟩ | (refine ⟨?_, ?_, ?_, ?_, ?_, ?_, ?_, ?_, ?_, ?_, ?_, ?_, ?_, ?_, ?_, ?_, ?_, ?_, ?_, ?_, ?_, ?_, ?_⟩ <;> assumption))
        (first
          | (go_at_call 17; (with_reducible refine (K1.out w2.heap.size (w2.heap.size + 1) _ (by assumption)).mono ?_); rintro r w5 ⟨rfl, s5, e0, e1, e2, e3, e4, e5, e6, e7, e8, e9, e10, f0, f1, f2, f3, f4, f5, f6, f7, f8, f9, f10⟩)
          | (go_at_call 17; (with_reducible refine (K2.out w2.heap.size (w2.heap.size + 1) _ (by assumption)).mono ?_); rintro r w5 ⟨rfl, s5, e0, e1, e2, e3, e4, e5, e6, e7, e8, e9, e10, f0, f1, f2, f3, f4, f5, f6, f7, f8, f9, f10⟩)
          | (go_at_call 19; (with_reducible refine (K3.out w2.heap.size (w2.heap.size + 1) _ (by assumption)).mono ?_); rintro r w5 ⟨rfl, s5, e0, e1, e2, e3, e4, e5, e6, e7, e8, e9, e10, f0, f1, f2, f3, f4, f5, f6, f7, f8, f9, f10⟩))
      all_goals
        rename_i hk
        have hbe := hk.1.be
        clear hk
        go_wp2
        go_ret
        exact ⟨rfl, hbe⟩

end Go.Proofs.YtclohjcenkpgoaaDoor
