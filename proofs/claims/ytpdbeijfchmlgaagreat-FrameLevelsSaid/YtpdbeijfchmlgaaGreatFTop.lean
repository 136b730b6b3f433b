/-
  FrameLevels, walked, and what it stands on: an entry and a message in a frame.
  Conditions: named in each theorem.
-/
import Derived.Test.YtpdbeijfchmlgaaGreatSTf2
import Derived.Test.YtpdbeijfchmlgaaGreatSPf2
import Derived.Test.YtpdbeijfchmlgaaGreatFB
import Derived.Test.YtpdbeijfchmlgaaGreatFMid
import Derived.Test.YtpdbeijfchmlgaaGreatMLevel
import Derived.Test.YtpdbeijfchmlgaaGreatMRB01
import Derived.Test.YtpdbeijfchmlgaaGreatMRB10
import Derived.Test.YtpdbeijfchmlgaaGreatMRB00
import Derived.Test.YtpdbeijfchmlgaaGreatNState
import Derived.Test.YtpdbeijfchmlgaaGreatRMRight
import Derived.Test.YtpdbeijfchmlgaaGreatSmall
import Derived.Test.YtpdbeijfchmlgaaGreatBack
import Derived.Test.YtpdbeijfchmlgaaGreatGet
import Derived.Test.YtpdbeijfchmlgaaGreatMade
import Derived.WalkKit
import Derived.ProofKit
import Derived.OpenShut
import Derived.SizedLaws
import Derived.Carry
import Derived.ChangeSame
import Derived.Lib.SmallJoins
import Derived.Deep.Slices
import Derived.Test.YtpdbeijfchmlgaaGreatMkFacts
import Derived.Deep.RegionHeld3
namespace Go.Proofs.YtpdbeijfchmlgaaGreat
open Go.RowKit
open Vi
set_option linter.unusedVariables false
set_option linter.unusedSimpArgs false

set_option maxRecDepth 100000 in
set_option maxHeartbeats 8000000 in
theorem rightL_any (e : En) (w : World) (ok : e.OkL) :
    Calls Tryz.prog 62 #[ev e] w fun r w' => r = .returned (.bool (rightB e)) ∧ Below w.heap.size w w' := by
  have HO := Lib.hid ok
  clear ok
  go_enter Tryz.func62, Tryz.ntmps62
  go_wp2_with (first
    | (go_at_call 111; refine (fields_any e.kind _).mono ?_; rintro r w' ⟨rfl, rfl⟩)
    | (go_at_call 99; refine (limits_any (fl e.kind) _).mono ?_; rintro r w' ⟨rfl, rfl⟩))
  obtain ⟨wr, hW⟩ : ∃ wr, wr = (w.alloc (Obj.cells (ec e) 24)).alloc (Obj.cells #[Value.string (fl e.kind)] 9) := ⟨_, rfl⟩
  have hb : Below w.heap.size w wr := by rw [hW]; exact ((Below.refl _ _).alloc (Nat.le_refl _) _).alloc (by simp) _
  have hrow : ∀ i, i < 11 → wr.cell? ⟨w.heap.size, i, none⟩ = (ec e)[i]? := fun i hi => by
    rw [hW, World.cell?_alloc_lt _ _ _ (by simp), World.cell?_alloc_new]
  have c0 := hrow 0 (by omega)
  have c1 := hrow 1 (by omega)
  have c3 := hrow 3 (by omega)
  have c4 := hrow 4 (by omega)
  have c5 := hrow 5 (by omega)
  have c6 := hrow 6 (by omega)
  have c7 := hrow 7 (by omega)
  have c8 := hrow 8 (by omega)
  have c9 := hrow 9 (by omega)
  have c10 := hrow 10 (by omega)
  simp only [ec, List.getElem?_toArray, List.getElem?_cons_succ, List.getElem?_cons_zero] at c0 c1 c3 c4 c5 c6 c7 c8 c9 c10
  have cL : wr.cell? ⟨w.heap.size + 1, 0, none⟩ = some (.string (fl e.kind)) := by
    have h := World.cell?_alloc_new (w.alloc (Obj.cells (ec e) 24)) #[Value.string (fl e.kind)] 9 0
    rw [show (w.alloc (Obj.cells (ec e) 24)).heap.size = w.heap.size + 1 by simp] at h
    rw [hW, h]
    rfl
  rw [← hW]
  have HW := Lib.hid hW
  clear hW hrow
  have cLd : wr.drew.cell? ⟨w.heap.size + 1, 0, none⟩ = some (.string (fl e.kind)) := cL
  go_region_held3 (fun w' => w'.cell? ⟨w.heap.size, 0, none⟩ = some (.int .u64 e.term) ∧ w'.cell? ⟨w.heap.size, 1, none⟩ = some (.int .u64 e.index) ∧ w'.cell? ⟨w.heap.size, 3, none⟩ = some (.int .u64 e.client) ∧ w'.cell? ⟨w.heap.size, 4, none⟩ = some (.int .u64 e.seq) ∧ w'.cell? ⟨w.heap.size, 5, none⟩ = some (.int .u64 e.block) ∧ w'.cell? ⟨w.heap.size, 6, none⟩ = some (.int .u64 e.many) ∧ w'.cell? ⟨w.heap.size, 7, none⟩ = some (.int .i64 e.node) ∧ w'.cell? ⟨w.heap.size, 8, none⟩ = some (.int .i64 e.level) ∧ w'.cell? ⟨w.heap.size, 9, none⟩ = some (.string e.data) ∧ w'.cell? ⟨w.heap.size, 10, none⟩ = some (.string e.old) ∧ w'.cell? ⟨w.heap.size + 1, 0, none⟩ = some (.string (fl e.kind)))
    (first | exact ⟨c0, c1, c3, c4, c5, c6, c7, c8, c9, c10, cL⟩ | go_keep)
    (first
      | (go_at_call 159; (with_reducible refine (limit_rw (fl e.kind) _ _ _ _ _ _ (by omega) (by omega) cLd).mono ?_); rintro r w' ⟨rfl, rfl⟩)
      | (go_at_call 52; (with_reducible refine (all11 _ _ _ _ _ _ _ _ _ _ _ _).mono ?_); rintro r w' ⟨rfl, rfl⟩))
  all_goals
    have hR : Hid (rightB e = (fb e.kind && (decide (1 ≤ e.term) && (decide (1 ≤ e.index) && (lim (fl e.kind) 99 e.client 1 18446744073709551615 && (lim (fl e.kind) 99 e.seq 0 18446744073709551615 && (lim (fl e.kind) 98 e.block 0 4294967295 && (lim (fl e.kind) 109 e.many 0 4294967295 && (lim (fl e.kind) 110 (IntKind.u64.wrap e.node) 1 7 && (lim (fl e.kind) 108 (IntKind.u64.wrap e.level) 1 2 && (lim (fl e.kind) 100 (IntKind.u64.wrap e.data.size) 0 64 && lim (fl e.kind) 111 (IntKind.u64.wrap e.old.size) 0 64))))))))))) := by
      show _ = _
      unfold rightB asks
      simp only [List.all_cons, List.all_nil, id, Bool.and_true]
    have hbD : Below w.heap.size w (wr.alloc (Obj.cells #[Value.bool true] 4)) := hb.alloc hb.size _
    go_wp2
    go_ret
    refine ⟨ret_bool hR.out.symm, ?_⟩
    exact ⟨hb.os, hb.tape, hb.output, by have := hb.size; simp; omega, fun k hk => (Below.heap_alloc wr _ k (Nat.lt_of_lt_of_le hk hb.size)).trans (hb.block k hk)⟩

theorem ret_pair_b {a b : ByteArray} {x y : Bool} (h : a = b) (k : x = y) : Ending.returned (.tuple #[.string a, .bool x]) = .returned (.tuple #[.string b, .bool y]) := by rw [h, k]
/-- What Put puts, and what Get reads. -/
def putS_b (e : En) : ByteArray := if rightB e then sbE e else ⟨#[]⟩
def gO (s : ByteArray) (b : Bool) : Bool := !(eR s b).2.2 && rightB (eR s b).1
def gE (s : ByteArray) (b : Bool) : En := if gO s b then (eR s b).1 else ezz
def gT (s : ByteArray) (b : Bool) : ByteArray := if gO s b then (eR s b).2.1 else ⟨#[]⟩
theorem gO_no {s : ByteArray} {b : Bool} (h : gO s b = false) : gE s b = ezz ∧ gT s b = ⟨#[]⟩ := by
  unfold gE gT
  rw [h]
  exact ⟨rfl, rfl⟩
theorem gO_yes {s : ByteArray} {b : Bool} (h : gO s b = true) : gE s b = (eR s b).1 ∧ gT s b = (eR s b).2.1 := by
  unfold gE gT
  rw [h]
  exact ⟨rfl, rfl⟩
set_option maxHeartbeats 2000000 in
set_option maxRecDepth 100000 in
theorem putE_any (e : En) (w : World) (ok : e.Ok) :
    Calls Tryz.prog 26 #[ev e] w fun q w' => q = .returned (.tuple #[.string (putS_b e), .bool (rightB e)]) ∧ Below w.heap.size w w' := by
  obtain ⟨W0, hW0⟩ : ∃ W0, W0 = w.alloc (Obj.cells (ec e) 24) := ⟨_, rfl⟩
  have b0 : Below w.heap.size w W0 := by rw [hW0]; exact (Below.refl _ _).alloc (Nat.le_refl _) _
  have k0 : W0.heap[w.heap.size]? = some (.cells (ec e) 24 (0, 0)) := by rw [hW0]; exact heap_alloc_new w _
  have HW := Lib.hid hW0
  have HB := Lib.hid b0
  have HK := Lib.hid k0
  have KR := Lib.hid (right_any e W0 ok)
  have HP : Hid (putS_b e = if rightB e then sbE e else ⟨#[]⟩) := rfl
  have HF : Hid (rightB e = true → Few_b e) := fun h => few_of_b ok h
  have HOK := Lib.hid ok
  obtain ⟨rb, hrb⟩ : ∃ rb, rb = rightB e := ⟨_, rfl⟩
  rw [← hrb] at KR HP HF ⊢
  clear hW0 b0 k0 ok hrb
  cases rb with
  | false =>
    have HE : Hid (putS_b e = ⟨#[]⟩) := HP.out
    go_enter Tryz.func26, Tryz.ntmps26
    go_wp2_with fail
    rw [← HW.out]
    refine KR.out.mono ?_
    rintro q w1 ⟨rfl, b1⟩
    go_wp2
    go_ret2
    exact ⟨ret_pair_b HE.out.symm rfl, HB.out.trans (b1.mono HB.out.size)⟩
  | true =>
    have HE : Hid (putS_b e = sbE e) := HP.out
    have HFW := Lib.hid (HF.out rfl)
    clear HP HF
    go_enter Tryz.func26, Tryz.ntmps26
    go_wp2_with fail
    rw [← HW.out]
    refine KR.out.mono ?_
    rintro q w1 ⟨rfl, b1⟩
    have HB1 : Hid (Below w.heap.size w w1) := HB.out.trans (b1.mono HB.out.size)
    have HK1 : Hid (w1.heap[w.heap.size]? = some (.cells (ec e) 24 (0, 0))) := (b1.block _ (Array.getElem?_eq_some_iff.1 HK.out).1).trans HK.out
    clear b1 KR
    have c0 : w1.cell? ⟨w.heap.size, 0, none⟩ = some (.int .u64 e.term) := cell_of_row w1 _ 0 _ 24 (0, 0) HK1.out
    have c1 : w1.cell? ⟨w.heap.size, 1, none⟩ = some (.int .u64 e.index) := cell_of_row w1 _ 1 _ 24 (0, 0) HK1.out
    have c2 : w1.cell? ⟨w.heap.size, 2, none⟩ = some (.int .i64 e.kind) := cell_of_row w1 _ 2 _ 24 (0, 0) HK1.out
    have c3 : w1.cell? ⟨w.heap.size, 3, none⟩ = some (.int .u64 e.client) := cell_of_row w1 _ 3 _ 24 (0, 0) HK1.out
    have c4 : w1.cell? ⟨w.heap.size, 4, none⟩ = some (.int .u64 e.seq) := cell_of_row w1 _ 4 _ 24 (0, 0) HK1.out
    have c5 : w1.cell? ⟨w.heap.size, 5, none⟩ = some (.int .u64 e.block) := cell_of_row w1 _ 5 _ 24 (0, 0) HK1.out
    have c6 : w1.cell? ⟨w.heap.size, 6, none⟩ = some (.int .u64 e.many) := cell_of_row w1 _ 6 _ 24 (0, 0) HK1.out
    have c7 : w1.cell? ⟨w.heap.size, 7, none⟩ = some (.int .i64 e.node) := cell_of_row w1 _ 7 _ 24 (0, 0) HK1.out
    have c8 : w1.cell? ⟨w.heap.size, 8, none⟩ = some (.int .i64 e.level) := cell_of_row w1 _ 8 _ 24 (0, 0) HK1.out
    have c9 : w1.cell? ⟨w.heap.size, 9, none⟩ = some (.string e.data) := cell_of_row w1 _ 9 _ 24 (0, 0) HK1.out
    have c10 : w1.cell? ⟨w.heap.size, 10, none⟩ = some (.string e.old) := cell_of_row w1 _ 10 _ 24 (0, 0) HK1.out
    have K32 : Hid (∀ W, Below w1.heap.size w1 W → Calls Tryz.prog 64 #[] W fun q w' => ∃ b, q = .returned (.slice (some ⟨b, 0, none⟩) 12 12) ∧ Flds b w' ∧ Below w.heap.size w w' ∧ w'.heap[w.heap.size]? = some (.cells (ec e) 24 (0, 0)) ∧ w'.cell? ⟨w.heap.size, 0, none⟩ = some (.int .u64 e.term) ∧ w'.cell? ⟨w.heap.size, 1, none⟩ = some (.int .u64 e.index) ∧ w'.cell? ⟨w.heap.size, 2, none⟩ = some (.int .i64 e.kind) ∧ w'.cell? ⟨w.heap.size, 3, none⟩ = some (.int .u64 e.client) ∧ w'.cell? ⟨w.heap.size, 4, none⟩ = some (.int .u64 e.seq) ∧ w'.cell? ⟨w.heap.size, 5, none⟩ = some (.int .u64 e.block) ∧ w'.cell? ⟨w.heap.size, 6, none⟩ = some (.int .u64 e.many) ∧ w'.cell? ⟨w.heap.size, 7, none⟩ = some (.int .i64 e.node) ∧ w'.cell? ⟨w.heap.size, 8, none⟩ = some (.int .i64 e.level) ∧ w'.cell? ⟨w.heap.size, 9, none⟩ = some (.string e.data) ∧ w'.cell? ⟨w.heap.size, 10, none⟩ = some (.string e.old)) := by
      intro W hW
      refine (fields_any2 W).mono ?_
      rintro q w' ⟨b, h1, h2, h3⟩
      have hb : Below w1.heap.size w1 w' := hW.trans (h3.mono hW.size)
      have hk : w'.heap[w.heap.size]? = some (.cells (ec e) 24 (0, 0)) := (hb.block _ (Array.getElem?_eq_some_iff.1 HK1.out).1).trans HK1.out
      exact ⟨b, h1, h2, HB1.out.trans (hb.mono HB1.out.size), hk, cell_of_row w' _ 0 _ 24 (0, 0) hk, cell_of_row w' _ 1 _ 24 (0, 0) hk, cell_of_row w' _ 2 _ 24 (0, 0) hk, cell_of_row w' _ 3 _ 24 (0, 0) hk, cell_of_row w' _ 4 _ 24 (0, 0) hk, cell_of_row w' _ 5 _ 24 (0, 0) hk, cell_of_row w' _ 6 _ 24 (0, 0) hk, cell_of_row w' _ 7 _ 24 (0, 0) hk, cell_of_row w' _ 8 _ 24 (0, 0) hk, cell_of_row w' _ 9 _ 24 (0, 0) hk, cell_of_row w' _ 10 _ 24 (0, 0) hk⟩
    have K31 : Hid (∀ (b : Nat) (W : World), Flds b W → Below w.heap.size w W → W.heap[w.heap.size]? = some (.cells (ec e) 24 (0, 0)) → Calls Tryz.prog 63 #[.slice (some ⟨b, 0, none⟩) 12 12, ev e] W fun q w' => q = .returned (.string (sbE e)) ∧ Below w.heap.size w w' ∧ w'.cell? ⟨w.heap.size, 0, none⟩ = some (.int .u64 e.term) ∧ w'.cell? ⟨w.heap.size, 1, none⟩ = some (.int .u64 e.index) ∧ w'.cell? ⟨w.heap.size, 2, none⟩ = some (.int .i64 e.kind) ∧ w'.cell? ⟨w.heap.size, 3, none⟩ = some (.int .u64 e.client) ∧ w'.cell? ⟨w.heap.size, 4, none⟩ = some (.int .u64 e.seq) ∧ w'.cell? ⟨w.heap.size, 5, none⟩ = some (.int .u64 e.block) ∧ w'.cell? ⟨w.heap.size, 6, none⟩ = some (.int .u64 e.many) ∧ w'.cell? ⟨w.heap.size, 7, none⟩ = some (.int .i64 e.node) ∧ w'.cell? ⟨w.heap.size, 8, none⟩ = some (.int .i64 e.level) ∧ w'.cell? ⟨w.heap.size, 9, none⟩ = some (.string e.data) ∧ w'.cell? ⟨w.heap.size, 10, none⟩ = some (.string e.old)) := by
      intro b W h1 h2 hk
      refine (putFields_any b e W HOK.out HFW.out h1).mono fun q w' ⟨h3, h4⟩ => ?_
      have hk2 : w'.heap[w.heap.size]? = some (.cells (ec e) 24 (0, 0)) := (h4.block _ (Array.getElem?_eq_some_iff.1 hk).1).trans hk
      exact ⟨h3, h2.trans (h4.mono h2.size), cell_of_row w' _ 0 _ 24 (0, 0) hk2, cell_of_row w' _ 1 _ 24 (0, 0) hk2, cell_of_row w' _ 2 _ 24 (0, 0) hk2, cell_of_row w' _ 3 _ 24 (0, 0) hk2, cell_of_row w' _ 4 _ 24 (0, 0) hk2, cell_of_row w' _ 5 _ 24 (0, 0) hk2, cell_of_row w' _ 6 _ 24 (0, 0) hk2, cell_of_row w' _ 7 _ 24 (0, 0) hk2, cell_of_row w' _ 8 _ 24 (0, 0) hk2, cell_of_row w' _ 9 _ 24 (0, 0) hk2, cell_of_row w' _ 10 _ 24 (0, 0) hk2⟩
    have bd : Below w1.heap.size w1 w1.drew := (Below.refl _ w1).drew
    go_wp2_with fail
    go_region_held3 (fun w' => w'.cell? ⟨w.heap.size, 0, none⟩ = some (.int .u64 e.term) ∧ w'.cell? ⟨w.heap.size, 1, none⟩ = some (.int .u64 e.index) ∧ w'.cell? ⟨w.heap.size, 2, none⟩ = some (.int .i64 e.kind) ∧ w'.cell? ⟨w.heap.size, 3, none⟩ = some (.int .u64 e.client) ∧ w'.cell? ⟨w.heap.size, 4, none⟩ = some (.int .u64 e.seq) ∧ w'.cell? ⟨w.heap.size, 5, none⟩ = some (.int .u64 e.block) ∧ w'.cell? ⟨w.heap.size, 6, none⟩ = some (.int .u64 e.many) ∧ w'.cell? ⟨w.heap.size, 7, none⟩ = some (.int .i64 e.node) ∧ w'.cell? ⟨w.heap.size, 8, none⟩ = some (.int .i64 e.level) ∧ w'.cell? ⟨w.heap.size, 9, none⟩ = some (.string e.data) ∧ w'.cell? ⟨w.heap.size, 10, none⟩ = some (.string e.old)) (first | exact ⟨c0, c1, c2, c3, c4, c5, c6, c7, c8, c9, c10⟩ | (refine ⟨?_, ?_, ?_, ?_, ?_, ?_, ?_, ?_, ?_, ?_, ?_⟩ <;> assumption)) (first
      | (go_at_call 64; (with_reducible refine (K32.out _ bd).mono ?_); rintro q w2 ⟨fb, rfl, hf, hb2, hk2, d0, d1, d2, d3, d4, d5, d6, d7, d8, d9, d10⟩)
      | (go_at_call 63; (with_reducible refine (K31.out _ _ hf hb2 hk2).mono ?_); rintro q w3 ⟨rfl, hb3, g0, g1, g2, g3, g4, g5, g6, g7, g8, g9, g10⟩))
    go_wp2_with fail
    go_ret2
    exact ⟨ret_pair_b HE.out.symm rfl, hb3⟩

set_option maxHeartbeats 8000000 in
set_option maxRecDepth 100000 in
theorem getEntry_any (fb g : Nat) (s : ByteArray) (bad : Bool) (w : World) (hF : Flds fb w) (h : Rd 178 g s bad w) (hm : s.size ≤ 281474976710656) :
    Calls Tryz.prog 88 #[.slice (some ⟨fb, 0, none⟩) 12 12, .pointer (some ⟨g, 0, none⟩)] w fun e w' => e = .returned (ev (gE s bad)) ∧ Rd 178 g (gT s bad) (!gO s bad) w' ∧ w.grownBy w' (some g) ∧ Stab w w' ∧ (gT s bad).size ≤ 281474976710656 ∧ (gE s bad).OkL := by
  have hlt := h.lt
  obtain ⟨W0, hW0⟩ : ∃ W0, W0 = w.alloc (Obj.cells (ec ezz) 24) := ⟨_, rfl⟩
  have b0 : Below w.heap.size w W0 := by rw [hW0]; exact (Below.refl _ _).alloc (Nat.le_refl _) _
  have k0 : W0.heap[w.heap.size]? = some (.cells (ec ezz) 24 (0, 0)) := by rw [hW0]; exact heap_alloc_new w _
  have KT := Lib.hid (takeFields_any fb g s bad W0 (hF.on (Stab.below b0)) (h.below b0 hlt) hm)
  have HW := Lib.hid hW0
  have HB := Lib.hid b0
  have HK := Lib.hid k0
  have HLT := Lib.hid hlt
  have HG : Hid ((gO s bad = false → gE s bad = ezz ∧ gT s bad = ⟨#[]⟩) ∧ (gO s bad = true → gE s bad = (eR s bad).1 ∧ gT s bad = (eR s bad).2.1)) := ⟨gO_no, gO_yes⟩
  have HO : Hid (gO s bad = (!(eR s bad).2.2 && rightB (eR s bad).1)) := rfl
  obtain ⟨E, hE⟩ : ∃ E, E = (eR s bad).1 := ⟨_, rfl⟩
  obtain ⟨T, hT⟩ : ∃ T, T = (eR s bad).2.1 := ⟨_, rfl⟩
  obtain ⟨bf, hbf⟩ : ∃ bf, bf = (eR s bad).2.2 := ⟨_, rfl⟩
  rw [← hE, ← hT] at HG
  rw [← hE, ← hbf] at HO
  rw [← hE, ← hT, ← hbf] at KT
  obtain ⟨go, hgo⟩ : ∃ go, go = gO s bad := ⟨_, rfl⟩
  rw [← hgo] at HG HO ⊢
  obtain ⟨GE, hGE⟩ : ∃ GE, GE = gE s bad := ⟨_, rfl⟩
  obtain ⟨GT, hGT⟩ : ∃ GT, GT = gT s bad := ⟨_, rfl⟩
  rw [← hGE, ← hGT] at HG ⊢
  clear hW0 b0 k0 hlt hF h hm hE hT hbf hgo hGE hGT
  go_enter Tryz.func88, Tryz.ntmps88
  go_wp2_with fail
  rw [← HW.out]
  refine KT.out.mono ?_
  rintro q w1 ⟨rfl, R1, g1, s1, z1, ok1⟩
  have hlt2 : w.heap.size < W0.heap.size := (Array.getElem?_eq_some_iff.1 HK.out).1
  have HK1 : Hid (w1.heap[w.heap.size]? = some (.cells (ec ezz) 24 (0, 0))) := (g1.block _ hlt2 (by have := HLT.out; simp; omega)).trans HK.out
  have HG1 : Hid (w.grownBy w1 (some g)) := ⟨g1.os.trans HB.out.os, g1.tape.trans HB.out.tape, g1.output.trans HB.out.output, Nat.le_trans HB.out.size g1.size, fun i hi hne => (g1.block i (by omega) hne).trans (HB.out.block i hi)⟩
  have HS1 : Hid (Stab w w1) := (Stab.below HB.out).trans s1
  obtain ⟨W2, hW2⟩ : ∃ W2, W2 = w1.alloc (Obj.cells (ec E) 24) := ⟨_, rfl⟩
  have b2 : Below w1.heap.size w1 W2 := by rw [hW2]; exact (Below.refl _ _).alloc (Nat.le_refl _) _
  have HR2 : Hid (Rd 178 g T bf W2) := R1.below b2 R1.lt
  have HK2 : Hid (W2.heap[w.heap.size]? = some (.cells (ec ezz) 24 (0, 0))) := (b2.block _ (Array.getElem?_eq_some_iff.1 HK1.out).1).trans HK1.out
  have HE2 : Hid (W2.heap[w1.heap.size]? = some (.cells (ec E) 24 (0, 0))) := by show _ = _; rw [hW2]; exact heap_alloc_new w1 _
  have HG2 : Hid (w.grownBy W2 (some g)) := gb_below_b HG1.out b2
  have HS2 : Hid (Stab w W2) := HS1.out.trans (Stab.below b2)
  have HW2 := Lib.hid hW2
  have HZ1 := Lib.hid z1
  have HOK1 := Lib.hid ok1
  have KO := Lib.hid (ok_any g T bf W2 HR2.out)
  have KR := Lib.hid (rightL_any E W2 ok1)
  clear R1 g1 s1 z1 ok1 hlt2 hW2 b2 KT HK1 HG1 HS1
  cases bf with
  | true =>
    have hgo : go = false := HO.out
    subst hgo
    have HGF := Lib.hid (HG.out.1 rfl)
    clear HG HO
    go_wp2_with fail
    rw [← HW2.out]
    refine KO.out.mono ?_
    rintro q w3 ⟨rfl, rfl⟩
    go_wp2_with fail
    refine (fail_any g T _ W2 HR2.out).mono ?_
    rintro q w5 ⟨rfl, R5, g5⟩
    have HR5 := Lib.hid R5
    have HK5 : Hid (w5.heap[w.heap.size]? = some (.cells (ec ezz) 24 (0, 0))) := (g5.block _ (Array.getElem?_eq_some_iff.1 HK2.out).1 (by have := HLT.out; simp; omega)).trans HK2.out
    have HG5 : Hid (w.grownBy w5 (some g)) := HG2.out.trans g5
    have HS5 : Hid (Stab w w5) := HS2.out.trans (Stab.grown g5 HR2.out (.inr (.inl rfl)))
    clear R5 g5
    have z0 : w5.cell? ⟨w.heap.size, 0, none⟩ = some (.int .u64 0) := cell_of_row w5 _ 0 _ 24 (0, 0) HK5.out
    have z1 : w5.cell? ⟨w.heap.size, 1, none⟩ = some (.int .u64 0) := cell_of_row w5 _ 1 _ 24 (0, 0) HK5.out
    have z2 : w5.cell? ⟨w.heap.size, 2, none⟩ = some (.int .i64 0) := cell_of_row w5 _ 2 _ 24 (0, 0) HK5.out
    have z3 : w5.cell? ⟨w.heap.size, 3, none⟩ = some (.int .u64 0) := cell_of_row w5 _ 3 _ 24 (0, 0) HK5.out
    have z4 : w5.cell? ⟨w.heap.size, 4, none⟩ = some (.int .u64 0) := cell_of_row w5 _ 4 _ 24 (0, 0) HK5.out
    have z5 : w5.cell? ⟨w.heap.size, 5, none⟩ = some (.int .u64 0) := cell_of_row w5 _ 5 _ 24 (0, 0) HK5.out
    have z6 : w5.cell? ⟨w.heap.size, 6, none⟩ = some (.int .u64 0) := cell_of_row w5 _ 6 _ 24 (0, 0) HK5.out
    have z7 : w5.cell? ⟨w.heap.size, 7, none⟩ = some (.int .i64 0) := cell_of_row w5 _ 7 _ 24 (0, 0) HK5.out
    have z8 : w5.cell? ⟨w.heap.size, 8, none⟩ = some (.int .i64 0) := cell_of_row w5 _ 8 _ 24 (0, 0) HK5.out
    have z9 : w5.cell? ⟨w.heap.size, 9, none⟩ = some (.string ⟨#[]⟩) := cell_of_row w5 _ 9 _ 24 (0, 0) HK5.out
    have z10 : w5.cell? ⟨w.heap.size, 10, none⟩ = some (.string ⟨#[]⟩) := cell_of_row w5 _ 10 _ 24 (0, 0) HK5.out
    have fz : ∀ i, w5.frozen? ⟨w.heap.size, i, none⟩ = false := fun i => Lib.frozen_of_heap HK5.out i
    have hblk := store_wre ezz HK5.out
    obtain ⟨WF, hWF⟩ : ∃ WF, WF = wre w5 w.heap.size ezz := ⟨_, rfl⟩
    rw [← hWF] at hblk
    have HWF := Lib.hid hWF
    have HBK := Lib.hid hblk
    clear hWF hblk
    go_wp2
    have hWF2 := HWF.out
    unfold wre at hWF2
    rw [← hWF2]
    clear hWF2
    have f0 : WF.cell? ⟨w.heap.size, 0, none⟩ = some (.int .u64 0) := cell_of_row WF _ 0 _ 24 (0, 0) HBK.out
    have f1 : WF.cell? ⟨w.heap.size, 1, none⟩ = some (.int .u64 0) := cell_of_row WF _ 1 _ 24 (0, 0) HBK.out
    have f2 : WF.cell? ⟨w.heap.size, 2, none⟩ = some (.int .i64 0) := cell_of_row WF _ 2 _ 24 (0, 0) HBK.out
    have f3 : WF.cell? ⟨w.heap.size, 3, none⟩ = some (.int .u64 0) := cell_of_row WF _ 3 _ 24 (0, 0) HBK.out
    have f4 : WF.cell? ⟨w.heap.size, 4, none⟩ = some (.int .u64 0) := cell_of_row WF _ 4 _ 24 (0, 0) HBK.out
    have f5 : WF.cell? ⟨w.heap.size, 5, none⟩ = some (.int .u64 0) := cell_of_row WF _ 5 _ 24 (0, 0) HBK.out
    have f6 : WF.cell? ⟨w.heap.size, 6, none⟩ = some (.int .u64 0) := cell_of_row WF _ 6 _ 24 (0, 0) HBK.out
    have f7 : WF.cell? ⟨w.heap.size, 7, none⟩ = some (.int .i64 0) := cell_of_row WF _ 7 _ 24 (0, 0) HBK.out
    have f8 : WF.cell? ⟨w.heap.size, 8, none⟩ = some (.int .i64 0) := cell_of_row WF _ 8 _ 24 (0, 0) HBK.out
    have f9 : WF.cell? ⟨w.heap.size, 9, none⟩ = some (.string ⟨#[]⟩) := cell_of_row WF _ 9 _ 24 (0, 0) HBK.out
    have f10 : WF.cell? ⟨w.heap.size, 10, none⟩ = some (.string ⟨#[]⟩) := cell_of_row WF _ 10 _ 24 (0, 0) HBK.out
    exact bodyPost_ret (v := ev ezz) (by simp [results, Tryz.results88, go_sem, f0, f1, f2, f3, f4, f5, f6, f7, f8, f9, f10]) rfl ⟨by rw [(HGF.out).1], by rw [(HGF.out).2, HWF.out]; exact (heap_wre w5 w.heap.size g ezz (by have := HLT.out; omega)).trans HR5.out, by rw [HWF.out]; exact gb_wre ezz HG5.out (Nat.le_refl _), by rw [HWF.out]; exact stab_wre ezz HS5.out ⟨_, HK5.out⟩, by rw [(HGF.out).2]; exact Nat.zero_le _, by rw [(HGF.out).1]; exact ezz_ok⟩
  | false =>
    obtain ⟨rb, hrb⟩ : ∃ rb, rb = rightB E := ⟨_, rfl⟩
    rw [← hrb] at HO KR
    have hgo : go = rb := HO.out
    subst hgo
    clear hrb HO
    have e0 : W2.cell? ⟨w1.heap.size, 0, none⟩ = some (.int .u64 E.term) := cell_of_row W2 _ 0 _ 24 (0, 0) HE2.out
    have e1 : W2.cell? ⟨w1.heap.size, 1, none⟩ = some (.int .u64 E.index) := cell_of_row W2 _ 1 _ 24 (0, 0) HE2.out
    have e2 : W2.cell? ⟨w1.heap.size, 2, none⟩ = some (.int .i64 E.kind) := cell_of_row W2 _ 2 _ 24 (0, 0) HE2.out
    have e3 : W2.cell? ⟨w1.heap.size, 3, none⟩ = some (.int .u64 E.client) := cell_of_row W2 _ 3 _ 24 (0, 0) HE2.out
    have e4 : W2.cell? ⟨w1.heap.size, 4, none⟩ = some (.int .u64 E.seq) := cell_of_row W2 _ 4 _ 24 (0, 0) HE2.out
    have e5 : W2.cell? ⟨w1.heap.size, 5, none⟩ = some (.int .u64 E.block) := cell_of_row W2 _ 5 _ 24 (0, 0) HE2.out
    have e6 : W2.cell? ⟨w1.heap.size, 6, none⟩ = some (.int .u64 E.many) := cell_of_row W2 _ 6 _ 24 (0, 0) HE2.out
    have e7 : W2.cell? ⟨w1.heap.size, 7, none⟩ = some (.int .i64 E.node) := cell_of_row W2 _ 7 _ 24 (0, 0) HE2.out
    have e8 : W2.cell? ⟨w1.heap.size, 8, none⟩ = some (.int .i64 E.level) := cell_of_row W2 _ 8 _ 24 (0, 0) HE2.out
    have e9 : W2.cell? ⟨w1.heap.size, 9, none⟩ = some (.string E.data) := cell_of_row W2 _ 9 _ 24 (0, 0) HE2.out
    have e10 : W2.cell? ⟨w1.heap.size, 10, none⟩ = some (.string E.old) := cell_of_row W2 _ 10 _ 24 (0, 0) HE2.out
    go_wp2_with fail
    rw [← HW2.out]
    refine KO.out.mono ?_
    rintro q w3 ⟨rfl, rfl⟩
    go_wp2_with fail
    refine KR.out.mono ?_
    rintro q w4 ⟨rfl, b4⟩
    have HR4 : Hid (Rd 178 g T false w4) := HR2.out.below b4 HR2.out.lt
    have HK4 : Hid (w4.heap[w.heap.size]? = some (.cells (ec ezz) 24 (0, 0))) := (b4.block _ (Array.getElem?_eq_some_iff.1 HK2.out).1).trans HK2.out
    have HE4 : Hid (w4.heap[w1.heap.size]? = some (.cells (ec E) 24 (0, 0))) := (b4.block _ (Array.getElem?_eq_some_iff.1 HE2.out).1).trans HE2.out
    have HG4 : Hid (w.grownBy w4 (some g)) := gb_below_b HG2.out b4
    have HS4 : Hid (Stab w w4) := HS2.out.trans (Stab.below b4)
    clear b4 e0 e1 e2 e3 e4 e5 e6 e7 e8 e9 e10
    cases go with
    | false =>
      have HGF := Lib.hid (HG.out.1 rfl)
      clear HG
      go_wp2_with fail
      refine (fail_any g T _ w4 HR4.out).mono ?_
      rintro q w5 ⟨rfl, R5, g5⟩
      have HR5 := Lib.hid R5
      have HK5 : Hid (w5.heap[w.heap.size]? = some (.cells (ec ezz) 24 (0, 0))) := (g5.block _ (Array.getElem?_eq_some_iff.1 HK4.out).1 (by have := HLT.out; simp; omega)).trans HK4.out
      have HG5 : Hid (w.grownBy w5 (some g)) := HG4.out.trans g5
      have HS5 : Hid (Stab w w5) := HS4.out.trans (Stab.grown g5 HR4.out (.inr (.inl rfl)))
      clear R5 g5
      have z0 : w5.cell? ⟨w.heap.size, 0, none⟩ = some (.int .u64 0) := cell_of_row w5 _ 0 _ 24 (0, 0) HK5.out
      have z1 : w5.cell? ⟨w.heap.size, 1, none⟩ = some (.int .u64 0) := cell_of_row w5 _ 1 _ 24 (0, 0) HK5.out
      have z2 : w5.cell? ⟨w.heap.size, 2, none⟩ = some (.int .i64 0) := cell_of_row w5 _ 2 _ 24 (0, 0) HK5.out
      have z3 : w5.cell? ⟨w.heap.size, 3, none⟩ = some (.int .u64 0) := cell_of_row w5 _ 3 _ 24 (0, 0) HK5.out
      have z4 : w5.cell? ⟨w.heap.size, 4, none⟩ = some (.int .u64 0) := cell_of_row w5 _ 4 _ 24 (0, 0) HK5.out
      have z5 : w5.cell? ⟨w.heap.size, 5, none⟩ = some (.int .u64 0) := cell_of_row w5 _ 5 _ 24 (0, 0) HK5.out
      have z6 : w5.cell? ⟨w.heap.size, 6, none⟩ = some (.int .u64 0) := cell_of_row w5 _ 6 _ 24 (0, 0) HK5.out
      have z7 : w5.cell? ⟨w.heap.size, 7, none⟩ = some (.int .i64 0) := cell_of_row w5 _ 7 _ 24 (0, 0) HK5.out
      have z8 : w5.cell? ⟨w.heap.size, 8, none⟩ = some (.int .i64 0) := cell_of_row w5 _ 8 _ 24 (0, 0) HK5.out
      have z9 : w5.cell? ⟨w.heap.size, 9, none⟩ = some (.string ⟨#[]⟩) := cell_of_row w5 _ 9 _ 24 (0, 0) HK5.out
      have z10 : w5.cell? ⟨w.heap.size, 10, none⟩ = some (.string ⟨#[]⟩) := cell_of_row w5 _ 10 _ 24 (0, 0) HK5.out
      have fz : ∀ i, w5.frozen? ⟨w.heap.size, i, none⟩ = false := fun i => Lib.frozen_of_heap HK5.out i
      have hblk := store_wre ezz HK5.out
      obtain ⟨WF, hWF⟩ : ∃ WF, WF = wre w5 w.heap.size ezz := ⟨_, rfl⟩
      rw [← hWF] at hblk
      have HWF := Lib.hid hWF
      have HBK := Lib.hid hblk
      clear hWF hblk
      go_wp2
      have hWF2 := HWF.out
      unfold wre at hWF2
      rw [← hWF2]
      clear hWF2
      have f0 : WF.cell? ⟨w.heap.size, 0, none⟩ = some (.int .u64 0) := cell_of_row WF _ 0 _ 24 (0, 0) HBK.out
      have f1 : WF.cell? ⟨w.heap.size, 1, none⟩ = some (.int .u64 0) := cell_of_row WF _ 1 _ 24 (0, 0) HBK.out
      have f2 : WF.cell? ⟨w.heap.size, 2, none⟩ = some (.int .i64 0) := cell_of_row WF _ 2 _ 24 (0, 0) HBK.out
      have f3 : WF.cell? ⟨w.heap.size, 3, none⟩ = some (.int .u64 0) := cell_of_row WF _ 3 _ 24 (0, 0) HBK.out
      have f4 : WF.cell? ⟨w.heap.size, 4, none⟩ = some (.int .u64 0) := cell_of_row WF _ 4 _ 24 (0, 0) HBK.out
      have f5 : WF.cell? ⟨w.heap.size, 5, none⟩ = some (.int .u64 0) := cell_of_row WF _ 5 _ 24 (0, 0) HBK.out
      have f6 : WF.cell? ⟨w.heap.size, 6, none⟩ = some (.int .u64 0) := cell_of_row WF _ 6 _ 24 (0, 0) HBK.out
      have f7 : WF.cell? ⟨w.heap.size, 7, none⟩ = some (.int .i64 0) := cell_of_row WF _ 7 _ 24 (0, 0) HBK.out
      have f8 : WF.cell? ⟨w.heap.size, 8, none⟩ = some (.int .i64 0) := cell_of_row WF _ 8 _ 24 (0, 0) HBK.out
      have f9 : WF.cell? ⟨w.heap.size, 9, none⟩ = some (.string ⟨#[]⟩) := cell_of_row WF _ 9 _ 24 (0, 0) HBK.out
      have f10 : WF.cell? ⟨w.heap.size, 10, none⟩ = some (.string ⟨#[]⟩) := cell_of_row WF _ 10 _ 24 (0, 0) HBK.out
      exact bodyPost_ret (v := ev ezz) (by simp [results, Tryz.results88, go_sem, f0, f1, f2, f3, f4, f5, f6, f7, f8, f9, f10]) rfl ⟨by rw [(HGF.out).1], by rw [(HGF.out).2, HWF.out]; exact (heap_wre w5 w.heap.size g ezz (by have := HLT.out; omega)).trans HR5.out, by rw [HWF.out]; exact gb_wre ezz HG5.out (Nat.le_refl _), by rw [HWF.out]; exact stab_wre ezz HS5.out ⟨_, HK5.out⟩, by rw [(HGF.out).2]; exact Nat.zero_le _, by rw [(HGF.out).1]; exact ezz_ok⟩
    | true =>
      have HGF := Lib.hid (HG.out.2 rfl)
      clear HG
      have e0 : w4.cell? ⟨w1.heap.size, 0, none⟩ = some (.int .u64 E.term) := cell_of_row w4 _ 0 _ 24 (0, 0) HE4.out
      have e1 : w4.cell? ⟨w1.heap.size, 1, none⟩ = some (.int .u64 E.index) := cell_of_row w4 _ 1 _ 24 (0, 0) HE4.out
      have e2 : w4.cell? ⟨w1.heap.size, 2, none⟩ = some (.int .i64 E.kind) := cell_of_row w4 _ 2 _ 24 (0, 0) HE4.out
      have e3 : w4.cell? ⟨w1.heap.size, 3, none⟩ = some (.int .u64 E.client) := cell_of_row w4 _ 3 _ 24 (0, 0) HE4.out
      have e4 : w4.cell? ⟨w1.heap.size, 4, none⟩ = some (.int .u64 E.seq) := cell_of_row w4 _ 4 _ 24 (0, 0) HE4.out
      have e5 : w4.cell? ⟨w1.heap.size, 5, none⟩ = some (.int .u64 E.block) := cell_of_row w4 _ 5 _ 24 (0, 0) HE4.out
      have e6 : w4.cell? ⟨w1.heap.size, 6, none⟩ = some (.int .u64 E.many) := cell_of_row w4 _ 6 _ 24 (0, 0) HE4.out
      have e7 : w4.cell? ⟨w1.heap.size, 7, none⟩ = some (.int .i64 E.node) := cell_of_row w4 _ 7 _ 24 (0, 0) HE4.out
      have e8 : w4.cell? ⟨w1.heap.size, 8, none⟩ = some (.int .i64 E.level) := cell_of_row w4 _ 8 _ 24 (0, 0) HE4.out
      have e9 : w4.cell? ⟨w1.heap.size, 9, none⟩ = some (.string E.data) := cell_of_row w4 _ 9 _ 24 (0, 0) HE4.out
      have e10 : w4.cell? ⟨w1.heap.size, 10, none⟩ = some (.string E.old) := cell_of_row w4 _ 10 _ 24 (0, 0) HE4.out
      have z0 : w4.cell? ⟨w.heap.size, 0, none⟩ = some (.int .u64 0) := cell_of_row w4 _ 0 _ 24 (0, 0) HK4.out
      have z1 : w4.cell? ⟨w.heap.size, 1, none⟩ = some (.int .u64 0) := cell_of_row w4 _ 1 _ 24 (0, 0) HK4.out
      have z2 : w4.cell? ⟨w.heap.size, 2, none⟩ = some (.int .i64 0) := cell_of_row w4 _ 2 _ 24 (0, 0) HK4.out
      have z3 : w4.cell? ⟨w.heap.size, 3, none⟩ = some (.int .u64 0) := cell_of_row w4 _ 3 _ 24 (0, 0) HK4.out
      have z4 : w4.cell? ⟨w.heap.size, 4, none⟩ = some (.int .u64 0) := cell_of_row w4 _ 4 _ 24 (0, 0) HK4.out
      have z5 : w4.cell? ⟨w.heap.size, 5, none⟩ = some (.int .u64 0) := cell_of_row w4 _ 5 _ 24 (0, 0) HK4.out
      have z6 : w4.cell? ⟨w.heap.size, 6, none⟩ = some (.int .u64 0) := cell_of_row w4 _ 6 _ 24 (0, 0) HK4.out
      have z7 : w4.cell? ⟨w.heap.size, 7, none⟩ = some (.int .i64 0) := cell_of_row w4 _ 7 _ 24 (0, 0) HK4.out
      have z8 : w4.cell? ⟨w.heap.size, 8, none⟩ = some (.int .i64 0) := cell_of_row w4 _ 8 _ 24 (0, 0) HK4.out
      have z9 : w4.cell? ⟨w.heap.size, 9, none⟩ = some (.string ⟨#[]⟩) := cell_of_row w4 _ 9 _ 24 (0, 0) HK4.out
      have z10 : w4.cell? ⟨w.heap.size, 10, none⟩ = some (.string ⟨#[]⟩) := cell_of_row w4 _ 10 _ 24 (0, 0) HK4.out
      have fz : ∀ i, w4.frozen? ⟨w.heap.size, i, none⟩ = false := fun i => Lib.frozen_of_heap HK4.out i
      have hblk := store_wre E HK4.out
      obtain ⟨WF, hWF⟩ : ∃ WF, WF = wre w4 w.heap.size E := ⟨_, rfl⟩
      rw [← hWF] at hblk
      have HWF := Lib.hid hWF
      have HBK := Lib.hid hblk
      clear hWF hblk
      go_wp2
      have hWF2 := HWF.out
      unfold wre at hWF2
      rw [← hWF2]
      clear hWF2
      have f0 : WF.cell? ⟨w.heap.size, 0, none⟩ = some (.int .u64 E.term) := cell_of_row WF _ 0 _ 24 (0, 0) HBK.out
      have f1 : WF.cell? ⟨w.heap.size, 1, none⟩ = some (.int .u64 E.index) := cell_of_row WF _ 1 _ 24 (0, 0) HBK.out
      have f2 : WF.cell? ⟨w.heap.size, 2, none⟩ = some (.int .i64 E.kind) := cell_of_row WF _ 2 _ 24 (0, 0) HBK.out
      have f3 : WF.cell? ⟨w.heap.size, 3, none⟩ = some (.int .u64 E.client) := cell_of_row WF _ 3 _ 24 (0, 0) HBK.out
      have f4 : WF.cell? ⟨w.heap.size, 4, none⟩ = some (.int .u64 E.seq) := cell_of_row WF _ 4 _ 24 (0, 0) HBK.out
      have f5 : WF.cell? ⟨w.heap.size, 5, none⟩ = some (.int .u64 E.block) := cell_of_row WF _ 5 _ 24 (0, 0) HBK.out
      have f6 : WF.cell? ⟨w.heap.size, 6, none⟩ = some (.int .u64 E.many) := cell_of_row WF _ 6 _ 24 (0, 0) HBK.out
      have f7 : WF.cell? ⟨w.heap.size, 7, none⟩ = some (.int .i64 E.node) := cell_of_row WF _ 7 _ 24 (0, 0) HBK.out
      have f8 : WF.cell? ⟨w.heap.size, 8, none⟩ = some (.int .i64 E.level) := cell_of_row WF _ 8 _ 24 (0, 0) HBK.out
      have f9 : WF.cell? ⟨w.heap.size, 9, none⟩ = some (.string E.data) := cell_of_row WF _ 9 _ 24 (0, 0) HBK.out
      have f10 : WF.cell? ⟨w.heap.size, 10, none⟩ = some (.string E.old) := cell_of_row WF _ 10 _ 24 (0, 0) HBK.out
      exact bodyPost_ret (v := ev E) (by simp [results, Tryz.results88, go_sem, f0, f1, f2, f3, f4, f5, f6, f7, f8, f9, f10]) rfl ⟨by rw [HGF.out.1], by rw [HGF.out.2, HWF.out]; exact (heap_wre w4 w.heap.size g E (by have := HLT.out; omega)).trans HR4.out, by rw [HWF.out]; exact gb_wre E HG4.out (Nat.le_refl _), by rw [HWF.out]; exact stab_wre E HS4.out ⟨_, HK4.out⟩, by rw [HGF.out.2]; exact HZ1.out, by rw [HGF.out.1]; exact HOK1.out⟩


set_option maxHeartbeats 4000000 in
set_option maxRecDepth 100000 in
theorem getE_any (g : Nat) (s : ByteArray) (bad : Bool) (w : World) (h : Rd 178 g s bad w) (hm : s.size ≤ 281474976710656) :
    Calls Tryz.prog 40 #[.pointer (some ⟨g, 0, none⟩)] w fun e w' => e = .returned (ev (gE s bad)) ∧ Rd 178 g (gT s bad) (!gO s bad) w' ∧ w.grownBy w' (some g) := by
  have hlt := h.lt
  obtain ⟨W0, hW0⟩ : ∃ W0, W0 = w.alloc (Obj.cells (ec ezz) 24) := ⟨_, rfl⟩
  have b0 : Below w.heap.size w W0 := by rw [hW0]; exact (Below.refl _ _).alloc (Nat.le_refl _) _
  have k0 : W0.heap[w.heap.size]? = some (.cells (ec ezz) 24 (0, 0)) := by rw [hW0]; exact heap_alloc_new w _
  have hr0 : Rd 178 g s bad W0 := h.below b0 hlt
  have KF := Lib.hid (fields_any2 W0)
  have KG := Lib.hid (fun (fb : Nat) (W : World) (h1 : Flds fb W) (h2 : Rd 178 g s bad W) => getEntry_any fb g s bad W h1 h2 hm)
  have HW := Lib.hid hW0
  have HB := Lib.hid b0
  have HK := Lib.hid k0
  have HR := Lib.hid hr0
  have HLT := Lib.hid hlt
  obtain ⟨E, hE⟩ : ∃ E, E = gE s bad := ⟨_, rfl⟩
  rw [← hE] at KG ⊢
  clear hW0 b0 k0 hr0 hlt h hm hE
  go_enter Tryz.func40, Tryz.ntmps40
  go_wp2_with fail
  rw [← HW.out]
  refine KF.out.mono ?_
  rintro q w1 ⟨fb, rfl, f1, b1⟩
  have HR1 : Hid (Rd 178 g s bad w1) := HR.out.below b1 HR.out.lt
  have HK1 : Hid (w1.heap[w.heap.size]? = some (.cells (ec ezz) 24 (0, 0))) := (b1.block _ (Array.getElem?_eq_some_iff.1 HK.out).1).trans HK.out
  have HB1 : Hid (Below w.heap.size w w1) := HB.out.trans (b1.mono HB.out.size)
  go_wp2_with fail
  refine (KG.out _ _ f1 HR1.out).mono ?_
  rintro q w2 ⟨rfl, R2, g2, _⟩
  have HR2 := Lib.hid R2
  have HK2 : Hid (w2.heap[w.heap.size]? = some (.cells (ec ezz) 24 (0, 0))) := (g2.block _ (Array.getElem?_eq_some_iff.1 HK1.out).1 (by have := HLT.out; simp; omega)).trans HK1.out
  have HG2 : Hid (w.grownBy w2 (some g)) := ⟨g2.os.trans HB1.out.os, g2.tape.trans HB1.out.tape, g2.output.trans HB1.out.output, Nat.le_trans HB1.out.size g2.size, fun i hi hne => (g2.block i (Nat.lt_of_lt_of_le hi HB1.out.size) hne).trans (HB1.out.block i hi)⟩
  clear R2 g2 f1 b1
  have z0 : w2.cell? ⟨w.heap.size, 0, none⟩ = some (.int .u64 0) := cell_of_row w2 _ 0 _ 24 (0, 0) HK2.out
  have z1 : w2.cell? ⟨w.heap.size, 1, none⟩ = some (.int .u64 0) := cell_of_row w2 _ 1 _ 24 (0, 0) HK2.out
  have z2 : w2.cell? ⟨w.heap.size, 2, none⟩ = some (.int .i64 0) := cell_of_row w2 _ 2 _ 24 (0, 0) HK2.out
  have z3 : w2.cell? ⟨w.heap.size, 3, none⟩ = some (.int .u64 0) := cell_of_row w2 _ 3 _ 24 (0, 0) HK2.out
  have z4 : w2.cell? ⟨w.heap.size, 4, none⟩ = some (.int .u64 0) := cell_of_row w2 _ 4 _ 24 (0, 0) HK2.out
  have z5 : w2.cell? ⟨w.heap.size, 5, none⟩ = some (.int .u64 0) := cell_of_row w2 _ 5 _ 24 (0, 0) HK2.out
  have z6 : w2.cell? ⟨w.heap.size, 6, none⟩ = some (.int .u64 0) := cell_of_row w2 _ 6 _ 24 (0, 0) HK2.out
  have z7 : w2.cell? ⟨w.heap.size, 7, none⟩ = some (.int .i64 0) := cell_of_row w2 _ 7 _ 24 (0, 0) HK2.out
  have z8 : w2.cell? ⟨w.heap.size, 8, none⟩ = some (.int .i64 0) := cell_of_row w2 _ 8 _ 24 (0, 0) HK2.out
  have z9 : w2.cell? ⟨w.heap.size, 9, none⟩ = some (.string ⟨#[]⟩) := cell_of_row w2 _ 9 _ 24 (0, 0) HK2.out
  have z10 : w2.cell? ⟨w.heap.size, 10, none⟩ = some (.string ⟨#[]⟩) := cell_of_row w2 _ 10 _ 24 (0, 0) HK2.out
  have fz : ∀ i, w2.frozen? ⟨w.heap.size, i, none⟩ = false := fun i => Lib.frozen_of_heap HK2.out i
  have hblk := store_wre E HK2.out
  obtain ⟨WF, hWF⟩ : ∃ WF, WF = wre w2 w.heap.size E := ⟨_, rfl⟩
  rw [← hWF] at hblk
  have HWF := Lib.hid hWF
  have HBK := Lib.hid hblk
  clear hWF hblk
  go_wp2
  have hWF2 := HWF.out
  unfold wre at hWF2
  rw [← hWF2]
  clear hWF2
  have f0 : WF.cell? ⟨w.heap.size, 0, none⟩ = some (.int .u64 E.term) := cell_of_row WF _ 0 _ 24 (0, 0) HBK.out
  have f1 : WF.cell? ⟨w.heap.size, 1, none⟩ = some (.int .u64 E.index) := cell_of_row WF _ 1 _ 24 (0, 0) HBK.out
  have f2 : WF.cell? ⟨w.heap.size, 2, none⟩ = some (.int .i64 E.kind) := cell_of_row WF _ 2 _ 24 (0, 0) HBK.out
  have f3 : WF.cell? ⟨w.heap.size, 3, none⟩ = some (.int .u64 E.client) := cell_of_row WF _ 3 _ 24 (0, 0) HBK.out
  have f4 : WF.cell? ⟨w.heap.size, 4, none⟩ = some (.int .u64 E.seq) := cell_of_row WF _ 4 _ 24 (0, 0) HBK.out
  have f5 : WF.cell? ⟨w.heap.size, 5, none⟩ = some (.int .u64 E.block) := cell_of_row WF _ 5 _ 24 (0, 0) HBK.out
  have f6 : WF.cell? ⟨w.heap.size, 6, none⟩ = some (.int .u64 E.many) := cell_of_row WF _ 6 _ 24 (0, 0) HBK.out
  have f7 : WF.cell? ⟨w.heap.size, 7, none⟩ = some (.int .i64 E.node) := cell_of_row WF _ 7 _ 24 (0, 0) HBK.out
  have f8 : WF.cell? ⟨w.heap.size, 8, none⟩ = some (.int .i64 E.level) := cell_of_row WF _ 8 _ 24 (0, 0) HBK.out
  have f9 : WF.cell? ⟨w.heap.size, 9, none⟩ = some (.string E.data) := cell_of_row WF _ 9 _ 24 (0, 0) HBK.out
  have f10 : WF.cell? ⟨w.heap.size, 10, none⟩ = some (.string E.old) := cell_of_row WF _ 10 _ 24 (0, 0) HBK.out
  exact bodyPost_ret (v := ev E) (by simp [results, Tryz.results40, go_sem, f0, f1, f2, f3, f4, f5, f6, f7, f8, f9, f10]) rfl ⟨rfl, by rw [HWF.out]; exact (heap_wre w2 w.heap.size g E (by have := HLT.out; omega)).trans HR2.out, by rw [HWF.out]; exact gb_wre E HG2.out (Nat.le_refl _)⟩
end Go.Proofs.YtpdbeijfchmlgaaGreat
namespace Go.Proofs.YtpdbeijfchmlgaaGreat
open Go.RowKit
open Vi
set_option linter.unusedVariables false
set_option linter.unusedSimpArgs false

theorem look_one {T E : TypeId} {g clock i : Nat} {es : Array MapEntry} (c : Int) (v : Value) {w : World} (hT : Tryz.prog.underlying T = some (.map 3 E)) (hb : w.heap[g]? = some (.map es clock))
    (hf : Instr.findNow (.int .i64) (.int .i64 c) es.toList 0 = some (some (i, v))) :
    (Instr.lookup T (.map (some g)) (.int .i64 c) false).run Tryz.prog w = .ok v w := by
  have hk : Tryz.prog.underlying 3 = some (.int .i64) := Tryz.underlying3
  have hc : (Instr.checkKey es.isEmpty 10000 3 (.int .i64 c)).run Tryz.prog w = .ok () w := MapKept.run_checkKey (k := .int .i64 c) hk (by simp [MapKept.IsKey]) es.isEmpty 9999
  simp [Instr.lookup, run_underlying hT, MapKept.run_getObj_map hb, hc, MapKept.run_findKey hk hf, Result.andThen]
abbrev wz (w : World) (g : Nat) (E : En) : World := (((((((((((w.setCell ⟨g, 0, none⟩ (.int .u64 E.term)).setCell ⟨g, 1, none⟩ (.int .u64 E.index)).setCell ⟨g, 2, none⟩ (.int .i64 E.kind)).setCell ⟨g, 3, none⟩ (.int .u64 E.client)).setCell ⟨g, 4, none⟩ (.int .u64 E.seq)).setCell ⟨g, 5, none⟩ (.int .u64 E.block)).setCell ⟨g, 6, none⟩ (.int .u64 E.many)).setCell ⟨g, 7, none⟩ (.int .i64 E.node)).setCell ⟨g, 8, none⟩ (.int .i64 E.level)).setCell ⟨g, 9, none⟩ (.string E.data)).setCell ⟨g, 10, none⟩ (.string E.old))
/-- Is what a codec read all of the text? The entry then. -/
def whO (b : Bool) (T : ByteArray) : Bool := !b && decide (T.size = 0)
def whE (X : En) (b : Bool) (T : ByteArray) : En := if whO b T then X else ezz
abbrev whv (a : Nat) : Value := .func (.func 79) #[] #[.pointer (some ⟨a, 0, none⟩)]

set_option maxHeartbeats 4000000 in
set_option maxRecDepth 100000 in
theorem whole1_any (c : Nat) (u : ByteArray) (X : En) (T : ByteArray) (b : Bool) (w : World) (hc : w.heap[c]? = some (.cells #[.func (.func 39) #[] #[]] 66 (0, 0)))
    (hK : ∀ g W, Rd 178 g u false W → Calls Tryz.prog 39 #[.pointer (some ⟨g, 0, none⟩)] W fun q w' => q = .returned (ev X) ∧ Rd 178 g T b w' ∧ W.grownBy w' (some g)) :
    Calls Tryz.prog 79 #[.string u, .pointer (some ⟨c, 0, none⟩)] w fun q w' => q = .returned (.tuple #[ev (whE X b T), .bool (whO b T)]) ∧ Below w.heap.size w w' := by
  obtain ⟨W0, hW0⟩ : ∃ W0, W0 = w.alloc (Obj.cells (ec ezz) 24) := ⟨_, rfl⟩
  have b0 : Below w.heap.size w W0 := by rw [hW0]; exact (Below.refl _ _).alloc (Nat.le_refl _) _
  have k0 : W0.heap[w.heap.size]? = some (.cells (ec ezz) 24 (0, 0)) := by rw [hW0]; exact heap_alloc_new w _
  have s0 : W0.heap.size = w.heap.size + 1 := by rw [hW0]; simp
  have hcl := (Array.getElem?_eq_some_iff.1 hc).1
  have KN := Lib.hid (new2 u W0)
  have K := Lib.hid hK
  have HC := Lib.hid hc
  have HCL := Lib.hid hcl
  have HW0 := Lib.hid hW0
  have HK0 := Lib.hid k0
  have HB0 := Lib.hid b0
  have HS0 := Lib.hid s0
  have HD : Hid ((whO b T = false → whE X b T = ezz) ∧ (whO b T = true → whE X b T = X)) := ⟨fun h => by unfold whE; rw [h]; rfl, fun h => by unfold whE; rw [h]; rfl⟩
  have HO : Hid (whO b T = (!b && decide (T.size = 0))) := rfl
  obtain ⟨Y, hY⟩ : ∃ Y, Y = whE X b T := ⟨_, rfl⟩
  obtain ⟨o, ho⟩ : ∃ o, o = whO b T := ⟨_, rfl⟩
  rw [← hY, ← ho] at HD ⊢
  rw [← ho] at HO
  clear hW0 k0 b0 s0 hc hcl hK hY ho
  go_enter Tryz.func79, Tryz.ntmps79
  go_wp2_with fail
  rw [← HW0.out]
  refine KN.out.mono ?_
  rintro q w1 ⟨rfl, R1, b1, s1⟩
  have HR1 := Lib.hid R1
  have HK1 : Hid (w1.heap[w.heap.size]? = some (.cells (ec ezz) 24 (0, 0))) := (b1.block _ (by have := HS0.out; omega)).trans HK0.out
  have HB1 : Hid (Below w.heap.size w w1) := HB0.out.trans (b1.mono HB0.out.size)
  have hcc : w1.cell? ⟨c, 0, none⟩ = some (.func (.func 39) #[] #[]) := cell_of_row w1 _ 0 _ 66 (0, 0) ((HB1.out.block _ HCL.out).trans HC.out)
  clear R1 b1 s1
  go_wp2_with fail
  refine (K.out _ _ HR1.out).mono ?_
  rintro q w2 ⟨rfl, R2, g2⟩
  have HK2 : Hid (w2.heap[w.heap.size]? = some (.cells (ec ezz) 24 (0, 0))) := (g2.block _ (Array.getElem?_eq_some_iff.1 HK1.out).1 (by have := HS0.out; simp; omega)).trans HK1.out
  have HB2 : Hid (Below w.heap.size w w2) := below_grownBy HB1.out g2 HB1.out.size (by have := HS0.out; omega)
  obtain ⟨W3, hW3⟩ : ∃ W3, W3 = w2.alloc (Obj.cells (ec X) 24) := ⟨_, rfl⟩
  have b3 : Below w2.heap.size w2 W3 := by rw [hW3]; exact (Below.refl _ _).alloc (Nat.le_refl _) _
  have HR3 : Hid (Rd 178 W0.heap.size T b W3) := R2.below b3 R2.lt
  have k3 : W3.heap[w.heap.size]? = some (.cells (ec ezz) 24 (0, 0)) := (b3.block _ (Array.getElem?_eq_some_iff.1 HK2.out).1).trans HK2.out
  have HX3 : Hid (W3.heap[w2.heap.size]? = some (.cells (ec X) 24 (0, 0))) := by show _ = _; rw [hW3]; exact heap_alloc_new w2 _
  have HB3 : Hid (Below w.heap.size w W3) := HB2.out.trans (b3.mono HB2.out.size)
  have HW3 := Lib.hid hW3
  have HK3 := Lib.hid k3
  have KO := Lib.hid (ok2 _ _ _ _ HR3.out)
  have KL := Lib.hid (left2 _ _ _ _ HR3.out)
  clear R2 g2 hW3 b3 k3 hcc
  cases b with
  | true =>
    have HOF : Hid (o = false) := HO.out
    have hof := HOF.out
    subst hof
    have HY := Lib.hid (HD.out.1 rfl)
    clear HD HO HOF
    go_wp2_with fail
    rw [← HW3.out]
    refine KO.out.mono ?_
    rintro q w4 ⟨rfl, rfl⟩
    have z0 : W3.cell? ⟨w.heap.size, 0, none⟩ = some (.int .u64 0) := cell_of_row W3 _ 0 _ 24 (0, 0) HK3.out
    have z1 : W3.cell? ⟨w.heap.size, 1, none⟩ = some (.int .u64 0) := cell_of_row W3 _ 1 _ 24 (0, 0) HK3.out
    have z2 : W3.cell? ⟨w.heap.size, 2, none⟩ = some (.int .i64 0) := cell_of_row W3 _ 2 _ 24 (0, 0) HK3.out
    have z3 : W3.cell? ⟨w.heap.size, 3, none⟩ = some (.int .u64 0) := cell_of_row W3 _ 3 _ 24 (0, 0) HK3.out
    have z4 : W3.cell? ⟨w.heap.size, 4, none⟩ = some (.int .u64 0) := cell_of_row W3 _ 4 _ 24 (0, 0) HK3.out
    have z5 : W3.cell? ⟨w.heap.size, 5, none⟩ = some (.int .u64 0) := cell_of_row W3 _ 5 _ 24 (0, 0) HK3.out
    have z6 : W3.cell? ⟨w.heap.size, 6, none⟩ = some (.int .u64 0) := cell_of_row W3 _ 6 _ 24 (0, 0) HK3.out
    have z7 : W3.cell? ⟨w.heap.size, 7, none⟩ = some (.int .i64 0) := cell_of_row W3 _ 7 _ 24 (0, 0) HK3.out
    have z8 : W3.cell? ⟨w.heap.size, 8, none⟩ = some (.int .i64 0) := cell_of_row W3 _ 8 _ 24 (0, 0) HK3.out
    have z9 : W3.cell? ⟨w.heap.size, 9, none⟩ = some (.string ⟨#[]⟩) := cell_of_row W3 _ 9 _ 24 (0, 0) HK3.out
    have z10 : W3.cell? ⟨w.heap.size, 10, none⟩ = some (.string ⟨#[]⟩) := cell_of_row W3 _ 10 _ 24 (0, 0) HK3.out
    have fz : ∀ i, W3.frozen? ⟨w.heap.size, i, none⟩ = false := fun i => Lib.frozen_of_heap HK3.out i
    obtain ⟨WF, hWF⟩ : ∃ WF, WF = wz W3 w.heap.size ezz := ⟨_, rfl⟩
    have hblk : WF.heap[w.heap.size]? = some (.cells (ec ezz) 24 (0, 0)) := by rw [hWF]; exact store_all ezz HK3.out
    have HBF : Hid (Below w.heap.size w WF) := by rw [hWF]; exact below_all ezz HB3.out (Nat.le_refl _)
    have HBK := Lib.hid hblk
    have HWF := Lib.hid hWF
    clear hblk hWF
    go_wp2
    have hWF := HWF.out
    unfold wz at hWF
    rw [← hWF]
    have f0 : WF.cell? ⟨w.heap.size, 0, none⟩ = some (.int .u64 0) := cell_of_row WF _ 0 _ 24 (0, 0) HBK.out
    have f1 : WF.cell? ⟨w.heap.size, 1, none⟩ = some (.int .u64 0) := cell_of_row WF _ 1 _ 24 (0, 0) HBK.out
    have f2 : WF.cell? ⟨w.heap.size, 2, none⟩ = some (.int .i64 0) := cell_of_row WF _ 2 _ 24 (0, 0) HBK.out
    have f3 : WF.cell? ⟨w.heap.size, 3, none⟩ = some (.int .u64 0) := cell_of_row WF _ 3 _ 24 (0, 0) HBK.out
    have f4 : WF.cell? ⟨w.heap.size, 4, none⟩ = some (.int .u64 0) := cell_of_row WF _ 4 _ 24 (0, 0) HBK.out
    have f5 : WF.cell? ⟨w.heap.size, 5, none⟩ = some (.int .u64 0) := cell_of_row WF _ 5 _ 24 (0, 0) HBK.out
    have f6 : WF.cell? ⟨w.heap.size, 6, none⟩ = some (.int .u64 0) := cell_of_row WF _ 6 _ 24 (0, 0) HBK.out
    have f7 : WF.cell? ⟨w.heap.size, 7, none⟩ = some (.int .i64 0) := cell_of_row WF _ 7 _ 24 (0, 0) HBK.out
    have f8 : WF.cell? ⟨w.heap.size, 8, none⟩ = some (.int .i64 0) := cell_of_row WF _ 8 _ 24 (0, 0) HBK.out
    have f9 : WF.cell? ⟨w.heap.size, 9, none⟩ = some (.string ⟨#[]⟩) := cell_of_row WF _ 9 _ 24 (0, 0) HBK.out
    have f10 : WF.cell? ⟨w.heap.size, 10, none⟩ = some (.string ⟨#[]⟩) := cell_of_row WF _ 10 _ 24 (0, 0) HBK.out
    exact bodyPost_ret (v := .tuple #[ev ezz, .bool false]) (by simp [results, Tryz.results79, go_sem, f0, f1, f2, f3, f4, f5, f6, f7, f8, f9, f10]) rfl ⟨by rw [HY.out], HBF.out⟩
  | false =>
    by_cases hz : T.size = 0
    · have HOF : Hid (o = true) := by have h := HO.out; rw [decide_eq_true hz] at h; exact h
      have hof := HOF.out
      subst hof
      have HY := Lib.hid (HD.out.2 rfl)
      clear HD HO HOF
      have hd : decide (0 < (T.size : Int)) = false := decide_eq_false (by omega)
      have hd2 : ¬ 0 < T.size := by omega
      go_wp2_with fail
      rw [← HW3.out]
      refine KO.out.mono ?_
      rintro q w4 ⟨rfl, rfl⟩
      go_wp2_with fail
      refine KL.out.mono ?_
      rintro q w4 ⟨rfl, rfl⟩
      have z0 : W3.cell? ⟨w.heap.size, 0, none⟩ = some (.int .u64 0) := cell_of_row W3 _ 0 _ 24 (0, 0) HK3.out
      have z1 : W3.cell? ⟨w.heap.size, 1, none⟩ = some (.int .u64 0) := cell_of_row W3 _ 1 _ 24 (0, 0) HK3.out
      have z2 : W3.cell? ⟨w.heap.size, 2, none⟩ = some (.int .i64 0) := cell_of_row W3 _ 2 _ 24 (0, 0) HK3.out
      have z3 : W3.cell? ⟨w.heap.size, 3, none⟩ = some (.int .u64 0) := cell_of_row W3 _ 3 _ 24 (0, 0) HK3.out
      have z4 : W3.cell? ⟨w.heap.size, 4, none⟩ = some (.int .u64 0) := cell_of_row W3 _ 4 _ 24 (0, 0) HK3.out
      have z5 : W3.cell? ⟨w.heap.size, 5, none⟩ = some (.int .u64 0) := cell_of_row W3 _ 5 _ 24 (0, 0) HK3.out
      have z6 : W3.cell? ⟨w.heap.size, 6, none⟩ = some (.int .u64 0) := cell_of_row W3 _ 6 _ 24 (0, 0) HK3.out
      have z7 : W3.cell? ⟨w.heap.size, 7, none⟩ = some (.int .i64 0) := cell_of_row W3 _ 7 _ 24 (0, 0) HK3.out
      have z8 : W3.cell? ⟨w.heap.size, 8, none⟩ = some (.int .i64 0) := cell_of_row W3 _ 8 _ 24 (0, 0) HK3.out
      have z9 : W3.cell? ⟨w.heap.size, 9, none⟩ = some (.string ⟨#[]⟩) := cell_of_row W3 _ 9 _ 24 (0, 0) HK3.out
      have z10 : W3.cell? ⟨w.heap.size, 10, none⟩ = some (.string ⟨#[]⟩) := cell_of_row W3 _ 10 _ 24 (0, 0) HK3.out
      have x0 : W3.cell? ⟨w2.heap.size, 0, none⟩ = some (.int .u64 X.term) := cell_of_row W3 _ 0 _ 24 (0, 0) HX3.out
      have x1 : W3.cell? ⟨w2.heap.size, 1, none⟩ = some (.int .u64 X.index) := cell_of_row W3 _ 1 _ 24 (0, 0) HX3.out
      have x2 : W3.cell? ⟨w2.heap.size, 2, none⟩ = some (.int .i64 X.kind) := cell_of_row W3 _ 2 _ 24 (0, 0) HX3.out
      have x3 : W3.cell? ⟨w2.heap.size, 3, none⟩ = some (.int .u64 X.client) := cell_of_row W3 _ 3 _ 24 (0, 0) HX3.out
      have x4 : W3.cell? ⟨w2.heap.size, 4, none⟩ = some (.int .u64 X.seq) := cell_of_row W3 _ 4 _ 24 (0, 0) HX3.out
      have x5 : W3.cell? ⟨w2.heap.size, 5, none⟩ = some (.int .u64 X.block) := cell_of_row W3 _ 5 _ 24 (0, 0) HX3.out
      have x6 : W3.cell? ⟨w2.heap.size, 6, none⟩ = some (.int .u64 X.many) := cell_of_row W3 _ 6 _ 24 (0, 0) HX3.out
      have x7 : W3.cell? ⟨w2.heap.size, 7, none⟩ = some (.int .i64 X.node) := cell_of_row W3 _ 7 _ 24 (0, 0) HX3.out
      have x8 : W3.cell? ⟨w2.heap.size, 8, none⟩ = some (.int .i64 X.level) := cell_of_row W3 _ 8 _ 24 (0, 0) HX3.out
      have x9 : W3.cell? ⟨w2.heap.size, 9, none⟩ = some (.string X.data) := cell_of_row W3 _ 9 _ 24 (0, 0) HX3.out
      have x10 : W3.cell? ⟨w2.heap.size, 10, none⟩ = some (.string X.old) := cell_of_row W3 _ 10 _ 24 (0, 0) HX3.out
      have fz : ∀ i, W3.frozen? ⟨w.heap.size, i, none⟩ = false := fun i => Lib.frozen_of_heap HK3.out i
      obtain ⟨WF, hWF⟩ : ∃ WF, WF = wz W3 w.heap.size X := ⟨_, rfl⟩
      have hblk : WF.heap[w.heap.size]? = some (.cells (ec X) 24 (0, 0)) := by rw [hWF]; exact store_all X HK3.out
      have HBF : Hid (Below w.heap.size w WF) := by rw [hWF]; exact below_all X HB3.out (Nat.le_refl _)
      have HBK := Lib.hid hblk
      have HWF := Lib.hid hWF
      clear hblk hWF
      go_wp2
      have hWF := HWF.out
      unfold wz at hWF
      rw [← hWF]
      have f0 : WF.cell? ⟨w.heap.size, 0, none⟩ = some (.int .u64 X.term) := cell_of_row WF _ 0 _ 24 (0, 0) HBK.out
      have f1 : WF.cell? ⟨w.heap.size, 1, none⟩ = some (.int .u64 X.index) := cell_of_row WF _ 1 _ 24 (0, 0) HBK.out
      have f2 : WF.cell? ⟨w.heap.size, 2, none⟩ = some (.int .i64 X.kind) := cell_of_row WF _ 2 _ 24 (0, 0) HBK.out
      have f3 : WF.cell? ⟨w.heap.size, 3, none⟩ = some (.int .u64 X.client) := cell_of_row WF _ 3 _ 24 (0, 0) HBK.out
      have f4 : WF.cell? ⟨w.heap.size, 4, none⟩ = some (.int .u64 X.seq) := cell_of_row WF _ 4 _ 24 (0, 0) HBK.out
      have f5 : WF.cell? ⟨w.heap.size, 5, none⟩ = some (.int .u64 X.block) := cell_of_row WF _ 5 _ 24 (0, 0) HBK.out
      have f6 : WF.cell? ⟨w.heap.size, 6, none⟩ = some (.int .u64 X.many) := cell_of_row WF _ 6 _ 24 (0, 0) HBK.out
      have f7 : WF.cell? ⟨w.heap.size, 7, none⟩ = some (.int .i64 X.node) := cell_of_row WF _ 7 _ 24 (0, 0) HBK.out
      have f8 : WF.cell? ⟨w.heap.size, 8, none⟩ = some (.int .i64 X.level) := cell_of_row WF _ 8 _ 24 (0, 0) HBK.out
      have f9 : WF.cell? ⟨w.heap.size, 9, none⟩ = some (.string X.data) := cell_of_row WF _ 9 _ 24 (0, 0) HBK.out
      have f10 : WF.cell? ⟨w.heap.size, 10, none⟩ = some (.string X.old) := cell_of_row WF _ 10 _ 24 (0, 0) HBK.out
      exact bodyPost_ret (v := .tuple #[ev X, .bool true]) (by simp [results, Tryz.results79, go_sem, f0, f1, f2, f3, f4, f5, f6, f7, f8, f9, f10]) rfl ⟨by rw [HY.out], HBF.out⟩
    · have HOF : Hid (o = false) := by have h := HO.out; rw [decide_eq_false hz] at h; exact h
      have hof := HOF.out
      subst hof
      have HY := Lib.hid (HD.out.1 rfl)
      clear HD HO HOF
      have hd : decide (0 < (T.size : Int)) = true := decide_eq_true (by omega)
      have hd2 : 0 < T.size := by omega
      go_wp2_with fail
      rw [← HW3.out]
      refine KO.out.mono ?_
      rintro q w4 ⟨rfl, rfl⟩
      go_wp2_with fail
      refine KL.out.mono ?_
      rintro q w4 ⟨rfl, rfl⟩
      have z0 : W3.cell? ⟨w.heap.size, 0, none⟩ = some (.int .u64 0) := cell_of_row W3 _ 0 _ 24 (0, 0) HK3.out
      have z1 : W3.cell? ⟨w.heap.size, 1, none⟩ = some (.int .u64 0) := cell_of_row W3 _ 1 _ 24 (0, 0) HK3.out
      have z2 : W3.cell? ⟨w.heap.size, 2, none⟩ = some (.int .i64 0) := cell_of_row W3 _ 2 _ 24 (0, 0) HK3.out
      have z3 : W3.cell? ⟨w.heap.size, 3, none⟩ = some (.int .u64 0) := cell_of_row W3 _ 3 _ 24 (0, 0) HK3.out
      have z4 : W3.cell? ⟨w.heap.size, 4, none⟩ = some (.int .u64 0) := cell_of_row W3 _ 4 _ 24 (0, 0) HK3.out
      have z5 : W3.cell? ⟨w.heap.size, 5, none⟩ = some (.int .u64 0) := cell_of_row W3 _ 5 _ 24 (0, 0) HK3.out
      have z6 : W3.cell? ⟨w.heap.size, 6, none⟩ = some (.int .u64 0) := cell_of_row W3 _ 6 _ 24 (0, 0) HK3.out
      have z7 : W3.cell? ⟨w.heap.size, 7, none⟩ = some (.int .i64 0) := cell_of_row W3 _ 7 _ 24 (0, 0) HK3.out
      have z8 : W3.cell? ⟨w.heap.size, 8, none⟩ = some (.int .i64 0) := cell_of_row W3 _ 8 _ 24 (0, 0) HK3.out
      have z9 : W3.cell? ⟨w.heap.size, 9, none⟩ = some (.string ⟨#[]⟩) := cell_of_row W3 _ 9 _ 24 (0, 0) HK3.out
      have z10 : W3.cell? ⟨w.heap.size, 10, none⟩ = some (.string ⟨#[]⟩) := cell_of_row W3 _ 10 _ 24 (0, 0) HK3.out
      have fz : ∀ i, W3.frozen? ⟨w.heap.size, i, none⟩ = false := fun i => Lib.frozen_of_heap HK3.out i
      obtain ⟨WF, hWF⟩ : ∃ WF, WF = wz W3 w.heap.size ezz := ⟨_, rfl⟩
      have hblk : WF.heap[w.heap.size]? = some (.cells (ec ezz) 24 (0, 0)) := by rw [hWF]; exact store_all ezz HK3.out
      have HBF : Hid (Below w.heap.size w WF) := by rw [hWF]; exact below_all ezz HB3.out (Nat.le_refl _)
      have HBK := Lib.hid hblk
      have HWF := Lib.hid hWF
      clear hblk hWF
      go_wp2
      have hWF := HWF.out
      unfold wz at hWF
      rw [← hWF]
      have f0 : WF.cell? ⟨w.heap.size, 0, none⟩ = some (.int .u64 0) := cell_of_row WF _ 0 _ 24 (0, 0) HBK.out
      have f1 : WF.cell? ⟨w.heap.size, 1, none⟩ = some (.int .u64 0) := cell_of_row WF _ 1 _ 24 (0, 0) HBK.out
      have f2 : WF.cell? ⟨w.heap.size, 2, none⟩ = some (.int .i64 0) := cell_of_row WF _ 2 _ 24 (0, 0) HBK.out
      have f3 : WF.cell? ⟨w.heap.size, 3, none⟩ = some (.int .u64 0) := cell_of_row WF _ 3 _ 24 (0, 0) HBK.out
      have f4 : WF.cell? ⟨w.heap.size, 4, none⟩ = some (.int .u64 0) := cell_of_row WF _ 4 _ 24 (0, 0) HBK.out
      have f5 : WF.cell? ⟨w.heap.size, 5, none⟩ = some (.int .u64 0) := cell_of_row WF _ 5 _ 24 (0, 0) HBK.out
      have f6 : WF.cell? ⟨w.heap.size, 6, none⟩ = some (.int .u64 0) := cell_of_row WF _ 6 _ 24 (0, 0) HBK.out
      have f7 : WF.cell? ⟨w.heap.size, 7, none⟩ = some (.int .i64 0) := cell_of_row WF _ 7 _ 24 (0, 0) HBK.out
      have f8 : WF.cell? ⟨w.heap.size, 8, none⟩ = some (.int .i64 0) := cell_of_row WF _ 8 _ 24 (0, 0) HBK.out
      have f9 : WF.cell? ⟨w.heap.size, 9, none⟩ = some (.string ⟨#[]⟩) := cell_of_row WF _ 9 _ 24 (0, 0) HBK.out
      have f10 : WF.cell? ⟨w.heap.size, 10, none⟩ = some (.string ⟨#[]⟩) := cell_of_row WF _ 10 _ 24 (0, 0) HBK.out
      exact bodyPost_ret (v := .tuple #[ev ezz, .bool false]) (by simp [results, Tryz.results79, go_sem, f0, f1, f2, f3, f4, f5, f6, f7, f8, f9, f10]) rfl ⟨by rw [HY.out], HBF.out⟩

end Go.Proofs.YtpdbeijfchmlgaaGreat
namespace Go.Proofs.YtpdbeijfchmlgaaGreat
open Go.RowKit
open Vi
set_option linter.unusedVariables false
set_option linter.unusedSimpArgs false
set_option maxRecDepth 100000 in
theorem wholef1_any (w : World) : Calls Tryz.prog 38 #[.func (.func 39) #[] #[]] w fun q w' => q = .returned (whv w.heap.size) ∧ w' = w.alloc (Obj.cells #[.func (.func 39) #[] #[]] 66) := by
  have hmf : ∀ (fn : Fn) (first cap : Array Value) (w : World), (Instr.makeFunc fn first cap).run Tryz.prog w = .ok (.func fn first cap) w := fun _ _ _ _ => rfl
  go_enter Tryz.func38, Tryz.ntmps38
  go_wp2
  go_ret
  exact ⟨rfl, rfl⟩

set_option maxHeartbeats 4000000 in
set_option maxRecDepth 100000 in
theorem whole2_any (c : Nat) (u : ByteArray) (X : En) (T : ByteArray) (b : Bool) (w : World) (hc : w.heap[c]? = some (.cells #[.func (.func 40) #[] #[]] 66 (0, 0)))
    (hK : ∀ g W, Rd 178 g u false W → Calls Tryz.prog 40 #[.pointer (some ⟨g, 0, none⟩)] W fun q w' => q = .returned (ev X) ∧ Rd 178 g T b w' ∧ W.grownBy w' (some g)) :
    Calls Tryz.prog 79 #[.string u, .pointer (some ⟨c, 0, none⟩)] w fun q w' => q = .returned (.tuple #[ev (whE X b T), .bool (whO b T)]) ∧ Below w.heap.size w w' := by
  obtain ⟨W0, hW0⟩ : ∃ W0, W0 = w.alloc (Obj.cells (ec ezz) 24) := ⟨_, rfl⟩
  have b0 : Below w.heap.size w W0 := by rw [hW0]; exact (Below.refl _ _).alloc (Nat.le_refl _) _
  have k0 : W0.heap[w.heap.size]? = some (.cells (ec ezz) 24 (0, 0)) := by rw [hW0]; exact heap_alloc_new w _
  have s0 : W0.heap.size = w.heap.size + 1 := by rw [hW0]; simp
  have hcl := (Array.getElem?_eq_some_iff.1 hc).1
  have KN := Lib.hid (new2 u W0)
  have K := Lib.hid hK
  have HC := Lib.hid hc
  have HCL := Lib.hid hcl
  have HW0 := Lib.hid hW0
  have HK0 := Lib.hid k0
  have HB0 := Lib.hid b0
  have HS0 := Lib.hid s0
  have HD : Hid ((whO b T = false → whE X b T = ezz) ∧ (whO b T = true → whE X b T = X)) := ⟨fun h => by unfold whE; rw [h]; rfl, fun h => by unfold whE; rw [h]; rfl⟩
  have HO : Hid (whO b T = (!b && decide (T.size = 0))) := rfl
  obtain ⟨Y, hY⟩ : ∃ Y, Y = whE X b T := ⟨_, rfl⟩
  obtain ⟨o, ho⟩ : ∃ o, o = whO b T := ⟨_, rfl⟩
  rw [← hY, ← ho] at HD ⊢
  rw [← ho] at HO
  clear hW0 k0 b0 s0 hc hcl hK hY ho
  go_enter Tryz.func79, Tryz.ntmps79
  go_wp2_with fail
  rw [← HW0.out]
  refine KN.out.mono ?_
  rintro q w1 ⟨rfl, R1, b1, s1⟩
  have HR1 := Lib.hid R1
  have HK1 : Hid (w1.heap[w.heap.size]? = some (.cells (ec ezz) 24 (0, 0))) := (b1.block _ (by have := HS0.out; omega)).trans HK0.out
  have HB1 : Hid (Below w.heap.size w w1) := HB0.out.trans (b1.mono HB0.out.size)
  have hcc : w1.cell? ⟨c, 0, none⟩ = some (.func (.func 40) #[] #[]) := cell_of_row w1 _ 0 _ 66 (0, 0) ((HB1.out.block _ HCL.out).trans HC.out)
  clear R1 b1 s1
  go_wp2_with fail
  refine (K.out _ _ HR1.out).mono ?_
  rintro q w2 ⟨rfl, R2, g2⟩
  have HK2 : Hid (w2.heap[w.heap.size]? = some (.cells (ec ezz) 24 (0, 0))) := (g2.block _ (Array.getElem?_eq_some_iff.1 HK1.out).1 (by have := HS0.out; simp; omega)).trans HK1.out
  have HB2 : Hid (Below w.heap.size w w2) := below_grownBy HB1.out g2 HB1.out.size (by have := HS0.out; omega)
  obtain ⟨W3, hW3⟩ : ∃ W3, W3 = w2.alloc (Obj.cells (ec X) 24) := ⟨_, rfl⟩
  have b3 : Below w2.heap.size w2 W3 := by rw [hW3]; exact (Below.refl _ _).alloc (Nat.le_refl _) _
  have HR3 : Hid (Rd 178 W0.heap.size T b W3) := R2.below b3 R2.lt
  have k3 : W3.heap[w.heap.size]? = some (.cells (ec ezz) 24 (0, 0)) := (b3.block _ (Array.getElem?_eq_some_iff.1 HK2.out).1).trans HK2.out
  have HX3 : Hid (W3.heap[w2.heap.size]? = some (.cells (ec X) 24 (0, 0))) := by show _ = _; rw [hW3]; exact heap_alloc_new w2 _
  have HB3 : Hid (Below w.heap.size w W3) := HB2.out.trans (b3.mono HB2.out.size)
  have HW3 := Lib.hid hW3
  have HK3 := Lib.hid k3
  have KO := Lib.hid (ok2 _ _ _ _ HR3.out)
  have KL := Lib.hid (left2 _ _ _ _ HR3.out)
  clear R2 g2 hW3 b3 k3 hcc
  cases b with
  | true =>
    have HOF : Hid (o = false) := HO.out
    have hof := HOF.out
    subst hof
    have HY := Lib.hid (HD.out.1 rfl)
    clear HD HO HOF
    go_wp2_with fail
    rw [← HW3.out]
    refine KO.out.mono ?_
    rintro q w4 ⟨rfl, rfl⟩
    have z0 : W3.cell? ⟨w.heap.size, 0, none⟩ = some (.int .u64 0) := cell_of_row W3 _ 0 _ 24 (0, 0) HK3.out
    have z1 : W3.cell? ⟨w.heap.size, 1, none⟩ = some (.int .u64 0) := cell_of_row W3 _ 1 _ 24 (0, 0) HK3.out
    have z2 : W3.cell? ⟨w.heap.size, 2, none⟩ = some (.int .i64 0) := cell_of_row W3 _ 2 _ 24 (0, 0) HK3.out
    have z3 : W3.cell? ⟨w.heap.size, 3, none⟩ = some (.int .u64 0) := cell_of_row W3 _ 3 _ 24 (0, 0) HK3.out
    have z4 : W3.cell? ⟨w.heap.size, 4, none⟩ = some (.int .u64 0) := cell_of_row W3 _ 4 _ 24 (0, 0) HK3.out
    have z5 : W3.cell? ⟨w.heap.size, 5, none⟩ = some (.int .u64 0) := cell_of_row W3 _ 5 _ 24 (0, 0) HK3.out
    have z6 : W3.cell? ⟨w.heap.size, 6, none⟩ = some (.int .u64 0) := cell_of_row W3 _ 6 _ 24 (0, 0) HK3.out
    have z7 : W3.cell? ⟨w.heap.size, 7, none⟩ = some (.int .i64 0) := cell_of_row W3 _ 7 _ 24 (0, 0) HK3.out
    have z8 : W3.cell? ⟨w.heap.size, 8, none⟩ = some (.int .i64 0) := cell_of_row W3 _ 8 _ 24 (0, 0) HK3.out
    have z9 : W3.cell? ⟨w.heap.size, 9, none⟩ = some (.string ⟨#[]⟩) := cell_of_row W3 _ 9 _ 24 (0, 0) HK3.out
    have z10 : W3.cell? ⟨w.heap.size, 10, none⟩ = some (.string ⟨#[]⟩) := cell_of_row W3 _ 10 _ 24 (0, 0) HK3.out
    have fz : ∀ i, W3.frozen? ⟨w.heap.size, i, none⟩ = false := fun i => Lib.frozen_of_heap HK3.out i
    obtain ⟨WF, hWF⟩ : ∃ WF, WF = wz W3 w.heap.size ezz := ⟨_, rfl⟩
    have hblk : WF.heap[w.heap.size]? = some (.cells (ec ezz) 24 (0, 0)) := by rw [hWF]; exact store_all ezz HK3.out
    have HBF : Hid (Below w.heap.size w WF) := by rw [hWF]; exact below_all ezz HB3.out (Nat.le_refl _)
    have HBK := Lib.hid hblk
    have HWF := Lib.hid hWF
    clear hblk hWF
    go_wp2
    have hWF := HWF.out
    unfold wz at hWF
    rw [← hWF]
    have f0 : WF.cell? ⟨w.heap.size, 0, none⟩ = some (.int .u64 0) := cell_of_row WF _ 0 _ 24 (0, 0) HBK.out
    have f1 : WF.cell? ⟨w.heap.size, 1, none⟩ = some (.int .u64 0) := cell_of_row WF _ 1 _ 24 (0, 0) HBK.out
    have f2 : WF.cell? ⟨w.heap.size, 2, none⟩ = some (.int .i64 0) := cell_of_row WF _ 2 _ 24 (0, 0) HBK.out
    have f3 : WF.cell? ⟨w.heap.size, 3, none⟩ = some (.int .u64 0) := cell_of_row WF _ 3 _ 24 (0, 0) HBK.out
    have f4 : WF.cell? ⟨w.heap.size, 4, none⟩ = some (.int .u64 0) := cell_of_row WF _ 4 _ 24 (0, 0) HBK.out
    have f5 : WF.cell? ⟨w.heap.size, 5, none⟩ = some (.int .u64 0) := cell_of_row WF _ 5 _ 24 (0, 0) HBK.out
    have f6 : WF.cell? ⟨w.heap.size, 6, none⟩ = some (.int .u64 0) := cell_of_row WF _ 6 _ 24 (0, 0) HBK.out
    have f7 : WF.cell? ⟨w.heap.size, 7, none⟩ = some (.int .i64 0) := cell_of_row WF _ 7 _ 24 (0, 0) HBK.out
    have f8 : WF.cell? ⟨w.heap.size, 8, none⟩ = some (.int .i64 0) := cell_of_row WF _ 8 _ 24 (0, 0) HBK.out
    have f9 : WF.cell? ⟨w.heap.size, 9, none⟩ = some (.string ⟨#[]⟩) := cell_of_row WF _ 9 _ 24 (0, 0) HBK.out
    have f10 : WF.cell? ⟨w.heap.size, 10, none⟩ = some (.string ⟨#[]⟩) := cell_of_row WF _ 10 _ 24 (0, 0) HBK.out
    exact bodyPost_ret (v := .tuple #[ev ezz, .bool false]) (by simp [results, Tryz.results79, go_sem, f0, f1, f2, f3, f4, f5, f6, f7, f8, f9, f10]) rfl ⟨by rw [HY.out], HBF.out⟩
  | false =>
    by_cases hz : T.size = 0
    · have HOF : Hid (o = true) := by have h := HO.out; rw [decide_eq_true hz] at h; exact h
      have hof := HOF.out
      subst hof
      have HY := Lib.hid (HD.out.2 rfl)
      clear HD HO HOF
      have hd : decide (0 < (T.size : Int)) = false := decide_eq_false (by omega)
      have hd2 : ¬ 0 < T.size := by omega
      go_wp2_with fail
      rw [← HW3.out]
      refine KO.out.mono ?_
      rintro q w4 ⟨rfl, rfl⟩
      go_wp2_with fail
      refine KL.out.mono ?_
      rintro q w4 ⟨rfl, rfl⟩
      have z0 : W3.cell? ⟨w.heap.size, 0, none⟩ = some (.int .u64 0) := cell_of_row W3 _ 0 _ 24 (0, 0) HK3.out
      have z1 : W3.cell? ⟨w.heap.size, 1, none⟩ = some (.int .u64 0) := cell_of_row W3 _ 1 _ 24 (0, 0) HK3.out
      have z2 : W3.cell? ⟨w.heap.size, 2, none⟩ = some (.int .i64 0) := cell_of_row W3 _ 2 _ 24 (0, 0) HK3.out
      have z3 : W3.cell? ⟨w.heap.size, 3, none⟩ = some (.int .u64 0) := cell_of_row W3 _ 3 _ 24 (0, 0) HK3.out
      have z4 : W3.cell? ⟨w.heap.size, 4, none⟩ = some (.int .u64 0) := cell_of_row W3 _ 4 _ 24 (0, 0) HK3.out
      have z5 : W3.cell? ⟨w.heap.size, 5, none⟩ = some (.int .u64 0) := cell_of_row W3 _ 5 _ 24 (0, 0) HK3.out
      have z6 : W3.cell? ⟨w.heap.size, 6, none⟩ = some (.int .u64 0) := cell_of_row W3 _ 6 _ 24 (0, 0) HK3.out
      have z7 : W3.cell? ⟨w.heap.size, 7, none⟩ = some (.int .i64 0) := cell_of_row W3 _ 7 _ 24 (0, 0) HK3.out
      have z8 : W3.cell? ⟨w.heap.size, 8, none⟩ = some (.int .i64 0) := cell_of_row W3 _ 8 _ 24 (0, 0) HK3.out
      have z9 : W3.cell? ⟨w.heap.size, 9, none⟩ = some (.string ⟨#[]⟩) := cell_of_row W3 _ 9 _ 24 (0, 0) HK3.out
      have z10 : W3.cell? ⟨w.heap.size, 10, none⟩ = some (.string ⟨#[]⟩) := cell_of_row W3 _ 10 _ 24 (0, 0) HK3.out
      have x0 : W3.cell? ⟨w2.heap.size, 0, none⟩ = some (.int .u64 X.term) := cell_of_row W3 _ 0 _ 24 (0, 0) HX3.out
      have x1 : W3.cell? ⟨w2.heap.size, 1, none⟩ = some (.int .u64 X.index) := cell_of_row W3 _ 1 _ 24 (0, 0) HX3.out
      have x2 : W3.cell? ⟨w2.heap.size, 2, none⟩ = some (.int .i64 X.kind) := cell_of_row W3 _ 2 _ 24 (0, 0) HX3.out
      have x3 : W3.cell? ⟨w2.heap.size, 3, none⟩ = some (.int .u64 X.client) := cell_of_row W3 _ 3 _ 24 (0, 0) HX3.out
      have x4 : W3.cell? ⟨w2.heap.size, 4, none⟩ = some (.int .u64 X.seq) := cell_of_row W3 _ 4 _ 24 (0, 0) HX3.out
      have x5 : W3.cell? ⟨w2.heap.size, 5, none⟩ = some (.int .u64 X.block) := cell_of_row W3 _ 5 _ 24 (0, 0) HX3.out
      have x6 : W3.cell? ⟨w2.heap.size, 6, none⟩ = some (.int .u64 X.many) := cell_of_row W3 _ 6 _ 24 (0, 0) HX3.out
      have x7 : W3.cell? ⟨w2.heap.size, 7, none⟩ = some (.int .i64 X.node) := cell_of_row W3 _ 7 _ 24 (0, 0) HX3.out
      have x8 : W3.cell? ⟨w2.heap.size, 8, none⟩ = some (.int .i64 X.level) := cell_of_row W3 _ 8 _ 24 (0, 0) HX3.out
      have x9 : W3.cell? ⟨w2.heap.size, 9, none⟩ = some (.string X.data) := cell_of_row W3 _ 9 _ 24 (0, 0) HX3.out
      have x10 : W3.cell? ⟨w2.heap.size, 10, none⟩ = some (.string X.old) := cell_of_row W3 _ 10 _ 24 (0, 0) HX3.out
      have fz : ∀ i, W3.frozen? ⟨w.heap.size, i, none⟩ = false := fun i => Lib.frozen_of_heap HK3.out i
      obtain ⟨WF, hWF⟩ : ∃ WF, WF = wz W3 w.heap.size X := ⟨_, rfl⟩
      have hblk : WF.heap[w.heap.size]? = some (.cells (ec X) 24 (0, 0)) := by rw [hWF]; exact store_all X HK3.out
      have HBF : Hid (Below w.heap.size w WF) := by rw [hWF]; exact below_all X HB3.out (Nat.le_refl _)
      have HBK := Lib.hid hblk
      have HWF := Lib.hid hWF
      clear hblk hWF
      go_wp2
      have hWF := HWF.out
      unfold wz at hWF
      rw [← hWF]
      have f0 : WF.cell? ⟨w.heap.size, 0, none⟩ = some (.int .u64 X.term) := cell_of_row WF _ 0 _ 24 (0, 0) HBK.out
      have f1 : WF.cell? ⟨w.heap.size, 1, none⟩ = some (.int .u64 X.index) := cell_of_row WF _ 1 _ 24 (0, 0) HBK.out
      have f2 : WF.cell? ⟨w.heap.size, 2, none⟩ = some (.int .i64 X.kind) := cell_of_row WF _ 2 _ 24 (0, 0) HBK.out
      have f3 : WF.cell? ⟨w.heap.size, 3, none⟩ = some (.int .u64 X.client) := cell_of_row WF _ 3 _ 24 (0, 0) HBK.out
      have f4 : WF.cell? ⟨w.heap.size, 4, none⟩ = some (.int .u64 X.seq) := cell_of_row WF _ 4 _ 24 (0, 0) HBK.out
      have f5 : WF.cell? ⟨w.heap.size, 5, none⟩ = some (.int .u64 X.block) := cell_of_row WF _ 5 _ 24 (0, 0) HBK.out
      have f6 : WF.cell? ⟨w.heap.size, 6, none⟩ = some (.int .u64 X.many) := cell_of_row WF _ 6 _ 24 (0, 0) HBK.out
      have f7 : WF.cell? ⟨w.heap.size, 7, none⟩ = some (.int .i64 X.node) := cell_of_row WF _ 7 _ 24 (0, 0) HBK.out
      have f8 : WF.cell? ⟨w.heap.size, 8, none⟩ = some (.int .i64 X.level) := cell_of_row WF _ 8 _ 24 (0, 0) HBK.out
      have f9 : WF.cell? ⟨w.heap.size, 9, none⟩ = some (.string X.data) := cell_of_row WF _ 9 _ 24 (0, 0) HBK.out
      have f10 : WF.cell? ⟨w.heap.size, 10, none⟩ = some (.string X.old) := cell_of_row WF _ 10 _ 24 (0, 0) HBK.out
      exact bodyPost_ret (v := .tuple #[ev X, .bool true]) (by simp [results, Tryz.results79, go_sem, f0, f1, f2, f3, f4, f5, f6, f7, f8, f9, f10]) rfl ⟨by rw [HY.out], HBF.out⟩
    · have HOF : Hid (o = false) := by have h := HO.out; rw [decide_eq_false hz] at h; exact h
      have hof := HOF.out
      subst hof
      have HY := Lib.hid (HD.out.1 rfl)
      clear HD HO HOF
      have hd : decide (0 < (T.size : Int)) = true := decide_eq_true (by omega)
      have hd2 : 0 < T.size := by omega
      go_wp2_with fail
      rw [← HW3.out]
      refine KO.out.mono ?_
      rintro q w4 ⟨rfl, rfl⟩
      go_wp2_with fail
      refine KL.out.mono ?_
      rintro q w4 ⟨rfl, rfl⟩
      have z0 : W3.cell? ⟨w.heap.size, 0, none⟩ = some (.int .u64 0) := cell_of_row W3 _ 0 _ 24 (0, 0) HK3.out
      have z1 : W3.cell? ⟨w.heap.size, 1, none⟩ = some (.int .u64 0) := cell_of_row W3 _ 1 _ 24 (0, 0) HK3.out
      have z2 : W3.cell? ⟨w.heap.size, 2, none⟩ = some (.int .i64 0) := cell_of_row W3 _ 2 _ 24 (0, 0) HK3.out
      have z3 : W3.cell? ⟨w.heap.size, 3, none⟩ = some (.int .u64 0) := cell_of_row W3 _ 3 _ 24 (0, 0) HK3.out
      have z4 : W3.cell? ⟨w.heap.size, 4, none⟩ = some (.int .u64 0) := cell_of_row W3 _ 4 _ 24 (0, 0) HK3.out
      have z5 : W3.cell? ⟨w.heap.size, 5, none⟩ = some (.int .u64 0) := cell_of_row W3 _ 5 _ 24 (0, 0) HK3.out
      have z6 : W3.cell? ⟨w.heap.size, 6, none⟩ = some (.int .u64 0) := cell_of_row W3 _ 6 _ 24 (0, 0) HK3.out
      have z7 : W3.cell? ⟨w.heap.size, 7, none⟩ = some (.int .i64 0) := cell_of_row W3 _ 7 _ 24 (0, 0) HK3.out
      have z8 : W3.cell? ⟨w.heap.size, 8, none⟩ = some (.int .i64 0) := cell_of_row W3 _ 8 _ 24 (0, 0) HK3.out
      have z9 : W3.cell? ⟨w.heap.size, 9, none⟩ = some (.string ⟨#[]⟩) := cell_of_row W3 _ 9 _ 24 (0, 0) HK3.out
      have z10 : W3.cell? ⟨w.heap.size, 10, none⟩ = some (.string ⟨#[]⟩) := cell_of_row W3 _ 10 _ 24 (0, 0) HK3.out
      have fz : ∀ i, W3.frozen? ⟨w.heap.size, i, none⟩ = false := fun i => Lib.frozen_of_heap HK3.out i
      obtain ⟨WF, hWF⟩ : ∃ WF, WF = wz W3 w.heap.size ezz := ⟨_, rfl⟩
      have hblk : WF.heap[w.heap.size]? = some (.cells (ec ezz) 24 (0, 0)) := by rw [hWF]; exact store_all ezz HK3.out
      have HBF : Hid (Below w.heap.size w WF) := by rw [hWF]; exact below_all ezz HB3.out (Nat.le_refl _)
      have HBK := Lib.hid hblk
      have HWF := Lib.hid hWF
      clear hblk hWF
      go_wp2
      have hWF := HWF.out
      unfold wz at hWF
      rw [← hWF]
      have f0 : WF.cell? ⟨w.heap.size, 0, none⟩ = some (.int .u64 0) := cell_of_row WF _ 0 _ 24 (0, 0) HBK.out
      have f1 : WF.cell? ⟨w.heap.size, 1, none⟩ = some (.int .u64 0) := cell_of_row WF _ 1 _ 24 (0, 0) HBK.out
      have f2 : WF.cell? ⟨w.heap.size, 2, none⟩ = some (.int .i64 0) := cell_of_row WF _ 2 _ 24 (0, 0) HBK.out
      have f3 : WF.cell? ⟨w.heap.size, 3, none⟩ = some (.int .u64 0) := cell_of_row WF _ 3 _ 24 (0, 0) HBK.out
      have f4 : WF.cell? ⟨w.heap.size, 4, none⟩ = some (.int .u64 0) := cell_of_row WF _ 4 _ 24 (0, 0) HBK.out
      have f5 : WF.cell? ⟨w.heap.size, 5, none⟩ = some (.int .u64 0) := cell_of_row WF _ 5 _ 24 (0, 0) HBK.out
      have f6 : WF.cell? ⟨w.heap.size, 6, none⟩ = some (.int .u64 0) := cell_of_row WF _ 6 _ 24 (0, 0) HBK.out
      have f7 : WF.cell? ⟨w.heap.size, 7, none⟩ = some (.int .i64 0) := cell_of_row WF _ 7 _ 24 (0, 0) HBK.out
      have f8 : WF.cell? ⟨w.heap.size, 8, none⟩ = some (.int .i64 0) := cell_of_row WF _ 8 _ 24 (0, 0) HBK.out
      have f9 : WF.cell? ⟨w.heap.size, 9, none⟩ = some (.string ⟨#[]⟩) := cell_of_row WF _ 9 _ 24 (0, 0) HBK.out
      have f10 : WF.cell? ⟨w.heap.size, 10, none⟩ = some (.string ⟨#[]⟩) := cell_of_row WF _ 10 _ 24 (0, 0) HBK.out
      exact bodyPost_ret (v := .tuple #[ev ezz, .bool false]) (by simp [results, Tryz.results79, go_sem, f0, f1, f2, f3, f4, f5, f6, f7, f8, f9, f10]) rfl ⟨by rw [HY.out], HBF.out⟩

set_option maxRecDepth 100000 in
theorem wholef2_any (w : World) : Calls Tryz.prog 38 #[.func (.func 40) #[] #[]] w fun q w' => q = .returned (whv w.heap.size) ∧ w' = w.alloc (Obj.cells #[.func (.func 40) #[] #[]] 66) := by
  have hmf : ∀ (fn : Fn) (first cap : Array Value) (w : World), (Instr.makeFunc fn first cap).run Tryz.prog w = .ok (.func fn first cap) w := fun _ _ _ _ => rfl
  go_enter Tryz.func38, Tryz.ntmps38
  go_wp2
  go_ret
  exact ⟨rfl, rfl⟩

theorem fill_again (E Z : En) : ((((((((((((ec Z).setIfInBounds 0 (.int .u64 E.term)).setIfInBounds 1 (.int .u64 E.index)).setIfInBounds 2 (.int .i64 E.kind)).setIfInBounds 3 (.int .u64 E.client)).setIfInBounds 4 (.int .u64 E.seq)).setIfInBounds 5 (.int .u64 E.block)).setIfInBounds 6 (.int .u64 E.many)).setIfInBounds 7 (.int .i64 E.node)).setIfInBounds 8 (.int .i64 E.level)).setIfInBounds 9 (.string E.data)).setIfInBounds 10 (.string E.old)) = ec E := by simp
theorem store_again {wr : World} {g : Nat} {Z : En} (E : En) (h : wr.heap[g]? = some (.cells (ec Z) 24 (0, 0))) : (wz wr g E).heap[g]? = some (.cells (ec E) 24 (0, 0)) := by
  rw [← fill_again E Z]
  exact set_blk (set_blk (set_blk (set_blk (set_blk (set_blk (set_blk (set_blk (set_blk (set_blk (set_blk h 0 _) 1 _) 2 _) 3 _) 4 _) 5 _) 6 _) 7 _) 8 _) 9 _) 10 _

set_option maxHeartbeats 4000000 in
set_option maxRecDepth 100000 in
theorem fgetE1_any (s : ByteArray) (g a1 a2 : Nat) (X : En) (T : ByteArray) (b : Bool) (w : World) (hm : w.heap[g]? = some (.map (two (whv a1) (whv a2)) 2)) (hc : w.heap[a1]? = some (.cells #[.func (.func 39) #[] #[]] 66 (0, 0)))
    (hs : s.size ≤ 140737488351232) (hU : uO s = true) (hV : uV s = 1)
    (hK : ∀ g W, Rd 178 g (uB s) false W → Calls Tryz.prog 39 #[.pointer (some ⟨g, 0, none⟩)] W fun q w' => q = .returned (ev X) ∧ Rd 178 g T b w' ∧ W.grownBy w' (some g)) :
    Calls Tryz.prog 37 #[.map (some g), .string s] w fun q w' => q = .returned (.tuple #[ev (whE X b T), .int .i64 (if whO b T then 1 else 0), .bool (whO b T)]) ∧ Below w.heap.size w w' := by
  obtain ⟨W0, hW0⟩ : ∃ W0, W0 = w.alloc (Obj.cells (ec ezz) 24) := ⟨_, rfl⟩
  have b0 : Below w.heap.size w W0 := by rw [hW0]; exact (Below.refl _ _).alloc (Nat.le_refl _) _
  have k0 : W0.heap[w.heap.size]? = some (.cells (ec ezz) 24 (0, 0)) := by rw [hW0]; exact heap_alloc_new w _
  have KU : Hid (Calls Tryz.prog 23 #[.string s] W0 fun q w' => q = .returned (.tuple #[.int .i64 1, .string (uB s), .bool true]) ∧ Below W0.heap.size W0 w') := by
    refine (unpack_any s W0 (by omega)).mono fun q w' ⟨h1, h2⟩ => ⟨?_, h2⟩
    rw [h1, hU, hV]
  obtain ⟨u, hu⟩ : ∃ u, u = uB s := ⟨_, rfl⟩
  rw [← hu] at KU hK
  have KW := Lib.hid (fun (W : World) (h : W.heap[a1]? = some (.cells #[.func (.func 39) #[] #[]] 66 (0, 0))) => whole1_any a1 u X T b W h hK)
  have hgl := (Array.getElem?_eq_some_iff.1 hm).1
  have hal := (Array.getElem?_eq_some_iff.1 hc).1
  have HM := Lib.hid hm
  have HC := Lib.hid hc
  have HGL := Lib.hid hgl
  have HAL := Lib.hid hal
  have HW0 := Lib.hid hW0
  have HK0 := Lib.hid k0
  have HB0 := Lib.hid b0
  have HD : Hid (whO b T = false → whE X b T = ezz) := fun h => by unfold whE; rw [h]; rfl
  obtain ⟨Y, hY⟩ : ∃ Y, Y = whE X b T := ⟨_, rfl⟩
  obtain ⟨o, ho⟩ : ∃ o, o = whO b T := ⟨_, rfl⟩
  rw [← hY, ← ho] at HD KW ⊢
  clear hW0 k0 b0 hm hc hgl hal hK hY ho hU hV hu hs
  go_enter Tryz.func37, Tryz.ntmps37
  go_wp2_with fail
  rw [← HW0.out]
  refine KU.out.mono ?_
  rintro q w1 ⟨rfl, b1⟩
  have HK1 : Hid (w1.heap[w.heap.size]? = some (.cells (ec ezz) 24 (0, 0))) := (b1.block _ (Array.getElem?_eq_some_iff.1 HK0.out).1).trans HK0.out
  have HB1 : Hid (Below w.heap.size w w1) := HB0.out.trans (b1.mono HB0.out.size)
  have hl := look_one (T := 67) 1 (whv a1) Tryz.underlying67 ((HB1.out.block _ HGL.out).trans HM.out) (two_1 _ _)
  have KW1 := Lib.hid (KW.out w1 ((HB1.out.block _ HAL.out).trans HC.out))
  clear b1
  go_wp2_with fail
  refine KW1.out.mono ?_
  rintro q w2 ⟨rfl, b2⟩
  have HK2 : Hid (w2.heap[w.heap.size]? = some (.cells (ec ezz) 24 (0, 0))) := (b2.block _ (Array.getElem?_eq_some_iff.1 HK1.out).1).trans HK1.out
  have HB2 : Hid (Below w.heap.size w w2) := HB1.out.trans (b2.mono HB1.out.size)
  clear b2 hl
  have z0 : w2.cell? ⟨w.heap.size, 0, none⟩ = some (.int .u64 0) := cell_of_row w2 _ 0 _ 24 (0, 0) HK2.out
  have z1 : w2.cell? ⟨w.heap.size, 1, none⟩ = some (.int .u64 0) := cell_of_row w2 _ 1 _ 24 (0, 0) HK2.out
  have z2 : w2.cell? ⟨w.heap.size, 2, none⟩ = some (.int .i64 0) := cell_of_row w2 _ 2 _ 24 (0, 0) HK2.out
  have z3 : w2.cell? ⟨w.heap.size, 3, none⟩ = some (.int .u64 0) := cell_of_row w2 _ 3 _ 24 (0, 0) HK2.out
  have z4 : w2.cell? ⟨w.heap.size, 4, none⟩ = some (.int .u64 0) := cell_of_row w2 _ 4 _ 24 (0, 0) HK2.out
  have z5 : w2.cell? ⟨w.heap.size, 5, none⟩ = some (.int .u64 0) := cell_of_row w2 _ 5 _ 24 (0, 0) HK2.out
  have z6 : w2.cell? ⟨w.heap.size, 6, none⟩ = some (.int .u64 0) := cell_of_row w2 _ 6 _ 24 (0, 0) HK2.out
  have z7 : w2.cell? ⟨w.heap.size, 7, none⟩ = some (.int .i64 0) := cell_of_row w2 _ 7 _ 24 (0, 0) HK2.out
  have z8 : w2.cell? ⟨w.heap.size, 8, none⟩ = some (.int .i64 0) := cell_of_row w2 _ 8 _ 24 (0, 0) HK2.out
  have z9 : w2.cell? ⟨w.heap.size, 9, none⟩ = some (.string ⟨#[]⟩) := cell_of_row w2 _ 9 _ 24 (0, 0) HK2.out
  have z10 : w2.cell? ⟨w.heap.size, 10, none⟩ = some (.string ⟨#[]⟩) := cell_of_row w2 _ 10 _ 24 (0, 0) HK2.out
  have fz : ∀ i, w2.frozen? ⟨w.heap.size, i, none⟩ = false := fun i => Lib.frozen_of_heap HK2.out i
  go_upto_region 5 with fail
  obtain ⟨W3, hW3⟩ : ∃ W3, W3 = wz w2 w.heap.size Y := ⟨_, rfl⟩
  have k3 : W3.heap[w.heap.size]? = some (.cells (ec Y) 24 (0, 0)) := by rw [hW3]; exact store_all Y HK2.out
  have HB3 : Hid (Below w.heap.size w W3) := by rw [hW3]; exact below_all Y HB2.out (Nat.le_refl _)
  have HK3 := Lib.hid k3
  unfold wz at hW3
  rw [← hW3]
  clear hW3 k3 z0 z1 z2 z3 z4 z5 z6 z7 z8 z9 z10 fz
  have y0 : W3.cell? ⟨w.heap.size, 0, none⟩ = some (.int .u64 Y.term) := cell_of_row W3 _ 0 _ 24 (0, 0) HK3.out
  have y1 : W3.cell? ⟨w.heap.size, 1, none⟩ = some (.int .u64 Y.index) := cell_of_row W3 _ 1 _ 24 (0, 0) HK3.out
  have y2 : W3.cell? ⟨w.heap.size, 2, none⟩ = some (.int .i64 Y.kind) := cell_of_row W3 _ 2 _ 24 (0, 0) HK3.out
  have y3 : W3.cell? ⟨w.heap.size, 3, none⟩ = some (.int .u64 Y.client) := cell_of_row W3 _ 3 _ 24 (0, 0) HK3.out
  have y4 : W3.cell? ⟨w.heap.size, 4, none⟩ = some (.int .u64 Y.seq) := cell_of_row W3 _ 4 _ 24 (0, 0) HK3.out
  have y5 : W3.cell? ⟨w.heap.size, 5, none⟩ = some (.int .u64 Y.block) := cell_of_row W3 _ 5 _ 24 (0, 0) HK3.out
  have y6 : W3.cell? ⟨w.heap.size, 6, none⟩ = some (.int .u64 Y.many) := cell_of_row W3 _ 6 _ 24 (0, 0) HK3.out
  have y7 : W3.cell? ⟨w.heap.size, 7, none⟩ = some (.int .i64 Y.node) := cell_of_row W3 _ 7 _ 24 (0, 0) HK3.out
  have y8 : W3.cell? ⟨w.heap.size, 8, none⟩ = some (.int .i64 Y.level) := cell_of_row W3 _ 8 _ 24 (0, 0) HK3.out
  have y9 : W3.cell? ⟨w.heap.size, 9, none⟩ = some (.string Y.data) := cell_of_row W3 _ 9 _ 24 (0, 0) HK3.out
  have y10 : W3.cell? ⟨w.heap.size, 10, none⟩ = some (.string Y.old) := cell_of_row W3 _ 10 _ 24 (0, 0) HK3.out
  have fz : ∀ i, W3.frozen? ⟨w.heap.size, i, none⟩ = false := fun i => Lib.frozen_of_heap HK3.out i
  cases o with
  | false =>
    have HY := Lib.hid (HD.out rfl)
    go_wp2
    obtain ⟨WF, hWF⟩ : ∃ WF, WF = wz W3 w.heap.size Y := ⟨_, rfl⟩
    have HBK : Hid (WF.heap[w.heap.size]? = some (.cells (ec Y) 24 (0, 0))) := by
      show _ = _
      rw [hWF]
      exact store_again Y HK3.out
    have HBF : Hid (Below w.heap.size w WF) := by rw [hWF]; exact below_all Y HB3.out (Nat.le_refl _)
    unfold wz at hWF
    rw [← hWF]
    have f0 : WF.cell? ⟨w.heap.size, 0, none⟩ = some (.int .u64 Y.term) := cell_of_row WF _ 0 _ 24 (0, 0) HBK.out
    have f1 : WF.cell? ⟨w.heap.size, 1, none⟩ = some (.int .u64 Y.index) := cell_of_row WF _ 1 _ 24 (0, 0) HBK.out
    have f2 : WF.cell? ⟨w.heap.size, 2, none⟩ = some (.int .i64 Y.kind) := cell_of_row WF _ 2 _ 24 (0, 0) HBK.out
    have f3 : WF.cell? ⟨w.heap.size, 3, none⟩ = some (.int .u64 Y.client) := cell_of_row WF _ 3 _ 24 (0, 0) HBK.out
    have f4 : WF.cell? ⟨w.heap.size, 4, none⟩ = some (.int .u64 Y.seq) := cell_of_row WF _ 4 _ 24 (0, 0) HBK.out
    have f5 : WF.cell? ⟨w.heap.size, 5, none⟩ = some (.int .u64 Y.block) := cell_of_row WF _ 5 _ 24 (0, 0) HBK.out
    have f6 : WF.cell? ⟨w.heap.size, 6, none⟩ = some (.int .u64 Y.many) := cell_of_row WF _ 6 _ 24 (0, 0) HBK.out
    have f7 : WF.cell? ⟨w.heap.size, 7, none⟩ = some (.int .i64 Y.node) := cell_of_row WF _ 7 _ 24 (0, 0) HBK.out
    have f8 : WF.cell? ⟨w.heap.size, 8, none⟩ = some (.int .i64 Y.level) := cell_of_row WF _ 8 _ 24 (0, 0) HBK.out
    have f9 : WF.cell? ⟨w.heap.size, 9, none⟩ = some (.string Y.data) := cell_of_row WF _ 9 _ 24 (0, 0) HBK.out
    have f10 : WF.cell? ⟨w.heap.size, 10, none⟩ = some (.string Y.old) := cell_of_row WF _ 10 _ 24 (0, 0) HBK.out
    exact bodyPost_ret (v := .tuple #[ev Y, .int .i64 0, .bool false]) (by simp [results, Tryz.results37, go_sem, f0, f1, f2, f3, f4, f5, f6, f7, f8, f9, f10]) rfl ⟨rfl, HBF.out⟩
  | true =>
    go_wp2
    obtain ⟨WF, hWF⟩ : ∃ WF, WF = wz W3 w.heap.size Y := ⟨_, rfl⟩
    have HBK : Hid (WF.heap[w.heap.size]? = some (.cells (ec Y) 24 (0, 0))) := by
      show _ = _
      rw [hWF]
      exact store_again Y HK3.out
    have HBF : Hid (Below w.heap.size w WF) := by rw [hWF]; exact below_all Y HB3.out (Nat.le_refl _)
    unfold wz at hWF
    rw [← hWF]
    have f0 : WF.cell? ⟨w.heap.size, 0, none⟩ = some (.int .u64 Y.term) := cell_of_row WF _ 0 _ 24 (0, 0) HBK.out
    have f1 : WF.cell? ⟨w.heap.size, 1, none⟩ = some (.int .u64 Y.index) := cell_of_row WF _ 1 _ 24 (0, 0) HBK.out
    have f2 : WF.cell? ⟨w.heap.size, 2, none⟩ = some (.int .i64 Y.kind) := cell_of_row WF _ 2 _ 24 (0, 0) HBK.out
    have f3 : WF.cell? ⟨w.heap.size, 3, none⟩ = some (.int .u64 Y.client) := cell_of_row WF _ 3 _ 24 (0, 0) HBK.out
    have f4 : WF.cell? ⟨w.heap.size, 4, none⟩ = some (.int .u64 Y.seq) := cell_of_row WF _ 4 _ 24 (0, 0) HBK.out
    have f5 : WF.cell? ⟨w.heap.size, 5, none⟩ = some (.int .u64 Y.block) := cell_of_row WF _ 5 _ 24 (0, 0) HBK.out
    have f6 : WF.cell? ⟨w.heap.size, 6, none⟩ = some (.int .u64 Y.many) := cell_of_row WF _ 6 _ 24 (0, 0) HBK.out
    have f7 : WF.cell? ⟨w.heap.size, 7, none⟩ = some (.int .i64 Y.node) := cell_of_row WF _ 7 _ 24 (0, 0) HBK.out
    have f8 : WF.cell? ⟨w.heap.size, 8, none⟩ = some (.int .i64 Y.level) := cell_of_row WF _ 8 _ 24 (0, 0) HBK.out
    have f9 : WF.cell? ⟨w.heap.size, 9, none⟩ = some (.string Y.data) := cell_of_row WF _ 9 _ 24 (0, 0) HBK.out
    have f10 : WF.cell? ⟨w.heap.size, 10, none⟩ = some (.string Y.old) := cell_of_row WF _ 10 _ 24 (0, 0) HBK.out
    exact bodyPost_ret (v := .tuple #[ev Y, .int .i64 1, .bool true]) (by simp [results, Tryz.results37, go_sem, f0, f1, f2, f3, f4, f5, f6, f7, f8, f9, f10]) rfl ⟨rfl, HBF.out⟩

set_option maxHeartbeats 4000000 in
set_option maxRecDepth 100000 in
theorem fgetE2_any (s : ByteArray) (g a1 a2 : Nat) (X : En) (T : ByteArray) (b : Bool) (w : World) (hm : w.heap[g]? = some (.map (two (whv a1) (whv a2)) 2)) (hc : w.heap[a2]? = some (.cells #[.func (.func 40) #[] #[]] 66 (0, 0)))
    (hs : s.size ≤ 140737488351232) (hU : uO s = true) (hV : uV s = 2)
    (hK : ∀ g W, Rd 178 g (uB s) false W → Calls Tryz.prog 40 #[.pointer (some ⟨g, 0, none⟩)] W fun q w' => q = .returned (ev X) ∧ Rd 178 g T b w' ∧ W.grownBy w' (some g)) :
    Calls Tryz.prog 37 #[.map (some g), .string s] w fun q w' => q = .returned (.tuple #[ev (whE X b T), .int .i64 (if whO b T then 2 else 0), .bool (whO b T)]) ∧ Below w.heap.size w w' := by
  obtain ⟨W0, hW0⟩ : ∃ W0, W0 = w.alloc (Obj.cells (ec ezz) 24) := ⟨_, rfl⟩
  have b0 : Below w.heap.size w W0 := by rw [hW0]; exact (Below.refl _ _).alloc (Nat.le_refl _) _
  have k0 : W0.heap[w.heap.size]? = some (.cells (ec ezz) 24 (0, 0)) := by rw [hW0]; exact heap_alloc_new w _
  have KU : Hid (Calls Tryz.prog 23 #[.string s] W0 fun q w' => q = .returned (.tuple #[.int .i64 2, .string (uB s), .bool true]) ∧ Below W0.heap.size W0 w') := by
    refine (unpack_any s W0 (by omega)).mono fun q w' ⟨h1, h2⟩ => ⟨?_, h2⟩
    rw [h1, hU, hV]
  obtain ⟨u, hu⟩ : ∃ u, u = uB s := ⟨_, rfl⟩
  rw [← hu] at KU hK
  have KW := Lib.hid (fun (W : World) (h : W.heap[a2]? = some (.cells #[.func (.func 40) #[] #[]] 66 (0, 0))) => whole2_any a2 u X T b W h hK)
  have hgl := (Array.getElem?_eq_some_iff.1 hm).1
  have hal := (Array.getElem?_eq_some_iff.1 hc).1
  have HM := Lib.hid hm
  have HC := Lib.hid hc
  have HGL := Lib.hid hgl
  have HAL := Lib.hid hal
  have HW0 := Lib.hid hW0
  have HK0 := Lib.hid k0
  have HB0 := Lib.hid b0
  have HD : Hid (whO b T = false → whE X b T = ezz) := fun h => by unfold whE; rw [h]; rfl
  obtain ⟨Y, hY⟩ : ∃ Y, Y = whE X b T := ⟨_, rfl⟩
  obtain ⟨o, ho⟩ : ∃ o, o = whO b T := ⟨_, rfl⟩
  rw [← hY, ← ho] at HD KW ⊢
  clear hW0 k0 b0 hm hc hgl hal hK hY ho hU hV hu hs
  go_enter Tryz.func37, Tryz.ntmps37
  go_wp2_with fail
  rw [← HW0.out]
  refine KU.out.mono ?_
  rintro q w1 ⟨rfl, b1⟩
  have HK1 : Hid (w1.heap[w.heap.size]? = some (.cells (ec ezz) 24 (0, 0))) := (b1.block _ (Array.getElem?_eq_some_iff.1 HK0.out).1).trans HK0.out
  have HB1 : Hid (Below w.heap.size w w1) := HB0.out.trans (b1.mono HB0.out.size)
  have hl := look_one (T := 67) 2 (whv a2) Tryz.underlying67 ((HB1.out.block _ HGL.out).trans HM.out) (two_2 _ _)
  have KW1 := Lib.hid (KW.out w1 ((HB1.out.block _ HAL.out).trans HC.out))
  clear b1
  go_wp2_with fail
  refine KW1.out.mono ?_
  rintro q w2 ⟨rfl, b2⟩
  have HK2 : Hid (w2.heap[w.heap.size]? = some (.cells (ec ezz) 24 (0, 0))) := (b2.block _ (Array.getElem?_eq_some_iff.1 HK1.out).1).trans HK1.out
  have HB2 : Hid (Below w.heap.size w w2) := HB1.out.trans (b2.mono HB1.out.size)
  clear b2 hl
  have z0 : w2.cell? ⟨w.heap.size, 0, none⟩ = some (.int .u64 0) := cell_of_row w2 _ 0 _ 24 (0, 0) HK2.out
  have z1 : w2.cell? ⟨w.heap.size, 1, none⟩ = some (.int .u64 0) := cell_of_row w2 _ 1 _ 24 (0, 0) HK2.out
  have z2 : w2.cell? ⟨w.heap.size, 2, none⟩ = some (.int .i64 0) := cell_of_row w2 _ 2 _ 24 (0, 0) HK2.out
  have z3 : w2.cell? ⟨w.heap.size, 3, none⟩ = some (.int .u64 0) := cell_of_row w2 _ 3 _ 24 (0, 0) HK2.out
  have z4 : w2.cell? ⟨w.heap.size, 4, none⟩ = some (.int .u64 0) := cell_of_row w2 _ 4 _ 24 (0, 0) HK2.out
  have z5 : w2.cell? ⟨w.heap.size, 5, none⟩ = some (.int .u64 0) := cell_of_row w2 _ 5 _ 24 (0, 0) HK2.out
  have z6 : w2.cell? ⟨w.heap.size, 6, none⟩ = some (.int .u64 0) := cell_of_row w2 _ 6 _ 24 (0, 0) HK2.out
  have z7 : w2.cell? ⟨w.heap.size, 7, none⟩ = some (.int .i64 0) := cell_of_row w2 _ 7 _ 24 (0, 0) HK2.out
  have z8 : w2.cell? ⟨w.heap.size, 8, none⟩ = some (.int .i64 0) := cell_of_row w2 _ 8 _ 24 (0, 0) HK2.out
  have z9 : w2.cell? ⟨w.heap.size, 9, none⟩ = some (.string ⟨#[]⟩) := cell_of_row w2 _ 9 _ 24 (0, 0) HK2.out
  have z10 : w2.cell? ⟨w.heap.size, 10, none⟩ = some (.string ⟨#[]⟩) := cell_of_row w2 _ 10 _ 24 (0, 0) HK2.out
  have fz : ∀ i, w2.frozen? ⟨w.heap.size, i, none⟩ = false := fun i => Lib.frozen_of_heap HK2.out i
  go_upto_region 5 with fail
  obtain ⟨W3, hW3⟩ : ∃ W3, W3 = wz w2 w.heap.size Y := ⟨_, rfl⟩
  have k3 : W3.heap[w.heap.size]? = some (.cells (ec Y) 24 (0, 0)) := by rw [hW3]; exact store_all Y HK2.out
  have HB3 : Hid (Below w.heap.size w W3) := by rw [hW3]; exact below_all Y HB2.out (Nat.le_refl _)
  have HK3 := Lib.hid k3
  unfold wz at hW3
  rw [← hW3]
  clear hW3 k3 z0 z1 z2 z3 z4 z5 z6 z7 z8 z9 z10 fz
  have y0 : W3.cell? ⟨w.heap.size, 0, none⟩ = some (.int .u64 Y.term) := cell_of_row W3 _ 0 _ 24 (0, 0) HK3.out
  have y1 : W3.cell? ⟨w.heap.size, 1, none⟩ = some (.int .u64 Y.index) := cell_of_row W3 _ 1 _ 24 (0, 0) HK3.out
  have y2 : W3.cell? ⟨w.heap.size, 2, none⟩ = some (.int .i64 Y.kind) := cell_of_row W3 _ 2 _ 24 (0, 0) HK3.out
  have y3 : W3.cell? ⟨w.heap.size, 3, none⟩ = some (.int .u64 Y.client) := cell_of_row W3 _ 3 _ 24 (0, 0) HK3.out
  have y4 : W3.cell? ⟨w.heap.size, 4, none⟩ = some (.int .u64 Y.seq) := cell_of_row W3 _ 4 _ 24 (0, 0) HK3.out
  have y5 : W3.cell? ⟨w.heap.size, 5, none⟩ = some (.int .u64 Y.block) := cell_of_row W3 _ 5 _ 24 (0, 0) HK3.out
  have y6 : W3.cell? ⟨w.heap.size, 6, none⟩ = some (.int .u64 Y.many) := cell_of_row W3 _ 6 _ 24 (0, 0) HK3.out
  have y7 : W3.cell? ⟨w.heap.size, 7, none⟩ = some (.int .i64 Y.node) := cell_of_row W3 _ 7 _ 24 (0, 0) HK3.out
  have y8 : W3.cell? ⟨w.heap.size, 8, none⟩ = some (.int .i64 Y.level) := cell_of_row W3 _ 8 _ 24 (0, 0) HK3.out
  have y9 : W3.cell? ⟨w.heap.size, 9, none⟩ = some (.string Y.data) := cell_of_row W3 _ 9 _ 24 (0, 0) HK3.out
  have y10 : W3.cell? ⟨w.heap.size, 10, none⟩ = some (.string Y.old) := cell_of_row W3 _ 10 _ 24 (0, 0) HK3.out
  have fz : ∀ i, W3.frozen? ⟨w.heap.size, i, none⟩ = false := fun i => Lib.frozen_of_heap HK3.out i
  cases o with
  | false =>
    have HY := Lib.hid (HD.out rfl)
    go_wp2
    obtain ⟨WF, hWF⟩ : ∃ WF, WF = wz W3 w.heap.size Y := ⟨_, rfl⟩
    have HBK : Hid (WF.heap[w.heap.size]? = some (.cells (ec Y) 24 (0, 0))) := by
      show _ = _
      rw [hWF]
      exact store_again Y HK3.out
    have HBF : Hid (Below w.heap.size w WF) := by rw [hWF]; exact below_all Y HB3.out (Nat.le_refl _)
    unfold wz at hWF
    rw [← hWF]
    have f0 : WF.cell? ⟨w.heap.size, 0, none⟩ = some (.int .u64 Y.term) := cell_of_row WF _ 0 _ 24 (0, 0) HBK.out
    have f1 : WF.cell? ⟨w.heap.size, 1, none⟩ = some (.int .u64 Y.index) := cell_of_row WF _ 1 _ 24 (0, 0) HBK.out
    have f2 : WF.cell? ⟨w.heap.size, 2, none⟩ = some (.int .i64 Y.kind) := cell_of_row WF _ 2 _ 24 (0, 0) HBK.out
    have f3 : WF.cell? ⟨w.heap.size, 3, none⟩ = some (.int .u64 Y.client) := cell_of_row WF _ 3 _ 24 (0, 0) HBK.out
    have f4 : WF.cell? ⟨w.heap.size, 4, none⟩ = some (.int .u64 Y.seq) := cell_of_row WF _ 4 _ 24 (0, 0) HBK.out
    have f5 : WF.cell? ⟨w.heap.size, 5, none⟩ = some (.int .u64 Y.block) := cell_of_row WF _ 5 _ 24 (0, 0) HBK.out
    have f6 : WF.cell? ⟨w.heap.size, 6, none⟩ = some (.int .u64 Y.many) := cell_of_row WF _ 6 _ 24 (0, 0) HBK.out
    have f7 : WF.cell? ⟨w.heap.size, 7, none⟩ = some (.int .i64 Y.node) := cell_of_row WF _ 7 _ 24 (0, 0) HBK.out
    have f8 : WF.cell? ⟨w.heap.size, 8, none⟩ = some (.int .i64 Y.level) := cell_of_row WF _ 8 _ 24 (0, 0) HBK.out
    have f9 : WF.cell? ⟨w.heap.size, 9, none⟩ = some (.string Y.data) := cell_of_row WF _ 9 _ 24 (0, 0) HBK.out
    have f10 : WF.cell? ⟨w.heap.size, 10, none⟩ = some (.string Y.old) := cell_of_row WF _ 10 _ 24 (0, 0) HBK.out
    exact bodyPost_ret (v := .tuple #[ev Y, .int .i64 0, .bool false]) (by simp [results, Tryz.results37, go_sem, f0, f1, f2, f3, f4, f5, f6, f7, f8, f9, f10]) rfl ⟨rfl, HBF.out⟩
  | true =>
    go_wp2
    obtain ⟨WF, hWF⟩ : ∃ WF, WF = wz W3 w.heap.size Y := ⟨_, rfl⟩
    have HBK : Hid (WF.heap[w.heap.size]? = some (.cells (ec Y) 24 (0, 0))) := by
      show _ = _
      rw [hWF]
      exact store_again Y HK3.out
    have HBF : Hid (Below w.heap.size w WF) := by rw [hWF]; exact below_all Y HB3.out (Nat.le_refl _)
    unfold wz at hWF
    rw [← hWF]
    have f0 : WF.cell? ⟨w.heap.size, 0, none⟩ = some (.int .u64 Y.term) := cell_of_row WF _ 0 _ 24 (0, 0) HBK.out
    have f1 : WF.cell? ⟨w.heap.size, 1, none⟩ = some (.int .u64 Y.index) := cell_of_row WF _ 1 _ 24 (0, 0) HBK.out
    have f2 : WF.cell? ⟨w.heap.size, 2, none⟩ = some (.int .i64 Y.kind) := cell_of_row WF _ 2 _ 24 (0, 0) HBK.out
    have f3 : WF.cell? ⟨w.heap.size, 3, none⟩ = some (.int .u64 Y.client) := cell_of_row WF _ 3 _ 24 (0, 0) HBK.out
    have f4 : WF.cell? ⟨w.heap.size, 4, none⟩ = some (.int .u64 Y.seq) := cell_of_row WF _ 4 _ 24 (0, 0) HBK.out
    have f5 : WF.cell? ⟨w.heap.size, 5, none⟩ = some (.int .u64 Y.block) := cell_of_row WF _ 5 _ 24 (0, 0) HBK.out
    have f6 : WF.cell? ⟨w.heap.size, 6, none⟩ = some (.int .u64 Y.many) := cell_of_row WF _ 6 _ 24 (0, 0) HBK.out
    have f7 : WF.cell? ⟨w.heap.size, 7, none⟩ = some (.int .i64 Y.node) := cell_of_row WF _ 7 _ 24 (0, 0) HBK.out
    have f8 : WF.cell? ⟨w.heap.size, 8, none⟩ = some (.int .i64 Y.level) := cell_of_row WF _ 8 _ 24 (0, 0) HBK.out
    have f9 : WF.cell? ⟨w.heap.size, 9, none⟩ = some (.string Y.data) := cell_of_row WF _ 9 _ 24 (0, 0) HBK.out
    have f10 : WF.cell? ⟨w.heap.size, 10, none⟩ = some (.string Y.old) := cell_of_row WF _ 10 _ 24 (0, 0) HBK.out
    exact bodyPost_ret (v := .tuple #[ev Y, .int .i64 2, .bool true]) (by simp [results, Tryz.results37, go_sem, f0, f1, f2, f3, f4, f5, f6, f7, f8, f9, f10]) rfl ⟨rfl, HBF.out⟩

set_option maxHeartbeats 4000000 in
set_option maxRecDepth 100000 in
theorem fgetE0_any (s : ByteArray) (g : Nat) (w : World) (hs : s.size ≤ 140737488351232) (hU : uO s = false) :
    Calls Tryz.prog 37 #[.map (some g), .string s] w fun q w' => q = .returned (.tuple #[ev ezz, .int .i64 0, .bool false]) ∧ Below w.heap.size w w' := by
  obtain ⟨W0, hW0⟩ : ∃ W0, W0 = w.alloc (Obj.cells (ec ezz) 24) := ⟨_, rfl⟩
  have b0 : Below w.heap.size w W0 := by rw [hW0]; exact (Below.refl _ _).alloc (Nat.le_refl _) _
  have k0 : W0.heap[w.heap.size]? = some (.cells (ec ezz) 24 (0, 0)) := by rw [hW0]; exact heap_alloc_new w _
  have KU : Hid (Calls Tryz.prog 23 #[.string s] W0 fun q w' => q = .returned (.tuple #[.int .i64 0, .string ⟨#[]⟩, .bool false]) ∧ Below W0.heap.size W0 w') := by
    refine (unpack_any s W0 (by omega)).mono fun q w' ⟨h1, h2⟩ => ⟨?_, h2⟩
    rw [h1, ← u_ret_no hU]
  have HW0 := Lib.hid hW0
  have HK0 := Lib.hid k0
  have HB0 := Lib.hid b0
  clear hW0 k0 b0 hU hs
  go_enter Tryz.func37, Tryz.ntmps37
  go_wp2_with fail
  rw [← HW0.out]
  refine KU.out.mono ?_
  rintro q w1 ⟨rfl, b1⟩
  have HK1 : Hid (w1.heap[w.heap.size]? = some (.cells (ec ezz) 24 (0, 0))) := (b1.block _ (Array.getElem?_eq_some_iff.1 HK0.out).1).trans HK0.out
  have HB1 : Hid (Below w.heap.size w w1) := HB0.out.trans (b1.mono HB0.out.size)
  clear b1
  have z0 : w1.cell? ⟨w.heap.size, 0, none⟩ = some (.int .u64 0) := cell_of_row w1 _ 0 _ 24 (0, 0) HK1.out
  have z1 : w1.cell? ⟨w.heap.size, 1, none⟩ = some (.int .u64 0) := cell_of_row w1 _ 1 _ 24 (0, 0) HK1.out
  have z2 : w1.cell? ⟨w.heap.size, 2, none⟩ = some (.int .i64 0) := cell_of_row w1 _ 2 _ 24 (0, 0) HK1.out
  have z3 : w1.cell? ⟨w.heap.size, 3, none⟩ = some (.int .u64 0) := cell_of_row w1 _ 3 _ 24 (0, 0) HK1.out
  have z4 : w1.cell? ⟨w.heap.size, 4, none⟩ = some (.int .u64 0) := cell_of_row w1 _ 4 _ 24 (0, 0) HK1.out
  have z5 : w1.cell? ⟨w.heap.size, 5, none⟩ = some (.int .u64 0) := cell_of_row w1 _ 5 _ 24 (0, 0) HK1.out
  have z6 : w1.cell? ⟨w.heap.size, 6, none⟩ = some (.int .u64 0) := cell_of_row w1 _ 6 _ 24 (0, 0) HK1.out
  have z7 : w1.cell? ⟨w.heap.size, 7, none⟩ = some (.int .i64 0) := cell_of_row w1 _ 7 _ 24 (0, 0) HK1.out
  have z8 : w1.cell? ⟨w.heap.size, 8, none⟩ = some (.int .i64 0) := cell_of_row w1 _ 8 _ 24 (0, 0) HK1.out
  have z9 : w1.cell? ⟨w.heap.size, 9, none⟩ = some (.string ⟨#[]⟩) := cell_of_row w1 _ 9 _ 24 (0, 0) HK1.out
  have z10 : w1.cell? ⟨w.heap.size, 10, none⟩ = some (.string ⟨#[]⟩) := cell_of_row w1 _ 10 _ 24 (0, 0) HK1.out
  have fz : ∀ i, w1.frozen? ⟨w.heap.size, i, none⟩ = false := fun i => Lib.frozen_of_heap HK1.out i
  obtain ⟨WF, hWF⟩ : ∃ WF, WF = wz w1 w.heap.size ezz := ⟨_, rfl⟩
  have hblk : WF.heap[w.heap.size]? = some (.cells (ec ezz) 24 (0, 0)) := by rw [hWF]; exact store_all ezz HK1.out
  have HBF : Hid (Below w.heap.size w WF) := by rw [hWF]; exact below_all ezz HB1.out (Nat.le_refl _)
  have HBK := Lib.hid hblk
  have HWF := Lib.hid hWF
  clear hblk hWF
  go_wp2
  have hWF := HWF.out
  unfold wz at hWF
  rw [← hWF]
  have f0 : WF.cell? ⟨w.heap.size, 0, none⟩ = some (.int .u64 0) := cell_of_row WF _ 0 _ 24 (0, 0) HBK.out
  have f1 : WF.cell? ⟨w.heap.size, 1, none⟩ = some (.int .u64 0) := cell_of_row WF _ 1 _ 24 (0, 0) HBK.out
  have f2 : WF.cell? ⟨w.heap.size, 2, none⟩ = some (.int .i64 0) := cell_of_row WF _ 2 _ 24 (0, 0) HBK.out
  have f3 : WF.cell? ⟨w.heap.size, 3, none⟩ = some (.int .u64 0) := cell_of_row WF _ 3 _ 24 (0, 0) HBK.out
  have f4 : WF.cell? ⟨w.heap.size, 4, none⟩ = some (.int .u64 0) := cell_of_row WF _ 4 _ 24 (0, 0) HBK.out
  have f5 : WF.cell? ⟨w.heap.size, 5, none⟩ = some (.int .u64 0) := cell_of_row WF _ 5 _ 24 (0, 0) HBK.out
  have f6 : WF.cell? ⟨w.heap.size, 6, none⟩ = some (.int .u64 0) := cell_of_row WF _ 6 _ 24 (0, 0) HBK.out
  have f7 : WF.cell? ⟨w.heap.size, 7, none⟩ = some (.int .i64 0) := cell_of_row WF _ 7 _ 24 (0, 0) HBK.out
  have f8 : WF.cell? ⟨w.heap.size, 8, none⟩ = some (.int .i64 0) := cell_of_row WF _ 8 _ 24 (0, 0) HBK.out
  have f9 : WF.cell? ⟨w.heap.size, 9, none⟩ = some (.string ⟨#[]⟩) := cell_of_row WF _ 9 _ 24 (0, 0) HBK.out
  have f10 : WF.cell? ⟨w.heap.size, 10, none⟩ = some (.string ⟨#[]⟩) := cell_of_row WF _ 10 _ 24 (0, 0) HBK.out
  exact bodyPost_ret (v := .tuple #[ev ezz, .int .i64 0, .bool false]) (by simp [results, Tryz.results37, go_sem, f0, f1, f2, f3, f4, f5, f6, f7, f8, f9, f10]) rfl ⟨rfl, HBF.out⟩

end Go.Proofs.YtpdbeijfchmlgaaGreat
namespace Go.Proofs.YtpdbeijfchmlgaaGreat
open Go.RowKit
set_option linter.unusedVariables false
set_option linter.unusedSimpArgs false
theorem wide_n {m : Ms} (wd : m.Wide) : (m.n : Int) ≤ 9223372036854775807 := by have := wd.n1; omega
theorem mright_any (m : Ms) (w : World) (hE : Ents w.heap.size m.A m.n m.es w) (hn : (m.n : Int) ≤ 9223372036854775807) (hok : ∀ e ∈ m.es, e.Ok) :
    Calls Tryz.prog 50 #[mv m] w fun r w' => r = .returned (.bool (mrightB m)) ∧ Below w.heap.size w w' := by
  by_cases h1 : 1 ≤ m.frm <;> by_cases h2 : 1 ≤ m.dst
  · exact mright_11 m w hE hn hok h1 h2
  · exact mright_10 m w hE hn hok h1 (by omega)
  · exact mright_01 m w hE hn hok (by omega) h2
  · exact mright_00 m w hE hn hok (by omega) (by omega)
theorem flat_one (es : List En) : ∀ u ∈ flat es, u.oneCell' = true := by
  intro u hu
  unfold flat at hu
  rw [List.mem_flatMap] at hu
  obtain ⟨e, _, he⟩ := hu
  simp only [Array.toList] at he
  simp at he
  rcases he with rfl | rfl | rfl | rfl | rfl | rfl | rfl | rfl | rfl | rfl | rfl <;> rfl
theorem ents_news {B : Nat} {a : Addr} {n : Nat} {es : List En} {w : World} (h : Ents B (some a) n es w) : ∀ j u, (flat es)[j]? = some u → w.cell? (a.add j) = some u := by
  intro j u hj
  have hl := flat_length es
  have hlt : j < es.length * 11 := by rw [← hl]; exact (List.getElem?_eq_some_iff.1 hj).1
  have hi : j / 11 < es.length := by omega
  obtain ⟨e, he⟩ : ∃ e, es[j / 11]? = some e := ⟨es[j / 11], List.getElem?_eq_getElem hi⟩
  obtain ⟨a', ha, _, hc⟩ := h.at_ (j / 11) e he
  cases ha
  have h1 := hc (j % 11) (Nat.mod_lt _ (by omega))
  rw [Addr.add_add] at h1
  have h2 := flat_get es (j / 11) e he (j % 11) (Nat.mod_lt _ (by omega))
  have e1 : j / 11 * 11 + j % 11 = j := by omega
  rw [e1] at h1 h2
  rw [h1, ← h2, hj]
theorem ents_none {B : Nat} {n : Nat} {es : List En} {w : World} (h : Ents B none n es w) : es = [] ∧ n = 0 := by
  cases es with
  | nil => exact ⟨rfl, h.len.symm⟩
  | cons e es =>
    obtain ⟨a, ha, _⟩ := h.at_ 0 e rfl
    cases ha
theorem ents_nil (B : Nat) (A : Option Addr) (w : World) : Ents B A 0 [] w := ⟨rfl, fun i e he => by cases he⟩
set_option maxHeartbeats 1000000 in
set_option maxRecDepth 100000 in
theorem clone_es (A : Option Addr) (n c : Nat) (es : List En) (w : World) (hE : Ents w.heap.size A n es w) (hn : n ≤ 1000000) :
    Calls Tryz.prog 51 #[.slice A n c] w fun q w' => ∃ A' c', q = .returned (.slice A' n c') ∧ Ents w'.heap.size A' n es w' ∧ Below w.heap.size w w' ∧ (∀ a', A' = some a' → w.heap.size ≤ a'.block) := by
  obtain ⟨i75, hi75, hz75, hs75, hb75⟩ := info_parts (show (Tryz.prog.info? 24).map (fun i => (i.zero, i.size, i.bytes)) = some (some (ev ezz), 11, 104) by kernel_rfl)
  cases A with
  | none =>
    obtain ⟨rfl, rfl⟩ := ents_none hE
    have hsl : ∀ W : World, (binOp .eql 27 (.slice none 0 c) (.slice none 0 0)).run Tryz.prog W = .ok (.bool true) W := fun W => rfl
    clear hE
    go_enter Tryz.func51, Tryz.ntmps51
    go_wp2
    go_ret
    exact ⟨none, 0, rfl, ents_nil _ _ _, Below.refl _ _, fun a h => by cases h⟩
  | some a =>
    have hown : (w.alloc (Obj.cells #[] 24)).ownsRow w.heap.size 24 11 (.slice (some ⟨w.heap.size, 0, none⟩) 0 0) 0 [] := ⟨rfl, .inr ⟨w.heap.size, 0, #[], rfl, Nat.le_refl _, heap_alloc_new w _, Nat.le_refl _, by decide, rfl, rfl⟩⟩
    have hB0 : Below w.heap.size w (w.alloc (Obj.cells #[] 24)) := (Below.refl _ _).alloc (Nat.le_refl _) _
    have hE0 := hE.below hB0
    have hl : (flat es).length = n * 11 := by rw [flat_length, hE.len]
    have hnews := ents_news hE0
    have hsl : ∀ W : World, (binOp .eql 27 (.slice (some a) n c) (.slice none 0 0)).run Tryz.prog W = .ok (.bool false) W := fun W => rfl
    have HE := Lib.hid hE.len
    have HOW := Lib.hid hown
    have HB0 := Lib.hid hB0
    have HNEWS := Lib.hid hnews
    have HL := Lib.hid hl
    clear hown hB0 hE0 hl hnews hE
    go_enter Tryz.func51, Tryz.ntmps51
    go_wp2_with (at_builtin; refine wpList_append_own_at _ rfl _ _ 27 rfl w.heap.size 24 i75 (ev ezz) 11 104 Tryz.underlying27 hi75 hz75 hs75 hb75 rfl (by omega) (.slice (some ⟨w.heap.size, 0, none⟩) 0 0) 0 [] rfl HOW.out a n c (flat es) rfl HL.out HNEWS.out (flat_one es) (by unfold maxLen; omega) (by omega) (by simp) ?_; intro v' w1 hown1 hgrow hnil hat)
    rw [Nat.zero_add, List.nil_append] at hown1
    have hbel : Below w.heap.size w w1 := HB0.out.grown hgrow (by simp) (fun k hk => by simp [Value.ownBlock] at hk; omega)
    have hform : ∃ A' c', v' = .slice A' n c' ∧ Ents w1.heap.size A' n es w1 ∧ (∀ a', A' = some a' → w.heap.size ≤ a'.block) := by
      rcases hown1.2 with ⟨rfl, h0⟩ | ⟨g, cap, cur, rfl, hg, _⟩
      · subst h0
        have : es = [] := List.eq_nil_of_length_eq_zero HE.out
        subst this
        exact ⟨none, 0, rfl, ents_nil _ _ _, fun a h => by cases h⟩
      · exact ⟨_, _, rfl, ents_of_own hown1 HE.out, fun a h => by cases h; exact hg⟩
    obtain ⟨A', c', rfl, hE', hlo⟩ := hform
    go_ret
    exact ⟨A', c', rfl, hE', hbel, hlo⟩
/-- What a message says at level 1. -/
def shimO (m : Ms) : Bool := mrightB m && (decide (mlvl m = 1) || (decide (m.kind = 9) || decide (m.kind = 10)))
def shimM (m : Ms) : Ms :=
  if shimO m = false then mzz
  else if m.kind = 9 then { mzz with kind := 5, frm := m.frm, dst := m.dst, term := m.term, mark := m.mark }
  else if m.kind = 10 then { mzz with kind := 6, frm := m.frm, dst := m.dst, term := m.term, mark := m.mark, ok := true }
  else m
/-- As a message, wherever its list lies. -/
def Like (M m : Ms) : Prop := ∃ A c, M = { m with A := A, c := c }
def Shimd (m : Ms) (w : World) (q : Ending) (w' : World) : Prop :=
  ∃ M : Ms, q = .returned (.tuple #[mv M, .bool (shimO m)]) ∧ Ents w'.heap.size M.A M.n M.es w' ∧ Like M (shimM m) ∧ Below w.heap.size w w'
theorem like_refl (m : Ms) : Like m m := ⟨m.A, m.c, rfl⟩
theorem mlvl9 {m : Ms} (h : m.kind = 9) : mlvl m = 2 := by unfold mlvl; rw [show (m.kind == 9) = true by simpa using h]; rfl
theorem mlvl10 {m : Ms} (h : m.kind = 10) : mlvl m = 2 := by unfold mlvl; rw [show (m.kind == 10) = true by simpa using h]; simp
theorem blk_al {w : World} {k : Nat} {x : Obj} (o : Obj) (h : w.heap[k]? = some x) : (w.alloc o).heap[k]? = some x := (Lib.alloc_old w o k (Array.getElem?_eq_some_iff.1 h).1).trans h
theorem shimO_no {m : Ms} (h : mrightB m = false) : shimO m = false := by unfold shimO; rw [h]; rfl
theorem shimM_no {m : Ms} (h : shimO m = false) : shimM m = mzz := by unfold shimM; rw [if_pos h]
theorem shim_end {m M : Ms} {w w' : World} {b : Bool} (h1 : Ents w'.heap.size M.A M.n M.es w') (h2 : Like M (shimM m)) (h3 : b = shimO m) (h4 : Below w.heap.size w w') : Shimd m w (.returned (.tuple #[mv M, .bool b])) w' := by
  subst h3
  exact ⟨M, rfl, h1, h2, h4⟩
theorem mzz_ents (B : Nat) (w : World) : Ents B mzz.A mzz.n mzz.es w := ents_nil B none w
theorem mright_n {m : Ms} (wd : m.Wide) (h : mrightB m = true) : m.n ≤ 1000000 := by
  have h1 : masksB m = true := by
    unfold mrightB at h
    rw [Bool.and_eq_true] at h
    exact h.1
  have h2 := ((mask_iff m wd).1 h1).n64
  omega
set_option maxHeartbeats 2000000 in
set_option maxRecDepth 100000 in
theorem shim_no (m : Ms) (w : World) (hE : Ents w.heap.size m.A m.n m.es w) (wd : m.Wide) (hr : mrightB m = false) :
    Calls Tryz.prog 19 #[mv m] w (Shimd m w) := by
  have hno := shimO_no hr
  have HNO := Lib.hid hno
  obtain ⟨W0, hW0⟩ : ∃ W0, W0 = (w.alloc (Obj.cells (mc m) 29)).alloc (Obj.cells (mc mzz) 29) := ⟨_, rfl⟩
  have b0 : Below w.heap.size w W0 := by rw [hW0]; exact ((Below.refl _ _).alloc (Nat.le_refl _) _).alloc (by simp) _
  have k0 : W0.heap[w.heap.size]? = some (.cells (mc m) 29 (0, 0)) := by rw [hW0]; exact blk_al _ (heap_alloc_new w _)
  have k1 : W0.heap[w.heap.size + 1]? = some (.cells (mc mzz) 29 (0, 0)) := by rw [hW0]; have h := heap_alloc_new (w.alloc (Obj.cells (mc m) 29)) (Obj.cells (mc mzz) 29); simpa using h
  have hE0 := (hE.below b0).mr b0.size
  have KR := Lib.hid (mright_any m W0 hE0 (wide_n wd) wd.eo)
  have KL := Lib.hid (fun (W : World) (h : Ents W.heap.size m.A m.n m.es W) => mlevel_any m W h (wide_n wd))
  have HW := Lib.hid hW0
  have HE := Lib.hid hE0
  have HEW := Lib.hid hE
  have HB0 := Lib.hid b0
  have HK0 := Lib.hid k0
  have HK1 := Lib.hid k1
  have HWD := Lib.hid wd
  clear hW0 b0 k0 k1 hE0
  rw [hr] at KR
  clear hr hno wd hE
  go_enter Tryz.func19, Tryz.ntmps19
  go_upto_region 1 with fail
  rw [← HW.out]
  have a0 : W0.cell? ⟨w.heap.size, 0, none⟩ = some (.int .i64 m.kind) := cell_of_row W0 _ 0 _ 29 (0, 0) HK0.out
  have a1 : W0.cell? ⟨w.heap.size, 1, none⟩ = some (.int .i64 m.frm) := cell_of_row W0 _ 1 _ 29 (0, 0) HK0.out
  have a2 : W0.cell? ⟨w.heap.size, 2, none⟩ = some (.int .i64 m.dst) := cell_of_row W0 _ 2 _ 29 (0, 0) HK0.out
  have a3 : W0.cell? ⟨w.heap.size, 3, none⟩ = some (.int .u64 m.term) := cell_of_row W0 _ 3 _ 29 (0, 0) HK0.out
  have a4 : W0.cell? ⟨w.heap.size, 4, none⟩ = some (.int .u64 m.index) := cell_of_row W0 _ 4 _ 29 (0, 0) HK0.out
  have a5 : W0.cell? ⟨w.heap.size, 5, none⟩ = some (.int .u64 m.prev) := cell_of_row W0 _ 5 _ 29 (0, 0) HK0.out
  have a6 : W0.cell? ⟨w.heap.size, 6, none⟩ = some (.int .u64 m.commit) := cell_of_row W0 _ 6 _ 29 (0, 0) HK0.out
  have a7 : W0.cell? ⟨w.heap.size, 7, none⟩ = some (.int .u64 m.mark) := cell_of_row W0 _ 7 _ 29 (0, 0) HK0.out
  have a8 : W0.cell? ⟨w.heap.size, 8, none⟩ = some (.bool m.ok) := cell_of_row W0 _ 8 _ 29 (0, 0) HK0.out
  have a9 : W0.cell? ⟨w.heap.size, 9, none⟩ = some (.slice m.A m.n m.c) := cell_of_row W0 _ 9 _ 29 (0, 0) HK0.out
  have a10 : W0.cell? ⟨w.heap.size, 10, none⟩ = some (.string m.snap) := cell_of_row W0 _ 10 _ 29 (0, 0) HK0.out
  go_wp2_with fail
  refine KR.out.mono ?_
  rintro q w1 ⟨rfl, b1⟩
  have l0 := (Array.getElem?_eq_some_iff.1 HK0.out).1
  have l1 := (Array.getElem?_eq_some_iff.1 HK1.out).1
  have HM : Hid (w1.heap[w.heap.size]? = some (.cells (mc m) 29 (0, 0))) := (b1.block _ l0).trans HK0.out
  have HZ : Hid (w1.heap[w.heap.size + 1]? = some (.cells (mc mzz) 29 (0, 0))) := (b1.block _ l1).trans HK1.out
  have HB : Hid (Below w.heap.size w w1) := HB0.out.trans (b1.mono HB0.out.size)
  have HE1 : Hid (Ents w1.heap.size m.A m.n m.es w1) := (HE.out.below b1).mr b1.size
  clear b1 l0 l1 a0 a1 a2 a3 a4 a5 a6 a7 a8 a9 a10
  have z0 : w1.cell? ⟨w.heap.size + 1, 0, none⟩ = some (.int .i64 0) := cell_of_row w1 _ 0 _ 29 (0, 0) HZ.out
  have z1 : w1.cell? ⟨w.heap.size + 1, 1, none⟩ = some (.int .i64 0) := cell_of_row w1 _ 1 _ 29 (0, 0) HZ.out
  have z2 : w1.cell? ⟨w.heap.size + 1, 2, none⟩ = some (.int .i64 0) := cell_of_row w1 _ 2 _ 29 (0, 0) HZ.out
  have z3 : w1.cell? ⟨w.heap.size + 1, 3, none⟩ = some (.int .u64 0) := cell_of_row w1 _ 3 _ 29 (0, 0) HZ.out
  have z4 : w1.cell? ⟨w.heap.size + 1, 4, none⟩ = some (.int .u64 0) := cell_of_row w1 _ 4 _ 29 (0, 0) HZ.out
  have z5 : w1.cell? ⟨w.heap.size + 1, 5, none⟩ = some (.int .u64 0) := cell_of_row w1 _ 5 _ 29 (0, 0) HZ.out
  have z6 : w1.cell? ⟨w.heap.size + 1, 6, none⟩ = some (.int .u64 0) := cell_of_row w1 _ 6 _ 29 (0, 0) HZ.out
  have z7 : w1.cell? ⟨w.heap.size + 1, 7, none⟩ = some (.int .u64 0) := cell_of_row w1 _ 7 _ 29 (0, 0) HZ.out
  have z8 : w1.cell? ⟨w.heap.size + 1, 8, none⟩ = some (.bool false) := cell_of_row w1 _ 8 _ 29 (0, 0) HZ.out
  have z9 : w1.cell? ⟨w.heap.size + 1, 9, none⟩ = some (.slice none 0 0) := cell_of_row w1 _ 9 _ 29 (0, 0) HZ.out
  have z10 : w1.cell? ⟨w.heap.size + 1, 10, none⟩ = some (.string ⟨#[]⟩) := cell_of_row w1 _ 10 _ 29 (0, 0) HZ.out
  have fz : ∀ i, w1.frozen? ⟨w.heap.size + 1, i, none⟩ = false := fun i => Md.of HZ.out
  go_wp2
  obtain ⟨WF, hWF⟩ : ∃ WF, WF = wrm w1 (w.heap.size + 1) mzz := ⟨_, rfl⟩
  have hblk : WF.heap[w.heap.size + 1]? = some (.cells (mc mzz) 29 (0, 0)) := by rw [hWF]; exact store_allm mzz HZ.out
  have hbF : Below w.heap.size w WF := by rw [hWF]; exact below_allm mzz HB.out (by omega)
  have HEF : Hid (∀ A n es, Ents w.heap.size A n es w → Ents WF.heap.size A n es WF) := fun A n es h => (h.below hbF).mr hbF.size
  have HFB := Lib.hid hbF
  unfold wrm at hWF
  rw [← hWF]
  have HWF := Lib.hid hWF
  clear hWF
  have f0 : WF.cell? ⟨w.heap.size + 1, 0, none⟩ = some (.int .i64 0) := cell_of_row WF _ 0 _ 29 (0, 0) hblk
  have f1 : WF.cell? ⟨w.heap.size + 1, 1, none⟩ = some (.int .i64 0) := cell_of_row WF _ 1 _ 29 (0, 0) hblk
  have f2 : WF.cell? ⟨w.heap.size + 1, 2, none⟩ = some (.int .i64 0) := cell_of_row WF _ 2 _ 29 (0, 0) hblk
  have f3 : WF.cell? ⟨w.heap.size + 1, 3, none⟩ = some (.int .u64 0) := cell_of_row WF _ 3 _ 29 (0, 0) hblk
  have f4 : WF.cell? ⟨w.heap.size + 1, 4, none⟩ = some (.int .u64 0) := cell_of_row WF _ 4 _ 29 (0, 0) hblk
  have f5 : WF.cell? ⟨w.heap.size + 1, 5, none⟩ = some (.int .u64 0) := cell_of_row WF _ 5 _ 29 (0, 0) hblk
  have f6 : WF.cell? ⟨w.heap.size + 1, 6, none⟩ = some (.int .u64 0) := cell_of_row WF _ 6 _ 29 (0, 0) hblk
  have f7 : WF.cell? ⟨w.heap.size + 1, 7, none⟩ = some (.int .u64 0) := cell_of_row WF _ 7 _ 29 (0, 0) hblk
  have f8 : WF.cell? ⟨w.heap.size + 1, 8, none⟩ = some (.bool false) := cell_of_row WF _ 8 _ 29 (0, 0) hblk
  have f9 : WF.cell? ⟨w.heap.size + 1, 9, none⟩ = some (.slice none 0 0) := cell_of_row WF _ 9 _ 29 (0, 0) hblk
  have f10 : WF.cell? ⟨w.heap.size + 1, 10, none⟩ = some (.string ⟨#[]⟩) := cell_of_row WF _ 10 _ 29 (0, 0) hblk
  exact bodyPost_ret (v := .tuple #[mv mzz, .bool false]) (by simp [results, Tryz.results19, go_sem, f0, f1, f2, f3, f4, f5, f6, f7, f8, f9, f10]) rfl (shim_end (mzz_ents _ _) (by rw [shimM_no HNO.out]; exact like_refl _) HNO.out.symm HFB.out)
set_option maxHeartbeats 2000000 in
set_option maxRecDepth 100000 in
theorem shim_9 (m : Ms) (w : World) (hE : Ents w.heap.size m.A m.n m.es w) (wd : m.Wide) (hr : mrightB m = true) (hk : m.kind = 9) :
    Calls Tryz.prog 19 #[mv m] w (Shimd m w) := by
  have hyes : shimO m = true := by unfold shimO; rw [hr, decide_eq_true hk]; simp
  have hM : shimM m = (⟨5, m.frm, m.dst, m.term, 0, 0, 0, m.mark, false, none, 0, 0, [], ⟨#[]⟩⟩ : Ms) := by unfold shimM; rw [hyes, if_neg (by decide)]; rw [if_pos hk]
  have HYES := Lib.hid hyes
  have HMM := Lib.hid hM
  obtain ⟨W0, hW0⟩ : ∃ W0, W0 = (w.alloc (Obj.cells (mc m) 29)).alloc (Obj.cells (mc mzz) 29) := ⟨_, rfl⟩
  have b0 : Below w.heap.size w W0 := by rw [hW0]; exact ((Below.refl _ _).alloc (Nat.le_refl _) _).alloc (by simp) _
  have k0 : W0.heap[w.heap.size]? = some (.cells (mc m) 29 (0, 0)) := by rw [hW0]; exact blk_al _ (heap_alloc_new w _)
  have k1 : W0.heap[w.heap.size + 1]? = some (.cells (mc mzz) 29 (0, 0)) := by rw [hW0]; have h := heap_alloc_new (w.alloc (Obj.cells (mc m) 29)) (Obj.cells (mc mzz) 29); simpa using h
  have hE0 := (hE.below b0).mr b0.size
  have KR := Lib.hid (mright_any m W0 hE0 (wide_n wd) wd.eo)
  have KL := Lib.hid (fun (W : World) (h : Ents W.heap.size m.A m.n m.es W) => mlevel_any m W h (wide_n wd))
  have HW := Lib.hid hW0
  have HE := Lib.hid hE0
  have HEW := Lib.hid hE
  have HB0 := Lib.hid b0
  have HK0 := Lib.hid k0
  have HK1 := Lib.hid k1
  have HWD := Lib.hid wd
  clear hW0 b0 k0 k1 hE0
  rw [hr] at KR
  rw [mlvl9 hk] at KL
  have HKD := Lib.hid hk
  clear hr hyes hM wd hE hk
  go_enter Tryz.func19, Tryz.ntmps19
  go_upto_region 1 with fail
  rw [← HW.out]
  have a0 : W0.cell? ⟨w.heap.size, 0, none⟩ = some (.int .i64 m.kind) := cell_of_row W0 _ 0 _ 29 (0, 0) HK0.out
  have a1 : W0.cell? ⟨w.heap.size, 1, none⟩ = some (.int .i64 m.frm) := cell_of_row W0 _ 1 _ 29 (0, 0) HK0.out
  have a2 : W0.cell? ⟨w.heap.size, 2, none⟩ = some (.int .i64 m.dst) := cell_of_row W0 _ 2 _ 29 (0, 0) HK0.out
  have a3 : W0.cell? ⟨w.heap.size, 3, none⟩ = some (.int .u64 m.term) := cell_of_row W0 _ 3 _ 29 (0, 0) HK0.out
  have a4 : W0.cell? ⟨w.heap.size, 4, none⟩ = some (.int .u64 m.index) := cell_of_row W0 _ 4 _ 29 (0, 0) HK0.out
  have a5 : W0.cell? ⟨w.heap.size, 5, none⟩ = some (.int .u64 m.prev) := cell_of_row W0 _ 5 _ 29 (0, 0) HK0.out
  have a6 : W0.cell? ⟨w.heap.size, 6, none⟩ = some (.int .u64 m.commit) := cell_of_row W0 _ 6 _ 29 (0, 0) HK0.out
  have a7 : W0.cell? ⟨w.heap.size, 7, none⟩ = some (.int .u64 m.mark) := cell_of_row W0 _ 7 _ 29 (0, 0) HK0.out
  have a8 : W0.cell? ⟨w.heap.size, 8, none⟩ = some (.bool m.ok) := cell_of_row W0 _ 8 _ 29 (0, 0) HK0.out
  have a9 : W0.cell? ⟨w.heap.size, 9, none⟩ = some (.slice m.A m.n m.c) := cell_of_row W0 _ 9 _ 29 (0, 0) HK0.out
  have a10 : W0.cell? ⟨w.heap.size, 10, none⟩ = some (.string m.snap) := cell_of_row W0 _ 10 _ 29 (0, 0) HK0.out
  go_wp2_with fail
  refine KR.out.mono ?_
  rintro q w1 ⟨rfl, b1⟩
  have l0 := (Array.getElem?_eq_some_iff.1 HK0.out).1
  have l1 := (Array.getElem?_eq_some_iff.1 HK1.out).1
  have HM : Hid (w1.heap[w.heap.size]? = some (.cells (mc m) 29 (0, 0))) := (b1.block _ l0).trans HK0.out
  have HZ : Hid (w1.heap[w.heap.size + 1]? = some (.cells (mc mzz) 29 (0, 0))) := (b1.block _ l1).trans HK1.out
  have HB : Hid (Below w.heap.size w w1) := HB0.out.trans (b1.mono HB0.out.size)
  have HE1 : Hid (Ents w1.heap.size m.A m.n m.es w1) := (HE.out.below b1).mr b1.size
  clear b1 l0 l1 a0 a1 a2 a3 a4 a5 a6 a7 a8 a9 a10
  have a0 : w1.cell? ⟨w.heap.size, 0, none⟩ = some (.int .i64 m.kind) := cell_of_row w1 _ 0 _ 29 (0, 0) HM.out
  have a1 : w1.cell? ⟨w.heap.size, 1, none⟩ = some (.int .i64 m.frm) := cell_of_row w1 _ 1 _ 29 (0, 0) HM.out
  have a2 : w1.cell? ⟨w.heap.size, 2, none⟩ = some (.int .i64 m.dst) := cell_of_row w1 _ 2 _ 29 (0, 0) HM.out
  have a3 : w1.cell? ⟨w.heap.size, 3, none⟩ = some (.int .u64 m.term) := cell_of_row w1 _ 3 _ 29 (0, 0) HM.out
  have a4 : w1.cell? ⟨w.heap.size, 4, none⟩ = some (.int .u64 m.index) := cell_of_row w1 _ 4 _ 29 (0, 0) HM.out
  have a5 : w1.cell? ⟨w.heap.size, 5, none⟩ = some (.int .u64 m.prev) := cell_of_row w1 _ 5 _ 29 (0, 0) HM.out
  have a6 : w1.cell? ⟨w.heap.size, 6, none⟩ = some (.int .u64 m.commit) := cell_of_row w1 _ 6 _ 29 (0, 0) HM.out
  have a7 : w1.cell? ⟨w.heap.size, 7, none⟩ = some (.int .u64 m.mark) := cell_of_row w1 _ 7 _ 29 (0, 0) HM.out
  have a8 : w1.cell? ⟨w.heap.size, 8, none⟩ = some (.bool m.ok) := cell_of_row w1 _ 8 _ 29 (0, 0) HM.out
  have a9 : w1.cell? ⟨w.heap.size, 9, none⟩ = some (.slice m.A m.n m.c) := cell_of_row w1 _ 9 _ 29 (0, 0) HM.out
  have a10 : w1.cell? ⟨w.heap.size, 10, none⟩ = some (.string m.snap) := cell_of_row w1 _ 10 _ 29 (0, 0) HM.out
  go_wp2_with fail
  refine (KL.out _ HE1.out).mono ?_
  rintro q w2 ⟨rfl, b2⟩
  have HM2 : Hid (w2.heap[w.heap.size]? = some (.cells (mc m) 29 (0, 0))) := (b2.block _ (Array.getElem?_eq_some_iff.1 HM.out).1).trans HM.out
  have HZ2 : Hid (w2.heap[w.heap.size + 1]? = some (.cells (mc mzz) 29 (0, 0))) := (b2.block _ (Array.getElem?_eq_some_iff.1 HZ.out).1).trans HZ.out
  have HB2 : Hid (Below w.heap.size w w2) := HB.out.trans (b2.mono HB.out.size)
  clear b2 HB HZ HM a0 a1 a2 a3 a4 a5 a6 a7 a8 a9 a10
  have HM := HM2
  have HZ := HZ2
  have HB := HB2
  clear HM2 HZ2 HB2
  have a0 : w2.cell? ⟨w.heap.size, 0, none⟩ = some (.int .i64 9) := by rw [← HKD.out]; exact cell_of_row w2 _ 0 _ 29 (0, 0) HM.out
  have a1 : w2.cell? ⟨w.heap.size, 1, none⟩ = some (.int .i64 m.frm) := cell_of_row w2 _ 1 _ 29 (0, 0) HM.out
  have a2 : w2.cell? ⟨w.heap.size, 2, none⟩ = some (.int .i64 m.dst) := cell_of_row w2 _ 2 _ 29 (0, 0) HM.out
  have a3 : w2.cell? ⟨w.heap.size, 3, none⟩ = some (.int .u64 m.term) := cell_of_row w2 _ 3 _ 29 (0, 0) HM.out
  have a4 : w2.cell? ⟨w.heap.size, 4, none⟩ = some (.int .u64 m.index) := cell_of_row w2 _ 4 _ 29 (0, 0) HM.out
  have a5 : w2.cell? ⟨w.heap.size, 5, none⟩ = some (.int .u64 m.prev) := cell_of_row w2 _ 5 _ 29 (0, 0) HM.out
  have a6 : w2.cell? ⟨w.heap.size, 6, none⟩ = some (.int .u64 m.commit) := cell_of_row w2 _ 6 _ 29 (0, 0) HM.out
  have a7 : w2.cell? ⟨w.heap.size, 7, none⟩ = some (.int .u64 m.mark) := cell_of_row w2 _ 7 _ 29 (0, 0) HM.out
  have a8 : w2.cell? ⟨w.heap.size, 8, none⟩ = some (.bool m.ok) := cell_of_row w2 _ 8 _ 29 (0, 0) HM.out
  have a9 : w2.cell? ⟨w.heap.size, 9, none⟩ = some (.slice m.A m.n m.c) := cell_of_row w2 _ 9 _ 29 (0, 0) HM.out
  have a10 : w2.cell? ⟨w.heap.size, 10, none⟩ = some (.string m.snap) := cell_of_row w2 _ 10 _ 29 (0, 0) HM.out
  have z0 : w2.cell? ⟨w.heap.size + 1, 0, none⟩ = some (.int .i64 0) := cell_of_row w2 _ 0 _ 29 (0, 0) HZ.out
  have z1 : w2.cell? ⟨w.heap.size + 1, 1, none⟩ = some (.int .i64 0) := cell_of_row w2 _ 1 _ 29 (0, 0) HZ.out
  have z2 : w2.cell? ⟨w.heap.size + 1, 2, none⟩ = some (.int .i64 0) := cell_of_row w2 _ 2 _ 29 (0, 0) HZ.out
  have z3 : w2.cell? ⟨w.heap.size + 1, 3, none⟩ = some (.int .u64 0) := cell_of_row w2 _ 3 _ 29 (0, 0) HZ.out
  have z4 : w2.cell? ⟨w.heap.size + 1, 4, none⟩ = some (.int .u64 0) := cell_of_row w2 _ 4 _ 29 (0, 0) HZ.out
  have z5 : w2.cell? ⟨w.heap.size + 1, 5, none⟩ = some (.int .u64 0) := cell_of_row w2 _ 5 _ 29 (0, 0) HZ.out
  have z6 : w2.cell? ⟨w.heap.size + 1, 6, none⟩ = some (.int .u64 0) := cell_of_row w2 _ 6 _ 29 (0, 0) HZ.out
  have z7 : w2.cell? ⟨w.heap.size + 1, 7, none⟩ = some (.int .u64 0) := cell_of_row w2 _ 7 _ 29 (0, 0) HZ.out
  have z8 : w2.cell? ⟨w.heap.size + 1, 8, none⟩ = some (.bool false) := cell_of_row w2 _ 8 _ 29 (0, 0) HZ.out
  have z9 : w2.cell? ⟨w.heap.size + 1, 9, none⟩ = some (.slice none 0 0) := cell_of_row w2 _ 9 _ 29 (0, 0) HZ.out
  have z10 : w2.cell? ⟨w.heap.size + 1, 10, none⟩ = some (.string ⟨#[]⟩) := cell_of_row w2 _ 10 _ 29 (0, 0) HZ.out
  have fz : ∀ i, w2.frozen? ⟨w.heap.size + 1, i, none⟩ = false := fun i => Md.of HZ.out
  go_wp2
  obtain ⟨WF, hWF⟩ : ∃ WF, WF = wrm w2 (w.heap.size + 1) (⟨5, m.frm, m.dst, m.term, 0, 0, 0, m.mark, false, none, 0, 0, [], ⟨#[]⟩⟩ : Ms) := ⟨_, rfl⟩
  have hblk : WF.heap[w.heap.size + 1]? = some (.cells (mc (⟨5, m.frm, m.dst, m.term, 0, 0, 0, m.mark, false, none, 0, 0, [], ⟨#[]⟩⟩ : Ms)) 29 (0, 0)) := by rw [hWF]; exact store_allm (⟨5, m.frm, m.dst, m.term, 0, 0, 0, m.mark, false, none, 0, 0, [], ⟨#[]⟩⟩ : Ms) HZ.out
  have hbF : Below w.heap.size w WF := by rw [hWF]; exact below_allm (⟨5, m.frm, m.dst, m.term, 0, 0, 0, m.mark, false, none, 0, 0, [], ⟨#[]⟩⟩ : Ms) HB.out (by omega)
  have HEF : Hid (∀ A n es, Ents w.heap.size A n es w → Ents WF.heap.size A n es WF) := fun A n es h => (h.below hbF).mr hbF.size
  have HFB := Lib.hid hbF
  unfold wrm at hWF
  rw [← hWF]
  have HWF := Lib.hid hWF
  clear hWF
  have f0 : WF.cell? ⟨w.heap.size + 1, 0, none⟩ = some (.int .i64 5) := cell_of_row WF _ 0 _ 29 (0, 0) hblk
  have f1 : WF.cell? ⟨w.heap.size + 1, 1, none⟩ = some (.int .i64 m.frm) := cell_of_row WF _ 1 _ 29 (0, 0) hblk
  have f2 : WF.cell? ⟨w.heap.size + 1, 2, none⟩ = some (.int .i64 m.dst) := cell_of_row WF _ 2 _ 29 (0, 0) hblk
  have f3 : WF.cell? ⟨w.heap.size + 1, 3, none⟩ = some (.int .u64 m.term) := cell_of_row WF _ 3 _ 29 (0, 0) hblk
  have f4 : WF.cell? ⟨w.heap.size + 1, 4, none⟩ = some (.int .u64 0) := cell_of_row WF _ 4 _ 29 (0, 0) hblk
  have f5 : WF.cell? ⟨w.heap.size + 1, 5, none⟩ = some (.int .u64 0) := cell_of_row WF _ 5 _ 29 (0, 0) hblk
  have f6 : WF.cell? ⟨w.heap.size + 1, 6, none⟩ = some (.int .u64 0) := cell_of_row WF _ 6 _ 29 (0, 0) hblk
  have f7 : WF.cell? ⟨w.heap.size + 1, 7, none⟩ = some (.int .u64 m.mark) := cell_of_row WF _ 7 _ 29 (0, 0) hblk
  have f8 : WF.cell? ⟨w.heap.size + 1, 8, none⟩ = some (.bool false) := cell_of_row WF _ 8 _ 29 (0, 0) hblk
  have f9 : WF.cell? ⟨w.heap.size + 1, 9, none⟩ = some (.slice none 0 0) := cell_of_row WF _ 9 _ 29 (0, 0) hblk
  have f10 : WF.cell? ⟨w.heap.size + 1, 10, none⟩ = some (.string ⟨#[]⟩) := cell_of_row WF _ 10 _ 29 (0, 0) hblk
  exact bodyPost_ret (v := .tuple #[mv (⟨5, m.frm, m.dst, m.term, 0, 0, 0, m.mark, false, none, 0, 0, [], ⟨#[]⟩⟩ : Ms), .bool true]) (by simp [results, Tryz.results19, go_sem, f0, f1, f2, f3, f4, f5, f6, f7, f8, f9, f10]) rfl (shim_end (ents_nil _ _ _) (by rw [HMM.out]; exact like_refl _) HYES.out.symm HFB.out)
set_option maxHeartbeats 2000000 in
set_option maxRecDepth 100000 in
theorem shim_10 (m : Ms) (w : World) (hE : Ents w.heap.size m.A m.n m.es w) (wd : m.Wide) (hr : mrightB m = true) (hk : m.kind = 10) :
    Calls Tryz.prog 19 #[mv m] w (Shimd m w) := by
  have hyes : shimO m = true := by unfold shimO; rw [hr, decide_eq_true hk]; simp
  have hM : shimM m = (⟨6, m.frm, m.dst, m.term, 0, 0, 0, m.mark, true, none, 0, 0, [], ⟨#[]⟩⟩ : Ms) := by unfold shimM; rw [hyes, if_neg (by decide)]; rw [if_neg (by omega), if_pos hk]
  have HYES := Lib.hid hyes
  have HMM := Lib.hid hM
  obtain ⟨W0, hW0⟩ : ∃ W0, W0 = (w.alloc (Obj.cells (mc m) 29)).alloc (Obj.cells (mc mzz) 29) := ⟨_, rfl⟩
  have b0 : Below w.heap.size w W0 := by rw [hW0]; exact ((Below.refl _ _).alloc (Nat.le_refl _) _).alloc (by simp) _
  have k0 : W0.heap[w.heap.size]? = some (.cells (mc m) 29 (0, 0)) := by rw [hW0]; exact blk_al _ (heap_alloc_new w _)
  have k1 : W0.heap[w.heap.size + 1]? = some (.cells (mc mzz) 29 (0, 0)) := by rw [hW0]; have h := heap_alloc_new (w.alloc (Obj.cells (mc m) 29)) (Obj.cells (mc mzz) 29); simpa using h
  have hE0 := (hE.below b0).mr b0.size
  have KR := Lib.hid (mright_any m W0 hE0 (wide_n wd) wd.eo)
  have KL := Lib.hid (fun (W : World) (h : Ents W.heap.size m.A m.n m.es W) => mlevel_any m W h (wide_n wd))
  have HW := Lib.hid hW0
  have HE := Lib.hid hE0
  have HEW := Lib.hid hE
  have HB0 := Lib.hid b0
  have HK0 := Lib.hid k0
  have HK1 := Lib.hid k1
  have HWD := Lib.hid wd
  clear hW0 b0 k0 k1 hE0
  rw [hr] at KR
  rw [mlvl10 hk] at KL
  have HKD := Lib.hid hk
  clear hr hyes hM wd hE hk
  go_enter Tryz.func19, Tryz.ntmps19
  go_upto_region 1 with fail
  rw [← HW.out]
  have a0 : W0.cell? ⟨w.heap.size, 0, none⟩ = some (.int .i64 m.kind) := cell_of_row W0 _ 0 _ 29 (0, 0) HK0.out
  have a1 : W0.cell? ⟨w.heap.size, 1, none⟩ = some (.int .i64 m.frm) := cell_of_row W0 _ 1 _ 29 (0, 0) HK0.out
  have a2 : W0.cell? ⟨w.heap.size, 2, none⟩ = some (.int .i64 m.dst) := cell_of_row W0 _ 2 _ 29 (0, 0) HK0.out
  have a3 : W0.cell? ⟨w.heap.size, 3, none⟩ = some (.int .u64 m.term) := cell_of_row W0 _ 3 _ 29 (0, 0) HK0.out
  have a4 : W0.cell? ⟨w.heap.size, 4, none⟩ = some (.int .u64 m.index) := cell_of_row W0 _ 4 _ 29 (0, 0) HK0.out
  have a5 : W0.cell? ⟨w.heap.size, 5, none⟩ = some (.int .u64 m.prev) := cell_of_row W0 _ 5 _ 29 (0, 0) HK0.out
  have a6 : W0.cell? ⟨w.heap.size, 6, none⟩ = some (.int .u64 m.commit) := cell_of_row W0 _ 6 _ 29 (0, 0) HK0.out
  have a7 : W0.cell? ⟨w.heap.size, 7, none⟩ = some (.int .u64 m.mark) := cell_of_row W0 _ 7 _ 29 (0, 0) HK0.out
  have a8 : W0.cell? ⟨w.heap.size, 8, none⟩ = some (.bool m.ok) := cell_of_row W0 _ 8 _ 29 (0, 0) HK0.out
  have a9 : W0.cell? ⟨w.heap.size, 9, none⟩ = some (.slice m.A m.n m.c) := cell_of_row W0 _ 9 _ 29 (0, 0) HK0.out
  have a10 : W0.cell? ⟨w.heap.size, 10, none⟩ = some (.string m.snap) := cell_of_row W0 _ 10 _ 29 (0, 0) HK0.out
  go_wp2_with fail
  refine KR.out.mono ?_
  rintro q w1 ⟨rfl, b1⟩
  have l0 := (Array.getElem?_eq_some_iff.1 HK0.out).1
  have l1 := (Array.getElem?_eq_some_iff.1 HK1.out).1
  have HM : Hid (w1.heap[w.heap.size]? = some (.cells (mc m) 29 (0, 0))) := (b1.block _ l0).trans HK0.out
  have HZ : Hid (w1.heap[w.heap.size + 1]? = some (.cells (mc mzz) 29 (0, 0))) := (b1.block _ l1).trans HK1.out
  have HB : Hid (Below w.heap.size w w1) := HB0.out.trans (b1.mono HB0.out.size)
  have HE1 : Hid (Ents w1.heap.size m.A m.n m.es w1) := (HE.out.below b1).mr b1.size
  clear b1 l0 l1 a0 a1 a2 a3 a4 a5 a6 a7 a8 a9 a10
  have a0 : w1.cell? ⟨w.heap.size, 0, none⟩ = some (.int .i64 m.kind) := cell_of_row w1 _ 0 _ 29 (0, 0) HM.out
  have a1 : w1.cell? ⟨w.heap.size, 1, none⟩ = some (.int .i64 m.frm) := cell_of_row w1 _ 1 _ 29 (0, 0) HM.out
  have a2 : w1.cell? ⟨w.heap.size, 2, none⟩ = some (.int .i64 m.dst) := cell_of_row w1 _ 2 _ 29 (0, 0) HM.out
  have a3 : w1.cell? ⟨w.heap.size, 3, none⟩ = some (.int .u64 m.term) := cell_of_row w1 _ 3 _ 29 (0, 0) HM.out
  have a4 : w1.cell? ⟨w.heap.size, 4, none⟩ = some (.int .u64 m.index) := cell_of_row w1 _ 4 _ 29 (0, 0) HM.out
  have a5 : w1.cell? ⟨w.heap.size, 5, none⟩ = some (.int .u64 m.prev) := cell_of_row w1 _ 5 _ 29 (0, 0) HM.out
  have a6 : w1.cell? ⟨w.heap.size, 6, none⟩ = some (.int .u64 m.commit) := cell_of_row w1 _ 6 _ 29 (0, 0) HM.out
  have a7 : w1.cell? ⟨w.heap.size, 7, none⟩ = some (.int .u64 m.mark) := cell_of_row w1 _ 7 _ 29 (0, 0) HM.out
  have a8 : w1.cell? ⟨w.heap.size, 8, none⟩ = some (.bool m.ok) := cell_of_row w1 _ 8 _ 29 (0, 0) HM.out
  have a9 : w1.cell? ⟨w.heap.size, 9, none⟩ = some (.slice m.A m.n m.c) := cell_of_row w1 _ 9 _ 29 (0, 0) HM.out
  have a10 : w1.cell? ⟨w.heap.size, 10, none⟩ = some (.string m.snap) := cell_of_row w1 _ 10 _ 29 (0, 0) HM.out
  go_wp2_with fail
  refine (KL.out _ HE1.out).mono ?_
  rintro q w2 ⟨rfl, b2⟩
  have HM2 : Hid (w2.heap[w.heap.size]? = some (.cells (mc m) 29 (0, 0))) := (b2.block _ (Array.getElem?_eq_some_iff.1 HM.out).1).trans HM.out
  have HZ2 : Hid (w2.heap[w.heap.size + 1]? = some (.cells (mc mzz) 29 (0, 0))) := (b2.block _ (Array.getElem?_eq_some_iff.1 HZ.out).1).trans HZ.out
  have HB2 : Hid (Below w.heap.size w w2) := HB.out.trans (b2.mono HB.out.size)
  clear b2 HB HZ HM a0 a1 a2 a3 a4 a5 a6 a7 a8 a9 a10
  have HM := HM2
  have HZ := HZ2
  have HB := HB2
  clear HM2 HZ2 HB2
  have a0 : w2.cell? ⟨w.heap.size, 0, none⟩ = some (.int .i64 10) := by rw [← HKD.out]; exact cell_of_row w2 _ 0 _ 29 (0, 0) HM.out
  have a1 : w2.cell? ⟨w.heap.size, 1, none⟩ = some (.int .i64 m.frm) := cell_of_row w2 _ 1 _ 29 (0, 0) HM.out
  have a2 : w2.cell? ⟨w.heap.size, 2, none⟩ = some (.int .i64 m.dst) := cell_of_row w2 _ 2 _ 29 (0, 0) HM.out
  have a3 : w2.cell? ⟨w.heap.size, 3, none⟩ = some (.int .u64 m.term) := cell_of_row w2 _ 3 _ 29 (0, 0) HM.out
  have a4 : w2.cell? ⟨w.heap.size, 4, none⟩ = some (.int .u64 m.index) := cell_of_row w2 _ 4 _ 29 (0, 0) HM.out
  have a5 : w2.cell? ⟨w.heap.size, 5, none⟩ = some (.int .u64 m.prev) := cell_of_row w2 _ 5 _ 29 (0, 0) HM.out
  have a6 : w2.cell? ⟨w.heap.size, 6, none⟩ = some (.int .u64 m.commit) := cell_of_row w2 _ 6 _ 29 (0, 0) HM.out
  have a7 : w2.cell? ⟨w.heap.size, 7, none⟩ = some (.int .u64 m.mark) := cell_of_row w2 _ 7 _ 29 (0, 0) HM.out
  have a8 : w2.cell? ⟨w.heap.size, 8, none⟩ = some (.bool m.ok) := cell_of_row w2 _ 8 _ 29 (0, 0) HM.out
  have a9 : w2.cell? ⟨w.heap.size, 9, none⟩ = some (.slice m.A m.n m.c) := cell_of_row w2 _ 9 _ 29 (0, 0) HM.out
  have a10 : w2.cell? ⟨w.heap.size, 10, none⟩ = some (.string m.snap) := cell_of_row w2 _ 10 _ 29 (0, 0) HM.out
  have z0 : w2.cell? ⟨w.heap.size + 1, 0, none⟩ = some (.int .i64 0) := cell_of_row w2 _ 0 _ 29 (0, 0) HZ.out
  have z1 : w2.cell? ⟨w.heap.size + 1, 1, none⟩ = some (.int .i64 0) := cell_of_row w2 _ 1 _ 29 (0, 0) HZ.out
  have z2 : w2.cell? ⟨w.heap.size + 1, 2, none⟩ = some (.int .i64 0) := cell_of_row w2 _ 2 _ 29 (0, 0) HZ.out
  have z3 : w2.cell? ⟨w.heap.size + 1, 3, none⟩ = some (.int .u64 0) := cell_of_row w2 _ 3 _ 29 (0, 0) HZ.out
  have z4 : w2.cell? ⟨w.heap.size + 1, 4, none⟩ = some (.int .u64 0) := cell_of_row w2 _ 4 _ 29 (0, 0) HZ.out
  have z5 : w2.cell? ⟨w.heap.size + 1, 5, none⟩ = some (.int .u64 0) := cell_of_row w2 _ 5 _ 29 (0, 0) HZ.out
  have z6 : w2.cell? ⟨w.heap.size + 1, 6, none⟩ = some (.int .u64 0) := cell_of_row w2 _ 6 _ 29 (0, 0) HZ.out
  have z7 : w2.cell? ⟨w.heap.size + 1, 7, none⟩ = some (.int .u64 0) := cell_of_row w2 _ 7 _ 29 (0, 0) HZ.out
  have z8 : w2.cell? ⟨w.heap.size + 1, 8, none⟩ = some (.bool false) := cell_of_row w2 _ 8 _ 29 (0, 0) HZ.out
  have z9 : w2.cell? ⟨w.heap.size + 1, 9, none⟩ = some (.slice none 0 0) := cell_of_row w2 _ 9 _ 29 (0, 0) HZ.out
  have z10 : w2.cell? ⟨w.heap.size + 1, 10, none⟩ = some (.string ⟨#[]⟩) := cell_of_row w2 _ 10 _ 29 (0, 0) HZ.out
  have fz : ∀ i, w2.frozen? ⟨w.heap.size + 1, i, none⟩ = false := fun i => Md.of HZ.out
  go_wp2
  obtain ⟨WF, hWF⟩ : ∃ WF, WF = wrm w2 (w.heap.size + 1) (⟨6, m.frm, m.dst, m.term, 0, 0, 0, m.mark, true, none, 0, 0, [], ⟨#[]⟩⟩ : Ms) := ⟨_, rfl⟩
  have hblk : WF.heap[w.heap.size + 1]? = some (.cells (mc (⟨6, m.frm, m.dst, m.term, 0, 0, 0, m.mark, true, none, 0, 0, [], ⟨#[]⟩⟩ : Ms)) 29 (0, 0)) := by rw [hWF]; exact store_allm (⟨6, m.frm, m.dst, m.term, 0, 0, 0, m.mark, true, none, 0, 0, [], ⟨#[]⟩⟩ : Ms) HZ.out
  have hbF : Below w.heap.size w WF := by rw [hWF]; exact below_allm (⟨6, m.frm, m.dst, m.term, 0, 0, 0, m.mark, true, none, 0, 0, [], ⟨#[]⟩⟩ : Ms) HB.out (by omega)
  have HEF : Hid (∀ A n es, Ents w.heap.size A n es w → Ents WF.heap.size A n es WF) := fun A n es h => (h.below hbF).mr hbF.size
  have HFB := Lib.hid hbF
  unfold wrm at hWF
  rw [← hWF]
  have HWF := Lib.hid hWF
  clear hWF
  have f0 : WF.cell? ⟨w.heap.size + 1, 0, none⟩ = some (.int .i64 6) := cell_of_row WF _ 0 _ 29 (0, 0) hblk
  have f1 : WF.cell? ⟨w.heap.size + 1, 1, none⟩ = some (.int .i64 m.frm) := cell_of_row WF _ 1 _ 29 (0, 0) hblk
  have f2 : WF.cell? ⟨w.heap.size + 1, 2, none⟩ = some (.int .i64 m.dst) := cell_of_row WF _ 2 _ 29 (0, 0) hblk
  have f3 : WF.cell? ⟨w.heap.size + 1, 3, none⟩ = some (.int .u64 m.term) := cell_of_row WF _ 3 _ 29 (0, 0) hblk
  have f4 : WF.cell? ⟨w.heap.size + 1, 4, none⟩ = some (.int .u64 0) := cell_of_row WF _ 4 _ 29 (0, 0) hblk
  have f5 : WF.cell? ⟨w.heap.size + 1, 5, none⟩ = some (.int .u64 0) := cell_of_row WF _ 5 _ 29 (0, 0) hblk
  have f6 : WF.cell? ⟨w.heap.size + 1, 6, none⟩ = some (.int .u64 0) := cell_of_row WF _ 6 _ 29 (0, 0) hblk
  have f7 : WF.cell? ⟨w.heap.size + 1, 7, none⟩ = some (.int .u64 m.mark) := cell_of_row WF _ 7 _ 29 (0, 0) hblk
  have f8 : WF.cell? ⟨w.heap.size + 1, 8, none⟩ = some (.bool true) := cell_of_row WF _ 8 _ 29 (0, 0) hblk
  have f9 : WF.cell? ⟨w.heap.size + 1, 9, none⟩ = some (.slice none 0 0) := cell_of_row WF _ 9 _ 29 (0, 0) hblk
  have f10 : WF.cell? ⟨w.heap.size + 1, 10, none⟩ = some (.string ⟨#[]⟩) := cell_of_row WF _ 10 _ 29 (0, 0) hblk
  exact bodyPost_ret (v := .tuple #[mv (⟨6, m.frm, m.dst, m.term, 0, 0, 0, m.mark, true, none, 0, 0, [], ⟨#[]⟩⟩ : Ms), .bool true]) (by simp [results, Tryz.results19, go_sem, f0, f1, f2, f3, f4, f5, f6, f7, f8, f9, f10]) rfl (shim_end (ents_nil _ _ _) (by rw [HMM.out]; exact like_refl _) HYES.out.symm HFB.out)
theorem mzz_wide : mzz.Wide := by
  constructor <;> first | decide | (intro e he; cases he)
end Go.Proofs.YtpdbeijfchmlgaaGreat
namespace Go.Proofs.YtpdbeijfchmlgaaGreat
open Go.RowKit
set_option linter.unusedVariables false
set_option linter.unusedSimpArgs false
theorem ents_keep {B : Nat} {A : Option Addr} {n : Nat} {es : List En} {w w' : World} (h : Ents B A n es w) (hk : ∀ a, A = some a → w'.heap[a.block]? = w.heap[a.block]?) (hs : B ≤ w'.heap.size) : Ents w'.heap.size A n es w' := by
  refine ⟨h.len, fun i e he => ?_⟩
  obtain ⟨a, hA, hB, hc⟩ := h.at_ i e he
  refine ⟨a, hA, by omega, fun j hj => ?_⟩
  rw [← hc j hj]
  exact World.cell?_of_block (by rw [block_of_add, block_of_add]; exact hk a hA)
theorem heap_wrm (W : World) (g k : Nat) (M : Ms) (h : k ≠ g) : (wrm W g M).heap[k]? = W.heap[k]? := by
  have hs : ∀ (w : World) (i : Nat) (u : Value), (w.setCell ⟨g, i, none⟩ u).heap[k]? = w.heap[k]? := fun w i u => Below.heap_setCell w _ _ k (by simp; omega)
  unfold wrm
  rw [hs, hs, hs, hs, hs, hs, hs, hs, hs, hs, hs]
set_option maxHeartbeats 2000000 in
set_option maxRecDepth 100000 in
theorem shim_1 (m : Ms) (w : World) (hE : Ents w.heap.size m.A m.n m.es w) (wd : m.Wide) (hr : mrightB m = true) (hl : mlvl m = 1) :
    Calls Tryz.prog 19 #[mv m] w (Shimd m w) := by
  have hyes : shimO m = true := by unfold shimO; rw [hr, decide_eq_true hl]; rfl
  have h9 : m.kind ≠ 9 := fun h => by have := mlvl9 h; omega
  have h10 : m.kind ≠ 10 := fun h => by have := mlvl10 h; omega
  have hM : shimM m = m := by unfold shimM; rw [hyes, if_neg (by decide), if_neg h9, if_neg h10]
  have hn := mright_n wd hr
  have HYES := Lib.hid hyes
  have HMM := Lib.hid hM
  have KC := Lib.hid (fun (W : World) (h : Ents W.heap.size m.A m.n m.es W) => clone_es m.A m.n m.c m.es W h hn)
  obtain ⟨W0, hW0⟩ : ∃ W0, W0 = (w.alloc (Obj.cells (mc m) 29)).alloc (Obj.cells (mc mzz) 29) := ⟨_, rfl⟩
  have b0 : Below w.heap.size w W0 := by rw [hW0]; exact ((Below.refl _ _).alloc (Nat.le_refl _) _).alloc (by simp) _
  have k0 : W0.heap[w.heap.size]? = some (.cells (mc m) 29 (0, 0)) := by rw [hW0]; exact blk_al _ (heap_alloc_new w _)
  have k1 : W0.heap[w.heap.size + 1]? = some (.cells (mc mzz) 29 (0, 0)) := by rw [hW0]; have h := heap_alloc_new (w.alloc (Obj.cells (mc m) 29)) (Obj.cells (mc mzz) 29); simpa using h
  have hE0 := (hE.below b0).mr b0.size
  have KR := Lib.hid (mright_any m W0 hE0 (wide_n wd) wd.eo)
  have KL := Lib.hid (fun (W : World) (h : Ents W.heap.size m.A m.n m.es W) => mlevel_any m W h (wide_n wd))
  have HW := Lib.hid hW0
  have HE := Lib.hid hE0
  have HEW := Lib.hid hE
  have HB0 := Lib.hid b0
  have HK0 := Lib.hid k0
  have HK1 := Lib.hid k1
  have HWD := Lib.hid wd
  clear hW0 b0 k0 k1 hE0
  rw [hr] at KR
  rw [hl] at KL
  clear hr hyes hM wd hE hl h9 h10 hn
  go_enter Tryz.func19, Tryz.ntmps19
  go_upto_region 1 with fail
  rw [← HW.out]
  have HM := HK0
  have HZ := HK1
  have HB := HB0
  clear HK0 HK1 HB0
  have a0 : W0.cell? ⟨w.heap.size, 0, none⟩ = some (.int .i64 m.kind) := cell_of_row W0 _ 0 _ 29 (0, 0) HM.out
  have a1 : W0.cell? ⟨w.heap.size, 1, none⟩ = some (.int .i64 m.frm) := cell_of_row W0 _ 1 _ 29 (0, 0) HM.out
  have a2 : W0.cell? ⟨w.heap.size, 2, none⟩ = some (.int .i64 m.dst) := cell_of_row W0 _ 2 _ 29 (0, 0) HM.out
  have a3 : W0.cell? ⟨w.heap.size, 3, none⟩ = some (.int .u64 m.term) := cell_of_row W0 _ 3 _ 29 (0, 0) HM.out
  have a4 : W0.cell? ⟨w.heap.size, 4, none⟩ = some (.int .u64 m.index) := cell_of_row W0 _ 4 _ 29 (0, 0) HM.out
  have a5 : W0.cell? ⟨w.heap.size, 5, none⟩ = some (.int .u64 m.prev) := cell_of_row W0 _ 5 _ 29 (0, 0) HM.out
  have a6 : W0.cell? ⟨w.heap.size, 6, none⟩ = some (.int .u64 m.commit) := cell_of_row W0 _ 6 _ 29 (0, 0) HM.out
  have a7 : W0.cell? ⟨w.heap.size, 7, none⟩ = some (.int .u64 m.mark) := cell_of_row W0 _ 7 _ 29 (0, 0) HM.out
  have a8 : W0.cell? ⟨w.heap.size, 8, none⟩ = some (.bool m.ok) := cell_of_row W0 _ 8 _ 29 (0, 0) HM.out
  have a9 : W0.cell? ⟨w.heap.size, 9, none⟩ = some (.slice m.A m.n m.c) := cell_of_row W0 _ 9 _ 29 (0, 0) HM.out
  have a10 : W0.cell? ⟨w.heap.size, 10, none⟩ = some (.string m.snap) := cell_of_row W0 _ 10 _ 29 (0, 0) HM.out
  go_wp2_with fail
  refine KR.out.mono ?_
  rintro q w1 ⟨rfl, b⟩
  have HM2 : Hid (w1.heap[w.heap.size]? = some (.cells (mc m) 29 (0, 0))) := (b.block _ (Array.getElem?_eq_some_iff.1 HM.out).1).trans HM.out
  have HZ2 : Hid (w1.heap[w.heap.size + 1]? = some (.cells (mc mzz) 29 (0, 0))) := (b.block _ (Array.getElem?_eq_some_iff.1 HZ.out).1).trans HZ.out
  have HB2 : Hid (Below w.heap.size w w1) := HB.out.trans (b.mono HB.out.size)
  have HE2 : Hid (Ents w1.heap.size m.A m.n m.es w1) := (HE.out.below b).mr b.size
  clear b HB HZ HM HE a0 a1 a2 a3 a4 a5 a6 a7 a8 a9 a10
  have HM := HM2
  have HZ := HZ2
  have HB := HB2
  have HE := HE2
  clear HM2 HZ2 HB2 HE2
  have a0 : w1.cell? ⟨w.heap.size, 0, none⟩ = some (.int .i64 m.kind) := cell_of_row w1 _ 0 _ 29 (0, 0) HM.out
  have a1 : w1.cell? ⟨w.heap.size, 1, none⟩ = some (.int .i64 m.frm) := cell_of_row w1 _ 1 _ 29 (0, 0) HM.out
  have a2 : w1.cell? ⟨w.heap.size, 2, none⟩ = some (.int .i64 m.dst) := cell_of_row w1 _ 2 _ 29 (0, 0) HM.out
  have a3 : w1.cell? ⟨w.heap.size, 3, none⟩ = some (.int .u64 m.term) := cell_of_row w1 _ 3 _ 29 (0, 0) HM.out
  have a4 : w1.cell? ⟨w.heap.size, 4, none⟩ = some (.int .u64 m.index) := cell_of_row w1 _ 4 _ 29 (0, 0) HM.out
  have a5 : w1.cell? ⟨w.heap.size, 5, none⟩ = some (.int .u64 m.prev) := cell_of_row w1 _ 5 _ 29 (0, 0) HM.out
  have a6 : w1.cell? ⟨w.heap.size, 6, none⟩ = some (.int .u64 m.commit) := cell_of_row w1 _ 6 _ 29 (0, 0) HM.out
  have a7 : w1.cell? ⟨w.heap.size, 7, none⟩ = some (.int .u64 m.mark) := cell_of_row w1 _ 7 _ 29 (0, 0) HM.out
  have a8 : w1.cell? ⟨w.heap.size, 8, none⟩ = some (.bool m.ok) := cell_of_row w1 _ 8 _ 29 (0, 0) HM.out
  have a9 : w1.cell? ⟨w.heap.size, 9, none⟩ = some (.slice m.A m.n m.c) := cell_of_row w1 _ 9 _ 29 (0, 0) HM.out
  have a10 : w1.cell? ⟨w.heap.size, 10, none⟩ = some (.string m.snap) := cell_of_row w1 _ 10 _ 29 (0, 0) HM.out
  go_wp2_with fail
  refine (KL.out _ HE.out).mono ?_
  rintro q w2 ⟨rfl, b⟩
  have HM2 : Hid (w2.heap[w.heap.size]? = some (.cells (mc m) 29 (0, 0))) := (b.block _ (Array.getElem?_eq_some_iff.1 HM.out).1).trans HM.out
  have HZ2 : Hid (w2.heap[w.heap.size + 1]? = some (.cells (mc mzz) 29 (0, 0))) := (b.block _ (Array.getElem?_eq_some_iff.1 HZ.out).1).trans HZ.out
  have HB2 : Hid (Below w.heap.size w w2) := HB.out.trans (b.mono HB.out.size)
  have HE2 : Hid (Ents w2.heap.size m.A m.n m.es w2) := (HE.out.below b).mr b.size
  clear b HB HZ HM HE a0 a1 a2 a3 a4 a5 a6 a7 a8 a9 a10
  have HM := HM2
  have HZ := HZ2
  have HB := HB2
  have HE := HE2
  clear HM2 HZ2 HB2 HE2
  have a0 : w2.cell? ⟨w.heap.size, 0, none⟩ = some (.int .i64 m.kind) := cell_of_row w2 _ 0 _ 29 (0, 0) HM.out
  have a1 : w2.cell? ⟨w.heap.size, 1, none⟩ = some (.int .i64 m.frm) := cell_of_row w2 _ 1 _ 29 (0, 0) HM.out
  have a2 : w2.cell? ⟨w.heap.size, 2, none⟩ = some (.int .i64 m.dst) := cell_of_row w2 _ 2 _ 29 (0, 0) HM.out
  have a3 : w2.cell? ⟨w.heap.size, 3, none⟩ = some (.int .u64 m.term) := cell_of_row w2 _ 3 _ 29 (0, 0) HM.out
  have a4 : w2.cell? ⟨w.heap.size, 4, none⟩ = some (.int .u64 m.index) := cell_of_row w2 _ 4 _ 29 (0, 0) HM.out
  have a5 : w2.cell? ⟨w.heap.size, 5, none⟩ = some (.int .u64 m.prev) := cell_of_row w2 _ 5 _ 29 (0, 0) HM.out
  have a6 : w2.cell? ⟨w.heap.size, 6, none⟩ = some (.int .u64 m.commit) := cell_of_row w2 _ 6 _ 29 (0, 0) HM.out
  have a7 : w2.cell? ⟨w.heap.size, 7, none⟩ = some (.int .u64 m.mark) := cell_of_row w2 _ 7 _ 29 (0, 0) HM.out
  have a8 : w2.cell? ⟨w.heap.size, 8, none⟩ = some (.bool m.ok) := cell_of_row w2 _ 8 _ 29 (0, 0) HM.out
  have a9 : w2.cell? ⟨w.heap.size, 9, none⟩ = some (.slice m.A m.n m.c) := cell_of_row w2 _ 9 _ 29 (0, 0) HM.out
  have a10 : w2.cell? ⟨w.heap.size, 10, none⟩ = some (.string m.snap) := cell_of_row w2 _ 10 _ 29 (0, 0) HM.out
  go_wp2_with fail
  refine (KC.out _ HE.out).mono ?_
  rintro q w3 ⟨A', c', rfl, hE3, b, hlo⟩
  have HM3 : Hid (w3.heap[w.heap.size]? = some (.cells (mc m) 29 (0, 0))) := (b.block _ (Array.getElem?_eq_some_iff.1 HM.out).1).trans HM.out
  have HZ3 : Hid (w3.heap[w.heap.size + 1]? = some (.cells (mc mzz) 29 (0, 0))) := (b.block _ (Array.getElem?_eq_some_iff.1 HZ.out).1).trans HZ.out
  have HB3 : Hid (Below w.heap.size w w3) := HB.out.trans (b.mono HB.out.size)
  have HLO : Hid (∀ a', A' = some a' → a'.block ≠ w.heap.size ∧ a'.block ≠ w.heap.size + 1) := fun a' ha => by
    have h1 := hlo a' ha
    have h2 := (Array.getElem?_eq_some_iff.1 HZ.out).1
    omega
  have HE3 := Lib.hid hE3
  obtain ⟨V, hV⟩ : ∃ V, V = w3.setCell ⟨w.heap.size, 9, none⟩ (.slice A' m.n c') := ⟨_, rfl⟩
  have HMV : Hid (V.heap[w.heap.size]? = some (.cells (mc { m with A := A', c := c' }) 29 (0, 0))) := by show _ = _; rw [hV]; exact set_blk HM3.out 9 _
  have HZV : Hid (V.heap[w.heap.size + 1]? = some (.cells (mc mzz) 29 (0, 0))) := by show _ = _; rw [hV]; exact (Below.heap_setCell _ _ _ _ (by simp)).trans HZ3.out
  have HBV : Hid (Below w.heap.size w V) := by show Below _ _ _; rw [hV]; exact HB3.out.setCell (p := ⟨w.heap.size, 9, none⟩) (Nat.le_refl _) _
  have HEV : Hid (Ents V.heap.size A' m.n m.es V) := ents_keep hE3 (fun a ha => by rw [hV]; exact Below.heap_setCell _ _ _ _ (by have := HLO.out a ha; simp; omega)) (by rw [hV]; simp [World.setCell])
  have fa : ∀ i, w3.frozen? ⟨w.heap.size, i, none⟩ = false := fun i => Md.of HM3.out
  have ca : w3.cell? ⟨w.heap.size, 9, none⟩ = some (.slice m.A m.n m.c) := cell_of_row w3 _ 9 _ 29 (0, 0) HM3.out
  have HVV := Lib.hid hV
  clear b hV HB HZ HM hlo hE3 a0 a1 a2 a3 a4 a5 a6 a7 a8 a9 a10
  have HZ := HZV
  have HB := HBV
  clear HZV HBV
  go_upto_region 5 with fail
  rw [← HVV.out]
  clear fa ca
  have a0 : V.cell? ⟨w.heap.size, 0, none⟩ = some (.int .i64 m.kind) := cell_of_row V _ 0 _ 29 (0, 0) HMV.out
  have a1 : V.cell? ⟨w.heap.size, 1, none⟩ = some (.int .i64 m.frm) := cell_of_row V _ 1 _ 29 (0, 0) HMV.out
  have a2 : V.cell? ⟨w.heap.size, 2, none⟩ = some (.int .i64 m.dst) := cell_of_row V _ 2 _ 29 (0, 0) HMV.out
  have a3 : V.cell? ⟨w.heap.size, 3, none⟩ = some (.int .u64 m.term) := cell_of_row V _ 3 _ 29 (0, 0) HMV.out
  have a4 : V.cell? ⟨w.heap.size, 4, none⟩ = some (.int .u64 m.index) := cell_of_row V _ 4 _ 29 (0, 0) HMV.out
  have a5 : V.cell? ⟨w.heap.size, 5, none⟩ = some (.int .u64 m.prev) := cell_of_row V _ 5 _ 29 (0, 0) HMV.out
  have a6 : V.cell? ⟨w.heap.size, 6, none⟩ = some (.int .u64 m.commit) := cell_of_row V _ 6 _ 29 (0, 0) HMV.out
  have a7 : V.cell? ⟨w.heap.size, 7, none⟩ = some (.int .u64 m.mark) := cell_of_row V _ 7 _ 29 (0, 0) HMV.out
  have a8 : V.cell? ⟨w.heap.size, 8, none⟩ = some (.bool m.ok) := cell_of_row V _ 8 _ 29 (0, 0) HMV.out
  have a9 : V.cell? ⟨w.heap.size, 9, none⟩ = some (.slice A' m.n c') := cell_of_row V _ 9 _ 29 (0, 0) HMV.out
  have a10 : V.cell? ⟨w.heap.size, 10, none⟩ = some (.string m.snap) := cell_of_row V _ 10 _ 29 (0, 0) HMV.out
  have z0 : V.cell? ⟨w.heap.size + 1, 0, none⟩ = some (.int .i64 0) := cell_of_row V _ 0 _ 29 (0, 0) HZ.out
  have z1 : V.cell? ⟨w.heap.size + 1, 1, none⟩ = some (.int .i64 0) := cell_of_row V _ 1 _ 29 (0, 0) HZ.out
  have z2 : V.cell? ⟨w.heap.size + 1, 2, none⟩ = some (.int .i64 0) := cell_of_row V _ 2 _ 29 (0, 0) HZ.out
  have z3 : V.cell? ⟨w.heap.size + 1, 3, none⟩ = some (.int .u64 0) := cell_of_row V _ 3 _ 29 (0, 0) HZ.out
  have z4 : V.cell? ⟨w.heap.size + 1, 4, none⟩ = some (.int .u64 0) := cell_of_row V _ 4 _ 29 (0, 0) HZ.out
  have z5 : V.cell? ⟨w.heap.size + 1, 5, none⟩ = some (.int .u64 0) := cell_of_row V _ 5 _ 29 (0, 0) HZ.out
  have z6 : V.cell? ⟨w.heap.size + 1, 6, none⟩ = some (.int .u64 0) := cell_of_row V _ 6 _ 29 (0, 0) HZ.out
  have z7 : V.cell? ⟨w.heap.size + 1, 7, none⟩ = some (.int .u64 0) := cell_of_row V _ 7 _ 29 (0, 0) HZ.out
  have z8 : V.cell? ⟨w.heap.size + 1, 8, none⟩ = some (.bool false) := cell_of_row V _ 8 _ 29 (0, 0) HZ.out
  have z9 : V.cell? ⟨w.heap.size + 1, 9, none⟩ = some (.slice none 0 0) := cell_of_row V _ 9 _ 29 (0, 0) HZ.out
  have z10 : V.cell? ⟨w.heap.size + 1, 10, none⟩ = some (.string ⟨#[]⟩) := cell_of_row V _ 10 _ 29 (0, 0) HZ.out
  have fz : ∀ i, V.frozen? ⟨w.heap.size + 1, i, none⟩ = false := fun i => Md.of HZ.out
  go_wp2
  obtain ⟨WF, hWF⟩ : ∃ WF, WF = wrm V (w.heap.size + 1) ({ m with A := A', c := c' } : Ms) := ⟨_, rfl⟩
  have hblk : WF.heap[w.heap.size + 1]? = some (.cells (mc ({ m with A := A', c := c' } : Ms)) 29 (0, 0)) := by rw [hWF]; exact store_allm ({ m with A := A', c := c' } : Ms) HZ.out
  have hbF : Below w.heap.size w WF := by rw [hWF]; exact below_allm ({ m with A := A', c := c' } : Ms) HB.out (by omega)
  have HEF : Hid (∀ A n es, Ents w.heap.size A n es w → Ents WF.heap.size A n es WF) := fun A n es h => (h.below hbF).mr hbF.size
  have HFB := Lib.hid hbF
  have HWE : Hid (WF = wrm V (w.heap.size + 1) ({ m with A := A', c := c' } : Ms)) := hWF
  unfold wrm at hWF
  rw [← hWF]
  have HWF := Lib.hid hWF
  clear hWF
  have f0 : WF.cell? ⟨w.heap.size + 1, 0, none⟩ = some (.int .i64 m.kind) := cell_of_row WF _ 0 _ 29 (0, 0) hblk
  have f1 : WF.cell? ⟨w.heap.size + 1, 1, none⟩ = some (.int .i64 m.frm) := cell_of_row WF _ 1 _ 29 (0, 0) hblk
  have f2 : WF.cell? ⟨w.heap.size + 1, 2, none⟩ = some (.int .i64 m.dst) := cell_of_row WF _ 2 _ 29 (0, 0) hblk
  have f3 : WF.cell? ⟨w.heap.size + 1, 3, none⟩ = some (.int .u64 m.term) := cell_of_row WF _ 3 _ 29 (0, 0) hblk
  have f4 : WF.cell? ⟨w.heap.size + 1, 4, none⟩ = some (.int .u64 m.index) := cell_of_row WF _ 4 _ 29 (0, 0) hblk
  have f5 : WF.cell? ⟨w.heap.size + 1, 5, none⟩ = some (.int .u64 m.prev) := cell_of_row WF _ 5 _ 29 (0, 0) hblk
  have f6 : WF.cell? ⟨w.heap.size + 1, 6, none⟩ = some (.int .u64 m.commit) := cell_of_row WF _ 6 _ 29 (0, 0) hblk
  have f7 : WF.cell? ⟨w.heap.size + 1, 7, none⟩ = some (.int .u64 m.mark) := cell_of_row WF _ 7 _ 29 (0, 0) hblk
  have f8 : WF.cell? ⟨w.heap.size + 1, 8, none⟩ = some (.bool m.ok) := cell_of_row WF _ 8 _ 29 (0, 0) hblk
  have f9 : WF.cell? ⟨w.heap.size + 1, 9, none⟩ = some (.slice A' m.n c') := cell_of_row WF _ 9 _ 29 (0, 0) hblk
  have f10 : WF.cell? ⟨w.heap.size + 1, 10, none⟩ = some (.string m.snap) := cell_of_row WF _ 10 _ 29 (0, 0) hblk
  exact bodyPost_ret (v := .tuple #[mv ({ m with A := A', c := c' } : Ms), .bool true]) (by simp [results, Tryz.results19, go_sem, f0, f1, f2, f3, f4, f5, f6, f7, f8, f9, f10]) rfl (shim_end (ents_keep HEV.out (fun a ha => by rw [HWE.out]; exact heap_wrm _ _ _ _ (HLO.out a ha).2) (by rw [HWE.out]; simp [World.setCell])) (by rw [HMM.out]; exact ⟨A', c', rfl⟩) HYES.out.symm HFB.out)
set_option maxHeartbeats 2000000 in
set_option maxRecDepth 100000 in
theorem shim_n (m : Ms) (w : World) (hE : Ents w.heap.size m.A m.n m.es w) (wd : m.Wide) (hr : mrightB m = true) (hl : mlvl m = 2) (h9 : m.kind ≠ 9) (h10 : m.kind ≠ 10) :
    Calls Tryz.prog 19 #[mv m] w (Shimd m w) := by
  have hno : shimO m = false := by unfold shimO; rw [hl, decide_eq_false h9, decide_eq_false h10]; simp
  have HNO := Lib.hid hno
  obtain ⟨W0, hW0⟩ : ∃ W0, W0 = (w.alloc (Obj.cells (mc m) 29)).alloc (Obj.cells (mc mzz) 29) := ⟨_, rfl⟩
  have b0 : Below w.heap.size w W0 := by rw [hW0]; exact ((Below.refl _ _).alloc (Nat.le_refl _) _).alloc (by simp) _
  have k0 : W0.heap[w.heap.size]? = some (.cells (mc m) 29 (0, 0)) := by rw [hW0]; exact blk_al _ (heap_alloc_new w _)
  have k1 : W0.heap[w.heap.size + 1]? = some (.cells (mc mzz) 29 (0, 0)) := by rw [hW0]; have h := heap_alloc_new (w.alloc (Obj.cells (mc m) 29)) (Obj.cells (mc mzz) 29); simpa using h
  have hE0 := (hE.below b0).mr b0.size
  have KR := Lib.hid (mright_any m W0 hE0 (wide_n wd) wd.eo)
  have KL := Lib.hid (fun (W : World) (h : Ents W.heap.size m.A m.n m.es W) => mlevel_any m W h (wide_n wd))
  have HW := Lib.hid hW0
  have HE := Lib.hid hE0
  have HEW := Lib.hid hE
  have HB0 := Lib.hid b0
  have HK0 := Lib.hid k0
  have HK1 := Lib.hid k1
  have HWD := Lib.hid wd
  clear hW0 b0 k0 k1 hE0
  rw [hr] at KR
  rw [hl] at KL
  clear hr hno wd hE hl
  go_enter Tryz.func19, Tryz.ntmps19
  go_upto_region 1 with fail
  rw [← HW.out]
  have HM := HK0
  have HZ := HK1
  have HB := HB0
  clear HK0 HK1 HB0
  have a0 : W0.cell? ⟨w.heap.size, 0, none⟩ = some (.int .i64 m.kind) := cell_of_row W0 _ 0 _ 29 (0, 0) HM.out
  have a1 : W0.cell? ⟨w.heap.size, 1, none⟩ = some (.int .i64 m.frm) := cell_of_row W0 _ 1 _ 29 (0, 0) HM.out
  have a2 : W0.cell? ⟨w.heap.size, 2, none⟩ = some (.int .i64 m.dst) := cell_of_row W0 _ 2 _ 29 (0, 0) HM.out
  have a3 : W0.cell? ⟨w.heap.size, 3, none⟩ = some (.int .u64 m.term) := cell_of_row W0 _ 3 _ 29 (0, 0) HM.out
  have a4 : W0.cell? ⟨w.heap.size, 4, none⟩ = some (.int .u64 m.index) := cell_of_row W0 _ 4 _ 29 (0, 0) HM.out
  have a5 : W0.cell? ⟨w.heap.size, 5, none⟩ = some (.int .u64 m.prev) := cell_of_row W0 _ 5 _ 29 (0, 0) HM.out
  have a6 : W0.cell? ⟨w.heap.size, 6, none⟩ = some (.int .u64 m.commit) := cell_of_row W0 _ 6 _ 29 (0, 0) HM.out
  have a7 : W0.cell? ⟨w.heap.size, 7, none⟩ = some (.int .u64 m.mark) := cell_of_row W0 _ 7 _ 29 (0, 0) HM.out
  have a8 : W0.cell? ⟨w.heap.size, 8, none⟩ = some (.bool m.ok) := cell_of_row W0 _ 8 _ 29 (0, 0) HM.out
  have a9 : W0.cell? ⟨w.heap.size, 9, none⟩ = some (.slice m.A m.n m.c) := cell_of_row W0 _ 9 _ 29 (0, 0) HM.out
  have a10 : W0.cell? ⟨w.heap.size, 10, none⟩ = some (.string m.snap) := cell_of_row W0 _ 10 _ 29 (0, 0) HM.out
  go_wp2_with fail
  refine KR.out.mono ?_
  rintro q w1 ⟨rfl, b⟩
  have HM2 : Hid (w1.heap[w.heap.size]? = some (.cells (mc m) 29 (0, 0))) := (b.block _ (Array.getElem?_eq_some_iff.1 HM.out).1).trans HM.out
  have HZ2 : Hid (w1.heap[w.heap.size + 1]? = some (.cells (mc mzz) 29 (0, 0))) := (b.block _ (Array.getElem?_eq_some_iff.1 HZ.out).1).trans HZ.out
  have HB2 : Hid (Below w.heap.size w w1) := HB.out.trans (b.mono HB.out.size)
  have HE2 : Hid (Ents w1.heap.size m.A m.n m.es w1) := (HE.out.below b).mr b.size
  clear b HB HZ HM HE a0 a1 a2 a3 a4 a5 a6 a7 a8 a9 a10
  have HM := HM2
  have HZ := HZ2
  have HB := HB2
  have HE := HE2
  clear HM2 HZ2 HB2 HE2
  have a0 : w1.cell? ⟨w.heap.size, 0, none⟩ = some (.int .i64 m.kind) := cell_of_row w1 _ 0 _ 29 (0, 0) HM.out
  have a1 : w1.cell? ⟨w.heap.size, 1, none⟩ = some (.int .i64 m.frm) := cell_of_row w1 _ 1 _ 29 (0, 0) HM.out
  have a2 : w1.cell? ⟨w.heap.size, 2, none⟩ = some (.int .i64 m.dst) := cell_of_row w1 _ 2 _ 29 (0, 0) HM.out
  have a3 : w1.cell? ⟨w.heap.size, 3, none⟩ = some (.int .u64 m.term) := cell_of_row w1 _ 3 _ 29 (0, 0) HM.out
  have a4 : w1.cell? ⟨w.heap.size, 4, none⟩ = some (.int .u64 m.index) := cell_of_row w1 _ 4 _ 29 (0, 0) HM.out
  have a5 : w1.cell? ⟨w.heap.size, 5, none⟩ = some (.int .u64 m.prev) := cell_of_row w1 _ 5 _ 29 (0, 0) HM.out
  have a6 : w1.cell? ⟨w.heap.size, 6, none⟩ = some (.int .u64 m.commit) := cell_of_row w1 _ 6 _ 29 (0, 0) HM.out
  have a7 : w1.cell? ⟨w.heap.size, 7, none⟩ = some (.int .u64 m.mark) := cell_of_row w1 _ 7 _ 29 (0, 0) HM.out
  have a8 : w1.cell? ⟨w.heap.size, 8, none⟩ = some (.bool m.ok) := cell_of_row w1 _ 8 _ 29 (0, 0) HM.out
  have a9 : w1.cell? ⟨w.heap.size, 9, none⟩ = some (.slice m.A m.n m.c) := cell_of_row w1 _ 9 _ 29 (0, 0) HM.out
  have a10 : w1.cell? ⟨w.heap.size, 10, none⟩ = some (.string m.snap) := cell_of_row w1 _ 10 _ 29 (0, 0) HM.out
  go_wp2_with fail
  refine (KL.out _ HE.out).mono ?_
  rintro q w2 ⟨rfl, b⟩
  have HM2 : Hid (w2.heap[w.heap.size]? = some (.cells (mc m) 29 (0, 0))) := (b.block _ (Array.getElem?_eq_some_iff.1 HM.out).1).trans HM.out
  have HZ2 : Hid (w2.heap[w.heap.size + 1]? = some (.cells (mc mzz) 29 (0, 0))) := (b.block _ (Array.getElem?_eq_some_iff.1 HZ.out).1).trans HZ.out
  have HB2 : Hid (Below w.heap.size w w2) := HB.out.trans (b.mono HB.out.size)
  have HE2 : Hid (Ents w2.heap.size m.A m.n m.es w2) := (HE.out.below b).mr b.size
  clear b HB HZ HM HE a0 a1 a2 a3 a4 a5 a6 a7 a8 a9 a10
  have HM := HM2
  have HZ := HZ2
  have HB := HB2
  have HE := HE2
  clear HM2 HZ2 HB2 HE2
  have a0 : w2.cell? ⟨w.heap.size, 0, none⟩ = some (.int .i64 m.kind) := cell_of_row w2 _ 0 _ 29 (0, 0) HM.out
  have a1 : w2.cell? ⟨w.heap.size, 1, none⟩ = some (.int .i64 m.frm) := cell_of_row w2 _ 1 _ 29 (0, 0) HM.out
  have a2 : w2.cell? ⟨w.heap.size, 2, none⟩ = some (.int .i64 m.dst) := cell_of_row w2 _ 2 _ 29 (0, 0) HM.out
  have a3 : w2.cell? ⟨w.heap.size, 3, none⟩ = some (.int .u64 m.term) := cell_of_row w2 _ 3 _ 29 (0, 0) HM.out
  have a4 : w2.cell? ⟨w.heap.size, 4, none⟩ = some (.int .u64 m.index) := cell_of_row w2 _ 4 _ 29 (0, 0) HM.out
  have a5 : w2.cell? ⟨w.heap.size, 5, none⟩ = some (.int .u64 m.prev) := cell_of_row w2 _ 5 _ 29 (0, 0) HM.out
  have a6 : w2.cell? ⟨w.heap.size, 6, none⟩ = some (.int .u64 m.commit) := cell_of_row w2 _ 6 _ 29 (0, 0) HM.out
  have a7 : w2.cell? ⟨w.heap.size, 7, none⟩ = some (.int .u64 m.mark) := cell_of_row w2 _ 7 _ 29 (0, 0) HM.out
  have a8 : w2.cell? ⟨w.heap.size, 8, none⟩ = some (.bool m.ok) := cell_of_row w2 _ 8 _ 29 (0, 0) HM.out
  have a9 : w2.cell? ⟨w.heap.size, 9, none⟩ = some (.slice m.A m.n m.c) := cell_of_row w2 _ 9 _ 29 (0, 0) HM.out
  have a10 : w2.cell? ⟨w.heap.size, 10, none⟩ = some (.string m.snap) := cell_of_row w2 _ 10 _ 29 (0, 0) HM.out
  have z0 : w2.cell? ⟨w.heap.size + 1, 0, none⟩ = some (.int .i64 0) := cell_of_row w2 _ 0 _ 29 (0, 0) HZ.out
  have z1 : w2.cell? ⟨w.heap.size + 1, 1, none⟩ = some (.int .i64 0) := cell_of_row w2 _ 1 _ 29 (0, 0) HZ.out
  have z2 : w2.cell? ⟨w.heap.size + 1, 2, none⟩ = some (.int .i64 0) := cell_of_row w2 _ 2 _ 29 (0, 0) HZ.out
  have z3 : w2.cell? ⟨w.heap.size + 1, 3, none⟩ = some (.int .u64 0) := cell_of_row w2 _ 3 _ 29 (0, 0) HZ.out
  have z4 : w2.cell? ⟨w.heap.size + 1, 4, none⟩ = some (.int .u64 0) := cell_of_row w2 _ 4 _ 29 (0, 0) HZ.out
  have z5 : w2.cell? ⟨w.heap.size + 1, 5, none⟩ = some (.int .u64 0) := cell_of_row w2 _ 5 _ 29 (0, 0) HZ.out
  have z6 : w2.cell? ⟨w.heap.size + 1, 6, none⟩ = some (.int .u64 0) := cell_of_row w2 _ 6 _ 29 (0, 0) HZ.out
  have z7 : w2.cell? ⟨w.heap.size + 1, 7, none⟩ = some (.int .u64 0) := cell_of_row w2 _ 7 _ 29 (0, 0) HZ.out
  have z8 : w2.cell? ⟨w.heap.size + 1, 8, none⟩ = some (.bool false) := cell_of_row w2 _ 8 _ 29 (0, 0) HZ.out
  have z9 : w2.cell? ⟨w.heap.size + 1, 9, none⟩ = some (.slice none 0 0) := cell_of_row w2 _ 9 _ 29 (0, 0) HZ.out
  have z10 : w2.cell? ⟨w.heap.size + 1, 10, none⟩ = some (.string ⟨#[]⟩) := cell_of_row w2 _ 10 _ 29 (0, 0) HZ.out
  have fz : ∀ i, w2.frozen? ⟨w.heap.size + 1, i, none⟩ = false := fun i => Md.of HZ.out
  go_wp2
  obtain ⟨WF, hWF⟩ : ∃ WF, WF = wrm w2 (w.heap.size + 1) mzz := ⟨_, rfl⟩
  have hblk : WF.heap[w.heap.size + 1]? = some (.cells (mc mzz) 29 (0, 0)) := by rw [hWF]; exact store_allm mzz HZ.out
  have hbF : Below w.heap.size w WF := by rw [hWF]; exact below_allm mzz HB.out (by omega)
  have HEF : Hid (∀ A n es, Ents w.heap.size A n es w → Ents WF.heap.size A n es WF) := fun A n es h => (h.below hbF).mr hbF.size
  have HFB := Lib.hid hbF
  have HWE : Hid (WF = wrm w2 (w.heap.size + 1) mzz) := hWF
  unfold wrm at hWF
  rw [← hWF]
  have HWF := Lib.hid hWF
  clear hWF
  have f0 : WF.cell? ⟨w.heap.size + 1, 0, none⟩ = some (.int .i64 0) := cell_of_row WF _ 0 _ 29 (0, 0) hblk
  have f1 : WF.cell? ⟨w.heap.size + 1, 1, none⟩ = some (.int .i64 0) := cell_of_row WF _ 1 _ 29 (0, 0) hblk
  have f2 : WF.cell? ⟨w.heap.size + 1, 2, none⟩ = some (.int .i64 0) := cell_of_row WF _ 2 _ 29 (0, 0) hblk
  have f3 : WF.cell? ⟨w.heap.size + 1, 3, none⟩ = some (.int .u64 0) := cell_of_row WF _ 3 _ 29 (0, 0) hblk
  have f4 : WF.cell? ⟨w.heap.size + 1, 4, none⟩ = some (.int .u64 0) := cell_of_row WF _ 4 _ 29 (0, 0) hblk
  have f5 : WF.cell? ⟨w.heap.size + 1, 5, none⟩ = some (.int .u64 0) := cell_of_row WF _ 5 _ 29 (0, 0) hblk
  have f6 : WF.cell? ⟨w.heap.size + 1, 6, none⟩ = some (.int .u64 0) := cell_of_row WF _ 6 _ 29 (0, 0) hblk
  have f7 : WF.cell? ⟨w.heap.size + 1, 7, none⟩ = some (.int .u64 0) := cell_of_row WF _ 7 _ 29 (0, 0) hblk
  have f8 : WF.cell? ⟨w.heap.size + 1, 8, none⟩ = some (.bool false) := cell_of_row WF _ 8 _ 29 (0, 0) hblk
  have f9 : WF.cell? ⟨w.heap.size + 1, 9, none⟩ = some (.slice none 0 0) := cell_of_row WF _ 9 _ 29 (0, 0) hblk
  have f10 : WF.cell? ⟨w.heap.size + 1, 10, none⟩ = some (.string ⟨#[]⟩) := cell_of_row WF _ 10 _ 29 (0, 0) hblk
  exact bodyPost_ret (v := .tuple #[mv mzz, .bool false]) (by simp [results, Tryz.results19, go_sem, f0, f1, f2, f3, f4, f5, f6, f7, f8, f9, f10]) rfl (shim_end (mzz_ents _ _) (by rw [shimM_no HNO.out]; exact like_refl _) HNO.out.symm HFB.out)
theorem shim_any (m : Ms) (w : World) (hE : Ents w.heap.size m.A m.n m.es w) (wd : m.Wide) : Calls Tryz.prog 19 #[mv m] w (Shimd m w) := by
  cases hr : mrightB m with
  | false => exact shim_no m w hE wd hr
  | true =>
    by_cases h9 : m.kind = 9
    · exact shim_9 m w hE wd hr h9
    by_cases h10 : m.kind = 10
    · exact shim_10 m w hE wd hr h10
    have h := mlvl_bounds m
    by_cases hl : mlvl m = 1
    · exact shim_1 m w hE wd hr hl
    · exact shim_n m w hE wd hr (by omega) h9 h10
end Go.Proofs.YtpdbeijfchmlgaaGreat
namespace Go.Proofs.YtpdbeijfchmlgaaGreat
open Go.RowKit
open Vi
set_option linter.unusedVariables false
set_option linter.unusedSimpArgs false

theorem ents_off {w : World} {g B n : Nat} {A : Option Addr} {es : List En} {m : Ms} (h : Ents B A n es w) (hg : w.heap[g]? = some (.cells (mc m) 29 (0, 0))) {i : Nat} {e : En} (he : es[i]? = some e) : ∀ a, A = some a → a.block ≠ g := by
  intro a hA hb
  obtain ⟨a', h1, h2, h3⟩ := h.at_ i e he
  rw [hA] at h1
  injection h1 with h1
  subst h1
  have p0 := h3 0 (by omega)
  have p10 := h3 10 (by omega)
  have key : ∀ b : Addr, b.block = g → w.cell? b = if b.spot.isSome then none else (mc m)[b.off]? := by
    intro b hb2
    unfold World.cell?
    rw [hb2, hg]
  rw [key _ (by rw [block_of_add, block_of_add]; exact hb)] at p0 p10
  have q0 : (ec e)[0]? = some (.int .u64 e.term) := rfl
  have q10 : (ec e)[10]? = some (.string e.old) := rfl
  rw [q0] at p0
  rw [q10] at p10
  split at p0
  · cases p0
  · rename_i hs
    split at p10
    · cases p10
    · rename_i hs2
      have hoff : ((((a.add (i * 11)).add 10)).off : Nat) = ((a.add (i * 11)).add 0).off + 10 := by
        unfold Addr.add at hs hs2 ⊢
        revert hs hs2
        cases a.spot <;> simp
      rw [hoff] at p10
      obtain ⟨o, ho⟩ : ∃ o, o = ((a.add (i * 11)).add 0).off := ⟨_, rfl⟩
      rw [← ho] at p0 p10
      have hlt : o + 10 < 11 := by
        have := (Array.getElem?_eq_some_iff.1 p10).1
        simpa using this
      have : o = 0 := by omega
      subst this
      injection p0 with p0
      injection p0 with p0
      cases p0
theorem ents_wrm_off {w : World} {g B n : Nat} {A : Option Addr} {es : List En} {m : Ms} (M : Ms) (h : Ents B A n es w) (hg : w.heap[g]? = some (.cells (mc m) 29 (0, 0))) : Ents B A n es (wrm w g M) :=
  ⟨h.len, fun i e he => by
    obtain ⟨a, h1, h2, h3⟩ := h.at_ i e he
    refine ⟨a, h1, h2, fun j hj => ?_⟩
    rw [← h3 j hj]
    exact World.cell?_of_block (heap_wrm5 w g _ M (by rw [block_of_add, block_of_add]; exact ents_off h hg he a h1))⟩

theorem shimO_parts {m : Ms} (h : shimO m = true) : mrightB m = true ∧ (mlvl m = 1 ∨ m.kind = 9 ∨ m.kind = 10) := by
  unfold shimO at h
  simp only [Bool.and_eq_true, Bool.or_eq_true, decide_eq_true_eq] at h
  exact h
theorem shim_wide {m : Ms} (wd : m.Wide) : (shimM m).Wide := by
  unfold shimM
  split
  · exact mzz_wide5
  · split
    · obtain ⟨k0, k1, f0, f1, o0, o1, t0, t1, i0, i1, p0, p1, c0, c1, m0, m1, s1, n1, eo⟩ := wd
      constructor
      all_goals dsimp only
      all_goals first | omega | exact Nat.zero_le _ | (intro e he; cases he)
    · split
      · obtain ⟨k0, k1, f0, f1, o0, o1, t0, t1, i0, i1, p0, p1, c0, c1, m0, m1, s1, n1, eo⟩ := wd
        constructor
        all_goals dsimp only
        all_goals first | omega | exact Nat.zero_le _ | (intro e he; cases he)
      · exact wd
theorem mask_of {m : Ms} (wd : m.Wide) (h : mrightB m = true) : MAsk m := by
  unfold mrightB at h
  rw [Bool.and_eq_true] at h
  exact (mask_iff m wd).1 h.1
theorem l5 : hasL (mfl 5) 107 = true := by decide +kernel
theorem l6 : hasL (mfl 6) 107 = true := by decide +kernel
theorem l6y : hasL (mfl 6) 121 = true := by decide +kernel
theorem shim_may {m : Ms} (wd : m.Wide) (h : shimO m = true) : mmayB (shimM m) = true ∧ (shimM m).frm = m.frm ∧ (shimM m).dst = m.dst ∧ (shimM m).term = m.term := by
  obtain ⟨hr, hl⟩ := shimO_parts h
  have hw := shim_wide wd
  have A := mask_of wd hr
  unfold shimM at hw ⊢
  rw [if_neg (by rw [h]; decide)] at hw ⊢
  by_cases h9 : m.kind = 9
  · rw [if_pos h9] at hw ⊢
    refine ⟨?_, rfl, rfl, rfl⟩
    unfold mmayB
    rw [mask_right hw ⟨by show mfb 5 = true; decide, A.f1, A.f7, A.o1, A.o7, by show ((0 : Nat) : Int) ≤ 64; decide, by show (((⟨#[]⟩ : ByteArray).size : Nat) : Int) ≤ 16384; decide, fun _ => rfl, fun _ => rfl, fun _ => rfl, fun e => ?_, fun _ => rfl, fun _ => rfl, fun _ => rfl⟩ rfl]
    · rfl
    · have e2 : hasL (mfl 5) 107 = false := e
      rw [l5] at e2
      cases e2
  · rw [if_neg h9] at hw ⊢
    by_cases h10 : m.kind = 10
    · rw [if_pos h10] at hw ⊢
      refine ⟨?_, rfl, rfl, rfl⟩
      unfold mmayB
      rw [mask_right hw ⟨by show mfb 6 = true; decide, A.f1, A.f7, A.o1, A.o7, by show ((0 : Nat) : Int) ≤ 64; decide, by show (((⟨#[]⟩ : ByteArray).size : Nat) : Int) ≤ 16384; decide, fun _ => rfl, fun _ => rfl, fun _ => rfl, fun e => ?_, fun e => ?_, fun _ => rfl, fun _ => rfl⟩ rfl]
      · rfl
      · have e2 : hasL (mfl 6) 107 = false := e
        rw [l6] at e2
        cases e2
      · have e2 : hasL (mfl 6) 121 = false := e
        rw [l6y] at e2
        cases e2
    · rw [if_neg h10] at hw ⊢
      refine ⟨?_, rfl, rfl, rfl⟩
      have h1 : mlvl m = 1 := by rcases hl with h1 | h1 | h1
                                 · exact h1
                                 · exact absurd h1 h9
                                 · exact absurd h1 h10
      unfold mmayB
      rw [hr, h1]
      rfl
theorem may_shim {m : Ms} (h : mmayB m = true) : shimO m = true := by
  unfold mmayB at h
  rw [Bool.and_eq_true] at h
  have h2 : mlvl m = 1 := by simpa using h.2
  unfold shimO
  rw [h.1, decide_eq_true h2]
  rfl
end Go.Proofs.YtpdbeijfchmlgaaGreat
namespace Go.Proofs.YtpdbeijfchmlgaaGreat
open Go.RowKit
open Vi
set_option linter.unusedVariables false
set_option linter.unusedSimpArgs false

set_option maxHeartbeats 4000000 in
set_option maxRecDepth 100000 in
theorem fGetE_any (s : ByteArray) (Y : En) (v : Int) (o : Bool) (w : World)
    (hK : ∀ (g a1 a2 : Nat) (W : World), W.heap[g]? = some (.map (two (whv a1) (whv a2)) 2) → W.heap[a1]? = some (.cells #[.func (.func 39) #[] #[]] 66 (0, 0)) → W.heap[a2]? = some (.cells #[.func (.func 40) #[] #[]] 66 (0, 0)) →
      Calls Tryz.prog 37 #[.map (some g), .string s] W fun q w' => q = .returned (.tuple #[ev Y, .int .i64 v, .bool o]) ∧ Below W.heap.size W w') :
    Calls Tryz.prog 13 #[.string s] w fun q w' => q = .returned (.tuple #[ev Y, .int .i64 v, .bool o]) ∧ Below w.heap.size w w' := by
  have hmm := @run_makeMap Tryz.prog
  obtain ⟨W0, hW0⟩ : ∃ W0, W0 = (w.alloc (Obj.cells (ec ezz) 24)).alloc (.map #[] 0) := ⟨_, rfl⟩
  have b0 : Below w.heap.size w W0 := by rw [hW0]; exact ((Below.refl _ _).alloc (Nat.le_refl _) _).alloc (by simp) _
  have k0 : W0.heap[w.heap.size]? = some (.cells (ec ezz) 24 (0, 0)) := by rw [hW0]; exact (Lib.alloc_old _ _ _ (by simp)).trans (heap_alloc_new w _)
  have m0 : W0.heap[w.heap.size + 1]? = some (.map #[] 0) := by rw [hW0]; have h := heap_alloc_new (w.alloc (Obj.cells (ec ezz) 24)) (.map #[] 0); simpa using h
  have s0 : W0.heap.size = w.heap.size + 2 := by rw [hW0]; simp
  obtain ⟨W1, hW1⟩ : ∃ W1, W1 = W0.alloc (Obj.cells #[.func (.func 39) #[] #[]] 66) := ⟨_, rfl⟩
  have b1 : Below w.heap.size w W1 := by rw [hW1]; exact b0.alloc (by omega) _
  have m1 : W1.heap[w.heap.size + 1]? = some (.map #[] 0) := by rw [hW1]; exact (Lib.alloc_old _ _ _ (by omega)).trans m0
  have a1 : W1.heap[W0.heap.size]? = some (.cells #[.func (.func 39) #[] #[]] 66 (0, 0)) := by rw [hW1]; exact heap_alloc_new W0 _
  have k1 : W1.heap[w.heap.size]? = some (.cells (ec ezz) 24 (0, 0)) := by rw [hW1]; exact (Lib.alloc_old _ _ _ (by omega)).trans k0
  have s1 : W1.heap.size = w.heap.size + 3 := by rw [hW1]; simp; omega
  obtain ⟨w1, e1, h1, bb1, o1, z1⟩ := ins_step (T := 67) 1 (whv W0.heap.size) Tryz.underlying67 m1 rfl b1 (by omega)
  have ka1 : w1.heap[W0.heap.size]? = some (.cells #[.func (.func 39) #[] #[]] 66 (0, 0)) := (o1 _ (by omega)).trans a1
  have kk1 : w1.heap[w.heap.size]? = some (.cells (ec ezz) 24 (0, 0)) := (o1 _ (by omega)).trans k1
  obtain ⟨W2, hW2⟩ : ∃ W2, W2 = w1.alloc (Obj.cells #[.func (.func 40) #[] #[]] 66) := ⟨_, rfl⟩
  have b2 : Below w.heap.size w W2 := by rw [hW2]; exact bb1.alloc (by omega) _
  have m2 := (by rw [hW2]; exact (Lib.alloc_old _ _ _ (by omega)).trans h1 : W2.heap[w.heap.size + 1]? = some (.map (#[].push { key := .int .i64 1, val := whv W0.heap.size, born := 0 }) (0 + 1)))
  have a2 : W2.heap[w1.heap.size]? = some (.cells #[.func (.func 40) #[] #[]] 66 (0, 0)) := by rw [hW2]; exact heap_alloc_new w1 _
  have aa1 : W2.heap[W0.heap.size]? = some (.cells #[.func (.func 39) #[] #[]] 66 (0, 0)) := by rw [hW2]; exact (Lib.alloc_old _ _ _ (by omega)).trans ka1
  have k2 : W2.heap[w.heap.size]? = some (.cells (ec ezz) 24 (0, 0)) := by rw [hW2]; exact (Lib.alloc_old _ _ _ (by omega)).trans kk1
  obtain ⟨w2, e2, h2, bb2, o2, z2⟩ := ins_step (T := 67) 2 (whv w1.heap.size) Tryz.underlying67 m2 rfl b2 (by omega)
  have HM : Hid (w2.heap[w.heap.size + 1]? = some (.map (two (whv W0.heap.size) (whv w1.heap.size)) 2)) := h2
  have HK2 : Hid (w2.heap[w.heap.size]? = some (.cells (ec ezz) 24 (0, 0))) := (o2 _ (by omega)).trans k2
  have KG := Lib.hid (hK _ _ _ w2 HM.out ((o2 _ (by omega)).trans aa1) ((o2 _ (by omega)).trans a2))
  have HB2 := Lib.hid bb2
  have F1 : Hid (Calls Tryz.prog 38 #[.func (.func 39) #[] #[]] W0 fun q w' => q = .returned (whv W0.heap.size) ∧ w' = W1) := by rw [hW1]; exact wholef1_any W0
  have F2 : Hid (Calls Tryz.prog 38 #[.func (.func 40) #[] #[]] w1 fun q w' => q = .returned (whv w1.heap.size) ∧ w' = W2) := by rw [hW2]; exact wholef2_any w1
  have HW0 := Lib.hid hW0
  clear hK b0 k0 m0 s0 b1 m1 a1 k1 s1 h1 bb1 o1 z1 ka1 kk1 b2 m2 a2 aa1 k2 h2 bb2 o2 z2 hW0 hW1 hW2
  go_enter Tryz.func13, Tryz.ntmps13
  go_wp2_with fail
  rw [← HW0.out]
  refine F1.out.mono ?_
  rintro q u1 ⟨rfl, rfl⟩
  go_wp2_with fail
  refine F2.out.mono ?_
  rintro q u2 ⟨rfl, rfl⟩
  go_wp2_with fail
  refine KG.out.mono ?_
  rintro q w3 ⟨rfl, b3⟩
  have HK3 : Hid (w3.heap[w.heap.size]? = some (.cells (ec ezz) 24 (0, 0))) := (b3.block _ (Array.getElem?_eq_some_iff.1 HK2.out).1).trans HK2.out
  have HB3 : Hid (Below w.heap.size w w3) := HB2.out.trans (b3.mono HB2.out.size)
  clear b3 e1 e2
  have z0 : w3.cell? ⟨w.heap.size, 0, none⟩ = some (.int .u64 0) := cell_of_row w3 _ 0 _ 24 (0, 0) HK3.out
  have z1 : w3.cell? ⟨w.heap.size, 1, none⟩ = some (.int .u64 0) := cell_of_row w3 _ 1 _ 24 (0, 0) HK3.out
  have z2 : w3.cell? ⟨w.heap.size, 2, none⟩ = some (.int .i64 0) := cell_of_row w3 _ 2 _ 24 (0, 0) HK3.out
  have z3 : w3.cell? ⟨w.heap.size, 3, none⟩ = some (.int .u64 0) := cell_of_row w3 _ 3 _ 24 (0, 0) HK3.out
  have z4 : w3.cell? ⟨w.heap.size, 4, none⟩ = some (.int .u64 0) := cell_of_row w3 _ 4 _ 24 (0, 0) HK3.out
  have z5 : w3.cell? ⟨w.heap.size, 5, none⟩ = some (.int .u64 0) := cell_of_row w3 _ 5 _ 24 (0, 0) HK3.out
  have z6 : w3.cell? ⟨w.heap.size, 6, none⟩ = some (.int .u64 0) := cell_of_row w3 _ 6 _ 24 (0, 0) HK3.out
  have z7 : w3.cell? ⟨w.heap.size, 7, none⟩ = some (.int .i64 0) := cell_of_row w3 _ 7 _ 24 (0, 0) HK3.out
  have z8 : w3.cell? ⟨w.heap.size, 8, none⟩ = some (.int .i64 0) := cell_of_row w3 _ 8 _ 24 (0, 0) HK3.out
  have z9 : w3.cell? ⟨w.heap.size, 9, none⟩ = some (.string ⟨#[]⟩) := cell_of_row w3 _ 9 _ 24 (0, 0) HK3.out
  have z10 : w3.cell? ⟨w.heap.size, 10, none⟩ = some (.string ⟨#[]⟩) := cell_of_row w3 _ 10 _ 24 (0, 0) HK3.out
  have fz : ∀ i, w3.frozen? ⟨w.heap.size, i, none⟩ = false := fun i => Lib.frozen_of_heap HK3.out i
  obtain ⟨WF, hWF⟩ : ∃ WF, WF = wz w3 w.heap.size Y := ⟨_, rfl⟩
  have hblk : WF.heap[w.heap.size]? = some (.cells (ec Y) 24 (0, 0)) := by rw [hWF]; exact store_all Y HK3.out
  have HBF : Hid (Below w.heap.size w WF) := by rw [hWF]; exact below_all Y HB3.out (Nat.le_refl _)
  have HBK := Lib.hid hblk
  have HWF := Lib.hid hWF
  clear hblk hWF
  go_wp2
  have hWF := HWF.out
  unfold wz at hWF
  rw [← hWF]
  have f0 : WF.cell? ⟨w.heap.size, 0, none⟩ = some (.int .u64 Y.term) := cell_of_row WF _ 0 _ 24 (0, 0) HBK.out
  have f1 : WF.cell? ⟨w.heap.size, 1, none⟩ = some (.int .u64 Y.index) := cell_of_row WF _ 1 _ 24 (0, 0) HBK.out
  have f2 : WF.cell? ⟨w.heap.size, 2, none⟩ = some (.int .i64 Y.kind) := cell_of_row WF _ 2 _ 24 (0, 0) HBK.out
  have f3 : WF.cell? ⟨w.heap.size, 3, none⟩ = some (.int .u64 Y.client) := cell_of_row WF _ 3 _ 24 (0, 0) HBK.out
  have f4 : WF.cell? ⟨w.heap.size, 4, none⟩ = some (.int .u64 Y.seq) := cell_of_row WF _ 4 _ 24 (0, 0) HBK.out
  have f5 : WF.cell? ⟨w.heap.size, 5, none⟩ = some (.int .u64 Y.block) := cell_of_row WF _ 5 _ 24 (0, 0) HBK.out
  have f6 : WF.cell? ⟨w.heap.size, 6, none⟩ = some (.int .u64 Y.many) := cell_of_row WF _ 6 _ 24 (0, 0) HBK.out
  have f7 : WF.cell? ⟨w.heap.size, 7, none⟩ = some (.int .i64 Y.node) := cell_of_row WF _ 7 _ 24 (0, 0) HBK.out
  have f8 : WF.cell? ⟨w.heap.size, 8, none⟩ = some (.int .i64 Y.level) := cell_of_row WF _ 8 _ 24 (0, 0) HBK.out
  have f9 : WF.cell? ⟨w.heap.size, 9, none⟩ = some (.string Y.data) := cell_of_row WF _ 9 _ 24 (0, 0) HBK.out
  have f10 : WF.cell? ⟨w.heap.size, 10, none⟩ = some (.string Y.old) := cell_of_row WF _ 10 _ 24 (0, 0) HBK.out
  exact bodyPost_ret (v := .tuple #[ev Y, .int .i64 v, .bool o]) (by simp [results, Tryz.results13, go_sem, f0, f1, f2, f3, f4, f5, f6, f7, f8, f9, f10]) rfl ⟨rfl, HBF.out⟩

theorem fill_againm (E Z : Ms) : ((((((((((((mc Z).setIfInBounds 0 (.int .i64 E.kind)).setIfInBounds 1 (.int .i64 E.frm)).setIfInBounds 2 (.int .i64 E.dst)).setIfInBounds 3 (.int .u64 E.term)).setIfInBounds 4 (.int .u64 E.index)).setIfInBounds 5 (.int .u64 E.prev)).setIfInBounds 6 (.int .u64 E.commit)).setIfInBounds 7 (.int .u64 E.mark)).setIfInBounds 8 (.bool E.ok)).setIfInBounds 9 (.slice E.A E.n E.c)).setIfInBounds 10 (.string E.snap)) = mc E := by simp
theorem store_againm {wr : World} {g : Nat} {Z : Ms} (E : Ms) (h : wr.heap[g]? = some (.cells (mc Z) 29 (0, 0))) : (wrm wr g E).heap[g]? = some (.cells (mc E) 29 (0, 0)) := by
  rw [← fill_againm E Z]
  exact set_blk (set_blk (set_blk (set_blk (set_blk (set_blk (set_blk (set_blk (set_blk (set_blk (set_blk h 0 _) 1 _) 2 _) 3 _) 4 _) 5 _) 6 _) 7 _) 8 _) 9 _) 10 _
/-- A message that was got is the one that stands there. -/
def Got (o : Bool) (u : ByteArray) (M : Ms) : Prop := o = true → ∃ A c, M = mPrs u A c
/-- What get of a message's frame says. -/
def FGM (s : ByteArray) (w : World) (q : Ending) (w' : World) : Prop :=
  ∃ M : Ms, q = .returned (.tuple #[mv M, .int .i64 (if (uO s && gok (uB s)) then 1 else 0), .bool (uO s && gok (uB s))]) ∧ Ents w'.heap.size M.A M.n M.es w' ∧ M.Wide ∧ Below w.heap.size w w' ∧ Got (uO s && gok (uB s)) (uB s) M
set_option maxHeartbeats 4000000 in
set_option maxRecDepth 100000 in
theorem fgetM1_any (s : ByteArray) (g : Nat) (w : World) (hm : w.heap[g]? = some (.map (two (fv 46) (fv 47)) 2)) (hs : s.size ≤ 140737488351232) (hu : (uB s).size ≤ 140737488351232) (hU : uO s = true) (hV : uV s = 1) :
    Calls Tryz.prog 45 #[.map (some g), .string s] w (FGM s w) := by
  unfold FGM
  rw [hU, Bool.true_and]
  obtain ⟨W0, hW0⟩ : ∃ W0, W0 = w.alloc (Obj.cells (mc mzz) 29) := ⟨_, rfl⟩
  have b0 : Below w.heap.size w W0 := by rw [hW0]; exact (Below.refl _ _).alloc (Nat.le_refl _) _
  have k0 : W0.heap[w.heap.size]? = some (.cells (mc mzz) 29 (0, 0)) := by rw [hW0]; exact heap_alloc_new w _
  have KU : Hid (Calls Tryz.prog 23 #[.string s] W0 fun q w' => q = .returned (.tuple #[.int .i64 1, .string (uB s), .bool true]) ∧ Below W0.heap.size W0 w') := by
    refine (unpack_any s W0 (by omega)).mono fun q w' ⟨h1, h2⟩ => ⟨?_, h2⟩
    rw [h1, hU, hV]
  have KW0 : ∀ (W : World), Calls Tryz.prog 46 #[.string (uB s)] W fun q w' => ∃ M : Ms, q = .returned (.tuple #[mv M, .bool (gok (uB s))]) ∧ Ents w'.heap.size M.A M.n M.es w' ∧ M.Wide ∧ Below W.heap.size W w' ∧ Got (gok (uB s)) (uB s) M := by
    intro W
    refine (getMsg_any (uB s) W hu).mono ?_
    rintro q w' ⟨M, h1, h2, h3, h4, h5, h6⟩
    exact ⟨M, h1, h2, h3, h4, h5⟩
  obtain ⟨u, hu2⟩ : ∃ u, u = uB s := ⟨_, rfl⟩
  rw [← hu2] at KU KW0 ⊢
  obtain ⟨o, ho⟩ : ∃ o, o = gok u := ⟨_, rfl⟩
  rw [← ho] at KW0 ⊢
  have KW := Lib.hid KW0
  have HM := Lib.hid hm
  have hgl := (Array.getElem?_eq_some_iff.1 hm).1
  have HGL := Lib.hid hgl
  have HW0 := Lib.hid hW0
  have HK0 := Lib.hid k0
  have HB0 := Lib.hid b0
  clear hW0 k0 b0 hm hgl hu2 ho hU hV hu hs KW0
  go_enter Tryz.func45, Tryz.ntmps45
  go_wp2_with fail
  rw [← HW0.out]
  refine KU.out.mono ?_
  rintro q w1 ⟨rfl, b1⟩
  have HK1 : Hid (w1.heap[w.heap.size]? = some (.cells (mc mzz) 29 (0, 0))) := (b1.block _ (Array.getElem?_eq_some_iff.1 HK0.out).1).trans HK0.out
  have HB1 : Hid (Below w.heap.size w w1) := HB0.out.trans (b1.mono HB0.out.size)
  have hl := look_one (T := 75) 1 (fv 46) Tryz.underlying75 ((HB1.out.block _ HGL.out).trans HM.out) (two_1 _ _)
  clear b1
  go_wp2_with fail
  refine (KW.out w1).mono ?_
  rintro q w2 ⟨M, rfl, hE, hwd, b2, hp⟩
  have HK2 : Hid (w2.heap[w.heap.size]? = some (.cells (mc mzz) 29 (0, 0))) := (b2.block _ (Array.getElem?_eq_some_iff.1 HK1.out).1).trans HK1.out
  have HB2 : Hid (Below w.heap.size w w2) := HB1.out.trans (b2.mono HB1.out.size)
  have HE2 := Lib.hid hE
  have HWD := Lib.hid hwd
  have HP := Lib.hid hp
  clear b2 hl hE hwd hp
  have z0 : w2.cell? ⟨w.heap.size, 0, none⟩ = some (.int .i64 0) := cell_of_row w2 _ 0 _ 29 (0, 0) HK2.out
  have z1 : w2.cell? ⟨w.heap.size, 1, none⟩ = some (.int .i64 0) := cell_of_row w2 _ 1 _ 29 (0, 0) HK2.out
  have z2 : w2.cell? ⟨w.heap.size, 2, none⟩ = some (.int .i64 0) := cell_of_row w2 _ 2 _ 29 (0, 0) HK2.out
  have z3 : w2.cell? ⟨w.heap.size, 3, none⟩ = some (.int .u64 0) := cell_of_row w2 _ 3 _ 29 (0, 0) HK2.out
  have z4 : w2.cell? ⟨w.heap.size, 4, none⟩ = some (.int .u64 0) := cell_of_row w2 _ 4 _ 29 (0, 0) HK2.out
  have z5 : w2.cell? ⟨w.heap.size, 5, none⟩ = some (.int .u64 0) := cell_of_row w2 _ 5 _ 29 (0, 0) HK2.out
  have z6 : w2.cell? ⟨w.heap.size, 6, none⟩ = some (.int .u64 0) := cell_of_row w2 _ 6 _ 29 (0, 0) HK2.out
  have z7 : w2.cell? ⟨w.heap.size, 7, none⟩ = some (.int .u64 0) := cell_of_row w2 _ 7 _ 29 (0, 0) HK2.out
  have z8 : w2.cell? ⟨w.heap.size, 8, none⟩ = some (.bool false) := cell_of_row w2 _ 8 _ 29 (0, 0) HK2.out
  have z9 : w2.cell? ⟨w.heap.size, 9, none⟩ = some (.slice none 0 0) := cell_of_row w2 _ 9 _ 29 (0, 0) HK2.out
  have z10 : w2.cell? ⟨w.heap.size, 10, none⟩ = some (.string ⟨#[]⟩) := cell_of_row w2 _ 10 _ 29 (0, 0) HK2.out
  have fz : ∀ i, w2.frozen? ⟨w.heap.size, i, none⟩ = false := fun i => Lib.frozen_of_heap HK2.out i
  go_upto_region 5 with fail
  obtain ⟨W3, hW3⟩ : ∃ W3, W3 = wrm w2 w.heap.size M := ⟨_, rfl⟩
  have k3 : W3.heap[w.heap.size]? = some (.cells (mc M) 29 (0, 0)) := by rw [hW3]; exact store_allm M HK2.out
  have HB3 : Hid (Below w.heap.size w W3) := by rw [hW3]; exact below_allm M HB2.out (Nat.le_refl _)
  have HE3 : Hid (Ents W3.heap.size M.A M.n M.es W3) := by rw [hW3, size_wrm]; exact ents_wrm_off M HE2.out HK2.out
  have HK3 := Lib.hid k3
  unfold wrm at hW3
  rw [← hW3]
  clear hW3 k3 z0 z1 z2 z3 z4 z5 z6 z7 z8 z9 z10 fz
  have y0 : W3.cell? ⟨w.heap.size, 0, none⟩ = some (.int .i64 M.kind) := cell_of_row W3 _ 0 _ 29 (0, 0) HK3.out
  have y1 : W3.cell? ⟨w.heap.size, 1, none⟩ = some (.int .i64 M.frm) := cell_of_row W3 _ 1 _ 29 (0, 0) HK3.out
  have y2 : W3.cell? ⟨w.heap.size, 2, none⟩ = some (.int .i64 M.dst) := cell_of_row W3 _ 2 _ 29 (0, 0) HK3.out
  have y3 : W3.cell? ⟨w.heap.size, 3, none⟩ = some (.int .u64 M.term) := cell_of_row W3 _ 3 _ 29 (0, 0) HK3.out
  have y4 : W3.cell? ⟨w.heap.size, 4, none⟩ = some (.int .u64 M.index) := cell_of_row W3 _ 4 _ 29 (0, 0) HK3.out
  have y5 : W3.cell? ⟨w.heap.size, 5, none⟩ = some (.int .u64 M.prev) := cell_of_row W3 _ 5 _ 29 (0, 0) HK3.out
  have y6 : W3.cell? ⟨w.heap.size, 6, none⟩ = some (.int .u64 M.commit) := cell_of_row W3 _ 6 _ 29 (0, 0) HK3.out
  have y7 : W3.cell? ⟨w.heap.size, 7, none⟩ = some (.int .u64 M.mark) := cell_of_row W3 _ 7 _ 29 (0, 0) HK3.out
  have y8 : W3.cell? ⟨w.heap.size, 8, none⟩ = some (.bool M.ok) := cell_of_row W3 _ 8 _ 29 (0, 0) HK3.out
  have y9 : W3.cell? ⟨w.heap.size, 9, none⟩ = some (.slice M.A M.n M.c) := cell_of_row W3 _ 9 _ 29 (0, 0) HK3.out
  have y10 : W3.cell? ⟨w.heap.size, 10, none⟩ = some (.string M.snap) := cell_of_row W3 _ 10 _ 29 (0, 0) HK3.out
  have fz : ∀ i, W3.frozen? ⟨w.heap.size, i, none⟩ = false := fun i => Lib.frozen_of_heap HK3.out i
  cases o
  all_goals
    go_wp2
    obtain ⟨WF, hWF⟩ : ∃ WF, WF = wrm W3 w.heap.size M := ⟨_, rfl⟩
    have HBK : Hid (WF.heap[w.heap.size]? = some (.cells (mc M) 29 (0, 0))) := by
      show _ = _
      rw [hWF]
      exact store_againm M HK3.out
    have HBF : Hid (Below w.heap.size w WF) := by rw [hWF]; exact below_allm M HB3.out (Nat.le_refl _)
    have HEF : Hid (Ents WF.heap.size M.A M.n M.es WF) := by rw [hWF, size_wrm]; exact ents_wrm_off M HE3.out HK3.out
    unfold wrm at hWF
    rw [← hWF]
    have f0 : WF.cell? ⟨w.heap.size, 0, none⟩ = some (.int .i64 M.kind) := cell_of_row WF _ 0 _ 29 (0, 0) HBK.out
    have f1 : WF.cell? ⟨w.heap.size, 1, none⟩ = some (.int .i64 M.frm) := cell_of_row WF _ 1 _ 29 (0, 0) HBK.out
    have f2 : WF.cell? ⟨w.heap.size, 2, none⟩ = some (.int .i64 M.dst) := cell_of_row WF _ 2 _ 29 (0, 0) HBK.out
    have f3 : WF.cell? ⟨w.heap.size, 3, none⟩ = some (.int .u64 M.term) := cell_of_row WF _ 3 _ 29 (0, 0) HBK.out
    have f4 : WF.cell? ⟨w.heap.size, 4, none⟩ = some (.int .u64 M.index) := cell_of_row WF _ 4 _ 29 (0, 0) HBK.out
    have f5 : WF.cell? ⟨w.heap.size, 5, none⟩ = some (.int .u64 M.prev) := cell_of_row WF _ 5 _ 29 (0, 0) HBK.out
    have f6 : WF.cell? ⟨w.heap.size, 6, none⟩ = some (.int .u64 M.commit) := cell_of_row WF _ 6 _ 29 (0, 0) HBK.out
    have f7 : WF.cell? ⟨w.heap.size, 7, none⟩ = some (.int .u64 M.mark) := cell_of_row WF _ 7 _ 29 (0, 0) HBK.out
    have f8 : WF.cell? ⟨w.heap.size, 8, none⟩ = some (.bool M.ok) := cell_of_row WF _ 8 _ 29 (0, 0) HBK.out
    have f9 : WF.cell? ⟨w.heap.size, 9, none⟩ = some (.slice M.A M.n M.c) := cell_of_row WF _ 9 _ 29 (0, 0) HBK.out
    have f10 : WF.cell? ⟨w.heap.size, 10, none⟩ = some (.string M.snap) := cell_of_row WF _ 10 _ 29 (0, 0) HBK.out
    first
      | exact bodyPost_ret (v := .tuple #[mv M, .int .i64 0, .bool false]) (by simp [results, Tryz.results45, go_sem, f0, f1, f2, f3, f4, f5, f6, f7, f8, f9, f10]) rfl ⟨M, rfl, HEF.out, HWD.out, HBF.out, HP.out⟩
      | exact bodyPost_ret (v := .tuple #[mv M, .int .i64 1, .bool true]) (by simp [results, Tryz.results45, go_sem, f0, f1, f2, f3, f4, f5, f6, f7, f8, f9, f10]) rfl ⟨M, rfl, HEF.out, HWD.out, HBF.out, HP.out⟩

set_option maxHeartbeats 4000000 in
set_option maxRecDepth 100000 in
theorem fgetM0_any (s : ByteArray) (g : Nat) (w : World) (hs : s.size ≤ 140737488351232) (hU : uO s = false) :
    Calls Tryz.prog 45 #[.map (some g), .string s] w (FGM s w) := by
  unfold FGM
  rw [hU, Bool.false_and]
  obtain ⟨W0, hW0⟩ : ∃ W0, W0 = w.alloc (Obj.cells (mc mzz) 29) := ⟨_, rfl⟩
  have b0 : Below w.heap.size w W0 := by rw [hW0]; exact (Below.refl _ _).alloc (Nat.le_refl _) _
  have k0 : W0.heap[w.heap.size]? = some (.cells (mc mzz) 29 (0, 0)) := by rw [hW0]; exact heap_alloc_new w _
  have KU : Hid (Calls Tryz.prog 23 #[.string s] W0 fun q w' => q = .returned (.tuple #[.int .i64 0, .string ⟨#[]⟩, .bool false]) ∧ Below W0.heap.size W0 w') := by
    refine (unpack_any s W0 (by omega)).mono fun q w' ⟨h1, h2⟩ => ⟨?_, h2⟩
    rw [h1, ← u_ret_no hU]
  have HW0 := Lib.hid hW0
  have HK0 := Lib.hid k0
  have HB0 := Lib.hid b0
  clear hW0 k0 b0 hU hs
  go_enter Tryz.func45, Tryz.ntmps45
  go_wp2_with fail
  rw [← HW0.out]
  refine KU.out.mono ?_
  rintro q w1 ⟨rfl, b1⟩
  have HK1 : Hid (w1.heap[w.heap.size]? = some (.cells (mc mzz) 29 (0, 0))) := (b1.block _ (Array.getElem?_eq_some_iff.1 HK0.out).1).trans HK0.out
  have HB1 : Hid (Below w.heap.size w w1) := HB0.out.trans (b1.mono HB0.out.size)
  clear b1
  have z0 : w1.cell? ⟨w.heap.size, 0, none⟩ = some (.int .i64 0) := cell_of_row w1 _ 0 _ 29 (0, 0) HK1.out
  have z1 : w1.cell? ⟨w.heap.size, 1, none⟩ = some (.int .i64 0) := cell_of_row w1 _ 1 _ 29 (0, 0) HK1.out
  have z2 : w1.cell? ⟨w.heap.size, 2, none⟩ = some (.int .i64 0) := cell_of_row w1 _ 2 _ 29 (0, 0) HK1.out
  have z3 : w1.cell? ⟨w.heap.size, 3, none⟩ = some (.int .u64 0) := cell_of_row w1 _ 3 _ 29 (0, 0) HK1.out
  have z4 : w1.cell? ⟨w.heap.size, 4, none⟩ = some (.int .u64 0) := cell_of_row w1 _ 4 _ 29 (0, 0) HK1.out
  have z5 : w1.cell? ⟨w.heap.size, 5, none⟩ = some (.int .u64 0) := cell_of_row w1 _ 5 _ 29 (0, 0) HK1.out
  have z6 : w1.cell? ⟨w.heap.size, 6, none⟩ = some (.int .u64 0) := cell_of_row w1 _ 6 _ 29 (0, 0) HK1.out
  have z7 : w1.cell? ⟨w.heap.size, 7, none⟩ = some (.int .u64 0) := cell_of_row w1 _ 7 _ 29 (0, 0) HK1.out
  have z8 : w1.cell? ⟨w.heap.size, 8, none⟩ = some (.bool false) := cell_of_row w1 _ 8 _ 29 (0, 0) HK1.out
  have z9 : w1.cell? ⟨w.heap.size, 9, none⟩ = some (.slice none 0 0) := cell_of_row w1 _ 9 _ 29 (0, 0) HK1.out
  have z10 : w1.cell? ⟨w.heap.size, 10, none⟩ = some (.string ⟨#[]⟩) := cell_of_row w1 _ 10 _ 29 (0, 0) HK1.out
  have fz : ∀ i, w1.frozen? ⟨w.heap.size, i, none⟩ = false := fun i => Lib.frozen_of_heap HK1.out i
  go_wp2
  obtain ⟨WF, hWF⟩ : ∃ WF, WF = wrm w1 w.heap.size mzz := ⟨_, rfl⟩
  have HBK : Hid (WF.heap[w.heap.size]? = some (.cells (mc mzz) 29 (0, 0))) := by
    show _ = _
    rw [hWF]
    exact store_allm mzz HK1.out
  have HBF : Hid (Below w.heap.size w WF) := by rw [hWF]; exact below_allm mzz HB1.out (Nat.le_refl _)
  unfold wrm at hWF
  rw [← hWF]
  have f0 : WF.cell? ⟨w.heap.size, 0, none⟩ = some (.int .i64 0) := cell_of_row WF _ 0 _ 29 (0, 0) HBK.out
  have f1 : WF.cell? ⟨w.heap.size, 1, none⟩ = some (.int .i64 0) := cell_of_row WF _ 1 _ 29 (0, 0) HBK.out
  have f2 : WF.cell? ⟨w.heap.size, 2, none⟩ = some (.int .i64 0) := cell_of_row WF _ 2 _ 29 (0, 0) HBK.out
  have f3 : WF.cell? ⟨w.heap.size, 3, none⟩ = some (.int .u64 0) := cell_of_row WF _ 3 _ 29 (0, 0) HBK.out
  have f4 : WF.cell? ⟨w.heap.size, 4, none⟩ = some (.int .u64 0) := cell_of_row WF _ 4 _ 29 (0, 0) HBK.out
  have f5 : WF.cell? ⟨w.heap.size, 5, none⟩ = some (.int .u64 0) := cell_of_row WF _ 5 _ 29 (0, 0) HBK.out
  have f6 : WF.cell? ⟨w.heap.size, 6, none⟩ = some (.int .u64 0) := cell_of_row WF _ 6 _ 29 (0, 0) HBK.out
  have f7 : WF.cell? ⟨w.heap.size, 7, none⟩ = some (.int .u64 0) := cell_of_row WF _ 7 _ 29 (0, 0) HBK.out
  have f8 : WF.cell? ⟨w.heap.size, 8, none⟩ = some (.bool false) := cell_of_row WF _ 8 _ 29 (0, 0) HBK.out
  have f9 : WF.cell? ⟨w.heap.size, 9, none⟩ = some (.slice none 0 0) := cell_of_row WF _ 9 _ 29 (0, 0) HBK.out
  have f10 : WF.cell? ⟨w.heap.size, 10, none⟩ = some (.string ⟨#[]⟩) := cell_of_row WF _ 10 _ 29 (0, 0) HBK.out
  exact bodyPost_ret (v := .tuple #[mv mzz, .int .i64 0, .bool false]) (by simp [results, Tryz.results45, go_sem, f0, f1, f2, f3, f4, f5, f6, f7, f8, f9, f10]) rfl ⟨mzz, rfl, mzz_ents _ _, mzz_wide5, HBF.out, fun e => by cases e⟩

set_option maxHeartbeats 4000000 in
set_option maxRecDepth 100000 in
theorem fGetM_any (s : ByteArray) (w : World) (hs : s.size ≤ 140737488351232) (hu : (uB s).size ≤ 140737488351232) (hV : uO s = true → uV s = 1) :
    Calls Tryz.prog 15 #[.string s] w (FGM s w) := by
  have hmm := @run_makeMap Tryz.prog
  have b0 : Below w.heap.size w (w.alloc (Obj.cells (mc mzz) 29)) := (Below.refl _ _).alloc (Nat.le_refl _) _
  have k0 : (w.alloc (Obj.cells (mc mzz) 29)).heap[w.heap.size]? = some (.cells (mc mzz) 29 (0, 0)) := heap_alloc_new w _
  have z0 : (w.alloc (Obj.cells (mc mzz) 29)).heap.size = w.heap.size + 1 := by simp
  have bm := b0.alloc (by omega) (.map #[] 0)
  obtain ⟨w1, e1, h1, b1, o1, s1⟩ := ins_step (T := 75) 1 (fv 46) Tryz.underlying75 (heap_alloc_new (w.alloc (Obj.cells (mc mzz) 29)) (.map #[] 0)) rfl bm (by omega)
  obtain ⟨w2, e2, h2, b2, o2, s2⟩ := ins_step (T := 75) 2 (fv 47) Tryz.underlying75 h1 rfl b1 (by omega)
  have k2 : w2.heap[w.heap.size]? = some (.cells (mc mzz) 29 (0, 0)) := (o2 _ (by omega)).trans ((o1 _ (by omega)).trans ((Lib.alloc_old _ _ _ (by omega)).trans k0))
  rw [z0] at e1 e2
  have H2 : Hid (w2.heap[w.heap.size + 1]? = some (.map (two (fv 46) (fv 47)) 2)) := by show _ = _; rw [← z0]; exact h2
  have B2 := Lib.hid b2
  have HK2 := Lib.hid k2
  have K : Hid (Calls Tryz.prog 45 #[.map (some (w.heap.size + 1)), .string s] w2 (FGM s w2)) := by
    show Calls _ _ _ _ _
    by_cases hU : uO s = true
    · exact fgetM1_any s _ w2 H2.out hs hu hU (hV hU)
    · exact fgetM0_any s _ w2 hs (by simpa using hU)
  unfold FGM at K ⊢
  obtain ⟨p, hp⟩ : ∃ p, p = (uO s && gok (uB s)) := ⟨_, rfl⟩
  obtain ⟨u, hu2⟩ : ∃ u, u = uB s := ⟨_, rfl⟩
  rw [← hp, ← hu2] at K ⊢
  obtain ⟨v, hv⟩ : ∃ v : Int, v = (if p = true then 1 else 0) := ⟨_, rfl⟩
  rw [← hv] at K ⊢
  clear hv
  clear h1 h2 b1 b2 o1 o2 s1 s2 k0 k2 bm b0 z0 hs hu hV hp hu2
  go_enter Tryz.func15, Tryz.ntmps15
  go_wp2_with fail
  refine K.out.mono ?_
  rintro q w3 ⟨M, rfl, hE, hwd, b3, hp⟩
  have HK3 : Hid (w3.heap[w.heap.size]? = some (.cells (mc mzz) 29 (0, 0))) := (b3.block _ (Array.getElem?_eq_some_iff.1 HK2.out).1).trans HK2.out
  have HB3 : Hid (Below w.heap.size w w3) := B2.out.trans (b3.mono B2.out.size)
  have HE3 := Lib.hid hE
  have HWD := Lib.hid hwd
  have HP := Lib.hid hp
  clear b3 hE hwd hp e1 e2
  have z0 : w3.cell? ⟨w.heap.size, 0, none⟩ = some (.int .i64 0) := cell_of_row w3 _ 0 _ 29 (0, 0) HK3.out
  have z1 : w3.cell? ⟨w.heap.size, 1, none⟩ = some (.int .i64 0) := cell_of_row w3 _ 1 _ 29 (0, 0) HK3.out
  have z2 : w3.cell? ⟨w.heap.size, 2, none⟩ = some (.int .i64 0) := cell_of_row w3 _ 2 _ 29 (0, 0) HK3.out
  have z3 : w3.cell? ⟨w.heap.size, 3, none⟩ = some (.int .u64 0) := cell_of_row w3 _ 3 _ 29 (0, 0) HK3.out
  have z4 : w3.cell? ⟨w.heap.size, 4, none⟩ = some (.int .u64 0) := cell_of_row w3 _ 4 _ 29 (0, 0) HK3.out
  have z5 : w3.cell? ⟨w.heap.size, 5, none⟩ = some (.int .u64 0) := cell_of_row w3 _ 5 _ 29 (0, 0) HK3.out
  have z6 : w3.cell? ⟨w.heap.size, 6, none⟩ = some (.int .u64 0) := cell_of_row w3 _ 6 _ 29 (0, 0) HK3.out
  have z7 : w3.cell? ⟨w.heap.size, 7, none⟩ = some (.int .u64 0) := cell_of_row w3 _ 7 _ 29 (0, 0) HK3.out
  have z8 : w3.cell? ⟨w.heap.size, 8, none⟩ = some (.bool false) := cell_of_row w3 _ 8 _ 29 (0, 0) HK3.out
  have z9 : w3.cell? ⟨w.heap.size, 9, none⟩ = some (.slice none 0 0) := cell_of_row w3 _ 9 _ 29 (0, 0) HK3.out
  have z10 : w3.cell? ⟨w.heap.size, 10, none⟩ = some (.string ⟨#[]⟩) := cell_of_row w3 _ 10 _ 29 (0, 0) HK3.out
  have fz : ∀ i, w3.frozen? ⟨w.heap.size, i, none⟩ = false := fun i => Lib.frozen_of_heap HK3.out i
  go_wp2
  obtain ⟨WF, hWF⟩ : ∃ WF, WF = wrm w3 w.heap.size M := ⟨_, rfl⟩
  have HBK : Hid (WF.heap[w.heap.size]? = some (.cells (mc M) 29 (0, 0))) := by
    show _ = _
    rw [hWF]
    exact store_allm M HK3.out
  have HBF : Hid (Below w.heap.size w WF) := by rw [hWF]; exact below_allm M HB3.out (Nat.le_refl _)
  have HEF : Hid (Ents WF.heap.size M.A M.n M.es WF) := by rw [hWF, size_wrm]; exact ents_wrm_off M HE3.out HK3.out
  unfold wrm at hWF
  rw [← hWF]
  have f0 : WF.cell? ⟨w.heap.size, 0, none⟩ = some (.int .i64 M.kind) := cell_of_row WF _ 0 _ 29 (0, 0) HBK.out
  have f1 : WF.cell? ⟨w.heap.size, 1, none⟩ = some (.int .i64 M.frm) := cell_of_row WF _ 1 _ 29 (0, 0) HBK.out
  have f2 : WF.cell? ⟨w.heap.size, 2, none⟩ = some (.int .i64 M.dst) := cell_of_row WF _ 2 _ 29 (0, 0) HBK.out
  have f3 : WF.cell? ⟨w.heap.size, 3, none⟩ = some (.int .u64 M.term) := cell_of_row WF _ 3 _ 29 (0, 0) HBK.out
  have f4 : WF.cell? ⟨w.heap.size, 4, none⟩ = some (.int .u64 M.index) := cell_of_row WF _ 4 _ 29 (0, 0) HBK.out
  have f5 : WF.cell? ⟨w.heap.size, 5, none⟩ = some (.int .u64 M.prev) := cell_of_row WF _ 5 _ 29 (0, 0) HBK.out
  have f6 : WF.cell? ⟨w.heap.size, 6, none⟩ = some (.int .u64 M.commit) := cell_of_row WF _ 6 _ 29 (0, 0) HBK.out
  have f7 : WF.cell? ⟨w.heap.size, 7, none⟩ = some (.int .u64 M.mark) := cell_of_row WF _ 7 _ 29 (0, 0) HBK.out
  have f8 : WF.cell? ⟨w.heap.size, 8, none⟩ = some (.bool M.ok) := cell_of_row WF _ 8 _ 29 (0, 0) HBK.out
  have f9 : WF.cell? ⟨w.heap.size, 9, none⟩ = some (.slice M.A M.n M.c) := cell_of_row WF _ 9 _ 29 (0, 0) HBK.out
  have f10 : WF.cell? ⟨w.heap.size, 10, none⟩ = some (.string M.snap) := cell_of_row WF _ 10 _ 29 (0, 0) HBK.out
  exact bodyPost_ret (v := .tuple #[mv M, .int .i64 v, .bool p]) (by simp [results, Tryz.results15, go_sem, f0, f1, f2, f3, f4, f5, f6, f7, f8, f9, f10]) rfl ⟨M, rfl, HEF.out, HWD.out, HBF.out, HP.out⟩
end Go.Proofs.YtpdbeijfchmlgaaGreat
namespace Go.Proofs.YtpdbeijfchmlgaaGreat
open Go.RowKit
open Vi
set_option linter.unusedVariables false
set_option linter.unusedSimpArgs false

/-- What a codec put, in a frame. -/
def frP (v : Int) (o : Bool) (P : ByteArray) : ByteArray := if o then pack v P else ⟨#[]⟩

set_option maxHeartbeats 2000000 in
set_option maxRecDepth 100000 in
theorem fputE1_any (e : En) (g : Nat) (P : ByteArray) (o : Bool) (w : World) (hm : w.heap[g]? = some (.map (two (fv 25) (fv 26)) 2)) (hK : ∀ W, Below w.heap.size w W → Calls Tryz.prog 25 #[ev e] W fun q w' => q = .returned (.tuple #[.string P, .bool o]) ∧ Below W.heap.size W w') (hP : P.size ≤ 1048576) :
    Calls Tryz.prog 24 #[.map (some g), .int .i64 1, ev e] w fun q w' => q = .returned (.tuple #[.string (frP 1 o P), .bool o]) ∧ Below w.heap.size w w' := by
  have b0 : Below w.heap.size w (w.alloc (Obj.cells (ec e) 24)) := (Below.refl _ _).alloc (Nat.le_refl _) _
  have m0 : (w.alloc (Obj.cells (ec e) 24)).heap[g]? = some (.map (two (fv 25) (fv 26)) 2) := (Lib.alloc_old _ _ _ (Array.getElem?_eq_some_iff.1 hm).1).trans hm
  have hl := look_step (T := 57) 1 (fv 25) Tryz.underlying57 m0 (two_1 _ _)
  have K := Lib.hid (hK _ b0)
  have KP := Lib.hid (fun (W : World) => packK_any 1 P W (.inl rfl) hP)
  have HB := Lib.hid b0
  clear hK hP b0 m0 hm
  cases o with
  | false =>
    go_enter Tryz.func24, Tryz.ntmps24
    go_wp2_with fail
    refine K.out.mono ?_
    rintro q w1 ⟨rfl, b1⟩
    go_wp2
    go_ret2
    exact ⟨rfl, HB.out.trans (b1.mono HB.out.size)⟩
  | true =>
    go_enter Tryz.func24, Tryz.ntmps24
    go_wp2_with fail
    refine K.out.mono ?_
    rintro q w1 ⟨rfl, b1⟩
    have HB1 := Lib.hid (HB.out.trans (b1.mono HB.out.size))
    clear b1 hl
    go_wp2_with fail
    refine (KP.out _).mono ?_
    rintro q w2 ⟨rfl, b2⟩
    go_wp2
    go_ret2
    exact ⟨rfl, HB1.out.trans (b2.mono HB1.out.size)⟩

set_option maxHeartbeats 2000000 in
set_option maxRecDepth 100000 in
theorem fPutE1_any (e : En) (P : ByteArray) (o : Bool) (w : World) (hK : ∀ W, Below w.heap.size w W → Calls Tryz.prog 25 #[ev e] W fun q w' => q = .returned (.tuple #[.string P, .bool o]) ∧ Below W.heap.size W w') (hP : P.size ≤ 1048576) :
    Calls Tryz.prog 6 #[.int .i64 1, ev e] w fun q w' => q = .returned (.tuple #[.string (frP 1 o P), .bool o]) ∧ Below w.heap.size w w' := by
  have hmm := @run_makeMap Tryz.prog
  have b0 : Below w.heap.size w (w.alloc (Obj.cells (ec e) 24)) := (Below.refl _ _).alloc (Nat.le_refl _) _
  have k0 : (w.alloc (Obj.cells (ec e) 24)).heap[w.heap.size]? = some (.cells (ec e) 24 (0, 0)) := heap_alloc_new w _
  have z0 : (w.alloc (Obj.cells (ec e) 24)).heap.size = w.heap.size + 1 := by simp
  have bm := b0.alloc (by omega) (.map #[] 0)
  obtain ⟨w1, e1, h1, b1, o1, s1⟩ := ins_step (T := 57) 1 (fv 25) Tryz.underlying57 (heap_alloc_new (w.alloc (Obj.cells (ec e) 24)) (.map #[] 0)) rfl bm (by omega)
  obtain ⟨w2, e2, h2, b2, o2, s2⟩ := ins_step (T := 57) 2 (fv 26) Tryz.underlying57 h1 rfl b1 (by omega)
  have k2 : w2.heap[w.heap.size]? = some (.cells (ec e) 24 (0, 0)) := (o2 _ (by omega)).trans ((o1 _ (by omega)).trans ((Lib.alloc_old _ _ _ (by omega)).trans k0))
  rw [z0] at e1 e2
  have H2 : Hid (w2.heap[w.heap.size + 1]? = some (.map (two (fv 25) (fv 26)) 2)) := by show _ = _; rw [← z0]; exact h2
  have B2 := Lib.hid b2
  have hsz : w2.heap.size = w.heap.size + 2 := by rw [s2, s1]; simp
  have K := Lib.hid (fputE1_any e (w.heap.size + 1) P o w2 H2.out (fun W hW => hK W (b2.trans (hW.mono (by omega)))) hP)
  have c0 : w2.cell? ⟨w.heap.size, 0, none⟩ = some (.int .u64 e.term) := cell_of_row w2 _ 0 _ 24 (0, 0) k2
  have c1 : w2.cell? ⟨w.heap.size, 1, none⟩ = some (.int .u64 e.index) := cell_of_row w2 _ 1 _ 24 (0, 0) k2
  have c2 : w2.cell? ⟨w.heap.size, 2, none⟩ = some (.int .i64 e.kind) := cell_of_row w2 _ 2 _ 24 (0, 0) k2
  have c3 : w2.cell? ⟨w.heap.size, 3, none⟩ = some (.int .u64 e.client) := cell_of_row w2 _ 3 _ 24 (0, 0) k2
  have c4 : w2.cell? ⟨w.heap.size, 4, none⟩ = some (.int .u64 e.seq) := cell_of_row w2 _ 4 _ 24 (0, 0) k2
  have c5 : w2.cell? ⟨w.heap.size, 5, none⟩ = some (.int .u64 e.block) := cell_of_row w2 _ 5 _ 24 (0, 0) k2
  have c6 : w2.cell? ⟨w.heap.size, 6, none⟩ = some (.int .u64 e.many) := cell_of_row w2 _ 6 _ 24 (0, 0) k2
  have c7 : w2.cell? ⟨w.heap.size, 7, none⟩ = some (.int .i64 e.node) := cell_of_row w2 _ 7 _ 24 (0, 0) k2
  have c8 : w2.cell? ⟨w.heap.size, 8, none⟩ = some (.int .i64 e.level) := cell_of_row w2 _ 8 _ 24 (0, 0) k2
  have c9 : w2.cell? ⟨w.heap.size, 9, none⟩ = some (.string e.data) := cell_of_row w2 _ 9 _ 24 (0, 0) k2
  have c10 : w2.cell? ⟨w.heap.size, 10, none⟩ = some (.string e.old) := cell_of_row w2 _ 10 _ 24 (0, 0) k2
  have HS := Lib.hid hsz
  clear h1 h2 b1 b2 o1 o2 s1 s2 k0 k2 bm hK hP hsz b0
  go_enter Tryz.func6, Tryz.ntmps6
  go_wp2_with fail
  refine K.out.mono ?_
  rintro q w3 ⟨rfl, b3⟩
  go_wp2
  go_ret2
  exact ⟨rfl, B2.out.trans (b3.mono B2.out.size)⟩

set_option maxHeartbeats 2000000 in
set_option maxRecDepth 100000 in
theorem fputE2_any (e : En) (g : Nat) (P : ByteArray) (o : Bool) (w : World) (hm : w.heap[g]? = some (.map (two (fv 25) (fv 26)) 2)) (hK : ∀ W, Below w.heap.size w W → Calls Tryz.prog 26 #[ev e] W fun q w' => q = .returned (.tuple #[.string P, .bool o]) ∧ Below W.heap.size W w') (hP : P.size ≤ 1048576) :
    Calls Tryz.prog 24 #[.map (some g), .int .i64 2, ev e] w fun q w' => q = .returned (.tuple #[.string (frP 2 o P), .bool o]) ∧ Below w.heap.size w w' := by
  have b0 : Below w.heap.size w (w.alloc (Obj.cells (ec e) 24)) := (Below.refl _ _).alloc (Nat.le_refl _) _
  have m0 : (w.alloc (Obj.cells (ec e) 24)).heap[g]? = some (.map (two (fv 25) (fv 26)) 2) := (Lib.alloc_old _ _ _ (Array.getElem?_eq_some_iff.1 hm).1).trans hm
  have hl := look_step (T := 57) 2 (fv 26) Tryz.underlying57 m0 (two_2 _ _)
  have K := Lib.hid (hK _ b0)
  have KP := Lib.hid (fun (W : World) => packK_any 2 P W (.inr rfl) hP)
  have HB := Lib.hid b0
  clear hK hP b0 m0 hm
  cases o with
  | false =>
    go_enter Tryz.func24, Tryz.ntmps24
    go_wp2_with fail
    refine K.out.mono ?_
    rintro q w1 ⟨rfl, b1⟩
    go_wp2
    go_ret2
    exact ⟨rfl, HB.out.trans (b1.mono HB.out.size)⟩
  | true =>
    go_enter Tryz.func24, Tryz.ntmps24
    go_wp2_with fail
    refine K.out.mono ?_
    rintro q w1 ⟨rfl, b1⟩
    have HB1 := Lib.hid (HB.out.trans (b1.mono HB.out.size))
    clear b1 hl
    go_wp2_with fail
    refine (KP.out _).mono ?_
    rintro q w2 ⟨rfl, b2⟩
    go_wp2
    go_ret2
    exact ⟨rfl, HB1.out.trans (b2.mono HB1.out.size)⟩

set_option maxHeartbeats 2000000 in
set_option maxRecDepth 100000 in
theorem fPutE2_any (e : En) (P : ByteArray) (o : Bool) (w : World) (hK : ∀ W, Below w.heap.size w W → Calls Tryz.prog 26 #[ev e] W fun q w' => q = .returned (.tuple #[.string P, .bool o]) ∧ Below W.heap.size W w') (hP : P.size ≤ 1048576) :
    Calls Tryz.prog 6 #[.int .i64 2, ev e] w fun q w' => q = .returned (.tuple #[.string (frP 2 o P), .bool o]) ∧ Below w.heap.size w w' := by
  have hmm := @run_makeMap Tryz.prog
  have b0 : Below w.heap.size w (w.alloc (Obj.cells (ec e) 24)) := (Below.refl _ _).alloc (Nat.le_refl _) _
  have k0 : (w.alloc (Obj.cells (ec e) 24)).heap[w.heap.size]? = some (.cells (ec e) 24 (0, 0)) := heap_alloc_new w _
  have z0 : (w.alloc (Obj.cells (ec e) 24)).heap.size = w.heap.size + 1 := by simp
  have bm := b0.alloc (by omega) (.map #[] 0)
  obtain ⟨w1, e1, h1, b1, o1, s1⟩ := ins_step (T := 57) 1 (fv 25) Tryz.underlying57 (heap_alloc_new (w.alloc (Obj.cells (ec e) 24)) (.map #[] 0)) rfl bm (by omega)
  obtain ⟨w2, e2, h2, b2, o2, s2⟩ := ins_step (T := 57) 2 (fv 26) Tryz.underlying57 h1 rfl b1 (by omega)
  have k2 : w2.heap[w.heap.size]? = some (.cells (ec e) 24 (0, 0)) := (o2 _ (by omega)).trans ((o1 _ (by omega)).trans ((Lib.alloc_old _ _ _ (by omega)).trans k0))
  rw [z0] at e1 e2
  have H2 : Hid (w2.heap[w.heap.size + 1]? = some (.map (two (fv 25) (fv 26)) 2)) := by show _ = _; rw [← z0]; exact h2
  have B2 := Lib.hid b2
  have hsz : w2.heap.size = w.heap.size + 2 := by rw [s2, s1]; simp
  have K := Lib.hid (fputE2_any e (w.heap.size + 1) P o w2 H2.out (fun W hW => hK W (b2.trans (hW.mono (by omega)))) hP)
  have c0 : w2.cell? ⟨w.heap.size, 0, none⟩ = some (.int .u64 e.term) := cell_of_row w2 _ 0 _ 24 (0, 0) k2
  have c1 : w2.cell? ⟨w.heap.size, 1, none⟩ = some (.int .u64 e.index) := cell_of_row w2 _ 1 _ 24 (0, 0) k2
  have c2 : w2.cell? ⟨w.heap.size, 2, none⟩ = some (.int .i64 e.kind) := cell_of_row w2 _ 2 _ 24 (0, 0) k2
  have c3 : w2.cell? ⟨w.heap.size, 3, none⟩ = some (.int .u64 e.client) := cell_of_row w2 _ 3 _ 24 (0, 0) k2
  have c4 : w2.cell? ⟨w.heap.size, 4, none⟩ = some (.int .u64 e.seq) := cell_of_row w2 _ 4 _ 24 (0, 0) k2
  have c5 : w2.cell? ⟨w.heap.size, 5, none⟩ = some (.int .u64 e.block) := cell_of_row w2 _ 5 _ 24 (0, 0) k2
  have c6 : w2.cell? ⟨w.heap.size, 6, none⟩ = some (.int .u64 e.many) := cell_of_row w2 _ 6 _ 24 (0, 0) k2
  have c7 : w2.cell? ⟨w.heap.size, 7, none⟩ = some (.int .i64 e.node) := cell_of_row w2 _ 7 _ 24 (0, 0) k2
  have c8 : w2.cell? ⟨w.heap.size, 8, none⟩ = some (.int .i64 e.level) := cell_of_row w2 _ 8 _ 24 (0, 0) k2
  have c9 : w2.cell? ⟨w.heap.size, 9, none⟩ = some (.string e.data) := cell_of_row w2 _ 9 _ 24 (0, 0) k2
  have c10 : w2.cell? ⟨w.heap.size, 10, none⟩ = some (.string e.old) := cell_of_row w2 _ 10 _ 24 (0, 0) k2
  have HS := Lib.hid hsz
  clear h1 h2 b1 b2 o1 o2 s1 s2 k0 k2 bm hK hP hsz b0
  go_enter Tryz.func6, Tryz.ntmps6
  go_wp2_with fail
  refine K.out.mono ?_
  rintro q w3 ⟨rfl, b3⟩
  go_wp2
  go_ret2
  exact ⟨rfl, B2.out.trans (b3.mono B2.out.size)⟩

set_option maxHeartbeats 2000000 in
set_option maxRecDepth 100000 in
theorem fputM1_any (m : Ms) (g : Nat) (P : ByteArray) (o : Bool) (w : World) (hm : w.heap[g]? = some (.map (two (fv 32) (fv 33)) 2)) (hK : ∀ W, Below w.heap.size w W → Calls Tryz.prog 32 #[mv m] W fun q w' => q = .returned (.tuple #[.string P, .bool o]) ∧ Below W.heap.size W w') (hP : P.size ≤ 1048576) :
    Calls Tryz.prog 31 #[.map (some g), .int .i64 1, mv m] w fun q w' => q = .returned (.tuple #[.string (frP 1 o P), .bool o]) ∧ Below w.heap.size w w' := by
  have b0 : Below w.heap.size w (w.alloc (Obj.cells (mc m) 29)) := (Below.refl _ _).alloc (Nat.le_refl _) _
  have m0 : (w.alloc (Obj.cells (mc m) 29)).heap[g]? = some (.map (two (fv 32) (fv 33)) 2) := (Lib.alloc_old _ _ _ (Array.getElem?_eq_some_iff.1 hm).1).trans hm
  have hl := look_step (T := 61) 1 (fv 32) Tryz.underlying61 m0 (two_1 _ _)
  have K := Lib.hid (hK _ b0)
  have KP := Lib.hid (fun (W : World) => packK_any 1 P W (.inl rfl) hP)
  have HB := Lib.hid b0
  clear hK hP b0 m0 hm
  cases o with
  | false =>
    go_enter Tryz.func31, Tryz.ntmps31
    go_wp2_with fail
    refine K.out.mono ?_
    rintro q w1 ⟨rfl, b1⟩
    go_wp2
    go_ret2
    exact ⟨rfl, HB.out.trans (b1.mono HB.out.size)⟩
  | true =>
    go_enter Tryz.func31, Tryz.ntmps31
    go_wp2_with fail
    refine K.out.mono ?_
    rintro q w1 ⟨rfl, b1⟩
    have HB1 := Lib.hid (HB.out.trans (b1.mono HB.out.size))
    clear b1 hl
    go_wp2_with fail
    refine (KP.out _).mono ?_
    rintro q w2 ⟨rfl, b2⟩
    go_wp2
    go_ret2
    exact ⟨rfl, HB1.out.trans (b2.mono HB1.out.size)⟩

set_option maxHeartbeats 2000000 in
set_option maxRecDepth 100000 in
theorem fPutM1_any (m : Ms) (P : ByteArray) (o : Bool) (w : World) (hK : ∀ W, Below w.heap.size w W → Calls Tryz.prog 32 #[mv m] W fun q w' => q = .returned (.tuple #[.string P, .bool o]) ∧ Below W.heap.size W w') (hP : P.size ≤ 1048576) :
    Calls Tryz.prog 9 #[.int .i64 1, mv m] w fun q w' => q = .returned (.tuple #[.string (frP 1 o P), .bool o]) ∧ Below w.heap.size w w' := by
  have hmm := @run_makeMap Tryz.prog
  have b0 : Below w.heap.size w (w.alloc (Obj.cells (mc m) 29)) := (Below.refl _ _).alloc (Nat.le_refl _) _
  have k0 : (w.alloc (Obj.cells (mc m) 29)).heap[w.heap.size]? = some (.cells (mc m) 29 (0, 0)) := heap_alloc_new w _
  have z0 : (w.alloc (Obj.cells (mc m) 29)).heap.size = w.heap.size + 1 := by simp
  have bm := b0.alloc (by omega) (.map #[] 0)
  obtain ⟨w1, e1, h1, b1, o1, s1⟩ := ins_step (T := 61) 1 (fv 32) Tryz.underlying61 (heap_alloc_new (w.alloc (Obj.cells (mc m) 29)) (.map #[] 0)) rfl bm (by omega)
  obtain ⟨w2, e2, h2, b2, o2, s2⟩ := ins_step (T := 61) 2 (fv 33) Tryz.underlying61 h1 rfl b1 (by omega)
  have k2 : w2.heap[w.heap.size]? = some (.cells (mc m) 29 (0, 0)) := (o2 _ (by omega)).trans ((o1 _ (by omega)).trans ((Lib.alloc_old _ _ _ (by omega)).trans k0))
  rw [z0] at e1 e2
  have H2 : Hid (w2.heap[w.heap.size + 1]? = some (.map (two (fv 32) (fv 33)) 2)) := by show _ = _; rw [← z0]; exact h2
  have B2 := Lib.hid b2
  have hsz : w2.heap.size = w.heap.size + 2 := by rw [s2, s1]; simp
  have K := Lib.hid (fputM1_any m (w.heap.size + 1) P o w2 H2.out (fun W hW => hK W (b2.trans (hW.mono (by omega)))) hP)
  have c0 : w2.cell? ⟨w.heap.size, 0, none⟩ = some (.int .i64 m.kind) := cell_of_row w2 _ 0 _ 29 (0, 0) k2
  have c1 : w2.cell? ⟨w.heap.size, 1, none⟩ = some (.int .i64 m.frm) := cell_of_row w2 _ 1 _ 29 (0, 0) k2
  have c2 : w2.cell? ⟨w.heap.size, 2, none⟩ = some (.int .i64 m.dst) := cell_of_row w2 _ 2 _ 29 (0, 0) k2
  have c3 : w2.cell? ⟨w.heap.size, 3, none⟩ = some (.int .u64 m.term) := cell_of_row w2 _ 3 _ 29 (0, 0) k2
  have c4 : w2.cell? ⟨w.heap.size, 4, none⟩ = some (.int .u64 m.index) := cell_of_row w2 _ 4 _ 29 (0, 0) k2
  have c5 : w2.cell? ⟨w.heap.size, 5, none⟩ = some (.int .u64 m.prev) := cell_of_row w2 _ 5 _ 29 (0, 0) k2
  have c6 : w2.cell? ⟨w.heap.size, 6, none⟩ = some (.int .u64 m.commit) := cell_of_row w2 _ 6 _ 29 (0, 0) k2
  have c7 : w2.cell? ⟨w.heap.size, 7, none⟩ = some (.int .u64 m.mark) := cell_of_row w2 _ 7 _ 29 (0, 0) k2
  have c8 : w2.cell? ⟨w.heap.size, 8, none⟩ = some (.bool m.ok) := cell_of_row w2 _ 8 _ 29 (0, 0) k2
  have c9 : w2.cell? ⟨w.heap.size, 9, none⟩ = some (.slice m.A m.n m.c) := cell_of_row w2 _ 9 _ 29 (0, 0) k2
  have c10 : w2.cell? ⟨w.heap.size, 10, none⟩ = some (.string m.snap) := cell_of_row w2 _ 10 _ 29 (0, 0) k2
  have HS := Lib.hid hsz
  clear h1 h2 b1 b2 o1 o2 s1 s2 k0 k2 bm hK hP hsz b0
  go_enter Tryz.func9, Tryz.ntmps9
  go_wp2_with fail
  refine K.out.mono ?_
  rintro q w3 ⟨rfl, b3⟩
  go_wp2
  go_ret2
  exact ⟨rfl, B2.out.trans (b3.mono B2.out.size)⟩

set_option maxHeartbeats 2000000 in
set_option maxRecDepth 100000 in
theorem fputM2_any (m : Ms) (g : Nat) (P : ByteArray) (o : Bool) (w : World) (hm : w.heap[g]? = some (.map (two (fv 32) (fv 33)) 2)) (hK : ∀ W, Below w.heap.size w W → Calls Tryz.prog 33 #[mv m] W fun q w' => q = .returned (.tuple #[.string P, .bool o]) ∧ Below W.heap.size W w') (hP : P.size ≤ 1048576) :
    Calls Tryz.prog 31 #[.map (some g), .int .i64 2, mv m] w fun q w' => q = .returned (.tuple #[.string (frP 2 o P), .bool o]) ∧ Below w.heap.size w w' := by
  have b0 : Below w.heap.size w (w.alloc (Obj.cells (mc m) 29)) := (Below.refl _ _).alloc (Nat.le_refl _) _
  have m0 : (w.alloc (Obj.cells (mc m) 29)).heap[g]? = some (.map (two (fv 32) (fv 33)) 2) := (Lib.alloc_old _ _ _ (Array.getElem?_eq_some_iff.1 hm).1).trans hm
  have hl := look_step (T := 61) 2 (fv 33) Tryz.underlying61 m0 (two_2 _ _)
  have K := Lib.hid (hK _ b0)
  have KP := Lib.hid (fun (W : World) => packK_any 2 P W (.inr rfl) hP)
  have HB := Lib.hid b0
  clear hK hP b0 m0 hm
  cases o with
  | false =>
    go_enter Tryz.func31, Tryz.ntmps31
    go_wp2_with fail
    refine K.out.mono ?_
    rintro q w1 ⟨rfl, b1⟩
    go_wp2
    go_ret2
    exact ⟨rfl, HB.out.trans (b1.mono HB.out.size)⟩
  | true =>
    go_enter Tryz.func31, Tryz.ntmps31
    go_wp2_with fail
    refine K.out.mono ?_
    rintro q w1 ⟨rfl, b1⟩
    have HB1 := Lib.hid (HB.out.trans (b1.mono HB.out.size))
    clear b1 hl
    go_wp2_with fail
    refine (KP.out _).mono ?_
    rintro q w2 ⟨rfl, b2⟩
    go_wp2
    go_ret2
    exact ⟨rfl, HB1.out.trans (b2.mono HB1.out.size)⟩

set_option maxHeartbeats 2000000 in
set_option maxRecDepth 100000 in
theorem fPutM2_any (m : Ms) (P : ByteArray) (o : Bool) (w : World) (hK : ∀ W, Below w.heap.size w W → Calls Tryz.prog 33 #[mv m] W fun q w' => q = .returned (.tuple #[.string P, .bool o]) ∧ Below W.heap.size W w') (hP : P.size ≤ 1048576) :
    Calls Tryz.prog 9 #[.int .i64 2, mv m] w fun q w' => q = .returned (.tuple #[.string (frP 2 o P), .bool o]) ∧ Below w.heap.size w w' := by
  have hmm := @run_makeMap Tryz.prog
  have b0 : Below w.heap.size w (w.alloc (Obj.cells (mc m) 29)) := (Below.refl _ _).alloc (Nat.le_refl _) _
  have k0 : (w.alloc (Obj.cells (mc m) 29)).heap[w.heap.size]? = some (.cells (mc m) 29 (0, 0)) := heap_alloc_new w _
  have z0 : (w.alloc (Obj.cells (mc m) 29)).heap.size = w.heap.size + 1 := by simp
  have bm := b0.alloc (by omega) (.map #[] 0)
  obtain ⟨w1, e1, h1, b1, o1, s1⟩ := ins_step (T := 61) 1 (fv 32) Tryz.underlying61 (heap_alloc_new (w.alloc (Obj.cells (mc m) 29)) (.map #[] 0)) rfl bm (by omega)
  obtain ⟨w2, e2, h2, b2, o2, s2⟩ := ins_step (T := 61) 2 (fv 33) Tryz.underlying61 h1 rfl b1 (by omega)
  have k2 : w2.heap[w.heap.size]? = some (.cells (mc m) 29 (0, 0)) := (o2 _ (by omega)).trans ((o1 _ (by omega)).trans ((Lib.alloc_old _ _ _ (by omega)).trans k0))
  rw [z0] at e1 e2
  have H2 : Hid (w2.heap[w.heap.size + 1]? = some (.map (two (fv 32) (fv 33)) 2)) := by show _ = _; rw [← z0]; exact h2
  have B2 := Lib.hid b2
  have hsz : w2.heap.size = w.heap.size + 2 := by rw [s2, s1]; simp
  have K := Lib.hid (fputM2_any m (w.heap.size + 1) P o w2 H2.out (fun W hW => hK W (b2.trans (hW.mono (by omega)))) hP)
  have c0 : w2.cell? ⟨w.heap.size, 0, none⟩ = some (.int .i64 m.kind) := cell_of_row w2 _ 0 _ 29 (0, 0) k2
  have c1 : w2.cell? ⟨w.heap.size, 1, none⟩ = some (.int .i64 m.frm) := cell_of_row w2 _ 1 _ 29 (0, 0) k2
  have c2 : w2.cell? ⟨w.heap.size, 2, none⟩ = some (.int .i64 m.dst) := cell_of_row w2 _ 2 _ 29 (0, 0) k2
  have c3 : w2.cell? ⟨w.heap.size, 3, none⟩ = some (.int .u64 m.term) := cell_of_row w2 _ 3 _ 29 (0, 0) k2
  have c4 : w2.cell? ⟨w.heap.size, 4, none⟩ = some (.int .u64 m.index) := cell_of_row w2 _ 4 _ 29 (0, 0) k2
  have c5 : w2.cell? ⟨w.heap.size, 5, none⟩ = some (.int .u64 m.prev) := cell_of_row w2 _ 5 _ 29 (0, 0) k2
  have c6 : w2.cell? ⟨w.heap.size, 6, none⟩ = some (.int .u64 m.commit) := cell_of_row w2 _ 6 _ 29 (0, 0) k2
  have c7 : w2.cell? ⟨w.heap.size, 7, none⟩ = some (.int .u64 m.mark) := cell_of_row w2 _ 7 _ 29 (0, 0) k2
  have c8 : w2.cell? ⟨w.heap.size, 8, none⟩ = some (.bool m.ok) := cell_of_row w2 _ 8 _ 29 (0, 0) k2
  have c9 : w2.cell? ⟨w.heap.size, 9, none⟩ = some (.slice m.A m.n m.c) := cell_of_row w2 _ 9 _ 29 (0, 0) k2
  have c10 : w2.cell? ⟨w.heap.size, 10, none⟩ = some (.string m.snap) := cell_of_row w2 _ 10 _ 29 (0, 0) k2
  have HS := Lib.hid hsz
  clear h1 h2 b1 b2 o1 o2 s1 s2 k0 k2 bm hK hP hsz b0
  go_enter Tryz.func9, Tryz.ntmps9
  go_wp2_with fail
  refine K.out.mono ?_
  rintro q w3 ⟨rfl, b3⟩
  go_wp2
  go_ret2
  exact ⟨rfl, B2.out.trans (b3.mono B2.out.size)⟩
end Go.Proofs.YtpdbeijfchmlgaaGreat
namespace Go.Proofs.YtpdbeijfchmlgaaGreat
open Go.RowKit
open Vi
set_option linter.unusedVariables false
set_option linter.unusedSimpArgs false
theorem putB_s {n : Nat} (h : n < 128) : putB n = ⟨#[UInt8.ofNat n]⟩ := by
  unfold putB
  rw [put_small n h]
  apply ByteArray.ext
  apply Array.ext'
  rfl
abbrev hiB : ByteArray := ⟨#[104, 105]⟩
abbrev e1B : ByteArray := ⟨#[161, 0, 0, 0, 2, 80, 155, 55, 241, 104, 105]⟩
abbrev e2B : ByteArray := ⟨#[162, 2, 57, 22, 73, 239, 104, 105]⟩
theorem e1_eq : pack 1 hiB = e1B := by decide +kernel
theorem e2_eq : pack 2 hiB = e2B := by
  unfold pack
  have h : hdF 2 hiB.size = ⟨#[162, 2]⟩ := by
    show fxB 162 1 ++ (if (2 : Int) = 1 then fxB 2 4 else putB 2) = _
    rw [if_neg (by decide), putB_s (by decide)]
    decide +kernel
  rw [h]
  decide +kernel
theorem hi_o (v : Int) (hv : v = 1 ∨ v = 2) : pkO v hiB = true := pkO_short hv (by decide)
theorem e_nil : uO ⟨#[]⟩ = false := by
  have h : nOk ⟨#[]⟩ = false := by
    have h1 : nV ⟨#[]⟩ = -160 := by decide +kernel
    unfold nOk
    rw [h1]
    rfl
  unfold uO
  rw [h]
  rfl
abbrev pbM : Ms := ⟨9, 1, 2, 3, 0, 0, 0, 4, false, none, 0, 0, [], ⟨#[]⟩⟩
theorem pbM_wide : pbM.Wide := by
  constructor <;> first | decide | (intro e he; cases he)
theorem pbM_right : mrightB pbM = true := by decide +kernel
set_option maxHeartbeats 2000000 in
set_option maxRecDepth 100000 in
theorem examples_any (w : World) : Calls Tryz.prog 5 #[] w fun q w' => q = .returned (.bool true) ∧ Below w.heap.size w w' := by
  have K1 : Hid (∀ W, Calls Tryz.prog 22 #[.int .i64 1, .string hiB] W fun q w' => q = .returned (.tuple #[.string e1B, .bool true]) ∧ Below W.heap.size W w') := fun W => by rw [← e1_eq]; exact packK_any 1 hiB W (.inl rfl) (by decide)
  have K2 : Hid (∀ W, Calls Tryz.prog 22 #[.int .i64 2, .string hiB] W fun q w' => q = .returned (.tuple #[.string e2B, .bool true]) ∧ Below W.heap.size W w') := fun W => by rw [← e2_eq]; exact packK_any 2 hiB W (.inr rfl) (by decide)
  have U2 := u_pack (hi_o 2 (.inr rfl))
  rw [e2_eq] at U2
  have K3 : Hid (∀ W, Calls Tryz.prog 23 #[.string e2B] W fun q w' => q = .returned (.tuple #[.int .i64 2, .string hiB, .bool true]) ∧ Below W.heap.size W w') := fun W => (unpack_any e2B W (by decide)).mono fun q w' ⟨h1, h2⟩ => ⟨by rw [h1, U2.1, U2.2.1, U2.2.2], h2⟩
  have K4 : Hid (∀ W, Calls Tryz.prog 23 #[.string ⟨#[]⟩] W fun q w' => q = .returned (.tuple #[.int .i64 0, .string ⟨#[]⟩, .bool false]) ∧ Below W.heap.size W w') := fun W => (unpack_any ⟨#[]⟩ W (by decide)).mono fun q w' ⟨h1, h2⟩ => ⟨h1.trans (u_ret_no e_nil).symm, h2⟩
  have K5 : Hid (∀ W, Calls Tryz.prog 19 #[mv pbM] W (Shimd pbM W)) := fun W => shim_9 pbM W (ents_nil _ _ _) pbM_wide pbM_right rfl
  have hy : Hid (shimO pbM = true ∧ shimM pbM = ⟨5, 1, 2, 3, 0, 0, 0, 4, false, none, 0, 0, [], ⟨#[]⟩⟩) := by
    show _ ∧ _
    have h : shimO pbM = true := by unfold shimO; rw [pbM_right]; rfl
    refine ⟨h, ?_⟩
    unfold shimM
    rw [h, if_neg (by decide), if_pos rfl]
  clear U2
  go_enter Tryz.func5, Tryz.ntmps5
  go_wp2_with fail
  refine (K1.out _).mono ?_
  rintro q w1 ⟨rfl, b1⟩
  have B1 := Lib.hid b1
  clear b1
  go_wp2_with fail
  refine (K2.out _).mono ?_
  rintro q w2 ⟨rfl, b2⟩
  have B2 : Hid (Below w.heap.size w w2) := B1.out.trans (b2.mono B1.out.size)
  clear b2
  go_wp2_with fail
  refine (K3.out _).mono ?_
  rintro q w3 ⟨rfl, b3⟩
  have B3 : Hid (Below w.heap.size w w3) := B2.out.trans (b3.mono B2.out.size)
  clear b3
  go_wp2_with fail
  refine (K4.out _).mono ?_
  rintro q w4 ⟨rfl, b4⟩
  have B4 : Hid (Below w.heap.size w w4) := B3.out.trans (b4.mono B3.out.size)
  clear b4
  go_wp2_with fail
  refine (K5.out _).mono ?_
  rintro q w5 ⟨M, rfl, _, ⟨A, c, hM⟩, b5⟩
  rw [hy.out.1]
  rw [hy.out.2] at hM
  subst hM
  have B5 : Hid (Below w.heap.size w w5) := B4.out.trans (b5.mono B4.out.size)
  clear b5
  go_wp2
  go_ret
  exact ⟨rfl, B5.out.alloc B5.out.size _⟩
end Go.Proofs.YtpdbeijfchmlgaaGreat
namespace Go.Proofs.YtpdbeijfchmlgaaGreat
open Go.RowKit
open Vi
set_option linter.unusedVariables false
set_option linter.unusedSimpArgs false

theorem pkO_of {v : Int} {b : ByteArray} (hv : v = 1 ∨ v = 2) (hb : b.size ≤ 1048576) : pkO v b = true := by
  unfold pkO
  rw [decide_eq_true hb]
  rcases hv with rfl | rfl <;> rfl
theorem sbE_le {e : En} (ok : e.Ok) (h : rightB e = true) : (sbE e).size ≤ 1000 := by
  have fw := few_of_b ok h
  have h1 := secU_le ok fw 11 (by omega)
  have h2 := putB_le 0 (by omega)
  unfold sbE secB
  rw [ByteArray.size_append]
  omega
theorem gE_put {e : En} (ok : e.Ok) (hr : rightB e = true) (r : ByteArray) : gE (sbE e ++ r) false = e ∧ gT (sbE e ++ r) false = r ∧ gO (sbE e ++ r) false = true := by
  have h := (eR_put ok (few_of_b ok hr) r).1
  have ho : gO (sbE e ++ r) false = true := by unfold gO; rw [h, hr]; rfl
  obtain ⟨h1, h2⟩ := gO_yes ho
  rw [h] at h1 h2
  exact ⟨h1, h2, ho⟩
theorem putF1 (E : En) (ok : E.Ok) (hr : rightB E = true) (w : World) :
    Calls Tryz.prog 6 #[.int .i64 1, ev E] w fun q w' => q = .returned (.tuple #[.string (frP 1 (mayB E) (putS E)), .bool (mayB E)]) ∧ Below w.heap.size w w' := by
  refine fPutE1_any E (putS E) (mayB E) w (fun W _ => put_any5 E W ok) ?_
  unfold putS
  split
  · rw [pb_size (few_of ok hr)]; omega
  · exact Nat.zero_le _
theorem putF2 (E : En) (ok : E.Ok) (hr : rightB E = true) (w : World) :
    Calls Tryz.prog 6 #[.int .i64 2, ev E] w fun q w' => q = .returned (.tuple #[.string (pack 2 (sbE E)), .bool true]) ∧ Below w.heap.size w w' := by
  have h : putS_b E = sbE E := by unfold putS_b; rw [if_pos hr]
  have h2 : frP 2 true (sbE E) = pack 2 (sbE E) := rfl
  rw [← h2]
  refine fPutE2_any E (sbE E) true w (fun W _ => ?_) (Nat.le_trans (sbE_le ok hr) (by omega))
  have h3 := putE_any E W ok
  rw [h, hr] at h3
  exact h3
theorem getF2 (E : En) (ok : E.Ok) (hr : rightB E = true) (w : World) :
    Calls Tryz.prog 13 #[.string (pack 2 (sbE E))] w fun q w' => q = .returned (.tuple #[ev E, .int .i64 2, .bool true]) ∧ Below w.heap.size w w' := by
  have hk : pkO 2 (sbE E) = true := pkO_of (.inr rfl) (Nat.le_trans (sbE_le ok hr) (by omega))
  obtain ⟨u1, u2, u3⟩ := u_pack hk
  have hz := pack_size hk
  have hp := gE_put ok hr ⟨#[]⟩
  rw [app_nil] at hp
  obtain ⟨p1, p2, p3⟩ := hp
  have hsb := sbE_le ok hr
  refine fGetE_any _ E 2 true w fun g a1 a2 W hm h1 h2 => ?_
  have key := fgetE2_any (pack 2 (sbE E)) g a1 a2 E ⟨#[]⟩ false W hm h2 (by omega) u1 u2 (fun g' W' hR => by
    rw [u3] at hR
    have hg := getE_any g' (sbE E) false W' hR (by omega)
    rw [p1, p2, p3] at hg
    exact hg)
  exact key
theorem getF1 (E : En) (ok : E.Ok) (h : mayB E = true) (w : World) :
    Calls Tryz.prog 13 #[.string (frP 1 (mayB E) (putS E))] w fun q w' => q = .returned (.tuple #[ev E, .int .i64 1, .bool true]) ∧ Below w.heap.size w w' := by
  have hr := mayB_right h
  have e1 : frP 1 (mayB E) (putS E) = pack 1 (pb E) := by unfold frP putS; rw [if_pos h, if_pos h]
  rw [e1]
  have hsb := pb_size (few_of ok hr)
  have hk : pkO 1 (pb E) = true := pkO_of (.inl rfl) (by omega)
  obtain ⟨u1, u2, u3⟩ := u_pack hk
  have hz := pack_size hk
  have hp := got_put ok h ⟨#[]⟩
  rw [app_nil] at hp
  obtain ⟨p3, p1, p2⟩ := hp
  refine fGetE_any _ E 1 true w fun g a1 a2 W hm h1 h2 => ?_
  have key := fgetE1_any (pack 1 (pb E)) g a1 a2 E ⟨#[]⟩ false W hm h1 (by omega) u1 u2 (fun g' W' hR => by
    rw [u3] at hR
    have hg := get_any g' (pb E) false W' hR (by omega)
    have q1 : getE' (pb E) false = E := by unfold getE'; rw [if_neg (by decide)]; exact p1
    have q2 : getT' (pb E) false = ⟨#[]⟩ := by unfold getT'; rw [if_neg (by decide)]; exact p2
    rw [q1, q2, p3, show (false || !true) = false from rfl] at hg
    exact hg)
  exact key
theorem getF0 (P : ByteArray) (w : World) :
    Calls Tryz.prog 13 #[.string (frP 1 false P)] w fun q w' => q = .returned (.tuple #[ev ezz, .int .i64 0, .bool false]) ∧ Below w.heap.size w w' := by
  refine fGetE_any _ ezz 0 false w fun g a1 a2 W hm h1 h2 => ?_
  exact fgetE0_any ⟨#[]⟩ g W (by decide) e_nil

theorem mputF (m : Ms) (wd : m.Wide) (w : World) (hE : Ents w.heap.size m.A m.n m.es w) :
    Calls Tryz.prog 9 #[.int .i64 1, mv m] w fun q w' => q = .returned (.tuple #[.string (frP 1 (mmayB m) (putM m)), .bool (mmayB m)]) ∧ Below w.heap.size w w' := by
  refine fPutM1_any m (putM m) (mmayB m) w (fun W hb => putM_any m W ((hE.below hb).mr hb.size) wd) ?_
  unfold putM
  split
  · rename_i h
    have hr : mrightB m = true := by
      unfold mmayB at h
      rw [Bool.and_eq_true] at h
      exact h.1
    have A := mask_of wd hr
    have hn := A.n64
    have hs := A.s
    rw [pbm_size (mfew_of wd hr) hE.len]
    omega
  · exact Nat.zero_le _
theorem prs_at (s : ByteArray) (A : Option Addr) (c : Nat) (A' : Option Addr) (c' : Nat) : ({ mPrs s A c with A := A', c := c' } : Ms) = mPrs s A' c' := by simp only [mPrs]
/-- A message that may be put is got of its frame. -/
theorem mgetF (m : Ms) (wd : m.Wide) (hl : m.es.length = m.n) (w : World) :
    Calls Tryz.prog 15 #[.string (frP 1 (mmayB m) (putM m))] w fun q w' => ∃ (M : Ms) (v : Int), q = .returned (.tuple #[mv M, .int .i64 v, .bool (mmayB m)]) ∧ Ents w'.heap.size M.A M.n M.es w' ∧ M.Wide ∧ Below w.heap.size w w' ∧ (mmayB m = true → v = 1 ∧ Like M m) := by
  cases h : mmayB m with
  | true =>
    have hr : mrightB m = true := by
      have h2 := h
      unfold mmayB at h2
      rw [Bool.and_eq_true] at h2
      exact h2.1
    have e1 : frP 1 true (putM m) = pack 1 (pbm m) := by unfold frP putM; rw [if_pos rfl, if_pos h]
    rw [e1]
    have A := mask_of wd hr
    have hn := A.n64
    have hs := A.s
    have hz0 := pbm_size (mfew_of wd hr) hl
    have hk : pkO 1 (pbm m) = true := pkO_of (.inl rfl) (by omega)
    obtain ⟨u1, u2, u3⟩ := u_pack hk
    have hz := pack_size hk
    obtain ⟨a1, a2⟩ := mAll_put m wd h hl
    have hg : gok (pbm m) = true := by
      unfold gok
      rw [a1, ← may_at (pbm m) m.A m.c, a2, h]
      rfl
    refine (fGetM_any (pack 1 (pbm m)) w (by omega) (by rw [u3]; omega) (fun _ => u2)).mono ?_
    rintro q w' ⟨M, h1, h2, h3, h4, h5⟩
    rw [u1, u3, hg] at h1 h5
    obtain ⟨A', c', h6⟩ := h5 rfl
    refine ⟨M, 1, h1, h2, h3, h4, fun _ => ⟨rfl, A', c', ?_⟩⟩
    exact h6.trans ((prs_at (pbm m) m.A m.c A' c').symm.trans (by rw [a2]))
  | false =>
    have e1 : frP 1 false (putM m) = ⟨#[]⟩ := rfl
    rw [e1]
    refine (fGetM_any ⟨#[]⟩ w (by decide) (by unfold uB; rw [e_nil]; decide) (fun e => by rw [e_nil] at e; cases e)).mono ?_
    rintro q w' ⟨M, h1, h2, h3, h4, h5⟩
    rw [e_nil] at h1
    exact ⟨M, 0, h1, h2, h3, h4, fun e => by cases e⟩
/-- Shim, as the law asks of it. -/
theorem mshimF (m : Ms) (wd : m.Wide) (w : World) (hE : Ents w.heap.size m.A m.n m.es w) :
    Calls Tryz.prog 19 #[mv m] w fun q w' => ∃ (M : Ms) (so : Bool), q = .returned (.tuple #[mv M, .bool so]) ∧ Ents w'.heap.size M.A M.n M.es w' ∧ M.Wide ∧ Below w.heap.size w w' ∧ (mmayB m = true → so = true) ∧ (so = true → mmayB M = true ∧ M.frm = m.frm ∧ M.dst = m.dst ∧ M.term = m.term) := by
  refine (shim_any m w hE wd).mono ?_
  rintro q w' ⟨M, h1, h2, ⟨A, c, h3⟩, h4⟩
  refine ⟨M, shimO m, h1, h2, ?_, h4, may_shim, fun h => ?_⟩
  · have hw := shim_wide wd
    rw [h3]
    exact ⟨hw.k0, hw.k1, hw.f0, hw.f1, hw.o0, hw.o1, hw.t0, hw.t1, hw.i0, hw.i1, hw.p0, hw.p1, hw.c0, hw.c1, hw.m0, hw.m1, hw.s1, hw.n1, hw.eo⟩
  · have k := shim_may wd h
    rw [h3]
    exact k
end Go.Proofs.YtpdbeijfchmlgaaGreat
namespace Go.Proofs.YtpdbeijfchmlgaaGreat
open Go.ChangeShapes Go.WideShapes Go.ChangeAt Go.RowKit
set_option linter.unusedVariables false
theorem cells22 : Tryz.prog.cellsOf 22 = 1 := by kernel_rfl
theorem cells26 : Tryz.prog.cellsOf 26 = 12 := by kernel_rfl
theorem cells24 : Tryz.prog.cellsOf 24 = 11 := by kernel_rfl
theorem cells3 : Tryz.prog.cellsOf 3 = 1 := by kernel_rfl
theorem cells4 : Tryz.prog.cellsOf 4 = 1 := by kernel_rfl
theorem cells9 : Tryz.prog.cellsOf 9 = 1 := by kernel_rfl
theorem seat_laidOut : laidOutB Tryz.prog = true := by kernel_rfl
/-- A limb of a struct weighs no more than the struct. -/
theorem DataW.weights_mem_agg {H : Type} {P : Program} {t : TypeId} {fs : Array Field} {ds : List (DataW H)} (hu : P.underlying t = some (.struct fs)) (j : Nat) {t' : TypeId} {d : DataW H}
    (ht : (fs.toList.map (·.type))[j]? = some t') (hd : ds[j]? = some d) : ∀ n ∈ d.weights P t', n ∈ (DataW.agg ds).weights P t := by
  intro n hn
  simp only [DataW.weights, hu]
  exact DataW.weights_mem_each ht hd n hn
set_option maxHeartbeats 2000000 in
set_option maxRecDepth 100000 in
/-- The cells of an entry, as they read. -/
theorem open_entry {H : Type} {enc : TypeId × Value → H} {w : World} {base fuel : Nat} {sp : Nat → Bool} {held : Bool} {x : DataW H × List MemPlace} {c0 c1 c2 c3 c4 c5 c6 c7 c8 c9 c10 : Value}
    (h : DataW.trod enc Tryz.prog w base sp held fuel 24 [c0, c1, c2, c3, c4, c5, c6, c7, c8, c9, c10] = some x) (hz : ∀ n ∈ x.1.weights Tryz.prog 24, n ≤ reachBytes) :
    ∃ e : En, [c0, c1, c2, c3, c4, c5, c6, c7, c8, c9, c10] = (ec e).toList ∧ e.Ok := by
  obtain ⟨xs, n, _, rfl, hl, hlen, hf⟩ := DataW.trod_struct Tryz.underlying24 h
  match xs, hlen with
  | [y0, y1, y2, y3, y4, y5, y6, y7, y8, y9, y10], _ =>
    have t0 := hf 0 _ rfl
    have t1 := hf 1 _ rfl
    have t2 := hf 2 _ rfl
    have t3 := hf 3 _ rfl
    have t4 := hf 4 _ rfl
    have t5 := hf 5 _ rfl
    have t6 := hf 6 _ rfl
    have t7 := hf 7 _ rfl
    have t8 := hf 8 _ rfl
    have t9 := hf 9 _ rfl
    have t10 := hf 10 _ rfl
    simp [cells22, cells3, cells9] at t0 t1 t2 t3 t4 t5 t6 t7 t8 t9 t10
    obtain ⟨u0, h0, _, k0⟩ := DataW.trod_int Tryz.underlying22 t0
    obtain ⟨u1, h1, _, k1⟩ := DataW.trod_int Tryz.underlying22 t1
    obtain ⟨u2, h2, _, k2⟩ := DataW.trod_int Tryz.underlying3 t2
    obtain ⟨u3, h3, _, k3⟩ := DataW.trod_int Tryz.underlying22 t3
    obtain ⟨u4, h4, _, k4⟩ := DataW.trod_int Tryz.underlying22 t4
    obtain ⟨u5, h5, _, k5⟩ := DataW.trod_int Tryz.underlying22 t5
    obtain ⟨u6, h6, _, k6⟩ := DataW.trod_int Tryz.underlying22 t6
    obtain ⟨u7, h7, _, k7⟩ := DataW.trod_int Tryz.underlying3 t7
    obtain ⟨u8, h8, _, k8⟩ := DataW.trod_int Tryz.underlying3 t8
    obtain ⟨u9, h9, d9, _⟩ := DataW.trod_string Tryz.underlying9 t9
    obtain ⟨u10, h10, d10, _⟩ := DataW.trod_string Tryz.underlying9 t10
    have b0 := bounds_u64 k0
    have b1 := bounds_u64 k1
    have b2 := bounds_i64 k2
    have b3 := bounds_u64 k3
    have b4 := bounds_u64 k4
    have b5 := bounds_u64 k5
    have b6 := bounds_u64 k6
    have b7 := bounds_i64 k7
    have b8 := bounds_i64 k8
    simp at h0 h1 h2 h3 h4 h5 h6 h7 h8 h9 h10
    subst h0 h1 h2 h3 h4 h5 h6 h7 h8 h9 h10
    have e9 : u9.size ≤ 140737488351232 := by
      have hq := hz u9.data.toList.length (DataW.weights_mem_agg Tryz.underlying24 9 rfl (by rw [d9]; rfl) _ (by simp [DataW.weights]))
      simp only [reachBytes, Array.length_toList] at hq
      exact hq
    have e10 : u10.size ≤ 140737488351232 := by
      have hq := hz u10.data.toList.length (DataW.weights_mem_agg Tryz.underlying24 10 rfl (by rw [d10]; rfl) _ (by simp [DataW.weights]))
      simp only [reachBytes, Array.length_toList] at hq
      exact hq
    refine ⟨⟨u0, u1, u2, u3, u4, u5, u6, u7, u8, u9, u10⟩, rfl, ?_⟩
    constructor <;> first | exact e9 | exact e10 | (dsimp only; omega)
set_option maxHeartbeats 2000000 in
set_option maxRecDepth 100000 in
/-- A made entry that came in: its value. -/
theorem open_made {H : Type} {enc : TypeId × Value → H} {w : World} {base base0 : Nat} {r : Reach} {sp : Nat → Bool} {held : Bool} {v : Value} {d : DataW H} {p : List MemPlace}
    (hv : Value.okWide Tryz.prog w r base0 26 v) (h : DataW.Trod enc Tryz.prog w base sp held 26 v d p) (hz : ∀ n ∈ d.weights Tryz.prog 26, n ≤ reachBytes) :
    ∃ (e : En) (o : Bool), v = mdv e o ∧ e.Ok := by
  obtain ⟨cs, rfl, hsz⟩ := okWide_struct Tryz.underlying26 hv
  rw [cells26] at hsz
  obtain ⟨fuel, hf⟩ := h
  obtain ⟨y0, y1, m, hx, _, hy0, hy1⟩ := trod_struct2 Tryz.underlying26 hf
  obtain ⟨l⟩ := cs
  match l, hsz with
  | [c0, c1, c2, c3, c4, c5, c6, c7, c8, c9, c10, c11], _ =>
    simp [Value.cells, cells24, cells4] at hy0 hy1
    simp only [Prod.mk.injEq] at hx
    obtain ⟨rfl, _⟩ := hx
    obtain ⟨e, he, ok⟩ := open_entry hy0 fun n hn => hz n (DataW.weights_mem_agg Tryz.underlying26 0 rfl rfl n hn)
    obtain ⟨b, hb, _⟩ := DataW.trod_bool Tryz.underlying4 hy1
    simp at he hb
    obtain ⟨rfl, rfl, rfl, rfl, rfl, rfl, rfl, rfl, rfl, rfl, rfl⟩ := he
    subst hb
    exact ⟨e, b, rfl, ok⟩
end Go.Proofs.YtpdbeijfchmlgaaGreat
namespace Go.Proofs.YtpdbeijfchmlgaaGreat
open Go.ChangeShapes Go.WideShapes Go.ChangeAt Go.RowKit
set_option linter.unusedVariables false
theorem cells32 : Tryz.prog.cellsOf 32 = 13 := by kernel_rfl
theorem cells29 : Tryz.prog.cellsOf 29 = 11 := by kernel_rfl
theorem cells27 : Tryz.prog.cellsOf 27 = 1 := by kernel_rfl
theorem cells30 : Tryz.prog.cellsOf 30 = 1 := by kernel_rfl
theorem lt_of_cell {w : World} {a : Addr} {v : Value} (h : w.cell? a = some v) : a.block < w.heap.size := by
  rcases Nat.lt_or_ge a.block w.heap.size with h1 | h1
  · exact h1
  · simp [World.cell?, Array.getElem?_eq_none h1] at h
theorem weights_mem_all {H : Type} {P : Program} {e : TypeId} {d : DataW H} : ∀ {ds : List (DataW H)}, d ∈ ds → ∀ n ∈ d.weights P e, n ∈ DataW.weightsAll P e ds
  | x :: ds, h, n, hn => by
    rw [DataW.weightsAll, List.mem_append]
    rcases List.mem_cons.1 h with rfl | h
    · exact .inl hn
    · exact .inr (weights_mem_all h n hn)
theorem weights_mem_slice {H : Type} {P : Program} {t e : TypeId} {elems spare : List (DataW H)} (hu : P.underlying t = some (.slice e)) {d : DataW H} (h : d ∈ elems) : ∀ n ∈ d.weights P e, n ∈ (DataW.slice elems spare).weights P t := by
  intro n hn
  simp only [DataW.weights, hu]
  exact List.mem_cons_of_mem _ (List.mem_append_left _ (weights_mem_all h n hn))
set_option maxHeartbeats 2000000 in
set_option maxRecDepth 100000 in
/-- A slice of entries that came in. -/
theorem open_ents {H : Type} {enc : TypeId × Value → H} {w : World} {base fuel : Nat} {A : Option Addr} {len cap : Nat} {held : Bool} {x : DataW H × List MemPlace}
    (h : DataW.trod enc Tryz.prog w base (fun _ => true) held fuel 27 [.slice A len cap] = some x) (hz : ∀ n ∈ x.1.weights Tryz.prog 27, n ≤ reachBytes) :
    ∃ es : List En, Ents w.heap.size A len es w ∧ (∀ e ∈ es, e.Ok) ∧ (len : Int) ≤ 9223372036854775807 := by
  rcases Deep.open_slice Tryz.underlying27 h with ⟨hcs, _⟩ | ⟨a, len', cap', m, n, D, Pl, hcs, _, hl, hm, hmm, hxx, hx⟩
  · simp at hcs
    obtain ⟨rfl, rfl, rfl⟩ := hcs
    exact ⟨[], ⟨rfl, fun i e he => (by cases i <;> cases he)⟩, fun e he => (by cases he), by omega⟩
  · simp at hcs
    obtain ⟨rfl, rfl, rfl⟩ := hcs
    simp only [if_true] at hmm
    have each : ∀ i, i < len → ∃ e : En, (∀ j, j < 11 → w.cell? ((a.add (i * 11)).add j) = (ec e)[j]?) ∧ e.Ok := by
      intro i hi
      obtain ⟨cs', g1, g2⟩ := hx i (by omega)
      rw [cells24] at g1
      obtain ⟨_, hlen, hcell⟩ := World.cells?_some g1
      match cs', hlen with
      | [c0, c1, c2, c3, c4, c5, c6, c7, c8, c9, c10], _ =>
        obtain ⟨e, he, ok⟩ := open_entry g2 fun n hn => hz n (by
          rw [hxx]
          exact weights_mem_slice Tryz.underlying27 (List.mem_map.2 ⟨i, List.mem_range.2 hi, rfl⟩) n hn)
        refine ⟨e, fun j hj => ?_, ok⟩
        rw [hcell j (by omega), he, Array.getElem?_toList]
    haveI : Inhabited En := ⟨ezz⟩
    obtain ⟨q, hq⟩ := Deep.choose_lt each
    refine ⟨(List.range len).map q, ⟨by simp, fun i e he => ?_⟩, fun e he => ?_, by simp only [maxLen] at hm; omega⟩
    · have hi : i < len := by have := (List.getElem?_eq_some_iff.1 he).1; simpa using this
      have hqe : q i = e := by
        rw [List.getElem?_map, List.getElem?_range hi] at he
        exact Option.some.inj he
      have hc := (hq i hi).1
      rw [hqe] at hc
      refine ⟨a, rfl, ?_, hc⟩
      have h0 : w.cell? ((a.add (i * 11)).add 0) = some (.int .u64 e.term) := hc 0 (by omega)
      have := lt_of_cell h0
      rwa [block_of_add, block_of_add] at this
    · obtain ⟨i, hi, rfl⟩ := List.mem_map.1 he
      exact (hq i (List.mem_range.1 hi)).2
set_option maxHeartbeats 2000000 in
set_option maxRecDepth 100000 in
/-- A slice of made entries that came in. -/
theorem open_mades {H : Type} {enc : TypeId × Value → H} {w : World} {base fuel : Nat} {A : Option Addr} {len cap : Nat} {held : Bool} {x : DataW H × List MemPlace}
    (h : DataW.trod enc Tryz.prog w base (fun _ => true) held fuel 30 [.slice A len cap] = some x) (hz : ∀ n ∈ x.1.weights Tryz.prog 30, n ≤ reachBytes) :
    ∃ L : List (En × Bool), Mades w.heap.size A len L w ∧ (∀ p ∈ L, p.1.Ok) ∧ (len : Int) ≤ 9223372036854775807 := by
  rcases Deep.open_slice Tryz.underlying30 h with ⟨hcs, _⟩ | ⟨a, len', cap', m, n, D, Pl, hcs, _, hl, hm, hmm, hxx, hx⟩
  · simp at hcs
    obtain ⟨rfl, rfl, rfl⟩ := hcs
    exact ⟨[], ⟨rfl, fun i e he => (by cases i <;> cases he)⟩, fun e he => (by cases he), by omega⟩
  · simp at hcs
    obtain ⟨rfl, rfl, rfl⟩ := hcs
    simp only [if_true] at hmm
    have each : ∀ i, i < len → ∃ p : En × Bool, (∀ j, j < 12 → w.cell? ((a.add (i * 12)).add j) = (mdc p.1 p.2)[j]?) ∧ p.1.Ok := by
      intro i hi
      obtain ⟨cs', g1, g2⟩ := hx i (by omega)
      rw [cells26] at g1
      obtain ⟨_, hlen, hcell⟩ := World.cells?_some g1
      match cs', hlen with
      | [c0, c1, c2, c3, c4, c5, c6, c7, c8, c9, c10, c11], _ =>
        obtain ⟨y0, y1, m, hy, _, hy0, hy1⟩ := trod_struct2 Tryz.underlying26 g2
        simp [cells24, cells4] at hy0 hy1
        simp only [Prod.mk.injEq] at hy
        obtain ⟨hyD, _⟩ := hy
        obtain ⟨e, he, ok⟩ := open_entry hy0 fun n hn => hz n (by
          rw [hxx]
          refine weights_mem_slice Tryz.underlying30 (d := D i) (List.mem_map.2 ⟨i, List.mem_range.2 hi, rfl⟩) n ?_
          rw [hyD]
          exact DataW.weights_mem_agg Tryz.underlying26 0 rfl rfl n hn)
        obtain ⟨b, hb, _⟩ := DataW.trod_bool Tryz.underlying4 hy1
        simp at he hb
        obtain ⟨rfl, rfl, rfl, rfl, rfl, rfl, rfl, rfl, rfl, rfl, rfl⟩ := he
        subst hb
        refine ⟨(e, b), fun j hj => ?_, ok⟩
        rw [hcell j (by omega), ← Array.getElem?_toList]
    haveI : Inhabited En := ⟨ezz⟩
    obtain ⟨q, hq⟩ := Deep.choose_lt each
    refine ⟨(List.range len).map q, ⟨by simp, fun i e he => ?_⟩, fun e he => ?_, by simp only [maxLen] at hm; omega⟩
    · have hi : i < len := by have := (List.getElem?_eq_some_iff.1 he).1; simpa using this
      have hqe : q i = e := by
        rw [List.getElem?_map, List.getElem?_range hi] at he
        exact Option.some.inj he
      have hc := (hq i hi).1
      rw [hqe] at hc
      refine ⟨a, rfl, ?_, hc⟩
      have h0 : w.cell? ((a.add (i * 12)).add 0) = some (.int .u64 e.1.term) := hc 0 (by omega)
      have := lt_of_cell h0
      rwa [block_of_add, block_of_add] at this
    · obtain ⟨i, hi, rfl⟩ := List.mem_map.1 he
      exact (hq i (List.mem_range.1 hi)).2

set_option maxHeartbeats 4000000 in
set_option maxRecDepth 100000 in
/-- The cells of a message, as they read. -/
theorem open_msg {H : Type} {enc : TypeId × Value → H} {w : World} {base fuel : Nat} {held : Bool} {x : DataW H × List MemPlace} {c0 c1 c2 c3 c4 c5 c6 c7 c8 c9 c10 : Value}
    (h : DataW.trod enc Tryz.prog w base (fun _ => true) held fuel 29 [c0, c1, c2, c3, c4, c5, c6, c7, c8, c9, c10] = some x) (hz : ∀ n ∈ x.1.weights Tryz.prog 29, n ≤ reachBytes)
    (h9 : ∃ A n c, c9 = .slice A n c) :
    ∃ m : Ms, [c0, c1, c2, c3, c4, c5, c6, c7, c8, c9, c10] = (mc m).toList ∧ m.Wide ∧ Ents w.heap.size m.A m.n m.es w := by
  obtain ⟨A, n9, cc, rfl⟩ := h9
  obtain ⟨xs, n, _, rfl, hl, hlen, hf⟩ := DataW.trod_struct Tryz.underlying29 h
  match xs, hlen with
  | [y0, y1, y2, y3, y4, y5, y6, y7, y8, y9, y10], _ =>
    have t0 := hf 0 _ rfl
    have t1 := hf 1 _ rfl
    have t2 := hf 2 _ rfl
    have t3 := hf 3 _ rfl
    have t4 := hf 4 _ rfl
    have t5 := hf 5 _ rfl
    have t6 := hf 6 _ rfl
    have t7 := hf 7 _ rfl
    have t8 := hf 8 _ rfl
    have t9 := hf 9 _ rfl
    have t10 := hf 10 _ rfl
    simp [cells22, cells3, cells9, cells4, cells27] at t0 t1 t2 t3 t4 t5 t6 t7 t8 t9 t10
    obtain ⟨u0, h0, _, k0⟩ := DataW.trod_int Tryz.underlying3 t0
    obtain ⟨u1, h1, _, k1⟩ := DataW.trod_int Tryz.underlying3 t1
    obtain ⟨u2, h2, _, k2⟩ := DataW.trod_int Tryz.underlying3 t2
    obtain ⟨u3, h3, _, k3⟩ := DataW.trod_int Tryz.underlying22 t3
    obtain ⟨u4, h4, _, k4⟩ := DataW.trod_int Tryz.underlying22 t4
    obtain ⟨u5, h5, _, k5⟩ := DataW.trod_int Tryz.underlying22 t5
    obtain ⟨u6, h6, _, k6⟩ := DataW.trod_int Tryz.underlying22 t6
    obtain ⟨u7, h7, _, k7⟩ := DataW.trod_int Tryz.underlying22 t7
    obtain ⟨u8, h8, _⟩ := DataW.trod_bool Tryz.underlying4 t8
    obtain ⟨es, hE, hO, hN⟩ := open_ents t9 fun n hn => hz n (DataW.weights_mem_agg Tryz.underlying29 9 rfl rfl n hn)
    obtain ⟨u10, h10, d10, _⟩ := DataW.trod_string Tryz.underlying9 t10
    have b0 := bounds_i64 k0
    have b1 := bounds_i64 k1
    have b2 := bounds_i64 k2
    have b3 := bounds_u64 k3
    have b4 := bounds_u64 k4
    have b5 := bounds_u64 k5
    have b6 := bounds_u64 k6
    have b7 := bounds_u64 k7
    simp at h0 h1 h2 h3 h4 h5 h6 h7 h8 h10
    subst h0 h1 h2 h3 h4 h5 h6 h7 h8 h10
    have e10 : u10.size ≤ 140737488351232 := by
      have hq := hz u10.data.toList.length (DataW.weights_mem_agg Tryz.underlying29 10 rfl (by rw [d10]; rfl) _ (by simp [DataW.weights]))
      simp only [reachBytes, Array.length_toList] at hq
      exact hq
    refine ⟨⟨u0, u1, u2, u3, u4, u5, u6, u7, u8, A, n9, cc, es, u10⟩, rfl, ?_, hE⟩
    constructor <;> first | exact hO | exact e10 | exact hN | (dsimp only; omega)
set_option maxHeartbeats 4000000 in
set_option maxRecDepth 100000 in
/-- A message by its parts that came in: its value. -/
theorem open_note {H : Type} {enc : TypeId × Value → H} {w : World} {base base0 : Nat} {r : Reach} {held : Bool} {v : Value} {d : DataW H} {p : List MemPlace}
    (hv : Value.okWide Tryz.prog w r base0 32 v) (h : DataW.Trod enc Tryz.prog w base (fun _ => true) held 32 v d p) (hz : ∀ n ∈ d.weights Tryz.prog 32, n ≤ reachBytes) :
    ∃ (m : Ms) (o : Bool) (LA : Option Addr) (ln lc : Nat) (L : List (En × Bool)), v = nvv m o LA ln lc ∧ NoteIn w m LA ln L := by
  obtain ⟨cs, rfl, hsz⟩ := okWide_struct Tryz.underlying32 hv
  rw [cells32] at hsz
  obtain ⟨fuel, hf⟩ := h
  obtain ⟨xs, n, _, hxx, hl, hlen, hff⟩ := DataW.trod_struct Tryz.underlying32 hf
  obtain ⟨l⟩ := cs
  match l, hsz, xs, hlen with
  | [c0, c1, c2, c3, c4, c5, c6, c7, c8, c9, c10, c11, c12], _, [y0, y1, y2], _ =>
    have t0 := hff 0 _ rfl
    have t1 := hff 1 _ rfl
    have t2 := hff 2 _ rfl
    simp [Value.cells, cells29, cells4, cells30] at t0 t1 t2
    simp only [Prod.mk.injEq] at hxx
    obtain ⟨rfl, _⟩ := hxx
    have g9 : ∃ A n c, c9 = .slice A n c := by
      obtain ⟨xs2, n2, _, _, _, hlen2, hf2⟩ := DataW.trod_struct Tryz.underlying29 t0
      match xs2, hlen2 with
      | [z0, z1, z2, z3, z4, z5, z6, z7, z8, z9, z10], _ =>
        have q9 := hf2 9 _ rfl
        simp [cells27] at q9
        rcases Deep.open_slice Tryz.underlying27 q9 with ⟨hcs, _⟩ | ⟨a, len', cap', m, n, D, Pl, hcs, _⟩
        · exact ⟨_, _, _, by simpa using hcs⟩
        · exact ⟨_, _, _, by simpa using hcs⟩
    have g12 : ∃ A n c, c12 = .slice A n c := by
      rcases Deep.open_slice Tryz.underlying30 t2 with ⟨hcs, _⟩ | ⟨a, len', cap', m, n, D, Pl, hcs, _⟩
      · exact ⟨_, _, _, by simpa using hcs⟩
      · exact ⟨_, _, _, by simpa using hcs⟩
    obtain ⟨m, hm, mw, hE⟩ := open_msg t0 (fun n hn => hz n (DataW.weights_mem_agg Tryz.underlying32 0 rfl rfl n hn)) g9
    obtain ⟨b, hb, _⟩ := DataW.trod_bool Tryz.underlying4 t1
    obtain ⟨LA, ln, lc, rfl⟩ := g12
    obtain ⟨L, hL, hO, hN⟩ := open_mades t2 fun n hn => hz n (DataW.weights_mem_agg Tryz.underlying32 2 rfl rfl n hn)
    simp at hm hb
    obtain ⟨rfl, rfl, rfl, rfl, rfl, rfl, rfl, rfl, rfl, rfl, rfl⟩ := hm
    subst hb
    exact ⟨m, b, LA, ln, lc, L, rfl, ⟨mw, hE, hL, hO, hN⟩⟩
end Go.Proofs.YtpdbeijfchmlgaaGreat
namespace Go.Proofs.YtpdbeijfchmlgaaGreat
open Go.RowKit
open Vi
set_option linter.unusedVariables false
set_option linter.unusedSimpArgs false

theorem sameB_refl (e : En) : sameB e e = true := by unfold sameB; simp
theorem preB_refl (es : List En) (n : Nat) : preB es es n = true := by
  have key : ∀ l : List En, (List.zipWith sameB l l).all id = true := by
    intro l
    induction l with
    | nil => rfl
    | cons a l ih =>
      rw [List.zipWith_cons_cons, List.all_cons, ih, sameB_refl]
      rfl
  exact key _
theorem msame_like {X m : Ms} (h : Like X m) : msameB m X = true := by
  obtain ⟨A, c, rfl⟩ := h
  refine (msame_eq (a := m) (b := { m with A := A, c := c }) rfl (preB_refl m.es m.n)).trans ?_
  unfold scalB
  simp
theorem Mades.mr {B B' : Nat} {A : Option Addr} {n : Nat} {L : List (En × Bool)} {w : World} (h : Mades B A n L w) (hB : B ≤ B') : Mades B' A n L w :=
  ⟨h.len, fun i e he => by
    obtain ⟨a, hA, h1, hc⟩ := h.at_ i e he
    exact ⟨a, hA, Nat.lt_of_lt_of_le h1 hB, hc⟩⟩
theorem nm_wide {m : Ms} {L : List (En × Bool)} {A : Option Addr} {n c : Nat} (wd : m.Wide) (hok : ∀ p ∈ L, p.1.Ok) (hl : (nm m L A n c).es.length = n) : (nm m L A n c).Wide := by
  have hn := nes_length m L A n c
  rw [hl] at hn
  have k := nkind m.kind
  have f1 := nfrom m.frm
  have f2 := nfrom m.dst
  have hs : (nm m L A n c).snap.size ≤ 200 := by
    show (if hasT (mfl (m.kind % 10 + 1)).data.toList 115 then cut200 m.snap else ⟨#[]⟩ : ByteArray).size ≤ 200
    split
    · exact cut200_size _ wd.s1
    · exact Nat.zero_le _
  have ite0 : ∀ {p : Prop} [Decidable p] {x hi : Int}, 0 ≤ x → x ≤ hi → 0 ≤ hi → 0 ≤ (if p then x else 0) ∧ (if p then x else 0) ≤ hi := by
    intro p _ x hi h0 h1 h2
    split <;> omega
  have i := ite0 (p := hasT (mfl (m.kind % 10 + 1)).data.toList 105 = true) wd.i0 wd.i1 (by omega)
  exact ⟨by have := k.1; show _ ≤ m.kind % 10 + 1; omega, by have := k.2; show m.kind % 10 + 1 ≤ _; omega, Int.le_trans (by omega) f1.1, Int.le_trans f1.2 (by omega), Int.le_trans (by omega) f2.1, Int.le_trans f2.2 (by omega), wd.t0, wd.t1,
    (ite0 wd.i0 wd.i1 (by omega)).1, (ite0 wd.i0 wd.i1 (by omega)).2, (ite0 wd.p0 wd.p1 (by omega)).1, (ite0 wd.p0 wd.p1 (by omega)).2, (ite0 wd.c0 wd.c1 (by omega)).1, (ite0 wd.c0 wd.c1 (by omega)).2, (ite0 wd.m0 wd.m1 (by omega)).1, (ite0 wd.m0 wd.m1 (by omega)).2, by omega, by show (n : Int) ≤ _; omega, fun e he => (nes_mem hok he).1⟩
/-- The law's entry and message lie where they lay. -/
structure Lv (w0 : World) (be bm : Nat) (E : En) (M : Ms) (w : World) : Prop where
  e : w.heap[be]? = some (.cells (ec E) 24 (0, 0))
  m : w.heap[bm]? = some (.cells (mc M) 29 (0, 0))
  en : Ents w.heap.size M.A M.n M.es w
  b : Below w0.heap.size w0 w
theorem Lv.on {w0 w w1 : World} {be bm : Nat} {E : En} {M : Ms} (h : Lv w0 be bm E M w) (hb : Below w.heap.size w w1) : Lv w0 be bm E M w1 :=
  ⟨(hb.block _ (Array.getElem?_eq_some_iff.1 h.e).1).trans h.e, (hb.block _ (Array.getElem?_eq_some_iff.1 h.m).1).trans h.m, (h.en.below hb).mr hb.size, h.b.trans (hb.mono h.b.size)⟩
theorem ecells {w : World} {b : Nat} {E : En} (h : w.heap[b]? = some (.cells (ec E) 24 (0, 0))) : w.cell? ⟨b, 0, none⟩ = some (.int .u64 E.term) ∧ w.cell? ⟨b, 1, none⟩ = some (.int .u64 E.index) ∧ w.cell? ⟨b, 2, none⟩ = some (.int .i64 E.kind) ∧ w.cell? ⟨b, 3, none⟩ = some (.int .u64 E.client) ∧ w.cell? ⟨b, 4, none⟩ = some (.int .u64 E.seq) ∧ w.cell? ⟨b, 5, none⟩ = some (.int .u64 E.block) ∧ w.cell? ⟨b, 6, none⟩ = some (.int .u64 E.many) ∧ w.cell? ⟨b, 7, none⟩ = some (.int .i64 E.node) ∧ w.cell? ⟨b, 8, none⟩ = some (.int .i64 E.level) ∧ w.cell? ⟨b, 9, none⟩ = some (.string E.data) ∧ w.cell? ⟨b, 10, none⟩ = some (.string E.old) :=
  ⟨cell_of_row w _ 0 _ 24 (0, 0) h, cell_of_row w _ 1 _ 24 (0, 0) h, cell_of_row w _ 2 _ 24 (0, 0) h, cell_of_row w _ 3 _ 24 (0, 0) h, cell_of_row w _ 4 _ 24 (0, 0) h, cell_of_row w _ 5 _ 24 (0, 0) h, cell_of_row w _ 6 _ 24 (0, 0) h, cell_of_row w _ 7 _ 24 (0, 0) h, cell_of_row w _ 8 _ 24 (0, 0) h, cell_of_row w _ 9 _ 24 (0, 0) h, cell_of_row w _ 10 _ 24 (0, 0) h⟩
theorem mcells {w : World} {b : Nat} {M : Ms} (h : w.heap[b]? = some (.cells (mc M) 29 (0, 0))) : w.cell? ⟨b, 0, none⟩ = some (.int .i64 M.kind) ∧ w.cell? ⟨b, 1, none⟩ = some (.int .i64 M.frm) ∧ w.cell? ⟨b, 2, none⟩ = some (.int .i64 M.dst) ∧ w.cell? ⟨b, 3, none⟩ = some (.int .u64 M.term) ∧ w.cell? ⟨b, 4, none⟩ = some (.int .u64 M.index) ∧ w.cell? ⟨b, 5, none⟩ = some (.int .u64 M.prev) ∧ w.cell? ⟨b, 6, none⟩ = some (.int .u64 M.commit) ∧ w.cell? ⟨b, 7, none⟩ = some (.int .u64 M.mark) ∧ w.cell? ⟨b, 8, none⟩ = some (.bool M.ok) ∧ w.cell? ⟨b, 9, none⟩ = some (.slice M.A M.n M.c) ∧ w.cell? ⟨b, 10, none⟩ = some (.string M.snap) :=
  ⟨cell_of_row w _ 0 _ 29 (0, 0) h, cell_of_row w _ 1 _ 29 (0, 0) h, cell_of_row w _ 2 _ 29 (0, 0) h, cell_of_row w _ 3 _ 29 (0, 0) h, cell_of_row w _ 4 _ 29 (0, 0) h, cell_of_row w _ 5 _ 29 (0, 0) h, cell_of_row w _ 6 _ 29 (0, 0) h, cell_of_row w _ 7 _ 29 (0, 0) h, cell_of_row w _ 8 _ 29 (0, 0) h, cell_of_row w _ 9 _ 29 (0, 0) h, cell_of_row w _ 10 _ 29 (0, 0) h⟩
theorem mdcells {w : World} {b : Nat} {e : En} {o : Bool} (h : w.heap[b]? = some (.cells (mdc e o) 26 (0, 0))) : w.cell? ⟨b, 0, none⟩ = some (.int .u64 e.term) ∧ w.cell? ⟨b, 1, none⟩ = some (.int .u64 e.index) ∧ w.cell? ⟨b, 2, none⟩ = some (.int .i64 e.kind) ∧ w.cell? ⟨b, 3, none⟩ = some (.int .u64 e.client) ∧ w.cell? ⟨b, 4, none⟩ = some (.int .u64 e.seq) ∧ w.cell? ⟨b, 5, none⟩ = some (.int .u64 e.block) ∧ w.cell? ⟨b, 6, none⟩ = some (.int .u64 e.many) ∧ w.cell? ⟨b, 7, none⟩ = some (.int .i64 e.node) ∧ w.cell? ⟨b, 8, none⟩ = some (.int .i64 e.level) ∧ w.cell? ⟨b, 9, none⟩ = some (.string e.data) ∧ w.cell? ⟨b, 10, none⟩ = some (.string e.old) ∧ w.cell? ⟨b, 11, none⟩ = some (.bool o) :=
  ⟨cell_of_row w _ 0 _ 26 (0, 0) h, cell_of_row w _ 1 _ 26 (0, 0) h, cell_of_row w _ 2 _ 26 (0, 0) h, cell_of_row w _ 3 _ 26 (0, 0) h, cell_of_row w _ 4 _ 26 (0, 0) h, cell_of_row w _ 5 _ 26 (0, 0) h, cell_of_row w _ 6 _ 26 (0, 0) h, cell_of_row w _ 7 _ 26 (0, 0) h, cell_of_row w _ 8 _ 26 (0, 0) h, cell_of_row w _ 9 _ 26 (0, 0) h, cell_of_row w _ 10 _ 26 (0, 0) h, cell_of_row w _ 11 _ 26 (0, 0) h⟩
theorem nvcells {w : World} {b : Nat} {m : Ms} {own : Bool} {LA : Option Addr} {ln lc : Nat} (h : w.heap[b]? = some (.cells (nvc m own LA ln lc) 32 (0, 0))) : w.cell? ⟨b, 0, none⟩ = some (.int .i64 m.kind) ∧ w.cell? ⟨b, 1, none⟩ = some (.int .i64 m.frm) ∧ w.cell? ⟨b, 2, none⟩ = some (.int .i64 m.dst) ∧ w.cell? ⟨b, 3, none⟩ = some (.int .u64 m.term) ∧ w.cell? ⟨b, 4, none⟩ = some (.int .u64 m.index) ∧ w.cell? ⟨b, 5, none⟩ = some (.int .u64 m.prev) ∧ w.cell? ⟨b, 6, none⟩ = some (.int .u64 m.commit) ∧ w.cell? ⟨b, 7, none⟩ = some (.int .u64 m.mark) ∧ w.cell? ⟨b, 8, none⟩ = some (.bool m.ok) ∧ w.cell? ⟨b, 9, none⟩ = some (.slice m.A m.n m.c) ∧ w.cell? ⟨b, 10, none⟩ = some (.string m.snap) ∧ w.cell? ⟨b, 11, none⟩ = some (.bool own) ∧ w.cell? ⟨b, 12, none⟩ = some (.slice LA ln lc) :=
  ⟨cell_of_row w _ 0 _ 32 (0, 0) h, cell_of_row w _ 1 _ 32 (0, 0) h, cell_of_row w _ 2 _ 32 (0, 0) h, cell_of_row w _ 3 _ 32 (0, 0) h, cell_of_row w _ 4 _ 32 (0, 0) h, cell_of_row w _ 5 _ 32 (0, 0) h, cell_of_row w _ 6 _ 32 (0, 0) h, cell_of_row w _ 7 _ 32 (0, 0) h, cell_of_row w _ 8 _ 32 (0, 0) h, cell_of_row w _ 9 _ 32 (0, 0) h, cell_of_row w _ 10 _ 32 (0, 0) h, cell_of_row w _ 11 _ 32 (0, 0) h, cell_of_row w _ 12 _ 32 (0, 0) h⟩
theorem neq_same (E : En) (w : World) : (binOp .neq 24 (ev E) (ev E)).run Tryz.prog w = .ok (.bool false) w := by
  go_simp
/-- A message that was got is the one that was put. -/
def GotL (o : Bool) (v : Int) (M1 M : Ms) : Prop := o = true → v = 1 ∧ Like M1 M
theorem kept {w w1 : World} {k : Nat} {x : Obj} (hb : Below w.heap.size w w1) (h : w.heap[k]? = some x) : w1.heap[k]? = some x := (hb.block _ (Array.getElem?_eq_some_iff.1 h).1).trans h

set_option maxHeartbeats 16000000 in
set_option maxRecDepth 100000 in
theorem llevels_any (e : En) (oe : Bool) (m : Ms) (own : Bool) (LA : Option Addr) (ln lc : Nat) (L : List (En × Bool)) (w : World) (ok : e.Ok) (hN : NoteIn w m LA ln L) :
    Calls Tryz.prog 4 #[mdv e oe, nvv m own LA ln lc] w fun r w' => r = .returned (.bool true) ∧ Below w.heap.size w w' := by
  obtain ⟨W0, hW0⟩ : ∃ W0, W0 = (w.alloc (Obj.cells (mdc e oe) 26)).alloc (Obj.cells (nvc m own LA ln lc) 32) := ⟨_, rfl⟩
  have b0 : Below w.heap.size w W0 := by rw [hW0]; exact ((Below.refl _ _).alloc (Nat.le_refl _) _).alloc (by simp) _
  have k0 : W0.heap[w.heap.size]? = some (.cells (mdc e oe) 26 (0, 0)) := by rw [hW0]; exact (Lib.alloc_old _ _ _ (by simp)).trans (heap_alloc_new w _)
  have k1 : W0.heap[w.heap.size + 1]? = some (.cells (nvc m own LA ln lc) 32 (0, 0)) := by rw [hW0]; have h := heap_alloc_new (w.alloc (Obj.cells (mdc e oe) 26)) (Obj.cells (nvc m own LA ln lc) 32); simpa using h
  obtain ⟨E, hE⟩ : ∃ E, E = mk e := ⟨_, rfl⟩
  obtain ⟨hEok, hEr, _⟩ := mk_facts e ok
  rw [← hE] at hEok hEr
  have KX := Lib.hid (examples_any W0)
  have KM := Lib.hid (fun (W : World) => made_yes e W ok)
  rw [← hE] at KM
  have KN := Lib.hid (fun (W : World) (hb : Below w.heap.size w W) => note_yes m LA ln lc L W ((hN.md.below hb).mr hb.size) hN.ok hN.ll)
  have HNR : Hid (∀ (A : Option Addr) (n c : Nat), (nm m L A n c).es.length = n → mrightB (nm m L A n c) = true ∧ (nm m L A n c).Wide) := fun A n c h =>
    ⟨nm_right m L A n c hN.ok h hN.wd.i0 hN.wd.i1 hN.wd.p0 hN.wd.p1 hN.wd.c0 hN.wd.c1 hN.wd.m0 hN.wd.m1 hN.wd.s1, nm_wide hN.wd hN.ok h⟩
  obtain ⟨P1, hP1⟩ : ∃ P1, P1 = frP 1 (mayB E) (putS E) := ⟨_, rfl⟩
  obtain ⟨P2, hP2⟩ : ∃ P2, P2 = pack 2 (sbE E) := ⟨_, rfl⟩
  obtain ⟨o1, ho1⟩ : ∃ o1, o1 = mayB E := ⟨_, rfl⟩
  obtain ⟨lv, hlv⟩ : ∃ lv, lv = lvl E.kind := ⟨_, rfl⟩
  obtain ⟨Y, hY⟩ : ∃ Y, Y = if o1 then E else ezz := ⟨_, rfl⟩
  obtain ⟨v1, hv1⟩ : ∃ v1 : Int, v1 = if o1 then 1 else 0 := ⟨_, rfl⟩
  have HO : Hid ((o1 = true → lv = 1 ∧ Y = E ∧ v1 = 1) ∧ (o1 = false → lv = 2)) := by
    show _ ∧ _
    have h1 : o1 = (lv == 1) := by rw [ho1, hlv]; unfold mayB; rw [hEr]; rfl
    refine ⟨fun h => ⟨?_, by rw [hY, if_pos h], by rw [hv1, if_pos h]⟩, fun h => ?_⟩
    · rw [h] at h1
      simpa using h1.symm
    · rw [h] at h1
      have h2 : ¬ lv = 1 := by simpa using h1.symm
      have h3 : lv = 1 ∨ lv = 2 := by rw [hlv]; unfold lvl; split <;> simp
      rcases h3 with h3 | h3
      · exact absurd h3 h2
      · exact h3
  have KP1 := Lib.hid (fun (W : World) => putF1 E hEok hEr W)
  have KP2 := Lib.hid (fun (W : World) => putF2 E hEok hEr W)
  have KG1 : Hid (∀ W, Calls Tryz.prog 13 #[.string P1] W fun q w' => q = .returned (.tuple #[ev Y, .int .i64 v1, .bool o1]) ∧ Below W.heap.size W w') := by
    intro W
    cases ho : o1 with
    | true =>
      rw [hY, hv1, ho, if_pos rfl, if_pos rfl, hP1]
      exact getF1 E hEok (ho1.symm.trans ho) W
    | false =>
      rw [hY, hv1, ho, if_neg (by decide), if_neg (by decide), hP1, ho1.symm.trans ho]
      exact getF0 _ W
  have KG2 := Lib.hid (fun (W : World) => getF2 E hEok hEr W)
  have KL := Lib.hid (fun (W : World) => level_any E W)
  rw [← hP1, ← ho1] at KP1
  rw [← hP2] at KP2 KG2
  rw [← hlv] at KL
  have HW0 := Lib.hid hW0
  have HB0 := Lib.hid b0
  have HK0 := Lib.hid k0
  have HK1 := Lib.hid k1
  clear hW0 b0 k0 k1 hN ok hEok hEr hE hP1 hP2 ho1 hlv hY hv1
  go_enter Tryz.func4, Tryz.ntmps4
  go_wp2_with fail
  rw [← HW0.out]
  refine KX.out.mono ?_
  rintro r w1 ⟨rfl, b1⟩
  have HB1 : Hid (Below w.heap.size w w1) := HB0.out.trans (b1.mono HB0.out.size)
  have HE1 : Hid (w1.heap[w.heap.size]? = some (.cells (mdc e oe) 26 (0, 0))) := kept b1 HK0.out
  have HF1 : Hid (w1.heap[w.heap.size + 1]? = some (.cells (nvc m own LA ln lc) 32 (0, 0))) := kept b1 HK1.out
  obtain ⟨a0, a1, a2, a3, a4, a5, a6, a7, a8, a9, a10, a11⟩ := mdcells HE1.out
  obtain ⟨n0, n1, n2, n3, n4, n5, n6, n7, n8, n9, n10, n11, n12⟩ := nvcells HF1.out
  have fa : ∀ i, w1.frozen? ⟨w.heap.size, i, none⟩ = false := fun i => Lib.frozen_of_heap HE1.out i
  have fn : ∀ i, w1.frozen? ⟨w.heap.size + 1, i, none⟩ = false := fun i => Lib.frozen_of_heap HF1.out i
  clear b1 KX HB0 HK0 HK1
  go_upto_region 6 with fail
  obtain ⟨W2, hW2⟩ : ∃ W2, W2 = (w1.setCell ⟨w.heap.size, 11, none⟩ (.bool true)).setCell ⟨w.heap.size + 1, 11, none⟩ (.bool true) := ⟨_, rfl⟩
  rw [← hW2]
  have HB2 : Hid (Below w.heap.size w W2) := by rw [hW2]; exact (HB1.out.setCell (p := ⟨w.heap.size, 11, none⟩) (Nat.le_refl _) _).setCell (p := ⟨w.heap.size + 1, 11, none⟩) (Nat.le_succ _) _
  have HE2 : Hid (W2.heap[w.heap.size]? = some (.cells (mdc e true) 26 (0, 0))) := by
    show _ = _
    rw [hW2, Below.heap_setCell _ _ _ w.heap.size (by simp)]
    exact set_blk HE1.out 11 _
  have HF2 : Hid (W2.heap[w.heap.size + 1]? = some (.cells (nvc m true LA ln lc) 32 (0, 0))) := by
    show _ = _
    rw [hW2]
    refine set_blk (cs := nvc m own LA ln lc) ?_ 11 _
    rw [Below.heap_setCell _ _ _ (w.heap.size + 1) (by simp)]
    exact HF1.out
  clear hW2 a0 a1 a2 a3 a4 a5 a6 a7 a8 a9 a10 a11 n0 n1 n2 n3 n4 n5 n6 n7 n8 n9 n10 n11 n12 fa fn HB1 HE1 HF1
  obtain ⟨a0, a1, a2, a3, a4, a5, a6, a7, a8, a9, a10, a11⟩ := mdcells HE2.out
  go_wp2_with fail
  refine (KM.out _).mono ?_
  rintro r w3 ⟨rfl, b3⟩
  obtain ⟨W3, hW3⟩ : ∃ W3, W3 = w3.alloc (Obj.cells (ec E) 24) := ⟨_, rfl⟩
  have bb : Below w3.heap.size w3 W3 := by rw [hW3]; exact (Below.refl _ _).alloc (Nat.le_refl _) _
  have b4 : Below W2.heap.size W2 W3 := b3.trans (bb.mono b3.size)
  have HX3 : Hid (W3.heap[w3.heap.size]? = some (.cells (ec E) 24 (0, 0))) := by show _ = _; rw [hW3]; exact heap_alloc_new w3 _
  have HB3 : Hid (Below w.heap.size w W3) := HB2.out.trans (b4.mono HB2.out.size)
  have HF3 : Hid (W3.heap[w.heap.size + 1]? = some (.cells (nvc m true LA ln lc) 32 (0, 0))) := kept b4 HF2.out
  have HW3 := Lib.hid hW3
  clear b3 bb b4 hW3 a0 a1 a2 a3 a4 a5 a6 a7 a8 a9 a10 a11 HB2 HE2 HF2 KM
  go_upto_region 7 with fail
  rw [← HW3.out]
  obtain ⟨n0, n1, n2, n3, n4, n5, n6, n7, n8, n9, n10, n11, n12⟩ := nvcells HF3.out
  go_wp2_with fail
  refine (KN.out _ HB3.out).mono ?_
  rintro r w4 ⟨A, c, n, rfl, hl, hEs, b4⟩
  obtain ⟨hMr, hMw⟩ := HNR.out A n c hl
  have hMA : (nm m L A n c).A = A ∧ (nm m L A n c).n = n := by simp only [nm, npart, and_self]
  obtain ⟨M, hM⟩ : ∃ M, M = nm m L A n c := ⟨_, rfl⟩
  have hEs2 : Ents w4.heap.size M.A M.n M.es w4 := by rw [hM, hMA.1, hMA.2]; exact hEs
  rw [← hM] at hMr hMw ⊢
  obtain ⟨W4, hW4⟩ : ∃ W4, W4 = w4.alloc (Obj.cells (mc M) 29) := ⟨_, rfl⟩
  have bb : Below w4.heap.size w4 W4 := by rw [hW4]; exact (Below.refl _ _).alloc (Nat.le_refl _) _
  have b5 : Below W3.heap.size W3 W4 := b4.trans (bb.mono b4.size)
  have L4 : Hid (Lv w w3.heap.size w4.heap.size E M W4) := ⟨kept b5 HX3.out, by rw [hW4]; exact heap_alloc_new w4 _, (hEs2.below bb).mr bb.size, HB3.out.trans (b5.mono HB3.out.size)⟩
  have HLEN : Hid (M.es.length = M.n) := hEs2.len
  have HWD := Lib.hid hMw
  have HMR := Lib.hid hMr
  have HW4 := Lib.hid hW4
  clear b4 bb b5 hW4 n0 n1 n2 n3 n4 n5 n6 n7 n8 n9 n10 n11 n12 HB3 HF3 HX3 KN HNR hl hEs hEs2 hM hMA hMr hMw
  go_upto_region 8 with fail
  rw [← HW4.out]
  obtain ⟨x0, x1, x2, x3, x4, x5, x6, x7, x8, x9, x10⟩ := ecells L4.out.e
  go_wp2_with fail
  refine (KP1.out _).mono ?_
  rintro r w5 ⟨rfl, b5⟩
  have L5 := Lib.hid (L4.out.on b5)
  clear b5 x0 x1 x2 x3 x4 x5 x6 x7 x8 x9 x10 L4
  obtain ⟨x0, x1, x2, x3, x4, x5, x6, x7, x8, x9, x10⟩ := ecells L5.out.e
  go_wp2_with fail
  refine (KP2.out _).mono ?_
  rintro r w6 ⟨rfl, b6⟩
  have L6 := Lib.hid (L5.out.on b6)
  clear b6 x0 x1 x2 x3 x4 x5 x6 x7 x8 x9 x10 L5
  go_wp2_with fail
  refine (KG1.out _).mono ?_
  rintro r w7 ⟨rfl, b7⟩
  obtain ⟨W7, hW7⟩ : ∃ W7, W7 = w7.alloc (Obj.cells (ec Y) 24) := ⟨_, rfl⟩
  have bb : Below w7.heap.size w7 W7 := by rw [hW7]; exact (Below.refl _ _).alloc (Nat.le_refl _) _
  have L7 := Lib.hid (L6.out.on (b7.trans (bb.mono b7.size)))
  have HY7 : Hid (W7.heap[w7.heap.size]? = some (.cells (ec Y) 24 (0, 0))) := by show _ = _; rw [hW7]; exact heap_alloc_new w7 _
  have HW7 := Lib.hid hW7
  clear b7 bb hW7 L6
  go_upto_region 11 with fail
  rw [← HW7.out]
  go_wp2_with fail
  refine (KG2.out _).mono ?_
  rintro r w8 ⟨rfl, b8⟩
  obtain ⟨W8, hW8⟩ : ∃ W8, W8 = w8.alloc (Obj.cells (ec E) 24) := ⟨_, rfl⟩
  have bb : Below w8.heap.size w8 W8 := by rw [hW8]; exact (Below.refl _ _).alloc (Nat.le_refl _) _
  have b9 : Below W7.heap.size W7 W8 := b8.trans (bb.mono b8.size)
  have L8 := Lib.hid (L7.out.on b9)
  have HY8 : Hid (W8.heap[w7.heap.size]? = some (.cells (ec Y) 24 (0, 0))) := kept b9 HY7.out
  have HZ8 : Hid (W8.heap[w8.heap.size]? = some (.cells (ec E) 24 (0, 0))) := by show _ = _; rw [hW8]; exact heap_alloc_new w8 _
  have HW8 := Lib.hid hW8
  clear b8 bb b9 hW8 L7 HY7 KP1 KP2 KG1 KG2
  go_upto_region 12 with fail
  rw [← HW8.out]
  obtain ⟨x0, x1, x2, x3, x4, x5, x6, x7, x8, x9, x10⟩ := ecells L8.out.e
  have hne := neq_same E
  cases o1 with
  | true =>
    obtain ⟨hlv, hYE, hv1⟩ := HO.out.1 rfl
    subst hlv
    subst hYE
    subst hv1
    clear HO
    go_wp2_with fail
    refine (KL.out _).mono ?_
    rintro r w9 ⟨rfl, b9⟩
    have L9 := Lib.hid (L8.out.on b9)
    have HY9 := Lib.hid (kept b9 HY8.out)
    have HZ9 := Lib.hid (kept b9 HZ8.out)
    clear b9 x0 x1 x2 x3 x4 x5 x6 x7 x8 x9 x10 L8 HY8 HZ8 KL
    obtain ⟨x0, x1, x2, x3, x4, x5, x6, x7, x8, x9, x10⟩ := ecells L9.out.e
    obtain ⟨y0, y1, y2, y3, y4, y5, y6, y7, y8, y9, y10⟩ := ecells HY9.out
    obtain ⟨z0, z1, z2, z3, z4, z5, z6, z7, z8, z9, z10⟩ := ecells HZ9.out
    go_upto_region 14 with fail
    clear x0 x1 x2 x3 x4 x5 x6 x7 x8 x9 x10 y0 y1 y2 y3 y4 y5 y6 y7 y8 y9 y10 z0 z1 z2 z3 z4 z5 z6 z7 z8 z9 z10 HY9 HZ9 hne HW0 HW3 HW4 HW7 HW8
    obtain ⟨m0, m1, m2, m3, m4, m5, m6, m7, m8, m9, m10⟩ := mcells L9.out.m
    obtain ⟨fo, hfo⟩ : ∃ fo, fo = mmayB M := ⟨_, rfl⟩
    obtain ⟨Q, hQ⟩ : ∃ Q, Q = frP 1 (mmayB M) (putM M) := ⟨_, rfl⟩
    obtain ⟨ml, hml⟩ : ∃ ml, ml = mlvl M := ⟨_, rfl⟩
    have KQ : Hid (∀ W, Ents W.heap.size M.A M.n M.es W → Calls Tryz.prog 9 #[.int .i64 1, mv M] W fun q w' => q = .returned (.tuple #[.string Q, .bool fo]) ∧ Below W.heap.size W w') := by
      intro W h
      rw [hQ, hfo]
      exact mputF M HWD.out W h
    have KR : Hid (∀ W, Calls Tryz.prog 15 #[.string Q] W fun q w' => ∃ (M1 : Ms) (v : Int), q = .returned (.tuple #[mv M1, .int .i64 v, .bool fo]) ∧ Ents w'.heap.size M1.A M1.n M1.es w' ∧ M1.Wide ∧ Below W.heap.size W w' ∧ GotL fo v M1 M) := by
      intro W
      rw [hQ, hfo]
      exact mgetF M HWD.out HLEN.out W
    have KS := Lib.hid (fun (W : World) (h : Ents W.heap.size M.A M.n M.es W) => mshimF M HWD.out W h)
    have KV : Hid (∀ W, Ents W.heap.size M.A M.n M.es W → Calls Tryz.prog 20 #[mv M] W fun q w' => q = .returned (.int .i64 ml) ∧ Below W.heap.size W w') := by
      intro W h
      rw [hml]
      exact mlevel_any M W h (wide_n HWD.out)
    have HML : Hid ((fo = true → ml = 1) ∧ (fo = false → ml = 2)) := by
      have h := HMR.out
      have hb := mlvl_bounds M
      show _ ∧ _
      rw [hfo, hml]
      unfold mmayB
      rw [h]
      refine ⟨fun e => by simpa using e, fun e => ?_⟩
      have e2 : ¬ mlvl M = 1 := by simpa using e
      omega
    have HSO : Hid (∀ so, (mmayB M = true → so = true) → fo = true → so = true) := fun so h e => h (hfo.symm.trans e)
    clear hfo hQ hml
    go_wp2_with fail
    refine (KQ.out _ L9.out.en).mono ?_
    rintro r w10 ⟨rfl, b10⟩
    have L10 := Lib.hid (L9.out.on b10)
    clear b10 m0 m1 m2 m3 m4 m5 m6 m7 m8 m9 m10 L9 KQ
    go_wp2_with fail
    refine (KR.out _).mono ?_
    rintro r w11 ⟨M1, v, rfl, hE1, hw1, b11, hl1⟩
    obtain ⟨W11, hW11⟩ : ∃ W11, W11 = w11.alloc (Obj.cells (mc M1) 29) := ⟨_, rfl⟩
    have bb : Below w11.heap.size w11 W11 := by rw [hW11]; exact (Below.refl _ _).alloc (Nat.le_refl _) _
    have L11 := Lib.hid (L10.out.on (b11.trans (bb.mono b11.size)))
    have HQ11 : Hid (W11.heap[w11.heap.size]? = some (.cells (mc M1) 29 (0, 0))) := by show _ = _; rw [hW11]; exact heap_alloc_new w11 _
    have HE11 : Hid (Ents W11.heap.size M1.A M1.n M1.es W11) := (hE1.below bb).mr bb.size
    have HW11 := Lib.hid hW11
    have HV1 := Lib.hid hw1
    have HL1 := Lib.hid hl1
    clear b11 bb hW11 hE1 hw1 hl1 L10 KR
    go_upto_region 16 with fail
    rw [← HW11.out]
    obtain ⟨m0, m1, m2, m3, m4, m5, m6, m7, m8, m9, m10⟩ := mcells L11.out.m
    go_wp2_with fail
    refine (KS.out _ L11.out.en).mono ?_
    rintro r w12 ⟨T, so, rfl, hET, hwT, b12, hs1, hs2⟩
    obtain ⟨W12, hW12⟩ : ∃ W12, W12 = w12.alloc (Obj.cells (mc T) 29) := ⟨_, rfl⟩
    have bb : Below w12.heap.size w12 W12 := by rw [hW12]; exact (Below.refl _ _).alloc (Nat.le_refl _) _
    have b13 : Below W11.heap.size W11 W12 := b12.trans (bb.mono b12.size)
    have L12 := Lib.hid (L11.out.on b13)
    have HQ12 := Lib.hid (kept b13 HQ11.out)
    have HE12 : Hid (Ents W12.heap.size M1.A M1.n M1.es W12) := (HE11.out.below b13).mr b13.size
    have HT12 : Hid (W12.heap[w12.heap.size]? = some (.cells (mc T) 29 (0, 0))) := by show _ = _; rw [hW12]; exact heap_alloc_new w12 _
    have HF12 : Hid (Ents W12.heap.size T.A T.n T.es W12) := (hET.below bb).mr bb.size
    have HW12 := Lib.hid hW12
    have HSO2 := Lib.hid (HSO.out so hs1)
    obtain ⟨ro, hro⟩ : ∃ ro, ro = mmayB T := ⟨_, rfl⟩
    have HS2 : Hid (so = true → ro = true ∧ T.frm = M.frm ∧ T.dst = M.dst ∧ T.term = M.term) := by rw [hro]; exact hs2
    have KT := Lib.hid (mputF T hwT W12 HF12.out)
    rw [← hro] at KT
    clear b12 b13 bb hW12 hET hwT hs1 hs2 hro m0 m1 m2 m3 m4 m5 m6 m7 m8 m9 m10 L11 KS HSO HQ11 HE11
    go_upto_region 17 with fail
    rw [← HW12.out]
    obtain ⟨t0, t1, t2, t3, t4, t5, t6, t7, t8, t9, t10⟩ := mcells HT12.out
    go_wp2_with fail
    refine KT.out.mono ?_
    rintro r w13 ⟨rfl, b13⟩
    have L13 := Lib.hid (L12.out.on b13)
    have HQ13 := Lib.hid (kept b13 HQ12.out)
    have HE13 : Hid (Ents w13.heap.size M1.A M1.n M1.es w13) := (HE12.out.below b13).mr b13.size
    have HT13 := Lib.hid (kept b13 HT12.out)
    clear b13 t0 t1 t2 t3 t4 t5 t6 t7 t8 t9 t10 L12 HQ12 HE12 HT12 HF12 KT
    obtain ⟨m0, m1, m2, m3, m4, m5, m6, m7, m8, m9, m10⟩ := mcells L13.out.m
    cases fo with
    | true =>
      have hso := HSO2.out rfl
      subst hso
      obtain ⟨hro, g1, g2, g3⟩ := HS2.out rfl
      subst hro
      have hml := HML.out.1 rfl
      subst hml
      obtain ⟨hv, hlk⟩ := HL1.out rfl
      subst hv
      have KC : Hid (∀ W, Ents W.heap.size M.A M.n M.es W → Ents W.heap.size M1.A M1.n M1.es W → Calls Tryz.prog 21 #[mv M, mv M1] W fun q w' => q = .returned (.bool true) ∧ Below W.heap.size W w') := by
        intro W h1 h2
        refine (msame_any M M1 W h1 h2 (wide_n HWD.out) (wide_n HV1.out)).mono fun r w' ⟨h3, h4⟩ => ⟨?_, h4⟩
        rw [h3, msame_like hlk]
      have HG := Lib.hid (And.intro g1 (And.intro g2 g3))
      clear g1 g2 g3 hlk HML HL1 HS2 HSO2
      go_wp2_with fail
      refine (KV.out _ L13.out.en).mono ?_
      rintro r w14 ⟨rfl, b14⟩
      have L14 := Lib.hid (L13.out.on b14)
      have HQ14 := Lib.hid (kept b14 HQ13.out)
      have HE14 : Hid (Ents w14.heap.size M1.A M1.n M1.es w14) := (HE13.out.below b14).mr b14.size
      have HT14 := Lib.hid (kept b14 HT13.out)
      clear b14 m0 m1 m2 m3 m4 m5 m6 m7 m8 m9 m10 L13 HQ13 HE13 HT13 KV
      obtain ⟨m0, m1, m2, m3, m4, m5, m6, m7, m8, m9, m10⟩ := mcells L14.out.m
      obtain ⟨q0, q1, q2, q3, q4, q5, q6, q7, q8, q9, q10⟩ := mcells HQ14.out
      go_wp2_with fail
      refine (KC.out _ L14.out.en HE14.out).mono ?_
      rintro r w15 ⟨rfl, b15⟩
      have L15 := Lib.hid (L14.out.on b15)
      have HT15 := Lib.hid (kept b15 HT14.out)
      clear b15 m0 m1 m2 m3 m4 m5 m6 m7 m8 m9 m10 q0 q1 q2 q3 q4 q5 q6 q7 q8 q9 q10 L14 HT14 HQ14 HE14 KC
      obtain ⟨m0, m1, m2, m3, m4, m5, m6, m7, m8, m9, m10⟩ := mcells L15.out.m
      obtain ⟨t0, t1, t2, t3, t4, t5, t6, t7, t8, t9, t10⟩ := mcells HT15.out
      rw [HG.out.1] at t1
      rw [HG.out.2.1] at t2
      rw [HG.out.2.2] at t3
      go_wp2
      go_ret
      exact ⟨rfl, L15.out.b⟩
    | false =>
      have hml := HML.out.2 rfl
      subst hml
      clear HML HL1 HSO2
      go_wp2_with fail
      refine (KV.out _ L13.out.en).mono ?_
      rintro r w14 ⟨rfl, b14⟩
      have L14 := Lib.hid (L13.out.on b14)
      have HT14 := Lib.hid (kept b14 HT13.out)
      clear b14 m0 m1 m2 m3 m4 m5 m6 m7 m8 m9 m10 L13 HQ13 HE13 HT13 KV
      obtain ⟨m0, m1, m2, m3, m4, m5, m6, m7, m8, m9, m10⟩ := mcells L14.out.m
      obtain ⟨t0, t1, t2, t3, t4, t5, t6, t7, t8, t9, t10⟩ := mcells HT14.out
      cases so with
      | true =>
        obtain ⟨hro, g1, g2, g3⟩ := HS2.out rfl
        subst hro
        rw [g1] at t1
        rw [g2] at t2
        rw [g3] at t3
        clear g1 g2 g3 HS2
        go_wp2
        go_ret
        exact ⟨rfl, L14.out.b⟩
      | false =>
        clear HS2
        go_wp2
        go_ret
        exact ⟨rfl, L14.out.b⟩
  | false =>
    have hlv := HO.out.2 rfl
    subst hlv
    clear HO
    go_wp2_with fail
    refine (KL.out _).mono ?_
    rintro r w9 ⟨rfl, b9⟩
    have L9 := Lib.hid (L8.out.on b9)
    have HZ9 := Lib.hid (kept b9 HZ8.out)
    clear b9 x0 x1 x2 x3 x4 x5 x6 x7 x8 x9 x10 L8 HY8 HZ8 KL
    obtain ⟨x0, x1, x2, x3, x4, x5, x6, x7, x8, x9, x10⟩ := ecells L9.out.e
    obtain ⟨z0, z1, z2, z3, z4, z5, z6, z7, z8, z9, z10⟩ := ecells HZ9.out
    go_upto_region 14 with fail
    clear x0 x1 x2 x3 x4 x5 x6 x7 x8 x9 x10 z0 z1 z2 z3 z4 z5 z6 z7 z8 z9 z10 HZ9 hne HW0 HW3 HW4 HW7 HW8
    obtain ⟨m0, m1, m2, m3, m4, m5, m6, m7, m8, m9, m10⟩ := mcells L9.out.m
    obtain ⟨fo, hfo⟩ : ∃ fo, fo = mmayB M := ⟨_, rfl⟩
    obtain ⟨Q, hQ⟩ : ∃ Q, Q = frP 1 (mmayB M) (putM M) := ⟨_, rfl⟩
    obtain ⟨ml, hml⟩ : ∃ ml, ml = mlvl M := ⟨_, rfl⟩
    have KQ : Hid (∀ W, Ents W.heap.size M.A M.n M.es W → Calls Tryz.prog 9 #[.int .i64 1, mv M] W fun q w' => q = .returned (.tuple #[.string Q, .bool fo]) ∧ Below W.heap.size W w') := by
      intro W h
      rw [hQ, hfo]
      exact mputF M HWD.out W h
    have KR : Hid (∀ W, Calls Tryz.prog 15 #[.string Q] W fun q w' => ∃ (M1 : Ms) (v : Int), q = .returned (.tuple #[mv M1, .int .i64 v, .bool fo]) ∧ Ents w'.heap.size M1.A M1.n M1.es w' ∧ M1.Wide ∧ Below W.heap.size W w' ∧ GotL fo v M1 M) := by
      intro W
      rw [hQ, hfo]
      exact mgetF M HWD.out HLEN.out W
    have KS := Lib.hid (fun (W : World) (h : Ents W.heap.size M.A M.n M.es W) => mshimF M HWD.out W h)
    have KV : Hid (∀ W, Ents W.heap.size M.A M.n M.es W → Calls Tryz.prog 20 #[mv M] W fun q w' => q = .returned (.int .i64 ml) ∧ Below W.heap.size W w') := by
      intro W h
      rw [hml]
      exact mlevel_any M W h (wide_n HWD.out)
    have HML : Hid ((fo = true → ml = 1) ∧ (fo = false → ml = 2)) := by
      have h := HMR.out
      have hb := mlvl_bounds M
      show _ ∧ _
      rw [hfo, hml]
      unfold mmayB
      rw [h]
      refine ⟨fun e => by simpa using e, fun e => ?_⟩
      have e2 : ¬ mlvl M = 1 := by simpa using e
      omega
    have HSO : Hid (∀ so, (mmayB M = true → so = true) → fo = true → so = true) := fun so h e => h (hfo.symm.trans e)
    clear hfo hQ hml
    go_wp2_with fail
    refine (KQ.out _ L9.out.en).mono ?_
    rintro r w10 ⟨rfl, b10⟩
    have L10 := Lib.hid (L9.out.on b10)
    clear b10 m0 m1 m2 m3 m4 m5 m6 m7 m8 m9 m10 L9 KQ
    go_wp2_with fail
    refine (KR.out _).mono ?_
    rintro r w11 ⟨M1, v, rfl, hE1, hw1, b11, hl1⟩
    obtain ⟨W11, hW11⟩ : ∃ W11, W11 = w11.alloc (Obj.cells (mc M1) 29) := ⟨_, rfl⟩
    have bb : Below w11.heap.size w11 W11 := by rw [hW11]; exact (Below.refl _ _).alloc (Nat.le_refl _) _
    have L11 := Lib.hid (L10.out.on (b11.trans (bb.mono b11.size)))
    have HQ11 : Hid (W11.heap[w11.heap.size]? = some (.cells (mc M1) 29 (0, 0))) := by show _ = _; rw [hW11]; exact heap_alloc_new w11 _
    have HE11 : Hid (Ents W11.heap.size M1.A M1.n M1.es W11) := (hE1.below bb).mr bb.size
    have HW11 := Lib.hid hW11
    have HV1 := Lib.hid hw1
    have HL1 := Lib.hid hl1
    clear b11 bb hW11 hE1 hw1 hl1 L10 KR
    go_upto_region 16 with fail
    rw [← HW11.out]
    obtain ⟨m0, m1, m2, m3, m4, m5, m6, m7, m8, m9, m10⟩ := mcells L11.out.m
    go_wp2_with fail
    refine (KS.out _ L11.out.en).mono ?_
    rintro r w12 ⟨T, so, rfl, hET, hwT, b12, hs1, hs2⟩
    obtain ⟨W12, hW12⟩ : ∃ W12, W12 = w12.alloc (Obj.cells (mc T) 29) := ⟨_, rfl⟩
    have bb : Below w12.heap.size w12 W12 := by rw [hW12]; exact (Below.refl _ _).alloc (Nat.le_refl _) _
    have b13 : Below W11.heap.size W11 W12 := b12.trans (bb.mono b12.size)
    have L12 := Lib.hid (L11.out.on b13)
    have HQ12 := Lib.hid (kept b13 HQ11.out)
    have HE12 : Hid (Ents W12.heap.size M1.A M1.n M1.es W12) := (HE11.out.below b13).mr b13.size
    have HT12 : Hid (W12.heap[w12.heap.size]? = some (.cells (mc T) 29 (0, 0))) := by show _ = _; rw [hW12]; exact heap_alloc_new w12 _
    have HF12 : Hid (Ents W12.heap.size T.A T.n T.es W12) := (hET.below bb).mr bb.size
    have HW12 := Lib.hid hW12
    have HSO2 := Lib.hid (HSO.out so hs1)
    obtain ⟨ro, hro⟩ : ∃ ro, ro = mmayB T := ⟨_, rfl⟩
    have HS2 : Hid (so = true → ro = true ∧ T.frm = M.frm ∧ T.dst = M.dst ∧ T.term = M.term) := by rw [hro]; exact hs2
    have KT := Lib.hid (mputF T hwT W12 HF12.out)
    rw [← hro] at KT
    clear b12 b13 bb hW12 hET hwT hs1 hs2 hro m0 m1 m2 m3 m4 m5 m6 m7 m8 m9 m10 L11 KS HSO HQ11 HE11
    go_upto_region 17 with fail
    rw [← HW12.out]
    obtain ⟨t0, t1, t2, t3, t4, t5, t6, t7, t8, t9, t10⟩ := mcells HT12.out
    go_wp2_with fail
    refine KT.out.mono ?_
    rintro r w13 ⟨rfl, b13⟩
    have L13 := Lib.hid (L12.out.on b13)
    have HQ13 := Lib.hid (kept b13 HQ12.out)
    have HE13 : Hid (Ents w13.heap.size M1.A M1.n M1.es w13) := (HE12.out.below b13).mr b13.size
    have HT13 := Lib.hid (kept b13 HT12.out)
    clear b13 t0 t1 t2 t3 t4 t5 t6 t7 t8 t9 t10 L12 HQ12 HE12 HT12 HF12 KT
    obtain ⟨m0, m1, m2, m3, m4, m5, m6, m7, m8, m9, m10⟩ := mcells L13.out.m
    cases fo with
    | true =>
      have hso := HSO2.out rfl
      subst hso
      obtain ⟨hro, g1, g2, g3⟩ := HS2.out rfl
      subst hro
      have hml := HML.out.1 rfl
      subst hml
      obtain ⟨hv, hlk⟩ := HL1.out rfl
      subst hv
      have KC : Hid (∀ W, Ents W.heap.size M.A M.n M.es W → Ents W.heap.size M1.A M1.n M1.es W → Calls Tryz.prog 21 #[mv M, mv M1] W fun q w' => q = .returned (.bool true) ∧ Below W.heap.size W w') := by
        intro W h1 h2
        refine (msame_any M M1 W h1 h2 (wide_n HWD.out) (wide_n HV1.out)).mono fun r w' ⟨h3, h4⟩ => ⟨?_, h4⟩
        rw [h3, msame_like hlk]
      have HG := Lib.hid (And.intro g1 (And.intro g2 g3))
      clear g1 g2 g3 hlk HML HL1 HS2 HSO2
      go_wp2_with fail
      refine (KV.out _ L13.out.en).mono ?_
      rintro r w14 ⟨rfl, b14⟩
      have L14 := Lib.hid (L13.out.on b14)
      have HQ14 := Lib.hid (kept b14 HQ13.out)
      have HE14 : Hid (Ents w14.heap.size M1.A M1.n M1.es w14) := (HE13.out.below b14).mr b14.size
      have HT14 := Lib.hid (kept b14 HT13.out)
      clear b14 m0 m1 m2 m3 m4 m5 m6 m7 m8 m9 m10 L13 HQ13 HE13 HT13 KV
      obtain ⟨m0, m1, m2, m3, m4, m5, m6, m7, m8, m9, m10⟩ := mcells L14.out.m
      obtain ⟨q0, q1, q2, q3, q4, q5, q6, q7, q8, q9, q10⟩ := mcells HQ14.out
      go_wp2_with fail
      refine (KC.out _ L14.out.en HE14.out).mono ?_
      rintro r w15 ⟨rfl, b15⟩
      have L15 := Lib.hid (L14.out.on b15)
      have HT15 := Lib.hid (kept b15 HT14.out)
      clear b15 m0 m1 m2 m3 m4 m5 m6 m7 m8 m9 m10 q0 q1 q2 q3 q4 q5 q6 q7 q8 q9 q10 L14 HT14 HQ14 HE14 KC
      obtain ⟨m0, m1, m2, m3, m4, m5, m6, m7, m8, m9, m10⟩ := mcells L15.out.m
      obtain ⟨t0, t1, t2, t3, t4, t5, t6, t7, t8, t9, t10⟩ := mcells HT15.out
      rw [HG.out.1] at t1
      rw [HG.out.2.1] at t2
      rw [HG.out.2.2] at t3
      go_wp2
      go_ret
      exact ⟨rfl, L15.out.b⟩
    | false =>
      have hml := HML.out.2 rfl
      subst hml
      clear HML HL1 HSO2
      go_wp2_with fail
      refine (KV.out _ L13.out.en).mono ?_
      rintro r w14 ⟨rfl, b14⟩
      have L14 := Lib.hid (L13.out.on b14)
      have HT14 := Lib.hid (kept b14 HT13.out)
      clear b14 m0 m1 m2 m3 m4 m5 m6 m7 m8 m9 m10 L13 HQ13 HE13 HT13 KV
      obtain ⟨m0, m1, m2, m3, m4, m5, m6, m7, m8, m9, m10⟩ := mcells L14.out.m
      obtain ⟨t0, t1, t2, t3, t4, t5, t6, t7, t8, t9, t10⟩ := mcells HT14.out
      cases so with
      | true =>
        obtain ⟨hro, g1, g2, g3⟩ := HS2.out rfl
        subst hro
        rw [g1] at t1
        rw [g2] at t2
        rw [g3] at t3
        clear g1 g2 g3 HS2
        go_wp2
        go_ret
        exact ⟨rfl, L14.out.b⟩
      | false =>
        clear HS2
        go_wp2
        go_ret
        exact ⟨rfl, L14.out.b⟩
end Go.Proofs.YtpdbeijfchmlgaaGreat
