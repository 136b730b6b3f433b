/-
  A message as it is read by people: the package's way, whole.
  Conditions: the table of powers of ten lies as its initialiser lays it; the message's numbers are those of their kinds, its texts and its entries' of at most 2^20 bytes, its entries at most 2^20.
-/
import Derived.Test.YtclohjcenkpgoaaDoorMText
namespace Go.Proofs.YtclohjcenkpgoaaDoor
open Go.RowKit
set_option linter.unusedVariables false

def mheadS (m : Ms) : ByteArray := num m.kind ++ str [32] ++ num m.frm ++ str [62] ++ num m.to ++ str [32] ++ dec m.term
/-- The message's text. -/
def mtextS (m : Ms) : ByteArray := mheadS m ++ str (mbodyL (mfl m.kind) m 7)
theorem mhead_size (m : Ms) (ok : m.Ok) : (mheadS m).size ≤ 86 := by
  have k1 := num_size m.kind ok.k0 ok.k1
  have k2 := num_size m.frm ok.f0 ok.f1
  have k3 := num_size m.to ok.o0 ok.o1
  have k4 := dec_size m.term ok.t1
  unfold mheadS
  rw [size_app, size_app, size_app, size_app, size_app, size_app]
  show _ + 1 + _ + 1 + _ + 1 + _ ≤ _
  omega
theorem mstrBody_size (L : ByteArray) (m : Ms) (ok : m.Ok) (hl : m.es.length = m.n) : (str (mbodyL L m 7)).size ≤ 107800000000035 := by
  rw [str_size]
  exact mbody_length L m ok hl 7

/-- A message's box, whole. -/
structure By (B0 : Nat) (m : Ms) (T : TypeId) (w : World) : Prop where
  bx : w.heap[B0]? = some (.cells (mc m) T (0, 0))
theorem By.cell {B0 : Nat} {m : Ms} {T : TypeId} {w : World} (h : By B0 m T w) (i : Nat) : w.cell? ⟨B0, i, none⟩ = (mc m)[i]? := cell_of_row w _ i _ T (0, 0) h.bx
theorem By.lt {B0 : Nat} {m : Ms} {T : TypeId} {w : World} (h : By B0 m T w) : B0 < w.heap.size := (Array.getElem?_eq_some_iff.1 h.bx).1
theorem By.below {B0 : Nat} {m : Ms} {T : TypeId} {w w1 : World} (h : By B0 m T w) (hb : Below w.heap.size w w1) : By B0 m T w1 := ⟨(hb.block _ h.lt).trans h.bx⟩

set_option maxRecDepth 100000 in
set_option maxHeartbeats 8000000 in
theorem mtext_any (m : Ms) (w : World) (ok : m.Ok) (hE : Ents w.heap.size m.A m.n m.es w) (ht : Tab w) :
    Calls Tryd.prog 28 #[mv m] w fun r w' => r = .returned (.string (mtextS m)) ∧ Below w.heap.size w w' := by
  obtain ⟨wr, hW⟩ : ∃ wr, wr = w.alloc (Obj.cells (mc m) 38) := ⟨_, rfl⟩
  have hb0 : Below w.heap.size w wr := by rw [hW]; exact (Below.refl _ _).alloc (Nat.le_refl _) _
  have hb0d : Below w.heap.size w wr.drew := ⟨hb0.os, hb0.tape, hb0.output, hb0.size, hb0.block⟩
  have hbx : By w.heap.size m 38 wr := ⟨by rw [hW]; exact heap_alloc_new w _⟩
  have hbxd : By w.heap.size m 38 wr.drew := ⟨hbx.bx⟩
  have htr : Tab wr.drew := ht.below hb0d
  have c0 : wr.cell? ⟨w.heap.size, 0, none⟩ = some (.int .i64 m.kind) := hbx.cell 0
  have c1 : wr.cell? ⟨w.heap.size, 1, none⟩ = some (.int .i64 m.frm) := hbx.cell 1
  have c2 : wr.cell? ⟨w.heap.size, 2, none⟩ = some (.int .i64 m.to) := hbx.cell 2
  have c3 : wr.cell? ⟨w.heap.size, 3, none⟩ = some (.int .u64 m.term) := hbx.cell 3
  have hS : ∀ {W w1 : World}, Below W.heap.size W w1 → (Tab W ∧ Below w.heap.size w W ∧ By w.heap.size m 38 W) → ((Tab w1 ∧ Below w.heap.size w w1 ∧ By w.heap.size m 38 w1) ∧ w1.cell? ⟨w.heap.size, 0, none⟩ = some (.int .i64 m.kind) ∧ w1.cell? ⟨w.heap.size, 1, none⟩ = some (.int .i64 m.frm) ∧ w1.cell? ⟨w.heap.size, 2, none⟩ = some (.int .i64 m.to) ∧ w1.cell? ⟨w.heap.size, 3, none⟩ = some (.int .u64 m.term)) := by
    intro W w1 hb ⟨g1, g2, g3⟩
    have g4 := g3.below hb
    exact ⟨⟨g1.below hb, g2.trans (hb.mono g2.size), g4⟩, g4.cell 0, g4.cell 1, g4.cell 2, g4.cell 3⟩
  have KI := Lib.hid (fun (n : Int) (W : World) (h0 : -9223372036854775808 ≤ n) (h1 : n ≤ 9223372036854775807) (h : Tab W ∧ Below w.heap.size w W ∧ By w.heap.size m 38 W) => (itoa_any n W h0 h1 h.1).mono fun r w1 ⟨hr, hb⟩ => And.intro hr (hS hb h))
  have KT := Lib.hid (fun (W : World) (h : Tab W ∧ Below w.heap.size w W ∧ By w.heap.size m 38 W) => (digits_any m.term W ok.t0 ok.t1 h.1).mono fun r w1 ⟨hr, hb⟩ => And.intro hr (hS hb h))
  have K45 := Lib.hid (fun (g : Nat) (W : World) (h : Tab W) (h2 : Below w.heap.size w W) (hg : g < W.heap.size) (hm : W.heap[g]? = some (.map mtm 7)) => fields45_any (mfl m.kind) m g W ok ((hE.below h2).more h2.size) h hg hm)
  have h46 : ∀ (W : World), (Tab W ∧ Below w.heap.size w W ∧ By w.heap.size m 38 W) → Calls Tryd.prog 46 #[] W fun r w' => r = .returned (.map (some W.heap.size)) ∧ (W.heap.size < w'.heap.size ∧ w'.heap[W.heap.size]? = some (.map mtm 7)) ∧ (Tab w' ∧ Below w.heap.size w w' ∧ By w.heap.size m 38 w') ∧ w'.cell? ⟨w.heap.size, 0, none⟩ = some (.int .i64 m.kind) ∧ w'.cell? ⟨w.heap.size, 1, none⟩ = some (.int .i64 m.frm) ∧ w'.cell? ⟨w.heap.size, 2, none⟩ = some (.int .i64 m.to) ∧ w'.cell? ⟨w.heap.size, 3, none⟩ = some (.int .u64 m.term) ∧ w'.cell? ⟨w.heap.size, 4, none⟩ = some (.int .u64 m.index) ∧ w'.cell? ⟨w.heap.size, 5, none⟩ = some (.int .u64 m.prev) ∧ w'.cell? ⟨w.heap.size, 6, none⟩ = some (.int .u64 m.commit) ∧ w'.cell? ⟨w.heap.size, 7, none⟩ = some (.int .u64 m.mark) ∧ w'.cell? ⟨w.heap.size, 8, none⟩ = some (.bool m.ok) ∧ w'.cell? ⟨w.heap.size, 9, none⟩ = some (.slice m.A m.n m.c) ∧ w'.cell? ⟨w.heap.size, 10, none⟩ = some (.string m.snap) := by
    rintro W ⟨g1, g2, g3⟩
    refine (mtells_any W).mono ?_
    rintro r w1 ⟨hr, hm, hb⟩
    have g4 := g3.below hb
    exact ⟨hr, ⟨(Array.getElem?_eq_some_iff.1 hm).1, hm⟩, ⟨g1.below hb, g2.trans (hb.mono g2.size), g4⟩, g4.cell 0, g4.cell 1, g4.cell 2, g4.cell 3, g4.cell 4, g4.cell 5, g4.cell 6, g4.cell 7, g4.cell 8, g4.cell 9, g4.cell 10⟩
  have K46 := Lib.hid h46
  have n1 := num_size m.kind ok.k0 ok.k1
  have n2 := num_size m.frm ok.f0 ok.f1
  have n3 := num_size m.to ok.o0 ok.o1
  have n4 := dec_size m.term ok.t1
  have n5 := mhead_size m ok
  have n6 := mstrBody_size (mfl m.kind) m ok hE.len
  have q1 : ¬ 9223372036854775807 < (num m.kind).size + 1 := by omega
  have q2 : ¬ 9223372036854775807 < (num m.kind).size + 1 + (num m.frm).size := by omega
  have q3 : ¬ 9223372036854775807 < (num m.kind).size + 1 + (num m.frm).size + 1 := by omega
  have q4 : ¬ 9223372036854775807 < (num m.kind).size + 1 + (num m.frm).size + 1 + (num m.to).size := by omega
  have q5 : ¬ 9223372036854775807 < (num m.kind).size + 1 + (num m.frm).size + 1 + (num m.to).size + 1 := by omega
  have q6 : ¬ 9223372036854775807 < (num m.kind).size + 1 + (num m.frm).size + 1 + (num m.to).size + 1 + (dec m.term).size := by omega
  have HW := Lib.hid hW
  have OK := Lib.hid ok
  have HE := Lib.hid hE
  clear ok ht hS h46 hE
  go_enter Tryd.func28, Tryd.ntmps28
  go_wp2_with (go_at_call 22; (with_reducible refine (mfields_any m.kind _).mono ?_); rintro r w' ⟨rfl, rfl⟩)
  rw [← hW]
  clear hW
  go_region_held3 (fun w' => (Tab w' ∧ Below w.heap.size w w' ∧ By w.heap.size m 38 w') ∧ w'.cell? ⟨w.heap.size, 0, none⟩ = some (.int .i64 m.kind) ∧ w'.cell? ⟨w.heap.size, 1, none⟩ = some (.int .i64 m.frm) ∧ w'.cell? ⟨w.heap.size, 2, none⟩ = some (.int .i64 m.to) ∧ w'.cell? ⟨w.heap.size, 3, none⟩ = some (.int .u64 m.term))
    (first | exact ⟨⟨htr, hb0d, hbxd⟩, c0, c1, c2, c3⟩ | (refine ⟨⟨?_, ?_, ?_⟩, ?_, ?_, ?_, ?_⟩ <;> assumption))
    (first
      | (go_at_call 43; (with_reducible refine (KI.out m.kind _ OK.out.k0 OK.out.k1 ?_).mono ?_); (exact ⟨by assumption, by assumption, by assumption⟩); rintro r w1 ⟨rfl, ⟨k1, k2, k3⟩, k4, k5, k6, k7⟩)
      | (go_at_call 43; (with_reducible refine (KI.out m.frm _ OK.out.f0 OK.out.f1 ?_).mono ?_); (exact ⟨by assumption, by assumption, by assumption⟩); rintro r w1 ⟨rfl, ⟨k1, k2, k3⟩, k4, k5, k6, k7⟩)
      | (go_at_call 43; (with_reducible refine (KI.out m.to _ OK.out.o0 OK.out.o1 ?_).mono ?_); (exact ⟨by assumption, by assumption, by assumption⟩); rintro r w1 ⟨rfl, ⟨k1, k2, k3⟩, k4, k5, k6, k7⟩)
      | (go_at_call 44; (with_reducible refine (KT.out _ ?_).mono ?_); (exact ⟨by assumption, by assumption, by assumption⟩); rintro r w1 ⟨rfl, ⟨k1, k2, k3⟩, k4, k5, k6, k7⟩))
  all_goals
    rename_i hk
    obtain ⟨⟨k1, k2, k3⟩, -, -, -, -⟩ := hk
    have k2d : Below w.heap.size w w1.drew := ⟨k2.os, k2.tape, k2.output, k2.size, k2.block⟩
    have k3d : By w.heap.size m 38 w1.drew := ⟨k3.bx⟩
    have k1d : Tab w1.drew := k1
    have d0 := k3.cell 0
    have d1 := k3.cell 1
    have d2 := k3.cell 2
    have d3 := k3.cell 3
    have d4 := k3.cell 4
    have d5 := k3.cell 5
    have d6 := k3.cell 6
    have d7 := k3.cell 7
    have d8 := k3.cell 8
    have d9 := k3.cell 9
    have d10 := k3.cell 10
    simp only [mc, List.getElem?_toArray, List.getElem?_cons_succ, List.getElem?_cons_zero] at d0 d1 d2 d3 d4 d5 d6 d7 d8 d9 d10
    have q7 : ¬ 9223372036854775807 < (num m.kind).size + 1 + (num m.frm).size + 1 + (num m.to).size + 1 + (dec m.term).size + (str (mbodyL (mfl m.kind) m 7)).size := by omega
    go_wp2
    go_region_held3 (fun w' => (Tab w' ∧ Below w.heap.size w w' ∧ By w.heap.size m 38 w') ∧ w'.cell? ⟨w.heap.size, 0, none⟩ = some (.int .i64 m.kind) ∧ w'.cell? ⟨w.heap.size, 1, none⟩ = some (.int .i64 m.frm) ∧ w'.cell? ⟨w.heap.size, 2, none⟩ = some (.int .i64 m.to) ∧ w'.cell? ⟨w.heap.size, 3, none⟩ = some (.int .u64 m.term) ∧ w'.cell? ⟨w.heap.size, 4, none⟩ = some (.int .u64 m.index) ∧ w'.cell? ⟨w.heap.size, 5, none⟩ = some (.int .u64 m.prev) ∧ w'.cell? ⟨w.heap.size, 6, none⟩ = some (.int .u64 m.commit) ∧ w'.cell? ⟨w.heap.size, 7, none⟩ = some (.int .u64 m.mark) ∧ w'.cell? ⟨w.heap.size, 8, none⟩ = some (.bool m.ok) ∧ w'.cell? ⟨w.heap.size, 9, none⟩ = some (.slice m.A m.n m.c) ∧ w'.cell? ⟨w.heap.size, 10, none⟩ = some (.string m.snap))
      (first | exact ⟨⟨k1d, k2d, k3d⟩, d0, d1, d2, d3, d4, d5, d6, d7, d8, d9, d10⟩ | (refine ⟨⟨?_, ?_, ?_⟩, ?_, ?_, ?_, ?_, ?_, ?_, ?_, ?_, ?_, ?_, ?_⟩ <;> assumption))
      (first
        | (go_at_call 46; (with_reducible refine (K46.out _ ?_).mono ?_); (exact ⟨by assumption, by assumption, by assumption⟩); rintro r w3 ⟨rfl, ⟨km1, km2⟩, ⟨p1, p2, p3⟩, j0, j1, j2, j3, j4, j5, j6, j7, j8, j9, j10⟩)
        | (go_at_call 45; (refine (K45.out _ _ ?_ ?_ ?_ ?_).mono ?_); (assumption); (assumption); (first | exact km1 | assumption); (first | exact km2 | assumption); rintro r w4 ⟨rfl, hb2⟩; have kb2 := p2.trans (hb2.mono p2.size); have kt2 := p1.below hb2; have kx2 := p3.below hb2; have e0 := kx2.cell 0; have e1 := kx2.cell 1; have e2 := kx2.cell 2; have e3 := kx2.cell 3; have e4 := kx2.cell 4; have e5 := kx2.cell 5; have e6 := kx2.cell 6; have e7 := kx2.cell 7; have e8 := kx2.cell 8; have e9 := kx2.cell 9; have e10 := kx2.cell 10))
    all_goals
      rename_i hk
      obtain ⟨⟨-, k2, -⟩, -⟩ := hk
      go_wp2
      go_ret
      exact ⟨ret_str rfl, k2⟩
end Go.Proofs.YtclohjcenkpgoaaDoor
