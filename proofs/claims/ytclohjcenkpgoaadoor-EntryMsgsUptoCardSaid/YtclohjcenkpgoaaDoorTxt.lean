/-
  An entry as it is read by people: the package's way.
  Conditions: the table of powers of ten lies as its initialiser lays it; the entry's numbers are those of their kinds, its texts of at most 2^40 bytes.
-/
import Derived.Test.YtclohjcenkpgoaaDoorText
namespace Go.Proofs.YtclohjcenkpgoaaDoor
open Go.RowKit
set_option linter.unusedVariables false

def headS (e : En) : ByteArray := num e.kind ++ str [32] ++ dec e.term ++ str [46] ++ dec e.index
/-- The entry's text. -/
def textS (e : En) : ByteArray := headS e ++ str (bodyL (fl e.kind) e 7)
theorem head_size (e : En) (ok : e.Ok) : (headS e).size ≤ 63 := by
  have k1 := num_size e.kind ok.k0 ok.k1
  have k2 := dec_size e.term ok.t1
  have k3 := dec_size e.index ok.i1
  unfold headS
  rw [size_app, size_app, size_app, size_app]
  show _ + 1 + _ + 1 + _ ≤ _
  omega
theorem strBody_size (L : ByteArray) (e : En) (ok : e.Ok) (hd : e.data.size ≤ 1099511627776) (ho : e.old.size ≤ 1099511627776) : (str (bodyL L e 7)).size ≤ 15393162789221 := by
  rw [str_size]
  exact body_length L e ok hd ho 7
theorem textS_size (e : En) (ok : e.Ok) (hd : e.data.size ≤ 1099511627776) (ho : e.old.size ≤ 1099511627776) : (textS e).size ≤ 15393162789284 := by
  have h1 := head_size e ok
  have h2 := strBody_size (fl e.kind) e ok hd ho
  unfold textS
  rw [size_app]
  omega

/-- An entry's box, whole. -/
structure Bx (B0 : Nat) (e : En) (T : TypeId) (w : World) : Prop where
  bx : w.heap[B0]? = some (.cells (ec e) T (0, 0))
theorem Bx.cell {B0 : Nat} {e : En} {T : TypeId} {w : World} (h : Bx B0 e T w) (i : Nat) : w.cell? ⟨B0, i, none⟩ = (ec e)[i]? := cell_of_row w _ i _ T (0, 0) h.bx
theorem Bx.lt {B0 : Nat} {e : En} {T : TypeId} {w : World} (h : Bx B0 e T w) : B0 < w.heap.size := (Array.getElem?_eq_some_iff.1 h.bx).1
theorem Bx.below {B0 : Nat} {e : En} {T : TypeId} {w w1 : World} (h : Bx B0 e T w) (hb : Below w.heap.size w w1) : Bx B0 e T w1 := ⟨(hb.block _ h.lt).trans h.bx⟩

set_option maxRecDepth 100000 in
set_option maxHeartbeats 4000000 in
theorem text35_any (e : En) (g : Nat) (w : World) (ok : e.Ok) (hd : e.data.size ≤ 1099511627776) (ho : e.old.size ≤ 1099511627776) (ht : Tab w) (hg : g < w.heap.size) (hm : w.heap[g]? = some (.map tm 7)) :
    Calls Tryd.prog 35 #[.map (some g), ev e] w fun r w' => r = .returned (.string (textS e)) ∧ Below w.heap.size w w' := by
  obtain ⟨wr, hW⟩ : ∃ wr, wr = w.alloc (Obj.cells (ec e) 24) := ⟨_, rfl⟩
  have hb0 : Below w.heap.size w wr := by rw [hW]; exact (Below.refl _ _).alloc (Nat.le_refl _) _
  have hb0d : Below w.heap.size w wr.drew := ⟨hb0.os, hb0.tape, hb0.output, hb0.size, hb0.block⟩
  have hbx : Bx w.heap.size e 24 wr := ⟨by rw [hW]; exact heap_alloc_new w _⟩
  have htr : Tab wr.drew := ht.below hb0d
  have hsz : w.heap.size < wr.heap.size := hbx.lt
  have c0 : wr.cell? ⟨w.heap.size, 0, none⟩ = some (.int .u64 e.term) := hbx.cell 0
  have c1 : wr.cell? ⟨w.heap.size, 1, none⟩ = some (.int .u64 e.index) := hbx.cell 1
  have c2 : wr.cell? ⟨w.heap.size, 2, none⟩ = some (.int .i64 e.kind) := hbx.cell 2
  have hS : ∀ {W w1 : World}, Below W.heap.size W w1 → (Tab W ∧ Below w.heap.size w W ∧ Bx w.heap.size e 24 W) → (Tab w1 ∧ Below w.heap.size w w1 ∧ Bx w.heap.size e 24 w1 ∧ w1.cell? ⟨w.heap.size, 0, none⟩ = some (.int .u64 e.term) ∧ w1.cell? ⟨w.heap.size, 1, none⟩ = some (.int .u64 e.index) ∧ w1.cell? ⟨w.heap.size, 2, none⟩ = some (.int .i64 e.kind)) := by
    intro W w1 hb ⟨g1, g2, g3⟩
    have g4 := g3.below hb
    exact ⟨g1.below hb, g2.trans (hb.mono g2.size), g4, g4.cell 0, g4.cell 1, g4.cell 2⟩
  have KI := Lib.hid (fun (W : World) (h : Tab W ∧ Below w.heap.size w W ∧ Bx w.heap.size e 24 W) => (itoa_any e.kind W ok.k0 ok.k1 h.1).mono fun r w1 ⟨hr, hb⟩ => And.intro hr (hS hb h))
  have KT := Lib.hid (fun (W : World) (h : Tab W ∧ Below w.heap.size w W ∧ Bx w.heap.size e 24 W) => (digits_any e.term W ok.t0 ok.t1 h.1).mono fun r w1 ⟨hr, hb⟩ => And.intro hr (hS hb h))
  have KX := Lib.hid (fun (W : World) (h : Tab W ∧ Below w.heap.size w W ∧ Bx w.heap.size e 24 W) => (digits_any e.index W ok.i0 ok.i1 h.1).mono fun r w1 ⟨hr, hb⟩ => And.intro hr (hS hb h))
  have KF := Lib.hid (fun (W : World) (h : Tab W) (h2 : Below w.heap.size w W) => fields50_any (fl e.kind) e g W ok hd ho h (Nat.lt_of_lt_of_le hg h2.size) ((h2.block g hg).trans hm))
  have n1 := num_size e.kind ok.k0 ok.k1
  have n2 := dec_size e.term ok.t1
  have n3 := dec_size e.index ok.i1
  have n4 := strBody_size (fl e.kind) e ok hd ho
  have q1 : ¬ 9223372036854775807 < (num e.kind).size + 1 := by omega
  have q2 : ¬ 9223372036854775807 < (num e.kind).size + 1 + (dec e.term).size := by omega
  have q3 : ¬ 9223372036854775807 < (num e.kind).size + 1 + (dec e.term).size + 1 := by omega
  have q4 : ¬ 9223372036854775807 < (num e.kind).size + 1 + (dec e.term).size + 1 + (dec e.index).size := by omega
  have HM := Lib.hid hm
  have HW := Lib.hid hW
  have OK := Lib.hid ok
  clear ok hm ht hS
  go_enter Tryd.func35, Tryd.ntmps35
  go_wp2_with (go_at_call 11; (with_reducible refine (fields_any e.kind _).mono ?_); rintro r w' ⟨rfl, rfl⟩)
  rw [← hW]
  clear hW
  have hbxd : Bx w.heap.size e 24 wr.drew := ⟨hbx.bx⟩
  go_region_held3 (fun w' => (Tab w' ∧ Below w.heap.size w w' ∧ Bx w.heap.size e 24 w') ∧ w'.cell? ⟨w.heap.size, 0, none⟩ = some (.int .u64 e.term) ∧ w'.cell? ⟨w.heap.size, 1, none⟩ = some (.int .u64 e.index) ∧ w'.cell? ⟨w.heap.size, 2, none⟩ = some (.int .i64 e.kind))
    (first | exact ⟨⟨htr, hb0d, hbxd⟩, c0, c1, c2⟩ | exact ⟨⟨by assumption, by assumption, by assumption⟩, by assumption, by assumption, by assumption⟩)
    (first
      | (go_at_call 43; (with_reducible refine (KI.out _ ?_).mono ?_); (exact ⟨by assumption, by assumption, by assumption⟩); rintro r w1 ⟨rfl, k1, k2, k3, k4, k5, k6⟩)
      | (go_at_call 44; (with_reducible refine (KT.out _ ?_).mono ?_); (exact ⟨by assumption, by assumption, by assumption⟩); rintro r w1 ⟨rfl, k1, k2, k3, k4, k5, k6⟩)
      | (go_at_call 44; (with_reducible refine (KX.out _ ?_).mono ?_); (exact ⟨by assumption, by assumption, by assumption⟩); rintro r w1 ⟨rfl, k1, k2, k3, k4, k5, k6⟩))
  all_goals
    rename_i hk
    obtain ⟨⟨k1, k2, k3⟩, -, -, -⟩ := hk
    have KF2 := KF.out _ k1 k2
    unfold ord at KF2
    have KF3 := Lib.hid KF2
    clear KF2
    have hk2s := k2.size
    have d0 := k3.cell 0
    have d1 := k3.cell 1
    have d2 := k3.cell 2
    have d3 := k3.cell 3
    have d4 := k3.cell 4
    have d5 := k3.cell 5
    have d6 := k3.cell 6
    have d7 := k3.cell 7
    have d8 := k3.cell 8
    have d9 := k3.cell 9
    have d10 := k3.cell 10
    simp only [ec, List.getElem?_toArray, List.getElem?_cons_succ, List.getElem?_cons_zero] at d0 d1 d2 d3 d4 d5 d6 d7 d8 d9 d10
    have n5 := head_size e OK.out
    have K2 := Lib.hid k2
    have K3 := Lib.hid k3
    clear k2 k3
    go_wp2_with (go_at_call 50; (with_reducible refine KF3.out.mono ?_); rintro r w2 ⟨rfl, hb2⟩)
    go_ret
    exact ⟨ret_str rfl, K2.out.trans (hb2.mono hk2s)⟩

set_option maxRecDepth 100000 in
set_option maxHeartbeats 4000000 in
theorem text_any (e : En) (w : World) (ok : e.Ok) (hd : e.data.size ≤ 1099511627776) (ho : e.old.size ≤ 1099511627776) (ht : Tab w) :
    Calls Tryd.prog 17 #[ev e] w fun r w' => r = .returned (.string (textS e)) ∧ Below w.heap.size w w' := by
  obtain ⟨wr, hW⟩ : ∃ wr, wr = w.alloc (Obj.cells (ec e) 24) := ⟨_, rfl⟩
  have hb0 : Below w.heap.size w wr := by rw [hW]; exact (Below.refl _ _).alloc (Nat.le_refl _) _
  have hbx : Bx w.heap.size e 24 wr := ⟨by rw [hW]; exact heap_alloc_new w _⟩
  have hb0d : Below w.heap.size w wr.drew := ⟨hb0.os, hb0.tape, hb0.output, hb0.size, hb0.block⟩
  have hbxd : Bx w.heap.size e 24 wr.drew := ⟨hbx.bx⟩
  have htr : Tab wr.drew := ht.below hb0d
  have d0 := hbx.cell 0
  have d1 := hbx.cell 1
  have d2 := hbx.cell 2
  have d3 := hbx.cell 3
  have d4 := hbx.cell 4
  have d5 := hbx.cell 5
  have d6 := hbx.cell 6
  have d7 := hbx.cell 7
  have d8 := hbx.cell 8
  have d9 := hbx.cell 9
  have d10 := hbx.cell 10
  simp only [ec, List.getElem?_toArray, List.getElem?_cons_succ, List.getElem?_cons_zero] at d0 d1 d2 d3 d4 d5 d6 d7 d8 d9 d10
  have h36 : ∀ (W : World), (Tab W ∧ Below w.heap.size w W ∧ Bx w.heap.size e 24 W) → Calls Tryd.prog 36 #[] W fun r w' => r = .returned (.map (some W.heap.size)) ∧ (W.heap.size < w'.heap.size ∧ w'.heap[W.heap.size]? = some (.map tm 7)) ∧ (Tab w' ∧ Below w.heap.size w w' ∧ Bx w.heap.size e 24 w') ∧ w'.cell? ⟨w.heap.size, 0, none⟩ = some (.int .u64 e.term) ∧ w'.cell? ⟨w.heap.size, 1, none⟩ = some (.int .u64 e.index) ∧ w'.cell? ⟨w.heap.size, 2, none⟩ = some (.int .i64 e.kind) ∧ w'.cell? ⟨w.heap.size, 3, none⟩ = some (.int .u64 e.client) ∧ w'.cell? ⟨w.heap.size, 4, none⟩ = some (.int .u64 e.seq) ∧ w'.cell? ⟨w.heap.size, 5, none⟩ = some (.int .u64 e.block) ∧ w'.cell? ⟨w.heap.size, 6, none⟩ = some (.int .u64 e.many) ∧ w'.cell? ⟨w.heap.size, 7, none⟩ = some (.int .i64 e.node) ∧ w'.cell? ⟨w.heap.size, 8, none⟩ = some (.int .i64 e.level) ∧ w'.cell? ⟨w.heap.size, 9, none⟩ = some (.string e.data) ∧ w'.cell? ⟨w.heap.size, 10, none⟩ = some (.string e.old) := by
    rintro W ⟨g1, g2, g3⟩
    refine (tells_any W).mono ?_
    rintro r w1 ⟨hr, hm, hb⟩
    have g4 := g3.below hb
    exact ⟨hr, ⟨(Array.getElem?_eq_some_iff.1 hm).1, hm⟩, ⟨g1.below hb, g2.trans (hb.mono g2.size), g4⟩, g4.cell 0, g4.cell 1, g4.cell 2, g4.cell 3, g4.cell 4, g4.cell 5, g4.cell 6, g4.cell 7, g4.cell 8, g4.cell 9, g4.cell 10⟩
  have K36 := Lib.hid h36
  clear h36
  have K35 := Lib.hid (fun (W : World) (g : Nat) (h : Tab W) (hg : g < W.heap.size) (hm : W.heap[g]? = some (.map tm 7)) => text35_any e g W ok hd ho h hg hm)
  have HW := Lib.hid hW
  clear ok ht hd ho
  go_enter Tryd.func17, Tryd.ntmps17
  go_wp2
  rw [← hW]
  clear hW
  go_region_held3 (fun w' => (Tab w' ∧ Below w.heap.size w w' ∧ Bx w.heap.size e 24 w') ∧ w'.cell? ⟨w.heap.size, 0, none⟩ = some (.int .u64 e.term) ∧ w'.cell? ⟨w.heap.size, 1, none⟩ = some (.int .u64 e.index) ∧ w'.cell? ⟨w.heap.size, 2, none⟩ = some (.int .i64 e.kind) ∧ w'.cell? ⟨w.heap.size, 3, none⟩ = some (.int .u64 e.client) ∧ w'.cell? ⟨w.heap.size, 4, none⟩ = some (.int .u64 e.seq) ∧ w'.cell? ⟨w.heap.size, 5, none⟩ = some (.int .u64 e.block) ∧ w'.cell? ⟨w.heap.size, 6, none⟩ = some (.int .u64 e.many) ∧ w'.cell? ⟨w.heap.size, 7, none⟩ = some (.int .i64 e.node) ∧ w'.cell? ⟨w.heap.size, 8, none⟩ = some (.int .i64 e.level) ∧ w'.cell? ⟨w.heap.size, 9, none⟩ = some (.string e.data) ∧ w'.cell? ⟨w.heap.size, 10, none⟩ = some (.string e.old))
    (first | exact ⟨⟨htr, hb0d, hbxd⟩, d0, d1, d2, d3, d4, d5, d6, d7, d8, d9, d10⟩ | (refine ⟨⟨?_, ?_, ?_⟩, ?_, ?_, ?_, ?_, ?_, ?_, ?_, ?_, ?_, ?_, ?_⟩ <;> assumption))
    (first
      | (go_at_call 36; (with_reducible refine (K36.out _ ?_).mono ?_); (exact ⟨by assumption, by assumption, by assumption⟩); rintro r w1 ⟨rfl, ⟨km1, km2⟩, ⟨k1, k2, k3⟩, k4, k5, k6, k7, k8, k9, k10, k11, k12, k13, k14⟩)
      | (go_at_call 35; (with_reducible refine (K35.out _ _ ?_ ?_ ?_).mono ?_); (assumption); (first | exact km1 | assumption); (first | exact km2 | assumption); rintro r w2 ⟨rfl, hb2⟩; have kb2 := k2.trans (hb2.mono k2.size); have kt2 := k1.below hb2; have kx2 := k3.below hb2; have e0 := kx2.cell 0; have e1 := kx2.cell 1; have e2 := kx2.cell 2; have e3 := kx2.cell 3; have e4 := kx2.cell 4; have e5 := kx2.cell 5; have e6 := kx2.cell 6; have e7 := kx2.cell 7; have e8 := kx2.cell 8; have e9 := kx2.cell 9; have e10 := kx2.cell 10))
  all_goals
    rename_i hk
    obtain ⟨⟨-, k2, -⟩, -⟩ := hk
    go_wp2
    go_ret
    exact ⟨rfl, k2⟩
end Go.Proofs.YtclohjcenkpgoaaDoor
