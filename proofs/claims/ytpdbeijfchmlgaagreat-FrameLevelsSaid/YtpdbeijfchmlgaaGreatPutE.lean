/-
  The package's Put: what it returns.
  Conditions: the numbers are those of their kinds; the texts' lengths below 2^47.
-/
import Derived.Test.YtpdbeijfchmlgaaGreatE
namespace Go.Proofs.YtpdbeijfchmlgaaGreat
open Go.RowKit
set_option linter.unusedVariables false

theorem mayB_right {e : En} (h : mayB e = true) : rightB e = true := by
  unfold mayB at h
  simp only [Bool.and_eq_true] at h
  exact h.1
theorem fresh_wt (w : World) (B : Nat) (hB : B ≤ w.heap.size) : Wt B w.heap.size ⟨#[]⟩ (w.alloc (.cells #[.pointer none, .slice none 0 0] 95)) := by
  refine .inl ⟨hB, .slice none 0 0, heap_alloc_new w _, World.ownsRow_nil _ _ _ _, by simp [Value.ownBlock]⟩
theorem ret_pair {a b : ByteArray} {x y : Bool} (h : a = b) (k : x = y) : Ending.returned (.tuple #[.string a, .bool x]) = .returned (.tuple #[.string b, .bool y]) := by rw [h, k]

set_option maxHeartbeats 2000000 in
set_option maxRecDepth 100000 in
theorem put_any5 (e : En) (w : World) (ok : e.Ok) :
    Calls Tryz.prog 25 #[ev e] w fun q w' => q = .returned (.tuple #[.string (putS e), .bool (mayB e)]) ∧ Below w.heap.size w w' := by
  obtain ⟨W0, hW0⟩ : ∃ W0, W0 = w.alloc (Obj.cells (ec e) 24) := ⟨_, rfl⟩
  have hb0 : Below w.heap.size w W0 := by rw [hW0]; exact (Below.refl _ _).alloc (Nat.le_refl _) _
  have k0 : W0.heap[w.heap.size]? = some (.cells (ec e) 24 (0, 0)) := by rw [hW0]; exact heap_alloc_new w _
  have hlt : w.heap.size < W0.heap.size := (Array.getElem?_eq_some_iff.1 k0).1
  have KM := Lib.hid (fun (W : World) => may_any e W ok)
  have HW0 := Lib.hid hW0
  have HB := Lib.hid hb0
  have HK := Lib.hid k0
  have HLT := Lib.hid hlt
  have OK := Lib.hid ok
  clear hW0 hb0 k0 ok hlt
  cases hm : mayB e with
  | false =>
    rw [hm] at KM
    have HP : Hid (putS e = ⟨#[]⟩) := by show _ = _; unfold putS; rw [hm]; rfl
    clear hm
    go_enter Tryz.func25, Tryz.ntmps25
    go_wp2_with (first
      | (go_at_call 59; rw [← HW0.out]; (with_reducible refine (KM.out _).mono ?_); rintro q w1 ⟨rfl, hb1⟩))
    go_ret2
    exact ⟨ret_pair HP.out.symm rfl, HB.out.trans (hb1.mono HB.out.size)⟩
  | true =>
    have fw := few_of OK.out (mayB_right hm)
    have hes : (⟨#[]⟩ : ByteArray).size ≤ 140737487000000 := Nat.zero_le _
    rw [hm] at KM
    have HP : Hid (putS e = pb e) := by show _ = _; unfold putS; rw [hm]; rfl
    have HS := Lib.hid (pb_size fw)
    have FW := Lib.hid fw
    clear hm fw
    go_enter Tryz.func25, Tryz.ntmps25
    go_wp2_with (first
      | (go_at_call 59; rw [← HW0.out]; (with_reducible refine (KM.out _).mono ?_); rintro q w1 ⟨rfl, hb1⟩; have k1 : w1.heap[w.heap.size]? = some (.cells (ec e) 24 (0, 0)) := (hb1.block _ HLT.out).trans HK.out; have c0 : (w1.alloc (.cells #[.pointer none, .slice none 0 0] 95)).cell? ⟨w.heap.size, 0, none⟩ = some (.int .u64 e.term) := cell_of_row _ _ 0 _ 24 (0, 0) ((Lib.alloc_old w1 _ _ (Array.getElem?_eq_some_iff.1 k1).1).trans k1); have c1 : (w1.alloc (.cells #[.pointer none, .slice none 0 0] 95)).cell? ⟨w.heap.size, 1, none⟩ = some (.int .u64 e.index) := cell_of_row _ _ 1 _ 24 (0, 0) ((Lib.alloc_old w1 _ _ (Array.getElem?_eq_some_iff.1 k1).1).trans k1); have c2 : (w1.alloc (.cells #[.pointer none, .slice none 0 0] 95)).cell? ⟨w.heap.size, 2, none⟩ = some (.int .i64 e.kind) := cell_of_row _ _ 2 _ 24 (0, 0) ((Lib.alloc_old w1 _ _ (Array.getElem?_eq_some_iff.1 k1).1).trans k1); have c3 : (w1.alloc (.cells #[.pointer none, .slice none 0 0] 95)).cell? ⟨w.heap.size, 3, none⟩ = some (.int .u64 e.client) := cell_of_row _ _ 3 _ 24 (0, 0) ((Lib.alloc_old w1 _ _ (Array.getElem?_eq_some_iff.1 k1).1).trans k1); have c4 : (w1.alloc (.cells #[.pointer none, .slice none 0 0] 95)).cell? ⟨w.heap.size, 4, none⟩ = some (.int .u64 e.seq) := cell_of_row _ _ 4 _ 24 (0, 0) ((Lib.alloc_old w1 _ _ (Array.getElem?_eq_some_iff.1 k1).1).trans k1); have c5 : (w1.alloc (.cells #[.pointer none, .slice none 0 0] 95)).cell? ⟨w.heap.size, 5, none⟩ = some (.int .u64 e.block) := cell_of_row _ _ 5 _ 24 (0, 0) ((Lib.alloc_old w1 _ _ (Array.getElem?_eq_some_iff.1 k1).1).trans k1); have c6 : (w1.alloc (.cells #[.pointer none, .slice none 0 0] 95)).cell? ⟨w.heap.size, 6, none⟩ = some (.int .u64 e.many) := cell_of_row _ _ 6 _ 24 (0, 0) ((Lib.alloc_old w1 _ _ (Array.getElem?_eq_some_iff.1 k1).1).trans k1); have c7 : (w1.alloc (.cells #[.pointer none, .slice none 0 0] 95)).cell? ⟨w.heap.size, 7, none⟩ = some (.int .i64 e.node) := cell_of_row _ _ 7 _ 24 (0, 0) ((Lib.alloc_old w1 _ _ (Array.getElem?_eq_some_iff.1 k1).1).trans k1); have c8 : (w1.alloc (.cells #[.pointer none, .slice none 0 0] 95)).cell? ⟨w.heap.size, 8, none⟩ = some (.int .i64 e.level) := cell_of_row _ _ 8 _ 24 (0, 0) ((Lib.alloc_old w1 _ _ (Array.getElem?_eq_some_iff.1 k1).1).trans k1); have c9 : (w1.alloc (.cells #[.pointer none, .slice none 0 0] 95)).cell? ⟨w.heap.size, 9, none⟩ = some (.string e.data) := cell_of_row _ _ 9 _ 24 (0, 0) ((Lib.alloc_old w1 _ _ (Array.getElem?_eq_some_iff.1 k1).1).trans k1); have c10 : (w1.alloc (.cells #[.pointer none, .slice none 0 0] 95)).cell? ⟨w.heap.size, 10, none⟩ = some (.string e.old) := cell_of_row _ _ 10 _ 24 (0, 0) ((Lib.alloc_old w1 _ _ (Array.getElem?_eq_some_iff.1 k1).1).trans k1); have HB1 : Hid (Below w.heap.size w w1) := Lib.hid (HB.out.trans (hb1.mono HB.out.size)); have T1 := Lib.hid (fresh_wt w1 w.heap.size HB1.out.size); clear k1 hb1)
      | (go_at_call 60; (with_reducible refine (entry_any w.heap.size w1.heap.size e ⟨#[]⟩ _ T1.out hes (Nat.le_trans HB1.out.size (by simp)) OK.out FW.out).mono ?_); rintro q w2 ⟨rfl, S2⟩; have HS2 := Lib.hid S2; clear S2)
      | (go_at_call 61; (with_reducible refine (wstring w.heap.size w1.heap.size _ _ HS2.out.t (by rw [ByteArray.size_append, HS.out]; omega)).mono ?_); rintro q w3 ⟨rfl, hb3⟩))
    go_ret2
    refine ⟨ret_pair ?_ rfl, ((HB1.out.alloc HB1.out.size _).trans HS2.out.be).trans hb3⟩
    rw [HP.out]
    apply ByteArray.ext; simp
end Go.Proofs.YtpdbeijfchmlgaaGreat
