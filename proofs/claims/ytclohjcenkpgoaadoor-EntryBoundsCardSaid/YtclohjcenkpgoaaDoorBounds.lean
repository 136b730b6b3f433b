/-
  EntryBounds, walked: true for every input.
  Conditions: the table of powers of ten lies as its initialiser lays it.
-/
import Derived.Test.YtclohjcenkpgoaaDoorExam
import Derived.RegionTactic
import Derived.Deep.CutRange
namespace Go.Proofs.YtclohjcenkpgoaaDoor
open Go.RowKit
set_option linter.unusedVariables false

def row64 : Array Value := Array.replicate 64 (.int .u8 0)
def zl64 : List UInt8 := List.replicate 64 0
def z64 : ByteArray := str zl64
theorem made_one (v : Value) (hv : v.cells = #[v]) (n : Nat) : madeCells v.cells n = Array.replicate n v := by
  unfold madeCells
  rw [hv]
  apply Array.ext
  · simp
  · intro i h1 h2
    simp [Nat.mod_one]
/-- 64 bytes of 0, made. -/
theorem mk64 (W : World) : (Instr.makeSlice 52 (.int .i64 64) (.int .i64 64)).run Tryd.prog W = .ok (.slice (some ⟨W.heap.size, 0, none⟩) 64 64) (W.alloc (.cells row64 5)) := by
  obtain ⟨i0, hi0, hz0, hz1, hz2⟩ := info_parts (show (Tryd.prog.info? 5).map (fun i => (i.zero, i.size, i.bytes)) = some (some (.int .u8 0), 1, 1) by kernel_rfl)
  have h := run_make (P := Tryd.prog) W 52 5 i0 _ Tryd.underlying52 hi0 hz0 .i64 .i64 64 64 (by omega) (by omega) (by rw [hz2]; omega) (by omega)
  rw [made_one _ rfl, hz1] at h
  exact h
theorem row64_eq : row64 = (zl64.map fun (b : UInt8) => Value.int .u8 (b.toNat : Int)).toArray := by
  unfold row64 zl64
  rw [List.map_replicate]
  rfl
theorem cv64 {W' : World} {g : Nat} (h : W'.heap[g]? = some (.cells row64 5 (0, 0))) : (convert 52 9 (.slice (some ⟨g, 0, none⟩) 64 64)).run Tryd.prog W' = .ok (.string z64) W' := by
  have h := run_convert_bytes_back (P := Tryd.prog) W' 52 9 5 ⟨g, 0, none⟩ 64 zl64 Tryd.underlying52 Tryd.underlying5 Tryd.underlying9 (fun j hj => by
    rw [Lib.add_plain, cell_of_row W' g _ _ 5 (0, 0) h, row64_eq, Nat.zero_add, List.getElem?_toArray, List.getElem?_map, List.getElem?_eq_getElem hj]
    rfl)
  exact h

abbrev ex : En := ⟨1, 1, 11, 1, 18446744073709551615, 4294967295, 0, 0, 0, z64, z64⟩
abbrev ey : En := ⟨18446744073709551615, 1, 7, 0, 0, 0, 0, 7, 2, ⟨#[]⟩, ⟨#[]⟩⟩
/-- The first entry lies at g. -/
def CutB (w1 : World) (s4 : Value) (wx : World) : Prop := ∃ g, s4 = .pointer (some ⟨g, 0, none⟩) ∧ Bx g ex 24 wx ∧ Below w1.heap.size w1 wx ∧ w1.heap.size ≤ g
theorem cutB1 (w1 : World) : CutB w1 (.pointer (some ⟨w1.heap.size + 1 + 1, 0, none⟩)) (((w1.alloc (.cells row64 5)).alloc (.cells row64 5)).alloc (.cells (ec ex) 24)).drew := by
  have h := heap_alloc_new ((w1.alloc (.cells row64 5)).alloc (.cells row64 5)) (Obj.cells (ec ex) 24)
  rw [show ((w1.alloc (.cells row64 5)).alloc (.cells row64 5)).heap.size = w1.heap.size + 1 + 1 by simp] at h
  exact ⟨_, rfl, ⟨h⟩, ((((Below.refl _ _).alloc (Nat.le_refl _) _).alloc (by simp) _).alloc (by simp; omega) _).drew, by omega⟩
theorem cutB2 (w1 : World) : CutB w1 (.pointer (some ⟨w1.heap.size + 1, 0, none⟩)) (((w1.alloc (.cells row64 5)).alloc (.cells (ec ex) 24)).alloc (.cells row64 5)).drew := by
  have h := heap_alloc_new (w1.alloc (.cells row64 5)) (Obj.cells (ec ex) 24)
  rw [show (w1.alloc (.cells row64 5)).heap.size = w1.heap.size + 1 by simp] at h
  exact ⟨_, rfl, ⟨(Lib.alloc_old ((w1.alloc (.cells row64 5)).alloc (.cells (ec ex) 24)) _ _ (by simp)).trans h⟩, ((((Below.refl _ _).alloc (Nat.le_refl _) _).alloc (by simp) _).alloc (by simp; omega) _).drew, by omega⟩
theorem cutB3 (w1 : World) : CutB w1 (.pointer (some ⟨w1.heap.size, 0, none⟩)) (((w1.alloc (.cells (ec ex) 24)).alloc (.cells row64 5)).alloc (.cells row64 5)).drew := by
  have h := heap_alloc_new w1 (Obj.cells (ec ex) 24)
  exact ⟨_, rfl, ⟨(Lib.alloc_old ((w1.alloc (.cells (ec ex) 24)).alloc (.cells row64 5)) _ _ (by simp; omega)).trans ((Lib.alloc_old (w1.alloc (.cells (ec ex) 24)) _ _ (by simp)).trans h)⟩, ((((Below.refl _ _).alloc (Nat.le_refl _) _).alloc (by simp) _).alloc (by simp; omega) _).drew, by omega⟩

/-- Both entries lie where they lay. -/
def S4 (w : World) (g g' : Nat) (W : World) : Prop := Bx g ex 24 W ∧ Bx g' ey 24 W ∧ Below w.heap.size w W ∧ Tab W
theorem S4.on {w W w1 : World} {g g' : Nat} (h : S4 w g g' W) (hb : Below W.heap.size W w1) : S4 w g g' w1 := ⟨h.1.below hb, h.2.1.below hb, h.2.2.1.trans (hb.mono h.2.2.1.size), h.2.2.2.below hb⟩
def C4 (g g' : Nat) (W : World) : Prop := W.cell? ⟨g, 0, none⟩ = some (.int .u64 1) ∧ W.cell? ⟨g, 1, none⟩ = some (.int .u64 1) ∧ W.cell? ⟨g, 2, none⟩ = some (.int .i64 11) ∧ W.cell? ⟨g, 3, none⟩ = some (.int .u64 1) ∧ W.cell? ⟨g, 4, none⟩ = some (.int .u64 18446744073709551615) ∧ W.cell? ⟨g, 5, none⟩ = some (.int .u64 4294967295) ∧ W.cell? ⟨g, 6, none⟩ = some (.int .u64 0) ∧ W.cell? ⟨g, 7, none⟩ = some (.int .i64 0) ∧ W.cell? ⟨g, 8, none⟩ = some (.int .i64 0) ∧ W.cell? ⟨g, 9, none⟩ = some (.string z64) ∧ W.cell? ⟨g, 10, none⟩ = some (.string z64) ∧ W.cell? ⟨g', 0, none⟩ = some (.int .u64 18446744073709551615) ∧ W.cell? ⟨g', 1, none⟩ = some (.int .u64 1) ∧ W.cell? ⟨g', 2, none⟩ = some (.int .i64 7) ∧ W.cell? ⟨g', 3, none⟩ = some (.int .u64 0) ∧ W.cell? ⟨g', 4, none⟩ = some (.int .u64 0) ∧ W.cell? ⟨g', 5, none⟩ = some (.int .u64 0) ∧ W.cell? ⟨g', 6, none⟩ = some (.int .u64 0) ∧ W.cell? ⟨g', 7, none⟩ = some (.int .i64 7) ∧ W.cell? ⟨g', 8, none⟩ = some (.int .i64 2) ∧ W.cell? ⟨g', 9, none⟩ = some (.string ⟨#[]⟩) ∧ W.cell? ⟨g', 10, none⟩ = some (.string ⟨#[]⟩)
theorem S4.cs {w W : World} {g g' : Nat} (h : S4 w g g' W) : C4 g g' W := ⟨h.1.cell 0, h.1.cell 1, h.1.cell 2, h.1.cell 3, h.1.cell 4, h.1.cell 5, h.1.cell 6, h.1.cell 7, h.1.cell 8, h.1.cell 9, h.1.cell 10, h.2.1.cell 0, h.2.1.cell 1, h.2.1.cell 2, h.2.1.cell 3, h.2.1.cell 4, h.2.1.cell 5, h.2.1.cell 6, h.2.1.cell 7, h.2.1.cell 8, h.2.1.cell 9, h.2.1.cell 10⟩
theorem Bx.frozen {B0 : Nat} {e : En} {T : TypeId} {w : World} (h : Bx B0 e T w) (i : Nat) : w.frozen? ⟨B0, i, none⟩ = false := by
  have := h.bx
  simp [World.frozen?, this]
theorem okx : ex.Ok := by constructor <;> decide +kernel
theorem oky : ey.Ok := by constructor <;> decide +kernel
theorem rightx : rightB ex = true := by decide +kernel
theorem righty : rightB ey = true := by decide +kernel
abbrev w_0 : En := ⟨1, 1, 11, 1, 18446744073709551615, 4294967296, 0, 0, 0, z64, z64⟩
theorem wrong0 (W : World) : Calls Tryd.prog 13 #[ev w_0] W fun r w' => r = .returned (.bool false) ∧ Below W.heap.size W w' :=
  (right_any w_0 W (by constructor <;> decide +kernel)).mono fun r w' ⟨h1, h2⟩ => ⟨by rw [h1, show rightB w_0 = false by decide +kernel], h2⟩
abbrev w_1 : En := ⟨1, 1, 11, 1, 18446744073709551615, 4294967295, 0, 0, 0, z64 ++ ⟨#[120]⟩, z64⟩
theorem wrong1 (W : World) : Calls Tryd.prog 13 #[ev w_1] W fun r w' => r = .returned (.bool false) ∧ Below W.heap.size W w' :=
  (right_any w_1 W (by constructor <;> decide +kernel)).mono fun r w' ⟨h1, h2⟩ => ⟨by rw [h1, show rightB w_1 = false by decide +kernel], h2⟩
abbrev w_2 : En := ⟨1, 1, 11, 1, 18446744073709551615, 4294967295, 0, 0, 0, z64, z64 ++ ⟨#[120]⟩⟩
theorem wrong2 (W : World) : Calls Tryd.prog 13 #[ev w_2] W fun r w' => r = .returned (.bool false) ∧ Below W.heap.size W w' :=
  (right_any w_2 W (by constructor <;> decide +kernel)).mono fun r w' ⟨h1, h2⟩ => ⟨by rw [h1, show rightB w_2 = false by decide +kernel], h2⟩
abbrev w_3 : En := ⟨1, 1, 11, 0, 18446744073709551615, 4294967295, 0, 0, 0, z64, z64⟩
theorem wrong3 (W : World) : Calls Tryd.prog 13 #[ev w_3] W fun r w' => r = .returned (.bool false) ∧ Below W.heap.size W w' :=
  (right_any w_3 W (by constructor <;> decide +kernel)).mono fun r w' ⟨h1, h2⟩ => ⟨by rw [h1, show rightB w_3 = false by decide +kernel], h2⟩
abbrev w_4 : En := ⟨1, 1, 11, 1, 18446744073709551615, 4294967295, 1, 0, 0, z64, z64⟩
theorem wrong4 (W : World) : Calls Tryd.prog 13 #[ev w_4] W fun r w' => r = .returned (.bool false) ∧ Below W.heap.size W w' :=
  (right_any w_4 W (by constructor <;> decide +kernel)).mono fun r w' ⟨h1, h2⟩ => ⟨by rw [h1, show rightB w_4 = false by decide +kernel], h2⟩
abbrev w_5 : En := ⟨18446744073709551615, 1, 7, 0, 0, 0, 0, 8, 2, ⟨#[]⟩, ⟨#[]⟩⟩
theorem wrong5 (W : World) : Calls Tryd.prog 13 #[ev w_5] W fun r w' => r = .returned (.bool false) ∧ Below W.heap.size W w' :=
  (right_any w_5 W (by constructor <;> decide +kernel)).mono fun r w' ⟨h1, h2⟩ => ⟨by rw [h1, show rightB w_5 = false by decide +kernel], h2⟩
abbrev w_6 : En := ⟨18446744073709551615, 1, 7, 0, 0, 0, 0, 0, 2, ⟨#[]⟩, ⟨#[]⟩⟩
theorem wrong6 (W : World) : Calls Tryd.prog 13 #[ev w_6] W fun r w' => r = .returned (.bool false) ∧ Below W.heap.size W w' :=
  (right_any w_6 W (by constructor <;> decide +kernel)).mono fun r w' ⟨h1, h2⟩ => ⟨by rw [h1, show rightB w_6 = false by decide +kernel], h2⟩
abbrev w_7 : En := ⟨18446744073709551615, 1, 7, 0, 0, 0, 0, 7, 3, ⟨#[]⟩, ⟨#[]⟩⟩
theorem wrong7 (W : World) : Calls Tryd.prog 13 #[ev w_7] W fun r w' => r = .returned (.bool false) ∧ Below W.heap.size W w' :=
  (right_any w_7 W (by constructor <;> decide +kernel)).mono fun r w' ⟨h1, h2⟩ => ⟨by rw [h1, show rightB w_7 = false by decide +kernel], h2⟩
abbrev w_8 : En := ⟨0, 1, 7, 0, 0, 0, 0, 7, 2, ⟨#[]⟩, ⟨#[]⟩⟩
theorem wrong8 (W : World) : Calls Tryd.prog 13 #[ev w_8] W fun r w' => r = .returned (.bool false) ∧ Below W.heap.size W w' :=
  (right_any w_8 W (by constructor <;> decide +kernel)).mono fun r w' ⟨h1, h2⟩ => ⟨by rw [h1, show rightB w_8 = false by decide +kernel], h2⟩
abbrev w_9 : En := ⟨18446744073709551615, 0, 7, 0, 0, 0, 0, 7, 2, ⟨#[]⟩, ⟨#[]⟩⟩
theorem wrong9 (W : World) : Calls Tryd.prog 13 #[ev w_9] W fun r w' => r = .returned (.bool false) ∧ Below W.heap.size W w' :=
  (right_any w_9 W (by constructor <;> decide +kernel)).mono fun r w' ⟨h1, h2⟩ => ⟨by rw [h1, show rightB w_9 = false by decide +kernel], h2⟩
set_option maxRecDepth 100000 in
set_option maxHeartbeats 16000000 in
theorem bounds_any (n : Nat) (w : World) (hn : n < 256) (ht : Tab w) : Calls Tryd.prog 8 #[.int .u8 n] w fun r w' => r = .returned (.bool true) ∧ Below w.heap.size w w' := by
  have KE := Lib.hid (examples_any w ht)
  have HT := Lib.hid ht
  have hmk := mk64
  have v0 : ∀ w1 : World, (convert 52 9 (.slice (some ⟨w1.heap.size, 0, none⟩) 64 64)).run Tryd.prog (w1.alloc (.cells row64 5)).drew = .ok (.string z64) (w1.alloc (.cells row64 5)).drew := fun w1 => by
      have h := heap_alloc_new w1 (Obj.cells row64 5)
      rw [show w1.heap.size = w1.heap.size by simp] at h
      exact cv64 (show (w1.alloc (.cells row64 5)).drew.heap[w1.heap.size]? = _ from h)
  have v1 : ∀ w1 : World, (convert 52 9 (.slice (some ⟨w1.heap.size, 0, none⟩) 64 64)).run Tryd.prog ((w1.alloc (.cells row64 5)).alloc (.cells row64 5)).drew = .ok (.string z64) ((w1.alloc (.cells row64 5)).alloc (.cells row64 5)).drew := fun w1 => by
      have h := heap_alloc_new w1 (Obj.cells row64 5)
      rw [show w1.heap.size = w1.heap.size by simp] at h
      exact cv64 (show ((w1.alloc (.cells row64 5)).alloc (.cells row64 5)).drew.heap[w1.heap.size]? = _ from ((Lib.alloc_old (w1.alloc (.cells row64 5)) _ _ (by first | (simp; done) | (simp; omega))).trans h))
  have v2 : ∀ w1 : World, (convert 52 9 (.slice (some ⟨w1.heap.size + 1, 0, none⟩) 64 64)).run Tryd.prog ((w1.alloc (.cells row64 5)).alloc (.cells row64 5)).drew = .ok (.string z64) ((w1.alloc (.cells row64 5)).alloc (.cells row64 5)).drew := fun w1 => by
      have h := heap_alloc_new (w1.alloc (.cells row64 5)) (Obj.cells row64 5)
      rw [show (w1.alloc (.cells row64 5)).heap.size = w1.heap.size + 1 by simp] at h
      exact cv64 (show ((w1.alloc (.cells row64 5)).alloc (.cells row64 5)).drew.heap[w1.heap.size + 1]? = _ from h)
  have v3 : ∀ w1 : World, (convert 52 9 (.slice (some ⟨w1.heap.size, 0, none⟩) 64 64)).run Tryd.prog (((w1.alloc (.cells row64 5)).alloc (.cells row64 5)).alloc (.cells (ec ez) 24)).drew = .ok (.string z64) (((w1.alloc (.cells row64 5)).alloc (.cells row64 5)).alloc (.cells (ec ez) 24)).drew := fun w1 => by
      have h := heap_alloc_new w1 (Obj.cells row64 5)
      rw [show w1.heap.size = w1.heap.size by simp] at h
      exact cv64 (show (((w1.alloc (.cells row64 5)).alloc (.cells row64 5)).alloc (.cells (ec ez) 24)).drew.heap[w1.heap.size]? = _ from ((Lib.alloc_old ((w1.alloc (.cells row64 5)).alloc (.cells row64 5)) _ _ (by first | (simp; done) | (simp; omega))).trans ((Lib.alloc_old (w1.alloc (.cells row64 5)) _ _ (by first | (simp; done) | (simp; omega))).trans h)))
  have v4 : ∀ w1 : World, (convert 52 9 (.slice (some ⟨w1.heap.size + 1, 0, none⟩) 64 64)).run Tryd.prog (((w1.alloc (.cells row64 5)).alloc (.cells row64 5)).alloc (.cells (ec ez) 24)).drew = .ok (.string z64) (((w1.alloc (.cells row64 5)).alloc (.cells row64 5)).alloc (.cells (ec ez) 24)).drew := fun w1 => by
      have h := heap_alloc_new (w1.alloc (.cells row64 5)) (Obj.cells row64 5)
      rw [show (w1.alloc (.cells row64 5)).heap.size = w1.heap.size + 1 by simp] at h
      exact cv64 (show (((w1.alloc (.cells row64 5)).alloc (.cells row64 5)).alloc (.cells (ec ez) 24)).drew.heap[w1.heap.size + 1]? = _ from ((Lib.alloc_old ((w1.alloc (.cells row64 5)).alloc (.cells row64 5)) _ _ (by first | (simp; done) | (simp; omega))).trans h))
  have v5 : ∀ w1 : World, (convert 52 9 (.slice (some ⟨w1.heap.size, 0, none⟩) 64 64)).run Tryd.prog ((w1.alloc (.cells row64 5)).alloc (.cells (ec ez) 24)).drew = .ok (.string z64) ((w1.alloc (.cells row64 5)).alloc (.cells (ec ez) 24)).drew := fun w1 => by
      have h := heap_alloc_new w1 (Obj.cells row64 5)
      rw [show w1.heap.size = w1.heap.size by simp] at h
      exact cv64 (show ((w1.alloc (.cells row64 5)).alloc (.cells (ec ez) 24)).drew.heap[w1.heap.size]? = _ from ((Lib.alloc_old (w1.alloc (.cells row64 5)) _ _ (by first | (simp; done) | (simp; omega))).trans h))
  have v6 : ∀ w1 : World, (convert 52 9 (.slice (some ⟨w1.heap.size, 0, none⟩) 64 64)).run Tryd.prog (((w1.alloc (.cells row64 5)).alloc (.cells (ec ez) 24)).alloc (.cells row64 5)).drew = .ok (.string z64) (((w1.alloc (.cells row64 5)).alloc (.cells (ec ez) 24)).alloc (.cells row64 5)).drew := fun w1 => by
      have h := heap_alloc_new w1 (Obj.cells row64 5)
      rw [show w1.heap.size = w1.heap.size by simp] at h
      exact cv64 (show (((w1.alloc (.cells row64 5)).alloc (.cells (ec ez) 24)).alloc (.cells row64 5)).drew.heap[w1.heap.size]? = _ from ((Lib.alloc_old ((w1.alloc (.cells row64 5)).alloc (.cells (ec ez) 24)) _ _ (by first | (simp; done) | (simp; omega))).trans ((Lib.alloc_old (w1.alloc (.cells row64 5)) _ _ (by first | (simp; done) | (simp; omega))).trans h)))
  have v7 : ∀ w1 : World, (convert 52 9 (.slice (some ⟨w1.heap.size + 1 + 1, 0, none⟩) 64 64)).run Tryd.prog (((w1.alloc (.cells row64 5)).alloc (.cells (ec ez) 24)).alloc (.cells row64 5)).drew = .ok (.string z64) (((w1.alloc (.cells row64 5)).alloc (.cells (ec ez) 24)).alloc (.cells row64 5)).drew := fun w1 => by
      have h := heap_alloc_new ((w1.alloc (.cells row64 5)).alloc (.cells (ec ez) 24)) (Obj.cells row64 5)
      rw [show ((w1.alloc (.cells row64 5)).alloc (.cells (ec ez) 24)).heap.size = w1.heap.size + 1 + 1 by simp] at h
      exact cv64 (show (((w1.alloc (.cells row64 5)).alloc (.cells (ec ez) 24)).alloc (.cells row64 5)).drew.heap[w1.heap.size + 1 + 1]? = _ from h)
  have v8 : ∀ w1 : World, (convert 52 9 (.slice (some ⟨w1.heap.size + 1, 0, none⟩) 64 64)).run Tryd.prog ((w1.alloc (.cells (ec ez) 24)).alloc (.cells row64 5)).drew = .ok (.string z64) ((w1.alloc (.cells (ec ez) 24)).alloc (.cells row64 5)).drew := fun w1 => by
      have h := heap_alloc_new (w1.alloc (.cells (ec ez) 24)) (Obj.cells row64 5)
      rw [show (w1.alloc (.cells (ec ez) 24)).heap.size = w1.heap.size + 1 by simp] at h
      exact cv64 (show ((w1.alloc (.cells (ec ez) 24)).alloc (.cells row64 5)).drew.heap[w1.heap.size + 1]? = _ from h)
  have v9 : ∀ w1 : World, (convert 52 9 (.slice (some ⟨w1.heap.size + 1, 0, none⟩) 64 64)).run Tryd.prog (((w1.alloc (.cells (ec ez) 24)).alloc (.cells row64 5)).alloc (.cells row64 5)).drew = .ok (.string z64) (((w1.alloc (.cells (ec ez) 24)).alloc (.cells row64 5)).alloc (.cells row64 5)).drew := fun w1 => by
      have h := heap_alloc_new (w1.alloc (.cells (ec ez) 24)) (Obj.cells row64 5)
      rw [show (w1.alloc (.cells (ec ez) 24)).heap.size = w1.heap.size + 1 by simp] at h
      exact cv64 (show (((w1.alloc (.cells (ec ez) 24)).alloc (.cells row64 5)).alloc (.cells row64 5)).drew.heap[w1.heap.size + 1]? = _ from ((Lib.alloc_old ((w1.alloc (.cells (ec ez) 24)).alloc (.cells row64 5)) _ _ (by first | (simp; done) | (simp; omega))).trans h))
  have v10 : ∀ w1 : World, (convert 52 9 (.slice (some ⟨w1.heap.size + 1 + 1, 0, none⟩) 64 64)).run Tryd.prog (((w1.alloc (.cells (ec ez) 24)).alloc (.cells row64 5)).alloc (.cells row64 5)).drew = .ok (.string z64) (((w1.alloc (.cells (ec ez) 24)).alloc (.cells row64 5)).alloc (.cells row64 5)).drew := fun w1 => by
      have h := heap_alloc_new ((w1.alloc (.cells (ec ez) 24)).alloc (.cells row64 5)) (Obj.cells row64 5)
      rw [show ((w1.alloc (.cells (ec ez) 24)).alloc (.cells row64 5)).heap.size = w1.heap.size + 1 + 1 by simp] at h
      exact cv64 (show (((w1.alloc (.cells (ec ez) 24)).alloc (.cells row64 5)).alloc (.cells row64 5)).drew.heap[w1.heap.size + 1 + 1]? = _ from h)
  clear ht
  go_enter Tryd.func8, Tryd.ntmps8
  go_wp2_with (first
    | (go_at_call 9; (with_reducible refine KE.out.mono ?_); rintro r w1 ⟨rfl, hb1⟩))
  go_upto_region 4 with fail
  go_cut [4] from 9 to 13 (fun s4 wx => CutB w1 s4 wx)
  case first =>
    go_region
    all_goals
      go_wp2_with fail
      go_meet
      first
        | exact cutB1 w1
        | exact cutB2 w1
        | exact cutB3 w1
  case rest =>
    clear v0 v1 v2 v3 v4 v5 v6 v7 v8 v9 v10
    obtain ⟨g, rfl, hbx, hbe, hg⟩ := hcut
    have hbw : Below w.heap.size w wc := hb1.trans (hbe.mono hb1.size)
    have hgl : g < wc.heap.size := hbx.lt
    have s0 : S4 w g wc.heap.size (wc.alloc (Obj.cells (ec ey) 24)) := by
      have hb := hbw.alloc (o := Obj.cells (ec ey) 24) hbw.size
      exact ⟨⟨(Lib.alloc_old wc _ g hgl).trans hbx.bx⟩, ⟨heap_alloc_new wc _⟩, hb, HT.out.below hb⟩
    have hX : ∀ W, S4 w g wc.heap.size W → Calls Tryd.prog 13 #[ev ex] W fun r w' => r = .returned (.bool true) ∧ S4 w g wc.heap.size w' ∧ C4 g wc.heap.size w' := fun W h => (right_any ex W okx).mono fun r w' ⟨h1, h2⟩ => ⟨by rw [h1, rightx], h.on h2, (h.on h2).cs⟩
    have hY : ∀ W, S4 w g wc.heap.size W → Calls Tryd.prog 13 #[ev ey] W fun r w' => r = .returned (.bool true) ∧ S4 w g wc.heap.size w' ∧ C4 g wc.heap.size w' := fun W h => (right_any ey W oky).mono fun r w' ⟨h1, h2⟩ => ⟨by rw [h1, righty], h.on h2, (h.on h2).cs⟩
    obtain ⟨a0, a1, a2, a3, a4, a5, a6, a7, a8, a9, a10, -⟩ := s0.cs
    have hg2 : w.heap.size ≤ g := Nat.le_trans hb1.size hg
    have hg3 : w.heap.size ≤ wc.heap.size := hbw.size
    have S0 := Lib.hid s0
    have KX := Lib.hid hX
    have KY := Lib.hid hY
    clear s0 hX hY hbx
    go_wp2_with (first
      | (go_at_call 13; (with_reducible refine (KX.out _ S0.out).mono ?_); rintro r w2 ⟨rfl, s2, b0, b1, b2, b3, b4, b5, b6, b7, b8, b9, b10, c0, c1, c2, c3, c4, c5, c6, c7, c8, c9, c10⟩)
      | (go_at_call 13; (with_reducible refine (KY.out _ s2).mono ?_); rintro r w3 ⟨rfl, s3, d0, d1, d2, d3, d4, d5, d6, d7, d8, d9, d10, e0, e1, e2, e3, e4, e5, e6, e7, e8, e9, e10⟩; have fz1 := s3.1.frozen; have fz2 := s3.2.1.frozen; have B3 := Lib.hid s3.2.2.1)
      | (go_at_call 13; (with_reducible refine (wrong0 _).mono ?_); rintro r w5 ⟨rfl, hb5⟩)
      | (go_at_call 13; (with_reducible refine (wrong1 _).mono ?_); rintro r w5 ⟨rfl, hb5⟩)
      | (go_at_call 13; (with_reducible refine (wrong2 _).mono ?_); rintro r w5 ⟨rfl, hb5⟩)
      | (go_at_call 13; (with_reducible refine (wrong3 _).mono ?_); rintro r w5 ⟨rfl, hb5⟩)
      | (go_at_call 13; (with_reducible refine (wrong4 _).mono ?_); rintro r w5 ⟨rfl, hb5⟩)
      | (go_at_call 13; (with_reducible refine (wrong5 _).mono ?_); rintro r w5 ⟨rfl, hb5⟩)
      | (go_at_call 13; (with_reducible refine (wrong6 _).mono ?_); rintro r w5 ⟨rfl, hb5⟩)
      | (go_at_call 13; (with_reducible refine (wrong7 _).mono ?_); rintro r w5 ⟨rfl, hb5⟩)
      | (go_at_call 13; (with_reducible refine (wrong8 _).mono ?_); rintro r w5 ⟨rfl, hb5⟩)
      | (go_at_call 13; (with_reducible refine (wrong9 _).mono ?_); rintro r w5 ⟨rfl, hb5⟩))
    all_goals
      go_ret
      refine ⟨rfl, Below.trans ?_ (hb5.mono ?_)⟩
      · repeat (with_reducible refine Below.setCell ?_ ?_ _)
        all_goals (first | (with_reducible exact hg2) | (with_reducible exact hg3) | exact B3.out)
      · simp only [World.size_setCell]
        exact B3.out.size
end Go.Proofs.YtclohjcenkpgoaaDoor
