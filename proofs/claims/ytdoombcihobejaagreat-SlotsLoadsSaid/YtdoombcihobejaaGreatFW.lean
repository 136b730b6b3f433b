/-
  The frame's small functions, and Pack, the package's and the document's own: what they return.
  Conditions: texts of at most 2^48 bytes.
-/
import Derived.Test.YtdoombcihobejaaGreatFM
import Derived.MapKept
namespace Go.Proofs.YtdoombcihobejaaGreat
open Go.RowKit
open Vi
set_option linter.unusedVariables false
set_option linter.unusedSimpArgs false
/-- A key that is not there is stored into a map. -/
theorem ins_step {T E : TypeId} {g clock : Nat} {es : Array MapEntry} (c : Int) (v : Value) {B : Nat} {a w : World} (hT : Tryz.prog.underlying T = some (.map 3 E)) (hb : w.heap[g]? = some (.map es clock))
    (hf : Instr.findNow (.int .i64) (.int .i64 c) es.toList 0 = some none) (hbw : Below B a w) (hg : B ≤ g) :
    ∃ w', (Instr.mapUpdate T (.map (some g)) (.int .i64 c) v).run Tryz.prog w = .ok () w' ∧ w'.heap[g]? = some (.map (es.push { key := .int .i64 c, val := v, born := clock }) (clock + 1)) ∧ Below B a w' ∧ (∀ k, k ≠ g → w'.heap[k]? = w.heap[k]?) ∧ w'.heap.size = w.heap.size := by
  have hk : Tryz.prog.underlying 3 = some (.int .i64) := Tryz.underlying3
  have hc : (Instr.checkKey false 10000 3 (.int .i64 c)).run Tryz.prog w = .ok () w := MapKept.run_checkKey (k := .int .i64 c) hk (by simp [MapKept.IsKey]) false 9999
  refine ⟨{ w with heap := w.heap.setIfInBounds g (.map (es.push { key := .int .i64 c, val := v, born := clock }) (clock + 1)) }, ?_, ?_, ?_, ?_, by simp⟩
  · simp [Instr.mapUpdate, run_underlying hT, MapKept.run_getObj_map hb, hc, MapKept.run_findKey hk hf, MapKept.run_setObj_map _ hb, Result.andThen]
  · exact (MapKept.heap_set hb).1
  · refine ⟨hbw.os, hbw.tape, hbw.output, by simpa using hbw.size, fun k hk => ?_⟩
    exact ((MapKept.heap_set hb).2 k (by omega)).trans (hbw.block k hk)
  · exact fun k hk => (MapKept.heap_set hb).2 k hk
/-- What a key holds is looked up. -/
theorem look_step {T E : TypeId} {g clock i : Nat} {es : Array MapEntry} (c : Int) (v : Value) {w : World} (hT : Tryz.prog.underlying T = some (.map 3 E)) (hb : w.heap[g]? = some (.map es clock))
    (hf : Instr.findNow (.int .i64) (.int .i64 c) es.toList 0 = some (some (i, v))) :
    (Instr.lookup T (.map (some g)) (.int .i64 c) true).run Tryz.prog w = .ok (.tuple #[v, .bool true]) w := by
  have hk : Tryz.prog.underlying 3 = some (.int .i64) := Tryz.underlying3
  have hc : (Instr.checkKey es.isEmpty 10000 3 (.int .i64 c)).run Tryz.prog w = .ok () w := MapKept.run_checkKey (k := .int .i64 c) hk (by simp [MapKept.IsKey]) es.isEmpty 9999
  simp [Instr.lookup, run_underlying hT, MapKept.run_getObj_map hb, hc, MapKept.run_findKey hk hf, Result.andThen]
theorem look_none {T E : TypeId} {g clock : Nat} {es : Array MapEntry} (c : Int) {w : World} (hT : Tryz.prog.underlying T = some (.map 3 E)) (hE : ∀ w, (zeroValue E).run Tryz.prog w = .ok .nilFunc w) (hb : w.heap[g]? = some (.map es clock))
    (hf : Instr.findNow (.int .i64) (.int .i64 c) es.toList 0 = some none) :
    (Instr.lookup T (.map (some g)) (.int .i64 c) true).run Tryz.prog w = .ok (.tuple #[.nilFunc, .bool false]) w := by
  have hk : Tryz.prog.underlying 3 = some (.int .i64) := Tryz.underlying3
  have hc : (Instr.checkKey es.isEmpty 10000 3 (.int .i64 c)).run Tryz.prog w = .ok () w := MapKept.run_checkKey (k := .int .i64 c) hk (by simp [MapKept.IsKey]) es.isEmpty 9999
  simp [Instr.lookup, run_underlying hT, MapKept.run_getObj_map hb, hc, MapKept.run_findKey hk hf, hE, Result.andThen]
/-- A map of two. -/
abbrev two (a b : Value) : Array MapEntry := #[{ key := .int .i64 1, val := a, born := 0 }, { key := .int .i64 2, val := b, born := 1 }]
theorem two_1 (a b : Value) : Instr.findNow (.int .i64) (.int .i64 1) (two a b).toList 0 = some (some (0, a)) := rfl
theorem two_2 (a b : Value) : Instr.findNow (.int .i64) (.int .i64 2) (two a b).toList 0 = some (some (1, b)) := rfl
theorem two_n (a b : Value) (c : Int) (h1 : c ≠ 1) (h2 : c ≠ 2) : Instr.findNow (.int .i64) (.int .i64 c) (two a b).toList 0 = some none := by
  have e1 : (c == 1) = false := by simpa using h1
  have e2 : (c == 2) = false := by simpa using h2
  simp [Instr.findNow, Instr.sameNow, e1, e2]
abbrev fv (n : Nat) : Value := .func (.func n) #[] #[]
theorem fx_small (h b : ByteArray) (n : Nat) (hh : h.size ≤ 11) (hb : b.size ≤ 1048576) : (h ++ sealB h b).size + b.size ≤ 9223372036854775807 := by
  rw [ByteArray.size_append, seal_size]; omega
theorem pk_cases (v : Int) (b : ByteArray) : ((v = 1 ∨ v = 2) ∧ b.size ≤ 1048576 ∧ pkO v b = true ∧ pkS v b = pack v b) ∨ ((v = 1 ∨ v = 2) ∧ 1048576 < b.size ∧ pkO v b = false ∧ pkS v b = ⟨#[]⟩) ∨ (v ≠ 1 ∧ v ≠ 2 ∧ pkO v b = false ∧ pkS v b = ⟨#[]⟩) := by
  have hs : pkS v b = if pkO v b then pack v b else ⟨#[]⟩ := rfl
  by_cases hv : v = 1 ∨ v = 2
  · have e : (decide (v = 1) || decide (v = 2)) = true := by rcases hv with rfl | rfl <;> rfl
    by_cases hb : b.size ≤ 1048576
    · have ho : pkO v b = true := by unfold pkO; rw [e, decide_eq_true hb]; rfl
      exact .inl ⟨hv, hb, ho, by rw [hs, if_pos ho]⟩
    · have ho : pkO v b = false := by unfold pkO; rw [decide_eq_false hb]; cases (decide (v = 1) || decide (v = 2)) <;> rfl
      exact .inr (.inl ⟨hv, by omega, ho, by rw [hs, ho]; rfl⟩)
  · have h1 : v ≠ 1 := fun h => hv (.inl h)
    have h2 : v ≠ 2 := fun h => hv (.inr h)
    have ho : pkO v b = false := by unfold pkO; rw [decide_eq_false h1, decide_eq_false h2]; rfl
    exact .inr (.inr ⟨h1, h2, ho, by rw [hs, ho]; rfl⟩)
theorem one_cell (a : Int) (w : World) : ∀ i, i < 1 → (w.alloc (.cells #[.int .u8 a] 5)).cell? ⟨w.heap.size, 0 + i, none⟩ = some (.int .u8 ([a].getD i 0))
  | 0, _ => by simp
  | k + 1, h => by omega
theorem mark_eq (v : Nat) (h : v < 256) : strOfNums [(v : Int)] = fxB v 1 := by
  have e : fxB v 1 = str (fx v 1) := fxB_eq v 1 (by omega)
  rw [e]
  show strOfNums [(v : Int)] = strOfNums [((v / 256 ^ 0 % 256 : Nat) : Int)]
  have e2 : v / 256 ^ 0 % 256 = v := by rw [Nat.pow_zero, Nat.div_one]; omega
  rw [e2]
theorem mark161 : strOfNums [(161 : Int)] = fxB 161 1 := mark_eq 161 (by omega)
theorem mark162 : strOfNums [(162 : Int)] = fxB 162 1 := mark_eq 162 (by omega)
theorem moreB_app (h b : ByteArray) : Crc.moreB 0 (h ++ b) = Crc.moreB (Crc.moreB 0 h) b := by
  unfold Crc.moreB
  rw [Crc.more_append]
  congr 1
end Go.Proofs.YtdoombcihobejaaGreat
