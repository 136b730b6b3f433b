/-
  The map of what each kind does.
  Conditions: named in each theorem.
-/
import Derived.Test.YtmencfmjmbbfhaaDoorLRh
import Derived.MapKept
namespace Go.Proofs.YtmencfmjmbbfhaaDoor
open Go.RowKit
set_option linter.unusedVariables false
set_option linter.unusedSimpArgs false
/-- A key that is not there is stored into a map. -/
theorem ins_step {T E : TypeId} {g clock : Nat} {es : Array MapEntry} (c : Int) (v : Value) {B : Nat} {a w : World} (hT : Tryd.prog.underlying T = some (.map 3 E)) (hb : w.heap[g]? = some (.map es clock))
    (hf : Instr.findNow (.int .i64) (.int .i64 c) es.toList 0 = some none) (hbw : Below B a w) (hg : B ≤ g) :
    ∃ w', (Instr.mapUpdate T (.map (some g)) (.int .i64 c) v).run Tryd.prog w = .ok () w' ∧ w'.heap[g]? = some (.map (es.push { key := .int .i64 c, val := v, born := clock }) (clock + 1)) ∧ Below B a w' ∧ (∀ k, k ≠ g → w'.heap[k]? = w.heap[k]?) ∧ w'.heap.size = w.heap.size := by
  have hk : Tryd.prog.underlying 3 = some (.int .i64) := Tryd.underlying3
  have hc : (Instr.checkKey false 10000 3 (.int .i64 c)).run Tryd.prog w = .ok () w := MapKept.run_checkKey (k := .int .i64 c) hk (by simp [MapKept.IsKey]) false 9999
  refine ⟨{ w with heap := w.heap.setIfInBounds g (.map (es.push { key := .int .i64 c, val := v, born := clock }) (clock + 1)) }, ?_, ?_, ?_, ?_, by simp⟩
  · simp [Instr.mapUpdate, run_underlying hT, MapKept.run_getObj_map hb, hc, MapKept.run_findKey hk hf, MapKept.run_setObj_map _ hb, Result.andThen]
  · exact (MapKept.heap_set hb).1
  · refine ⟨hbw.os, hbw.tape, hbw.output, by simpa using hbw.size, fun k hk => ?_⟩
    exact ((MapKept.heap_set hb).2 k (by omega)).trans (hbw.block k hk)
  · exact fun k hk => (MapKept.heap_set hb).2 k hk
/-- What a key holds is looked up. -/
theorem look_step {T E : TypeId} {g clock i : Nat} {es : Array MapEntry} (c : Int) (v : Value) {w : World} (hT : Tryd.prog.underlying T = some (.map 3 E)) (hb : w.heap[g]? = some (.map es clock))
    (hf : Instr.findNow (.int .i64) (.int .i64 c) es.toList 0 = some (some (i, v))) :
    (Instr.lookup T (.map (some g)) (.int .i64 c) true).run Tryd.prog w = .ok (.tuple #[v, .bool true]) w := by
  have hk : Tryd.prog.underlying 3 = some (.int .i64) := Tryd.underlying3
  have hc : (Instr.checkKey es.isEmpty 10000 3 (.int .i64 c)).run Tryd.prog w = .ok () w := MapKept.run_checkKey (k := .int .i64 c) hk (by simp [MapKept.IsKey]) es.isEmpty 9999
  simp [Instr.lookup, run_underlying hT, MapKept.run_getObj_map hb, hc, MapKept.run_findKey hk hf, Result.andThen]
theorem look_none {T E : TypeId} {g clock : Nat} {es : Array MapEntry} (c : Int) {w : World} (hT : Tryd.prog.underlying T = some (.map 3 E)) (hE : ∀ w, (zeroValue E).run Tryd.prog w = .ok .nilFunc w) (hb : w.heap[g]? = some (.map es clock))
    (hf : Instr.findNow (.int .i64) (.int .i64 c) es.toList 0 = some none) :
    (Instr.lookup T (.map (some g)) (.int .i64 c) true).run Tryd.prog w = .ok (.tuple #[.nilFunc, .bool false]) w := by
  have hk : Tryd.prog.underlying 3 = some (.int .i64) := Tryd.underlying3
  have hc : (Instr.checkKey es.isEmpty 10000 3 (.int .i64 c)).run Tryd.prog w = .ok () w := MapKept.run_checkKey (k := .int .i64 c) hk (by simp [MapKept.IsKey]) es.isEmpty 9999
  simp [Instr.lookup, run_underlying hT, MapKept.run_getObj_map hb, hc, MapKept.run_findKey hk hf, hE, Result.andThen]
abbrev fv (n : Nat) : Value := .func (.func n) #[] #[]
abbrev me (k : Int) (n b : Nat) : MapEntry := { key := .int .i64 k, val := fv n, born := b }
abbrev six : Array MapEntry := #[me 5 46 0, me 6 47 1, me 7 48 2, me 8 49 3, me 9 50 4, me 10 51 5]
theorem six_n (c : Int) (h : c < 5 ∨ 10 < c) : Instr.findNow (.int .i64) (.int .i64 c) six.toList 0 = some none := by
  have e1 : (c == 5) = false := beq_eq_false_iff_ne.2 (by omega)
  have e2 : (c == 6) = false := beq_eq_false_iff_ne.2 (by omega)
  have e3 : (c == 7) = false := beq_eq_false_iff_ne.2 (by omega)
  have e4 : (c == 8) = false := beq_eq_false_iff_ne.2 (by omega)
  have e5 : (c == 9) = false := beq_eq_false_iff_ne.2 (by omega)
  have e6 : (c == 10) = false := beq_eq_false_iff_ne.2 (by omega)
  simp [Instr.findNow, Instr.sameNow, e1, e2, e3, e4, e5, e6]
set_option maxHeartbeats 2000000 in
set_option maxRecDepth 100000 in
theorem changes_any (w : World) :
    Calls Tryd.prog 25 #[] w fun e w' => e = .returned (.map (some w.heap.size)) ∧ w'.heap[w.heap.size]? = some (.map six 6) ∧ Below w.heap.size w w' := by
  have hmm := @run_makeMap Tryd.prog
  obtain ⟨w1, e1, h1, b1, _, _⟩ := ins_step (T := 59) 5 (fv 46) Tryd.underlying59 (heap_alloc_new w (.map #[] 0)) rfl ((Below.refl _ _).alloc (Nat.le_refl _) _) (Nat.le_refl _)
  obtain ⟨w2, e2, h2, b2, _, _⟩ := ins_step (T := 59) 6 (fv 47) Tryd.underlying59 h1 rfl b1 (Nat.le_refl _)
  obtain ⟨w3, e3, h3, b3, _, _⟩ := ins_step (T := 59) 7 (fv 48) Tryd.underlying59 h2 rfl b2 (Nat.le_refl _)
  obtain ⟨w4, e4, h4, b4, _, _⟩ := ins_step (T := 59) 8 (fv 49) Tryd.underlying59 h3 rfl b3 (Nat.le_refl _)
  obtain ⟨w5, e5, h5, b5, _, _⟩ := ins_step (T := 59) 9 (fv 50) Tryd.underlying59 h4 rfl b4 (Nat.le_refl _)
  obtain ⟨w6, e6, h6, b6, _, _⟩ := ins_step (T := 59) 10 (fv 51) Tryd.underlying59 h5 rfl b5 (Nat.le_refl _)
  have H6 := Lib.hid h6
  have B6 := Lib.hid b6
  clear h1 h2 h3 h4 h5 h6 b1 b2 b3 b4 b5 b6
  go_enter Tryd.func25, Tryd.ntmps25
  go_wp2
  go_ret
  exact ⟨rfl, H6.out, B6.out⟩
end Go.Proofs.YtmencfmjmbbfhaaDoor
