/-
  The maps that tell what each letter tells: they are made, and looked into.
  Conditions: named in each theorem.
-/
import Derived.Test.YtclohjcenkpgoaaDoorRDig
import Derived.MapKept
namespace Go.Proofs.YtclohjcenkpgoaaDoor
open Go.RowKit
set_option linter.unusedVariables false

/-- A key that is not there is stored into a map. -/
theorem ins_step {T E : TypeId} {g clock : Nat} {es : Array MapEntry} (c : Int) (v : Value) {B : Nat} {a w : World} (hT : Tryd.prog.underlying T = some (.map 21 E)) (hb : w.heap[g]? = some (.map es clock))
    (hf : Instr.findNow (.int .i32) (.int .i32 c) es.toList 0 = some none) (hbw : Below B a w) (hg : B ≤ g) :
    ∃ w', (Instr.mapUpdate T (.map (some g)) (.int .i32 c) v).run Tryd.prog w = .ok () w' ∧ w'.heap[g]? = some (.map (es.push { key := .int .i32 c, val := v, born := clock }) (clock + 1)) ∧ Below B a w' := by
  have hk : Tryd.prog.underlying 21 = some (.int .i32) := Tryd.underlying21
  have hc : (Instr.checkKey false 10000 21 (.int .i32 c)).run Tryd.prog w = .ok () w := MapKept.run_checkKey (k := .int .i32 c) hk (by simp [MapKept.IsKey]) false 9999
  refine ⟨{ w with heap := w.heap.setIfInBounds g (.map (es.push { key := .int .i32 c, val := v, born := clock }) (clock + 1)) }, ?_, ?_, ?_⟩
  · simp [Instr.mapUpdate, run_underlying hT, MapKept.run_getObj_map hb, hc, MapKept.run_findKey hk hf, MapKept.run_setObj_map _ hb, Result.andThen]
  · exact (MapKept.heap_set hb).1
  · refine ⟨hbw.os, hbw.tape, hbw.output, by simpa using hbw.size, fun k hk => ?_⟩
    exact ((MapKept.heap_set hb).2 k (by omega)).trans (hbw.block k hk)

/-- What a key holds is looked up. -/
theorem look_step {T E : TypeId} {g clock i : Nat} {es : Array MapEntry} (c : Int) (v : Value) {w : World} (hT : Tryd.prog.underlying T = some (.map 21 E)) (hb : w.heap[g]? = some (.map es clock))
    (hf : Instr.findNow (.int .i32) (.int .i32 c) es.toList 0 = some (some (i, v))) :
    (Instr.lookup T (.map (some g)) (.int .i32 c) false).run Tryd.prog w = .ok v w := by
  have hk : Tryd.prog.underlying 21 = some (.int .i32) := Tryd.underlying21
  have hc : (Instr.checkKey es.isEmpty 10000 21 (.int .i32 c)).run Tryd.prog w = .ok () w := MapKept.run_checkKey (k := .int .i32 c) hk (by simp [MapKept.IsKey]) es.isEmpty 9999
  simp [Instr.lookup, run_underlying hT, MapKept.run_getObj_map hb, hc, MapKept.run_findKey hk hf, Result.andThen]

/-- A function's value. -/
abbrev fv (n : Nat) : Value := .func (.func n) #[] #[]
def me (c : Int) (n k : Nat) : MapEntry := { key := .int .i32 c, val := fv n, born := k }
/-- The map of an entry's letters. -/
def tm : Array MapEntry := #[me 99 51 0, me 98 52 1, me 109 53 2, me 110 54 3, me 108 55 4, me 100 56 5, me 111 57 6]
/-- The map of a message's letters. -/
def mtm : Array MapEntry := #[me 105 64 0, me 112 65 1, me 116 66 2, me 107 67 3, me 121 68 4, me 101 69 5, me 115 70 6]

theorem look_tm {g : Nat} {w : World} (c : Int) (i n : Nat) (hb : w.heap[g]? = some (.map tm 7)) (hf : Instr.findNow (.int .i32) (.int .i32 c) tm.toList 0 = some (some (i, fv n))) :
    (Instr.lookup 61 (.map (some g)) (.int .i32 c) false).run Tryd.prog w = .ok (fv n) w := look_step c (fv n) Tryd.underlying61 hb hf
theorem look_mtm {g : Nat} {w : World} (c : Int) (i n : Nat) (hb : w.heap[g]? = some (.map mtm 7)) (hf : Instr.findNow (.int .i32) (.int .i32 c) mtm.toList 0 = some (some (i, fv n))) :
    (Instr.lookup 71 (.map (some g)) (.int .i32 c) false).run Tryd.prog w = .ok (fv n) w := look_step c (fv n) Tryd.underlying71 hb hf

set_option maxRecDepth 100000 in
set_option maxHeartbeats 1000000 in
theorem tells_any (w : World) :
    Calls Tryd.prog 36 #[] w fun r w' => r = .returned (.map (some w.heap.size)) ∧ w'.heap[w.heap.size]? = some (.map tm 7) ∧ Below w.heap.size w w' := by
  have hmm := @run_makeMap Tryd.prog
  obtain ⟨w1, e1, h1, b1⟩ := ins_step (T := 61) 99 (fv 51) Tryd.underlying61 (heap_alloc_new w (.map #[] 0)) rfl ((Below.refl _ _).alloc (Nat.le_refl _) _) (Nat.le_refl _)
  obtain ⟨w2, e2, h2, b2⟩ := ins_step (T := 61) 98 (fv 52) Tryd.underlying61 h1 rfl b1 (Nat.le_refl _)
  obtain ⟨w3, e3, h3, b3⟩ := ins_step (T := 61) 109 (fv 53) Tryd.underlying61 h2 rfl b2 (Nat.le_refl _)
  obtain ⟨w4, e4, h4, b4⟩ := ins_step (T := 61) 110 (fv 54) Tryd.underlying61 h3 rfl b3 (Nat.le_refl _)
  obtain ⟨w5, e5, h5, b5⟩ := ins_step (T := 61) 108 (fv 55) Tryd.underlying61 h4 rfl b4 (Nat.le_refl _)
  obtain ⟨w6, e6, h6, b6⟩ := ins_step (T := 61) 100 (fv 56) Tryd.underlying61 h5 rfl b5 (Nat.le_refl _)
  obtain ⟨w7, e7, h7, b7⟩ := ins_step (T := 61) 111 (fv 57) Tryd.underlying61 h6 rfl b6 (Nat.le_refl _)
  have H7 : Hid (w7.heap[w.heap.size]? = some (.map tm 7)) := h7
  clear h1 h2 h3 h4 h5 h6 h7 b1 b2 b3 b4 b5 b6
  go_enter Tryd.func36, Tryd.ntmps36
  go_wp2
  go_ret
  exact ⟨rfl, H7.out, b7⟩

set_option maxRecDepth 100000 in
set_option maxHeartbeats 1000000 in
theorem mtells_any (w : World) :
    Calls Tryd.prog 46 #[] w fun r w' => r = .returned (.map (some w.heap.size)) ∧ w'.heap[w.heap.size]? = some (.map mtm 7) ∧ Below w.heap.size w w' := by
  have hmm := @run_makeMap Tryd.prog
  obtain ⟨w1, e1, h1, b1⟩ := ins_step (T := 71) 105 (fv 64) Tryd.underlying71 (heap_alloc_new w (.map #[] 0)) rfl ((Below.refl _ _).alloc (Nat.le_refl _) _) (Nat.le_refl _)
  obtain ⟨w2, e2, h2, b2⟩ := ins_step (T := 71) 112 (fv 65) Tryd.underlying71 h1 rfl b1 (Nat.le_refl _)
  obtain ⟨w3, e3, h3, b3⟩ := ins_step (T := 71) 116 (fv 66) Tryd.underlying71 h2 rfl b2 (Nat.le_refl _)
  obtain ⟨w4, e4, h4, b4⟩ := ins_step (T := 71) 107 (fv 67) Tryd.underlying71 h3 rfl b3 (Nat.le_refl _)
  obtain ⟨w5, e5, h5, b5⟩ := ins_step (T := 71) 121 (fv 68) Tryd.underlying71 h4 rfl b4 (Nat.le_refl _)
  obtain ⟨w6, e6, h6, b6⟩ := ins_step (T := 71) 101 (fv 69) Tryd.underlying71 h5 rfl b5 (Nat.le_refl _)
  obtain ⟨w7, e7, h7, b7⟩ := ins_step (T := 71) 115 (fv 70) Tryd.underlying71 h6 rfl b6 (Nat.le_refl _)
  have H7 : Hid (w7.heap[w.heap.size]? = some (.map mtm 7)) := h7
  clear h1 h2 h3 h4 h5 h6 h7 b1 b2 b3 b4 b5 b6
  go_enter Tryd.func46, Tryd.ntmps46
  go_wp2
  go_ret
  exact ⟨rfl, H7.out, b7⟩
end Go.Proofs.YtclohjcenkpgoaaDoor
