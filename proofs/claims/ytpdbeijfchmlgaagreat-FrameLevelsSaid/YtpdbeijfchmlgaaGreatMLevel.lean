/-
  Of what level a message is: the package's way and the document's.
  Conditions: named in each theorem.
-/
import Derived.Test.YtpdbeijfchmlgaaGreatNMath
import Derived.Test.YtpdbeijfchmlgaaGreatSmall
namespace Go.Proofs.YtpdbeijfchmlgaaGreat
open Go.RowKit
set_option linter.unusedVariables false

/-- Of what level entries are. -/
def lvE (es : List En) : Int := if es.any fun e => e.kind == 11 then 2 else 1
theorem lvE_snoc (es : List En) (e : En) : lvE (es ++ [e]) = max (lvE es) (lvl e.kind) := by
  unfold lvE lvl
  rw [List.any_append]
  simp only [List.any_cons, List.any_nil, Bool.or_false]
  by_cases h : e.kind = 11
  · rw [if_pos h, h]
    cases es.any fun e => e.kind == 11 <;> rfl
  · rw [if_neg h, beqF h]
    cases es.any fun e => e.kind == 11 <;> rfl
theorem lvE_or (es : List En) : lvE es = 1 ∨ lvE es = 2 := by
  unfold lvE
  split
  · exact .inr rfl
  · exact .inl rfl
theorem lvl_or (k : Int) : lvl k = 1 ∨ lvl k = 2 := by
  unfold lvl
  split
  · exact .inr rfl
  · exact .inl rfl
theorem take_snoc {es : List En} {k : Nat} {e : En} (h : es[k]? = some e) : es.take (k + 1) = es.take k ++ [e] := by
  rw [List.take_add_one, h]
  rfl

set_option maxRecDepth 100000 in
set_option maxHeartbeats 2000000 in
theorem mlevel_any (m : Ms) (w : World) (hE : Ents w.heap.size m.A m.n m.es w) (hn : (m.n : Int) ≤ 9223372036854775807) :
    Calls Tryz.prog 20 #[mv m] w fun r w' => r = .returned (.int .i64 (mlvl m)) ∧ Below w.heap.size w w' := by
  have HE := Lib.hid hE
  clear hE
  by_cases h9 : m.kind = 9
  · have g9 : (m.kind == 9) = true := by simpa using h9
    have hT : Hid (mlvl m = 2) := by show _ = _; unfold mlvl; rw [g9]; rfl
    clear h9
    go_enter Tryz.func20, Tryz.ntmps20
    go_wp2
    go_ret
    exact ⟨by rw [hT.out]; rfl, (Below.refl _ _).alloc (Nat.le_refl _) _⟩
  · have g9 : (m.kind == 9) = false := beqF h9
    clear h9
    by_cases h10 : m.kind = 10
    · have g10 : (m.kind == 10) = true := by simpa using h10
      have hT : Hid (mlvl m = 2) := by show _ = _; unfold mlvl; rw [g9, g10]; rfl
      clear h10
      go_enter Tryz.func20, Tryz.ntmps20
      go_wp2
      go_ret
      exact ⟨by rw [hT.out]; rfl, (Below.refl _ _).alloc (Nat.le_refl _) _⟩
    · have g10 : (m.kind == 10) = false := beqF h10
      have hT : Hid (mlvl m = lvE m.es) := by show _ = _; unfold mlvl; rw [g9, g10]; rfl
      clear h10
      have hb0 : Below w.heap.size w (w.alloc (Obj.cells (mc m) 29)) := (Below.refl _ _).alloc (Nat.le_refl _) _
      have HB0 := Lib.hid hb0
      clear hb0
      go_enter Tryz.func20, Tryz.ntmps20
      go_wp2
      go_loopw [17, 3] (fun i s wr => ∃ k : Nat, k ≤ m.n ∧ i = .int .i64 k ∧ s = .int .i64 (lvE (m.es.take k)) ∧ Below w.heap.size w wr) (fun i _ _ => m.n - (intOf i).toNat)
      case atStart => exact ⟨0, Nat.zero_le _, rfl, rfl, HB0.out⟩
      case round =>
        obtain ⟨k, hk, rfl, rfl, hb⟩ := hrel
        by_cases hlt : k < m.n
        · obtain ⟨e, he⟩ : ∃ e, m.es[k]? = some e := ⟨_, List.getElem?_eq_getElem (by rw [HE.out.len]; exact hlt)⟩
          obtain ⟨a, hA, hB, hc⟩ := (HE.out.below hb).at_ k e he
          have d0 : wr.cell? (a.add (k * 11)) = some (.int .u64 e.term) := hc 0 (by omega)
          have d1 : wr.cell? ⟨(a.add (k * 11)).block, (a.add (k * 11)).off + 1, none⟩ = some (.int .u64 e.index) := hc 1 (by omega)
          have d2 : wr.cell? ⟨(a.add (k * 11)).block, (a.add (k * 11)).off + 2, none⟩ = some (.int .i64 e.kind) := hc 2 (by omega)
          have d3 : wr.cell? ⟨(a.add (k * 11)).block, (a.add (k * 11)).off + 3, none⟩ = some (.int .u64 e.client) := hc 3 (by omega)
          have d4 : wr.cell? ⟨(a.add (k * 11)).block, (a.add (k * 11)).off + 4, none⟩ = some (.int .u64 e.seq) := hc 4 (by omega)
          have d5 : wr.cell? ⟨(a.add (k * 11)).block, (a.add (k * 11)).off + 5, none⟩ = some (.int .u64 e.block) := hc 5 (by omega)
          have d6 : wr.cell? ⟨(a.add (k * 11)).block, (a.add (k * 11)).off + 6, none⟩ = some (.int .u64 e.many) := hc 6 (by omega)
          have d7 : wr.cell? ⟨(a.add (k * 11)).block, (a.add (k * 11)).off + 7, none⟩ = some (.int .i64 e.node) := hc 7 (by omega)
          have d8 : wr.cell? ⟨(a.add (k * 11)).block, (a.add (k * 11)).off + 8, none⟩ = some (.int .i64 e.level) := hc 8 (by omega)
          have d9 : wr.cell? ⟨(a.add (k * 11)).block, (a.add (k * 11)).off + 9, none⟩ = some (.string e.data) := hc 9 (by omega)
          have d10 : wr.cell? ⟨(a.add (k * 11)).block, (a.add (k * 11)).off + 10, none⟩ = some (.string e.old) := hc 10 (by omega)
          have K := Lib.hid (level_any e (wr.alloc (.cells (ec e) 24)))
          have HB := Lib.hid hb
          have hS : Hid (lvE (m.es.take (k + 1)) = max (lvE (m.es.take k)) (lvl e.kind)) := by show _ = _; rw [take_snoc he, lvE_snoc]
          obtain ⟨q, hq⟩ : ∃ q, q = lvE (m.es.take k) := ⟨_, rfl⟩
          obtain ⟨p, hp⟩ : ∃ p, p = lvl e.kind := ⟨_, rfl⟩
          have hqo : q = 1 ∨ q = 2 := by rw [hq]; exact lvE_or _
          have hpo : p = 1 ∨ p = 2 := by rw [hp]; exact lvl_or _
          rw [← hq]
          rw [← hp] at K
          have HQ := Lib.hid hq
          have HP := Lib.hid hp
          clear hb hc he hq hp
          rw [hA]
          clear hA
          rcases hqo with rfl | rfl <;> rcases hpo with rfl | rfl
          all_goals
            go_wp2_with (go_at_call 18; (with_reducible refine K.out.mono ?_); rintro r w1 ⟨rfl, hb1⟩)
            go_roundw
            case rel => exact ⟨k + 1, by omega, by go_num, by rw [hS.out, ← HQ.out, ← HP.out]; first | done | rfl, (HB.out.alloc HB.out.size _).trans (hb1.mono (Nat.le_trans HB.out.size (by simp)))⟩
            case measure => simp [intOf]; omega
        · have hd : Hid (lvE (m.es.take k) = mlvl m) := by
            show _ = _
            rw [hT.out, List.take_of_length_le (by rw [HE.out.len]; omega)]
          go_wp2
          go_ret
          exact ⟨by rw [hd.out]; first | done | rfl, hb⟩

/-- The entries of what the loop has seen are of level 1. -/
theorem lvE_all {es : List En} (h : ∀ e ∈ es, lvl e.kind = 1) : lvE es = 1 := by
  unfold lvE
  rw [if_neg]
  rw [List.any_eq_true]
  rintro ⟨e, he, h2⟩
  have := h e he
  rw [eq_of_beq h2] at this
  cases this
theorem mlvl_of (m : Ms) : mlvl m = if lvE m.es = 2 then 2 else if m.kind = 9 ∨ m.kind = 10 then 2 else 1 := by
  unfold mlvl lvE
  by_cases h9 : m.kind = 9
  · rw [h9]
    cases m.es.any fun e => e.kind == 11 <;> rfl
  · by_cases h10 : m.kind = 10
    · rw [h10]
      cases m.es.any fun e => e.kind == 11 <;> rfl
    · rw [beqF h9, beqF h10, if_neg (c := m.kind = 9 ∨ m.kind = 10) (by omega)]
      cases m.es.any fun e => e.kind == 11 <;> rfl

set_option maxRecDepth 100000 in
set_option maxHeartbeats 2000000 in
theorem rmlevel_any (m : Ms) (w : World) (hE : Ents w.heap.size m.A m.n m.es w) (hn : (m.n : Int) ≤ 9223372036854775807) :
    Calls Tryz.prog 78 #[mv m] w fun r w' => r = .returned (.int .i64 (mlvl m)) ∧ Below w.heap.size w w' := by
  have HE := Lib.hid hE
  clear hE
  have hb0 : Below w.heap.size w (w.alloc (Obj.cells (mc m) 29)) := (Below.refl _ _).alloc (Nat.le_refl _) _
  have HB0 := Lib.hid hb0
  have hy0 : By w.heap.size m 29 (w.alloc (Obj.cells (mc m) 29)) := ⟨heap_alloc_new w _⟩
  have HY0 := Lib.hid hy0
  clear hb0 hy0
  go_enter Tryz.func78, Tryz.ntmps78
  go_wp2
  go_loopw [3] (fun i wr => ∃ k : Nat, k ≤ m.n ∧ i = .int .i64 k ∧ Hid (lvE (m.es.take k) = 1) ∧ By w.heap.size m 29 wr ∧ Below w.heap.size w wr) (fun i _ => m.n - (intOf i).toNat)
  case atStart => exact ⟨0, Nat.zero_le _, rfl, rfl, HY0.out, HB0.out⟩
  case round =>
    obtain ⟨k, hk, rfl, hK, hY, hb⟩ := hrel
    have y9 : wr.cell? ⟨w.heap.size, 9, none⟩ = some (.slice m.A m.n m.c) := hY.cell 9
    have y0 : wr.cell? ⟨w.heap.size, 0, none⟩ = some (.int .i64 m.kind) := hY.cell 0
    have HY := Lib.hid hY
    clear hY
    by_cases hlt : k < m.n
    · obtain ⟨e, he⟩ : ∃ e, m.es[k]? = some e := ⟨_, List.getElem?_eq_getElem (by rw [HE.out.len]; exact hlt)⟩
      obtain ⟨a, hA, hB, hc⟩ := (HE.out.below hb).at_ k e he
      have d0 : wr.cell? (a.add (k * 11)) = some (.int .u64 e.term) := hc 0 (by omega)
      have d1 : wr.cell? ⟨(a.add (k * 11)).block, (a.add (k * 11)).off + 1, none⟩ = some (.int .u64 e.index) := hc 1 (by omega)
      have d2 : wr.cell? ⟨(a.add (k * 11)).block, (a.add (k * 11)).off + 2, none⟩ = some (.int .i64 e.kind) := hc 2 (by omega)
      have d3 : wr.cell? ⟨(a.add (k * 11)).block, (a.add (k * 11)).off + 3, none⟩ = some (.int .u64 e.client) := hc 3 (by omega)
      have d4 : wr.cell? ⟨(a.add (k * 11)).block, (a.add (k * 11)).off + 4, none⟩ = some (.int .u64 e.seq) := hc 4 (by omega)
      have d5 : wr.cell? ⟨(a.add (k * 11)).block, (a.add (k * 11)).off + 5, none⟩ = some (.int .u64 e.block) := hc 5 (by omega)
      have d6 : wr.cell? ⟨(a.add (k * 11)).block, (a.add (k * 11)).off + 6, none⟩ = some (.int .u64 e.many) := hc 6 (by omega)
      have d7 : wr.cell? ⟨(a.add (k * 11)).block, (a.add (k * 11)).off + 7, none⟩ = some (.int .i64 e.node) := hc 7 (by omega)
      have d8 : wr.cell? ⟨(a.add (k * 11)).block, (a.add (k * 11)).off + 8, none⟩ = some (.int .i64 e.level) := hc 8 (by omega)
      have d9 : wr.cell? ⟨(a.add (k * 11)).block, (a.add (k * 11)).off + 9, none⟩ = some (.string e.data) := hc 9 (by omega)
      have d10 : wr.cell? ⟨(a.add (k * 11)).block, (a.add (k * 11)).off + 10, none⟩ = some (.string e.old) := hc 10 (by omega)
      have K := Lib.hid (rlevel_any e wr)
      have HB := Lib.hid hb
      have hS : Hid (lvE (m.es.take (k + 1)) = max (lvE (m.es.take k)) (lvl e.kind)) := by show _ = _; rw [take_snoc he, lvE_snoc]
      have hT : Hid (lvl e.kind = 2 → mlvl m = 2) := by
        intro h2
        have h3 : lvE m.es = 2 := by
          unfold lvE
          rw [if_pos]
          rw [List.any_eq_true]
          refine ⟨e, List.mem_of_getElem? he, ?_⟩
          rw [← lvl_two, h2]; rfl
        rw [mlvl_of, if_pos h3]
      obtain ⟨p, hp⟩ : ∃ p, p = lvl e.kind := ⟨_, rfl⟩
      have hpo : p = 1 ∨ p = 2 := by rw [hp]; exact lvl_or _
      rw [← hp] at K hS hT
      clear hb hc he hp
      rw [hA] at y9
      clear hA
      rcases hpo with rfl | rfl
      · go_wp2_with (go_at_call 66; (with_reducible refine K.out.mono ?_); rintro r w1 ⟨rfl, hb1⟩)
        go_roundw
        case rel => exact ⟨k + 1, by omega, by go_num, by show _ = _; rw [hS.out, hK.out]; rfl, HY.out.below hb1, HB.out.trans (hb1.mono HB.out.size)⟩
        case measure => simp [intOf]; omega
      · have hT2 := Lib.hid (hT.out rfl)
        clear hT
        go_wp2_with (go_at_call 66; (with_reducible refine K.out.mono ?_); rintro r w1 ⟨rfl, hb1⟩)
        go_ret
        exact ⟨by rw [hT2.out]; rfl, HB.out.trans (hb1.mono HB.out.size)⟩
    · have hE1 : Hid (lvE m.es = 1) := by
        have h := hK.out
        rw [List.take_of_length_le (by rw [HE.out.len]; omega)] at h
        exact h
      have hM : Hid (mlvl m = if m.kind = 9 ∨ m.kind = 10 then 2 else 1) := by
        show _ = _
        rw [mlvl_of, hE1.out, if_neg (by omega)]
      by_cases h9 : m.kind = 9
      · have g9 : (m.kind == 9) = true := by simpa using h9
        have hM2 : Hid (mlvl m = 2) := by show _ = _; rw [hM.out, if_pos (.inl h9)]
        clear h9 hM
        go_wp2
        go_ret
        exact ⟨by rw [hM2.out]; rfl, hb⟩
      · have g9 : (m.kind == 9) = false := beqF h9
        by_cases h10 : m.kind = 10
        · have g10 : (m.kind == 10) = true := by simpa using h10
          have hM2 : Hid (mlvl m = 2) := by show _ = _; rw [hM.out, if_pos (.inr h10)]
          clear h9 h10 hM
          go_wp2
          go_ret
          exact ⟨by rw [hM2.out]; rfl, hb⟩
        · have g10 : (m.kind == 10) = false := beqF h10
          have hM2 : Hid (mlvl m = 1) := by show _ = _; rw [hM.out, if_neg (by omega)]
          clear h9 h10 hM
          go_wp2
          go_ret
          exact ⟨by rw [hM2.out]; rfl, hb⟩
end Go.Proofs.YtpdbeijfchmlgaaGreat
