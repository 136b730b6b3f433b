/-
  Entries and messages in memory; the package's and the document's Level and Same.
  Conditions: named in each theorem.
-/
import Derived.Test.YtpdbeijfchmlgaaGreatRight
namespace Go.Proofs.YtpdbeijfchmlgaaGreat
open Go.RowKit
set_option linter.unusedVariables false

/-- An entry's box, whole. -/
structure Bx (B0 : Nat) (e : En) (T : TypeId) (w : World) : Prop where
  bx : w.heap[B0]? = some (.cells (ec e) T (0, 0))
theorem Bx.cell {B0 : Nat} {e : En} {T : TypeId} {w : World} (h : Bx B0 e T w) (i : Nat) : w.cell? ⟨B0, i, none⟩ = (ec e)[i]? := cell_of_row w _ i _ T (0, 0) h.bx
theorem Bx.lt {B0 : Nat} {e : En} {T : TypeId} {w : World} (h : Bx B0 e T w) : B0 < w.heap.size := (Array.getElem?_eq_some_iff.1 h.bx).1
theorem Bx.below {B0 : Nat} {e : En} {T : TypeId} {w w1 : World} (h : Bx B0 e T w) (hb : Below w.heap.size w w1) : Bx B0 e T w1 := ⟨(hb.block _ h.lt).trans h.bx⟩
theorem Bx.frozen {B0 : Nat} {e : En} {T : TypeId} {w : World} (h : Bx B0 e T w) (i : Nat) : w.frozen? ⟨B0, i, none⟩ = false := by
  have := h.bx
  simp [World.frozen?, this]
/-- A message; its entries are a slice's value and what lies there. -/
structure Ms where
  kind : Int
  frm : Int
  dst : Int
  term : Int
  index : Int
  prev : Int
  commit : Int
  mark : Int
  ok : Bool
  A : Option Addr
  n : Nat
  c : Nat
  es : List En
  snap : ByteArray
/-- Its cells. -/
abbrev mc (m : Ms) : Array Value := #[.int .i64 m.kind, .int .i64 m.frm, .int .i64 m.dst, .int .u64 m.term, .int .u64 m.index, .int .u64 m.prev, .int .u64 m.commit, .int .u64 m.mark, .bool m.ok, .slice m.A m.n m.c, .string m.snap]
abbrev mv (m : Ms) : Value := .agg #[.int .i64 m.kind, .int .i64 m.frm, .int .i64 m.dst, .int .u64 m.term, .int .u64 m.index, .int .u64 m.prev, .int .u64 m.commit, .int .u64 m.mark, .bool m.ok, .slice m.A m.n m.c, .string m.snap]
/-- Where a slice of entries lies: below B, and as it is told. -/
structure Ents (B : Nat) (A : Option Addr) (n : Nat) (es : List En) (w : World) : Prop where
  len : es.length = n
  at_ : ∀ i e, es[i]? = some e → ∃ a, A = some a ∧ a.block < B ∧ ∀ j, j < 11 → w.cell? ((a.add (i * 11)).add j) = (ec e)[j]?
theorem block_of_add (a : Addr) (n : Nat) : (a.add n).block = a.block := by
  unfold Addr.add
  split <;> rfl
theorem Ents.below {B : Nat} {A : Option Addr} {n : Nat} {es : List En} {w w1 : World} (h : Ents B A n es w) (hb : Below B w w1) : Ents B A n es w1 :=
  ⟨h.len, fun i e he => by
    obtain ⟨a, hA, hB, hc⟩ := h.at_ i e he
    exact ⟨a, hA, hB, fun j hj => (hb.cell (by rw [block_of_add, block_of_add]; exact hB)).trans (hc j hj)⟩⟩
theorem Ents.mr {B B' : Nat} {A : Option Addr} {n : Nat} {es : List En} {w : World} (h : Ents B A n es w) (hB : B ≤ B') : Ents B' A n es w :=
  ⟨h.len, fun i e he => by
    obtain ⟨a, hA, h1, hc⟩ := h.at_ i e he
    exact ⟨a, hA, Nat.lt_of_lt_of_le h1 hB, hc⟩⟩
/-- A message's box, whole. -/
structure By (B0 : Nat) (m : Ms) (T : TypeId) (w : World) : Prop where
  bx : w.heap[B0]? = some (.cells (mc m) T (0, 0))
theorem By.cell {B0 : Nat} {m : Ms} {T : TypeId} {w : World} (h : By B0 m T w) (i : Nat) : w.cell? ⟨B0, i, none⟩ = (mc m)[i]? := cell_of_row w _ i _ T (0, 0) h.bx
theorem By.lt {B0 : Nat} {m : Ms} {T : TypeId} {w : World} (h : By B0 m T w) : B0 < w.heap.size := (Array.getElem?_eq_some_iff.1 h.bx).1
theorem By.below {B0 : Nat} {m : Ms} {T : TypeId} {w w1 : World} (h : By B0 m T w) (hb : Below w.heap.size w w1) : By B0 m T w1 := ⟨(hb.block _ h.lt).trans h.bx⟩
def bitI (b : Bool) : Int := if b then 1 else 0
set_option maxRecDepth 100000 in
set_option maxHeartbeats 400000 in
theorem bit_any (b : Bool) (w : World) : Calls Tryz.prog 100 #[.bool b] w fun r w' => r = .returned (.int .u64 (bitI b)) ∧ w = w' := by
  cases b
  all_goals
    go_enter Tryz.func100, Tryz.ntmps100
    go_wp2
    go_ret
    exact ⟨rfl, rfl⟩
def lvl (k : Int) : Int := if k = 11 then 2 else 1
set_option maxRecDepth 100000 in
set_option maxHeartbeats 1000000 in
theorem level_any (e : En) (w : World) : Calls Tryz.prog 18 #[ev e] w fun r w' => r = .returned (.int .i64 (lvl e.kind)) ∧ Below w.heap.size w w' := by
  by_cases h : e.kind = 11
  · have hT : Hid (lvl e.kind = 2) := by show _ = _; unfold lvl; rw [if_pos h]
    have h2 : (e.kind == 11) = true := by simpa using h
    clear h
    go_enter Tryz.func18, Tryz.ntmps18
    go_wp2
    go_ret
    exact ⟨by rw [hT.out]; rfl, (Below.refl _ _).alloc (Nat.le_refl _) _⟩
  · have hT : Hid (lvl e.kind = 1) := by show _ = _; unfold lvl; rw [if_neg h]
    have h2 : (e.kind == 11) = false := beqF h
    clear h
    go_enter Tryz.func18, Tryz.ntmps18
    go_wp2
    go_ret
    exact ⟨by rw [hT.out]; rfl, (Below.refl _ _).alloc (Nat.le_refl _) _⟩
set_option maxRecDepth 100000 in
set_option maxHeartbeats 1000000 in
theorem rlevel_any (e : En) (w : World) : Calls Tryz.prog 66 #[ev e] w fun r w' => r = .returned (.int .i64 (lvl e.kind)) ∧ Below w.heap.size w w' := by
  by_cases h : e.kind = 11
  · have hT : Hid (lvl e.kind = 2) := by show _ = _; unfold lvl; rw [if_pos h]
    have h2 : (e.kind == 11) = true := by simpa using h
    clear h
    go_enter Tryz.func66, Tryz.ntmps66
    go_wp2
    go_ret
    exact ⟨by rw [hT.out]; rfl, (Below.refl _ _).alloc (Nat.le_refl _) _⟩
  · have hT : Hid (lvl e.kind = 1) := by show _ = _; unfold lvl; rw [if_neg h]
    have h2 : (e.kind == 11) = false := beqF h
    clear h
    go_enter Tryz.func66, Tryz.ntmps66
    go_wp2
    go_ret
    exact ⟨by rw [hT.out]; rfl, (Below.refl _ _).alloc (Nat.le_refl _) _⟩
def sameB (a b : En) : Bool :=
  decide (a.term = b.term) && (decide (a.index = b.index) && (decide (a.kind = b.kind) && (decide (a.client = b.client) && (decide (a.seq = b.seq) && (decide (a.block = b.block) && (decide (a.many = b.many) && (decide (a.node = b.node) && (decide (a.level = b.level) && (decide (a.data.toList = b.data.toList) && decide (a.old.toList = b.old.toList))))))))))
set_option maxRecDepth 100000 in
set_option maxHeartbeats 1000000 in
theorem eql_entry (a b : En) (w : World) : (binOp .eql 24 (ev a) (ev b)).run Tryz.prog w = .ok (.bool (sameB a b)) w := by
  go_simp
  unfold sameB
  repeat' split
  all_goals simp_all
theorem ba_of_beq {a b : ByteArray} (h : (a == b) = true) : a = b := by
  cases a; cases b
  first
    | exact eq_of_beq h
    | exact congrArg ByteArray.mk (eq_of_beq h)
    | simpa using h
theorem sameB_iff (a b : En) : sameB a b = true ↔ a = b := by
  unfold sameB
  simp only [Bool.and_eq_true, decide_eq_true_eq]
  constructor
  · rintro ⟨h1, h2, h3, h4, h5, h6, h7, h8, h9, h10, h11⟩
    have e1 : a.data = b.data := by
      have := beq_toListBytes a.data b.data
      rw [h10] at this
      exact ba_of_beq (by simpa using this)
    have e2 : a.old = b.old := by
      have := beq_toListBytes a.old b.old
      rw [h11] at this
      exact ba_of_beq (by simpa using this)
    cases a; cases b
    simp_all
  · rintro rfl
    exact ⟨rfl, rfl, rfl, rfl, rfl, rfl, rfl, rfl, rfl, rfl, rfl⟩
theorem u64_id {x : Int} (h0 : 0 ≤ x) (h1 : x ≤ 9223372036854775807) : IntKind.u64.wrap x = x := by rw [IntKind.wrap_u64]; omega
set_option maxRecDepth 100000 in
set_option maxHeartbeats 1000000 in
theorem neq_entry (a b : En) (w : World) : (binOp .neq 24 (ev a) (ev b)).run Tryz.prog w = .ok (.bool (!sameB a b)) w := by
  go_simp
  unfold sameB
  repeat' split
  all_goals simp_all
end Go.Proofs.YtpdbeijfchmlgaaGreat
