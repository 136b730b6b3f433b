/-
  What each letter tells of a message.
  Conditions: the table of powers of ten lies as its initialiser lays it; the message's numbers are those of their kinds, its texts of at most 2^20 bytes.
-/
import Derived.Test.YtclohjcenkpgoaaDoorTxt
namespace Go.Proofs.YtclohjcenkpgoaaDoor
open Go.RowKit
set_option linter.unusedVariables false

/-- A message; its entries are a slice's value and what lies there. -/
structure Ms where
  kind : Int
  frm : Int
  to : Int
  term : Int
  index : Int
  prev : Int
  commit : Int
  mark : Int
  ok : Bool
  A : Option Addr
  n : Nat
  c : Nat
  es : List En
  snap : ByteArray
/-- Its cells. -/
abbrev mc (m : Ms) : Array Value := #[.int .i64 m.kind, .int .i64 m.frm, .int .i64 m.to, .int .u64 m.term, .int .u64 m.index, .int .u64 m.prev, .int .u64 m.commit, .int .u64 m.mark, .bool m.ok, .slice m.A m.n m.c, .string m.snap]
abbrev mv (m : Ms) : Value := .agg #[.int .i64 m.kind, .int .i64 m.frm, .int .i64 m.to, .int .u64 m.term, .int .u64 m.index, .int .u64 m.prev, .int .u64 m.commit, .int .u64 m.mark, .bool m.ok, .slice m.A m.n m.c, .string m.snap]

/-- Where a slice of entries lies: below B, and as it is told. -/
structure Ents (B : Nat) (A : Option Addr) (n : Nat) (es : List En) (w : World) : Prop where
  len : es.length = n
  at_ : ∀ i e, es[i]? = some e → ∃ a, A = some a ∧ a.block < B ∧ ∀ j, j < 11 → w.cell? ((a.add (i * 11)).add j) = (ec e)[j]?
theorem block_of_add (a : Addr) (n : Nat) : (a.add n).block = a.block := by
  unfold Addr.add
  split <;> rfl
theorem Ents.below {B : Nat} {A : Option Addr} {n : Nat} {es : List En} {w w1 : World} (h : Ents B A n es w) (hb : Below B w w1) : Ents B A n es w1 :=
  ⟨h.len, fun i e he => by
    obtain ⟨a, hA, hB, hc⟩ := h.at_ i e he
    exact ⟨a, hA, hB, fun j hj => (hb.cell (by rw [block_of_add, block_of_add]; exact hB)).trans (hc j hj)⟩⟩

/-- The numbers of a message are those of their kinds; its texts, and its entries', are short. -/
structure Ms.Ok (m : Ms) : Prop where
  k0 : -9223372036854775808 ≤ m.kind
  k1 : m.kind ≤ 9223372036854775807
  f0 : -9223372036854775808 ≤ m.frm
  f1 : m.frm ≤ 9223372036854775807
  o0 : -9223372036854775808 ≤ m.to
  o1 : m.to ≤ 9223372036854775807
  t0 : 0 ≤ m.term
  t1 : m.term ≤ 18446744073709551615
  i0 : 0 ≤ m.index
  i1 : m.index ≤ 18446744073709551615
  p0 : 0 ≤ m.prev
  p1 : m.prev ≤ 18446744073709551615
  c0 : 0 ≤ m.commit
  c1 : m.commit ≤ 18446744073709551615
  m0 : 0 ≤ m.mark
  m1 : m.mark ≤ 18446744073709551615
  s1 : m.snap.size ≤ 1048576
  n1 : m.n ≤ 1048576
  eo : ∀ e ∈ m.es, e.Ok
  ed : ∀ e ∈ m.es, e.data.size ≤ 1048576
  ee : ∀ e ∈ m.es, e.old.size ≤ 1048576

def bitI (b : Bool) : Int := if b then 1 else 0
def entsL (es : List En) : List UInt8 := [91] ++ Lib.join (es.map fun e => (textS e).data.toList) [59] ++ [93]
/-- What a letter tells. -/
def mtell (c : Int) (m : Ms) : ByteArray :=
  if c = 105 then dec m.index else if c = 112 then dec m.prev else if c = 116 then dec m.commit else if c = 107 then dec m.mark
  else if c = 121 then dec (bitI m.ok) else if c = 101 then str (entsL m.es) else if c = 115 then hex m.snap else ⟨#[]⟩

set_option maxRecDepth 100000 in
set_option maxHeartbeats 400000 in
theorem bit_any (b : Bool) (w : World) : Calls Tryd.prog 40 #[.bool b] w fun r w' => r = .returned (.int .u64 (bitI b)) ∧ w = w' := by
  cases b
  all_goals
    go_enter Tryd.func40, Tryd.ntmps40
    go_wp2
    go_ret
    exact ⟨rfl, rfl⟩

set_option maxRecDepth 100000 in
set_option maxHeartbeats 1000000 in
theorem mindex_any (m : Ms) (w : World) (h0 : 0 ≤ m.index) (h1 : m.index ≤ 18446744073709551615) (ht : Tab w) :
    Calls Tryd.prog 64 #[mv m] w fun r w' => r = .returned (.string (mtell 105 m)) ∧ Below w.heap.size w w' := by
  have hb0 : Below w.heap.size w (w.alloc (Obj.cells (mc m) 70)) := (Below.refl _ _).alloc (Nat.le_refl _) _
  have hc := digits_any m.index (w.alloc (Obj.cells (mc m) 70)) h0 h1 (ht.below hb0)
  have HC := Lib.hid hc
  have HB := Lib.hid hb0
  have hT : Hid (mtell 105 m = dec m.index) := by show _ = _; simp [mtell]
  clear hc hb0 ht
  go_enter Tryd.func64, Tryd.ntmps64
  go_wp2_with (first
    | (go_at_call 44; (with_reducible refine HC.out.mono ?_); rintro r w1 ⟨rfl, hb1⟩))
  go_ret
  exact ⟨ret_str hT.out.symm, HB.out.trans (hb1.mono (by simp))⟩

set_option maxRecDepth 100000 in
set_option maxHeartbeats 1000000 in
theorem mprev_any (m : Ms) (w : World) (h0 : 0 ≤ m.prev) (h1 : m.prev ≤ 18446744073709551615) (ht : Tab w) :
    Calls Tryd.prog 65 #[mv m] w fun r w' => r = .returned (.string (mtell 112 m)) ∧ Below w.heap.size w w' := by
  have hb0 : Below w.heap.size w (w.alloc (Obj.cells (mc m) 70)) := (Below.refl _ _).alloc (Nat.le_refl _) _
  have hc := digits_any m.prev (w.alloc (Obj.cells (mc m) 70)) h0 h1 (ht.below hb0)
  have HC := Lib.hid hc
  have HB := Lib.hid hb0
  have hT : Hid (mtell 112 m = dec m.prev) := by show _ = _; simp [mtell]
  clear hc hb0 ht
  go_enter Tryd.func65, Tryd.ntmps65
  go_wp2_with (first
    | (go_at_call 44; (with_reducible refine HC.out.mono ?_); rintro r w1 ⟨rfl, hb1⟩))
  go_ret
  exact ⟨ret_str hT.out.symm, HB.out.trans (hb1.mono (by simp))⟩

set_option maxRecDepth 100000 in
set_option maxHeartbeats 1000000 in
theorem mcommit_any (m : Ms) (w : World) (h0 : 0 ≤ m.commit) (h1 : m.commit ≤ 18446744073709551615) (ht : Tab w) :
    Calls Tryd.prog 66 #[mv m] w fun r w' => r = .returned (.string (mtell 116 m)) ∧ Below w.heap.size w w' := by
  have hb0 : Below w.heap.size w (w.alloc (Obj.cells (mc m) 70)) := (Below.refl _ _).alloc (Nat.le_refl _) _
  have hc := digits_any m.commit (w.alloc (Obj.cells (mc m) 70)) h0 h1 (ht.below hb0)
  have HC := Lib.hid hc
  have HB := Lib.hid hb0
  have hT : Hid (mtell 116 m = dec m.commit) := by show _ = _; simp [mtell]
  clear hc hb0 ht
  go_enter Tryd.func66, Tryd.ntmps66
  go_wp2_with (first
    | (go_at_call 44; (with_reducible refine HC.out.mono ?_); rintro r w1 ⟨rfl, hb1⟩))
  go_ret
  exact ⟨ret_str hT.out.symm, HB.out.trans (hb1.mono (by simp))⟩

set_option maxRecDepth 100000 in
set_option maxHeartbeats 1000000 in
theorem mmark_any (m : Ms) (w : World) (h0 : 0 ≤ m.mark) (h1 : m.mark ≤ 18446744073709551615) (ht : Tab w) :
    Calls Tryd.prog 67 #[mv m] w fun r w' => r = .returned (.string (mtell 107 m)) ∧ Below w.heap.size w w' := by
  have hb0 : Below w.heap.size w (w.alloc (Obj.cells (mc m) 70)) := (Below.refl _ _).alloc (Nat.le_refl _) _
  have hc := digits_any m.mark (w.alloc (Obj.cells (mc m) 70)) h0 h1 (ht.below hb0)
  have HC := Lib.hid hc
  have HB := Lib.hid hb0
  have hT : Hid (mtell 107 m = dec m.mark) := by show _ = _; simp [mtell]
  clear hc hb0 ht
  go_enter Tryd.func67, Tryd.ntmps67
  go_wp2_with (first
    | (go_at_call 44; (with_reducible refine HC.out.mono ?_); rintro r w1 ⟨rfl, hb1⟩))
  go_ret
  exact ⟨ret_str hT.out.symm, HB.out.trans (hb1.mono (by simp))⟩

set_option maxRecDepth 100000 in
set_option maxHeartbeats 1000000 in
theorem mok_any (m : Ms) (w : World)  (ht : Tab w) :
    Calls Tryd.prog 68 #[mv m] w fun r w' => r = .returned (.string (mtell 121 m)) ∧ Below w.heap.size w w' := by
  have hb0 : Below w.heap.size w (w.alloc (Obj.cells (mc m) 70)) := (Below.refl _ _).alloc (Nat.le_refl _) _
  have hc := digits_any (bitI m.ok) (w.alloc (Obj.cells (mc m) 70)) (by cases m.ok <;> decide) (by cases m.ok <;> decide) (ht.below hb0)
  have HC := Lib.hid hc
  have HB := Lib.hid hb0
  have hT : Hid (mtell 121 m = dec (bitI m.ok)) := by show _ = _; simp [mtell]
  clear hc hb0 ht
  go_enter Tryd.func68, Tryd.ntmps68
  go_wp2_with (first
    | (go_at_call 40; (with_reducible refine (bit_any m.ok _).mono ?_); rintro r w1 ⟨rfl, rfl⟩)
    | (go_at_call 44; (with_reducible refine HC.out.mono ?_); rintro r w1 ⟨rfl, hb1⟩))
  go_ret
  exact ⟨ret_str hT.out.symm, HB.out.trans (hb1.mono (by simp))⟩

set_option maxRecDepth 100000 in
set_option maxHeartbeats 1000000 in
theorem msnap_any (m : Ms) (w : World) (hs : m.snap.size ≤ 70368744177664) (ht : Tab w) :
    Calls Tryd.prog 70 #[mv m] w fun r w' => r = .returned (.string (mtell 115 m)) ∧ Below w.heap.size w w' := by
  have hb0 : Below w.heap.size w (w.alloc (Obj.cells (mc m) 70)) := (Below.refl _ _).alloc (Nat.le_refl _) _
  have hc := six_any m.snap (w.alloc (Obj.cells (mc m) 70)) hs
  have HC := Lib.hid hc
  have HB := Lib.hid hb0
  have hT : Hid (mtell 115 m = hex m.snap) := by show _ = _; simp [mtell]
  clear hc hb0 ht
  go_enter Tryd.func70, Tryd.ntmps70
  go_wp2_with (first
    | (go_at_call 72; (with_reducible refine HC.out.mono ?_); rintro r w1 ⟨rfl, hb1⟩))
  go_ret
  exact ⟨ret_str hT.out.symm, HB.out.trans (hb1.mono (by simp))⟩

end Go.Proofs.YtclohjcenkpgoaaDoor
