/-
  Is an entry right: the package's way.
  Conditions: the numbers are those of their kinds, the texts' lengths below 2^47.
-/
import Derived.Test.YtmencfmjmbbfhaaDoorHas
import Derived.BigQuiet
import Derived.StillTailTactics
import Derived.Deep.RegionHeld3
import Derived.IntWalk
namespace Go.Proofs.YtmencfmjmbbfhaaDoor
open Go.RowKit
set_option linter.unusedVariables false
structure En.Ok (e : En) : Prop where
  t0 : 0 ≤ e.term
  t1 : e.term ≤ 18446744073709551615
  i0 : 0 ≤ e.index
  i1 : e.index ≤ 18446744073709551615
  k0 : -9223372036854775808 ≤ e.kind
  k1 : e.kind ≤ 9223372036854775807
  c0 : 0 ≤ e.client
  c1 : e.client ≤ 18446744073709551615
  s0 : 0 ≤ e.seq
  s1 : e.seq ≤ 18446744073709551615
  b0 : 0 ≤ e.block
  b1 : e.block ≤ 18446744073709551615
  m0 : 0 ≤ e.many
  m1 : e.many ≤ 18446744073709551615
  n0 : -9223372036854775808 ≤ e.node
  n1 : e.node ≤ 9223372036854775807
  l0 : -9223372036854775808 ≤ e.level
  l1 : e.level ≤ 9223372036854775807
  d1 : e.data.size ≤ 140737488351232
  o1 : e.old.size ≤ 140737488351232
def asks (e : En) : List Bool :=
  [fb e.kind, decide (1 ≤ e.term), decide (1 ≤ e.index), lim (fl e.kind) 99 e.client 1 18446744073709551615, lim (fl e.kind) 99 e.seq 0 18446744073709551615, lim (fl e.kind) 98 e.block 0 4294967295, lim (fl e.kind) 109 e.many 0 4294967295,
   lim (fl e.kind) 110 (IntKind.u64.wrap e.node) 1 7, lim (fl e.kind) 108 (IntKind.u64.wrap e.level) 1 2, lim (fl e.kind) 100 (IntKind.u64.wrap e.data.size) 0 64, lim (fl e.kind) 111 (IntKind.u64.wrap e.old.size) 0 64]
def rightB (e : En) : Bool := (asks e).all id
set_option maxRecDepth 100000 in
set_option maxHeartbeats 400000 in
theorem limits_any (s : ByteArray) (w : World) :
    Calls Tryd.prog 44 #[.string s] w fun e w' => e = .returned (.func (.func 64) #[] #[.pointer (some ⟨w.heap.size, 0, none⟩)]) ∧ w' = w.alloc (.cells #[.string s] 9) := by
  have hmf : ∀ (fn : Fn) (first cap : Array Value) (w : World), (Instr.makeFunc fn first cap).run Tryd.prog w = .ok (.func fn first cap) w := fun _ _ _ _ => rfl
  go_enter Tryd.func44, Tryd.ntmps44
  go_wp2
  go_ret
  exact ⟨rfl, rfl⟩
theorem limit_st (s : ByteArray) (c n lo hi : Int) (a : Addr) (w : World) (hc0 : 0 ≤ c) (hc : c < 256) (ha : w.cell? a = some (.string s)) :
    Calls Tryd.prog 64 #[.int .u8 c, .int .u64 n, .int .u64 lo, .int .u64 hi, .pointer (some a)] w fun e w' => e = .returned (.bool (lim s c n lo hi)) ∧ w' = w := by
  obtain ⟨m, rfl⟩ : ∃ m : Nat, c = m := ⟨c.toNat, by omega⟩
  exact (limit_any s m n lo hi a w (by omega) ha).mono fun _ _ ⟨h1, h2⟩ => ⟨h1, h2.symm⟩
theorem cells_bools (l : List Bool) (W : World) (j : Nat) (x : Bool) (h : l[j]? = some x) : (W.alloc (.cells (l.map Value.bool).toArray 4)).cell? ⟨W.heap.size, j, none⟩ = some (.bool x) := by
  rw [World.cell?_alloc_new]
  simp [h]
theorem all11 (b0 b1 b2 b3 b4 b5 b6 b7 b8 b9 b10 : Bool) (W : World) :
    Calls Tryd.prog 45 #[.slice (some ⟨W.heap.size, 0, none⟩) 11 11] (W.alloc (.cells #[.bool b0, .bool b1, .bool b2, .bool b3, .bool b4, .bool b5, .bool b6, .bool b7, .bool b8, .bool b9, .bool b10] 4)).drew fun e w' => e = .returned (.bool ([b0, b1, b2, b3, b4, b5, b6, b7, b8, b9, b10].all id)) ∧ (W.alloc (.cells #[.bool b0, .bool b1, .bool b2, .bool b3, .bool b4, .bool b5, .bool b6, .bool b7, .bool b8, .bool b9, .bool b10] 4)).drew = w' :=
  all_any [b0, b1, b2, b3, b4, b5, b6, b7, b8, b9, b10] 11 11 W.heap.size _ rfl (by omega) (fun j x h => cells_bools [b0, b1, b2, b3, b4, b5, b6, b7, b8, b9, b10] W j x h)
theorem limit_rw (s : ByteArray) (c n lo hi : Int) (a : Addr) (w : World) (hc0 : 0 ≤ c) (hc : c < 256) (ha : w.cell? a = some (.string s)) :
    Calls Tryd.prog 64 #[.int .u8 c, .int .u64 n, .int .u64 lo, .int .u64 hi, .pointer (some a)] w fun e w' => e = .returned (.bool (lim s c n lo hi)) ∧ w = w' :=
  (limit_st s c n lo hi a w hc0 hc ha).mono fun _ _ ⟨h1, h2⟩ => ⟨h1, h2.symm⟩
set_option maxRecDepth 100000 in
set_option maxHeartbeats 8000000 in
theorem right_any (e : En) (w : World) (ok : e.Ok) :
    Calls Tryd.prog 23 #[ev e] w fun r w' => r = .returned (.bool (rightB e)) ∧ Below w.heap.size w w' := by
  have HO := Lib.hid ok
  clear ok
  go_enter Tryd.func23, Tryd.ntmps23
  go_wp2_with (first
    | (go_at_call 43; refine (fields_any e.kind _).mono ?_; rintro r w' ⟨rfl, rfl⟩)
    | (go_at_call 44; refine (limits_any (fl e.kind) _).mono ?_; rintro r w' ⟨rfl, rfl⟩))
  obtain ⟨wr, hW⟩ : ∃ wr, wr = (w.alloc (Obj.cells (ec e) 31)).alloc (Obj.cells #[Value.string (fl e.kind)] 9) := ⟨_, rfl⟩
  have hb : Below w.heap.size w wr := by rw [hW]; exact ((Below.refl _ _).alloc (Nat.le_refl _) _).alloc (by simp) _
  have hrow : ∀ i, i < 11 → wr.cell? ⟨w.heap.size, i, none⟩ = (ec e)[i]? := fun i hi => by
    rw [hW, World.cell?_alloc_lt _ _ _ (by simp), World.cell?_alloc_new]
  have c0 := hrow 0 (by omega)
  have c1 := hrow 1 (by omega)
  have c3 := hrow 3 (by omega)
  have c4 := hrow 4 (by omega)
  have c5 := hrow 5 (by omega)
  have c6 := hrow 6 (by omega)
  have c7 := hrow 7 (by omega)
  have c8 := hrow 8 (by omega)
  have c9 := hrow 9 (by omega)
  have c10 := hrow 10 (by omega)
  simp only [ec, List.getElem?_toArray, List.getElem?_cons_succ, List.getElem?_cons_zero] at c0 c1 c3 c4 c5 c6 c7 c8 c9 c10
  have cL : wr.cell? ⟨w.heap.size + 1, 0, none⟩ = some (.string (fl e.kind)) := by
    have h := World.cell?_alloc_new (w.alloc (Obj.cells (ec e) 31)) #[Value.string (fl e.kind)] 9 0
    rw [show (w.alloc (Obj.cells (ec e) 31)).heap.size = w.heap.size + 1 by simp] at h
    rw [hW, h]
    rfl
  rw [← hW]
  have HW := Lib.hid hW
  clear hW hrow
  have cLd : wr.drew.cell? ⟨w.heap.size + 1, 0, none⟩ = some (.string (fl e.kind)) := cL
  go_region_held3 (fun w' => w'.cell? ⟨w.heap.size, 0, none⟩ = some (.int .u64 e.term) ∧ w'.cell? ⟨w.heap.size, 1, none⟩ = some (.int .u64 e.index) ∧ w'.cell? ⟨w.heap.size, 3, none⟩ = some (.int .u64 e.client) ∧ w'.cell? ⟨w.heap.size, 4, none⟩ = some (.int .u64 e.seq) ∧ w'.cell? ⟨w.heap.size, 5, none⟩ = some (.int .u64 e.block) ∧ w'.cell? ⟨w.heap.size, 6, none⟩ = some (.int .u64 e.many) ∧ w'.cell? ⟨w.heap.size, 7, none⟩ = some (.int .i64 e.node) ∧ w'.cell? ⟨w.heap.size, 8, none⟩ = some (.int .i64 e.level) ∧ w'.cell? ⟨w.heap.size, 9, none⟩ = some (.string e.data) ∧ w'.cell? ⟨w.heap.size, 10, none⟩ = some (.string e.old) ∧ w'.cell? ⟨w.heap.size + 1, 0, none⟩ = some (.string (fl e.kind)))
    (first | exact ⟨c0, c1, c3, c4, c5, c6, c7, c8, c9, c10, cL⟩ | go_keep)
    (first
      | (go_at_call 64; (with_reducible refine (limit_rw (fl e.kind) _ _ _ _ _ _ (by omega) (by omega) cLd).mono ?_); rintro r w' ⟨rfl, rfl⟩)
      | (go_at_call 45; (with_reducible refine (all11 _ _ _ _ _ _ _ _ _ _ _ _).mono ?_); rintro r w' ⟨rfl, rfl⟩))
  all_goals
    have hR : Hid (rightB e = (fb e.kind && (decide (1 ≤ e.term) && (decide (1 ≤ e.index) && (lim (fl e.kind) 99 e.client 1 18446744073709551615 && (lim (fl e.kind) 99 e.seq 0 18446744073709551615 && (lim (fl e.kind) 98 e.block 0 4294967295 && (lim (fl e.kind) 109 e.many 0 4294967295 && (lim (fl e.kind) 110 (IntKind.u64.wrap e.node) 1 7 && (lim (fl e.kind) 108 (IntKind.u64.wrap e.level) 1 2 && (lim (fl e.kind) 100 (IntKind.u64.wrap e.data.size) 0 64 && lim (fl e.kind) 111 (IntKind.u64.wrap e.old.size) 0 64))))))))))) := by
      show _ = _
      unfold rightB asks
      simp only [List.all_cons, List.all_nil, id, Bool.and_true]
    have hbD : Below w.heap.size w (wr.alloc (Obj.cells #[Value.bool true] 4)) := hb.alloc hb.size _
    go_wp2
    go_ret
    refine ⟨ret_bool hR.out.symm, ?_⟩
    exact ⟨hb.os, hb.tape, hb.output, by have := hb.size; simp; omega, fun k hk => (Below.heap_alloc wr _ k (Nat.lt_of_lt_of_le hk hb.size)).trans (hb.block k hk)⟩
end Go.Proofs.YtmencfmjmbbfhaaDoor
