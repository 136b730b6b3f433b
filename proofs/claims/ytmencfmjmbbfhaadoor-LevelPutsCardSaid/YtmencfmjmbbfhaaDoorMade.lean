/-
  An entry by its parts: what the law's made returns.
  Conditions: the numbers are those of their kinds, the texts' lengths below 2^47.
-/
import Derived.Deep.CutRange
import Derived.Test.YtmencfmjmbbfhaaDoorRight
namespace Go.Proofs.YtmencfmjmbbfhaaDoor
open Go.RowKit
set_option linter.unusedVariables false
theorem fl_size (r : Int) : (fl r).size ≤ 4 := by
  unfold fl
  repeat' split
  all_goals decide
def hasT (l : List UInt8) (c : Int) : Bool := l.any fun x => (x.toNat : Int) == c
theorem hasT_snoc (l : List UInt8) (x : UInt8) (c : Int) : hasT (l ++ [x]) c = (hasT l c || ((x.toNat : Int) == c)) := by
  unfold hasT
  rw [List.any_append]
  simp
def cut64 (s : ByteArray) : ByteArray := s.extract 0 (min (s.size : Int) 64).toNat
def part (e : En) (r : Int) (l : List UInt8) : En :=
  { term := e.term % 1000 + 1, index := e.index % 1000 + 1, kind := r
    client := if hasT l 99 then e.client % 5 + 1 else 0
    seq := if hasT l 99 then e.seq % 9 else 0
    block := if hasT l 98 then e.block % 9 else 0
    many := if hasT l 109 then e.many % 9 else 0
    node := if hasT l 110 then IntKind.u64.wrap e.node % 7 + 1 else 0
    level := if hasT l 108 then IntKind.u64.wrap e.level % 2 + 1 else 0
    data := if hasT l 100 then cut64 e.data else ⟨#[]⟩
    old := if hasT l 111 then cut64 e.old else ⟨#[]⟩ }
def mk (e : En) : En := part e (e.kind % 12) (fl (e.kind % 12)).data.toList
abbrev mdv (e : En) (own : Bool) : Value := .agg #[.int .u64 e.term, .int .u64 e.index, .int .i64 e.kind, .int .u64 e.client, .int .u64 e.seq, .int .u64 e.block, .int .u64 e.many, .int .i64 e.node, .int .i64 e.level, .string e.data, .string e.old, .bool own]
abbrev mdc (e : En) (own : Bool) : Array Value := #[.int .u64 e.term, .int .u64 e.index, .int .i64 e.kind, .int .u64 e.client, .int .u64 e.seq, .int .u64 e.block, .int .u64 e.many, .int .i64 e.node, .int .i64 e.level, .string e.data, .string e.old, .bool own]
abbrev ezz : En := ⟨0, 0, 0, 0, 0, 0, 0, 0, 0, ⟨#[]⟩, ⟨#[]⟩⟩
theorem node_eq (n m : Int) (hm : 0 < m) (hm2 : m ≤ 7) : wrap64 (wrap64 ((IntKind.u64.wrap n).tmod m) + 1) = IntKind.u64.wrap n % m + 1 := by
  have h0 : 0 ≤ IntKind.u64.wrap n := by rw [IntKind.wrap_u64]; omega
  have h1 := Int.emod_nonneg (IntKind.u64.wrap n) (show m ≠ 0 by omega)
  have h2 := Int.emod_lt_of_pos (IntKind.u64.wrap n) hm
  rw [Int.tmod_eq_emod_of_nonneg h0]
  unfold wrap64
  omega
theorem part_99 (e : En) (r : Int) (l : List UInt8) (x : UInt8) (hx : (x.toNat : Int) = 99) : ec (part e r (l ++ [x])) = (((ec (part e r l)).setIfInBounds 3 (.int .u64 (e.client % 5 + 1))).setIfInBounds 4 (.int .u64 (e.seq % 9))) := by
  simp [part, hasT_snoc, hx]
theorem part_98 (e : En) (r : Int) (l : List UInt8) (x : UInt8) (hx : (x.toNat : Int) = 98) : ec (part e r (l ++ [x])) = ((ec (part e r l)).setIfInBounds 5 (.int .u64 (e.block % 9))) := by
  simp [part, hasT_snoc, hx]
theorem part_109 (e : En) (r : Int) (l : List UInt8) (x : UInt8) (hx : (x.toNat : Int) = 109) : ec (part e r (l ++ [x])) = ((ec (part e r l)).setIfInBounds 6 (.int .u64 (e.many % 9))) := by
  simp [part, hasT_snoc, hx]
theorem part_110 (e : En) (r : Int) (l : List UInt8) (x : UInt8) (hx : (x.toNat : Int) = 110) : ec (part e r (l ++ [x])) = ((ec (part e r l)).setIfInBounds 7 (.int .i64 (IntKind.u64.wrap e.node % 7 + 1))) := by
  simp [part, hasT_snoc, hx]
theorem part_108 (e : En) (r : Int) (l : List UInt8) (x : UInt8) (hx : (x.toNat : Int) = 108) : ec (part e r (l ++ [x])) = ((ec (part e r l)).setIfInBounds 8 (.int .i64 (IntKind.u64.wrap e.level % 2 + 1))) := by
  simp [part, hasT_snoc, hx]
theorem part_100 (e : En) (r : Int) (l : List UInt8) (x : UInt8) (hx : (x.toNat : Int) = 100) : ec (part e r (l ++ [x])) = ((ec (part e r l)).setIfInBounds 9 (.string (cut64 e.data))) := by
  simp [part, hasT_snoc, hx]
theorem part_111 (e : En) (r : Int) (l : List UInt8) (x : UInt8) (hx : (x.toNat : Int) = 111) : ec (part e r (l ++ [x])) = ((ec (part e r l)).setIfInBounds 10 (.string (cut64 e.old))) := by
  simp [part, hasT_snoc, hx]
theorem part_other (e : En) (r : Int) (l : List UInt8) (x : UInt8) (h : ∀ c ∈ ([99, 98, 109, 110, 108, 100, 111] : List Int), (x.toNat : Int) ≠ c) : ec (part e r (l ++ [x])) = ec (part e r l) := by
  have hh : ∀ c ∈ ([99, 98, 109, 110, 108, 100, 111] : List Int), hasT (l ++ [x]) c = hasT l c := fun c hc => by rw [hasT_snoc, beqF (h c hc), Bool.or_false]
  simp only [part, ec, hh 99 (by simp), hh 98 (by simp), hh 109 (by simp), hh 110 (by simp), hh 108 (by simp), hh 100 (by simp), hh 111 (by simp)]
theorem set_blk {w : World} {g : Nat} {T : TypeId} {cs : Array Value} (h : w.heap[g]? = some (.cells cs T (0, 0))) (i : Nat) (u : Value) : (w.setCell ⟨g, i, none⟩ u).heap[g]? = some (.cells (cs.setIfInBounds i u) T (0, 0)) := by
  simp [World.setCell, Array.getElem?_modify, h]
theorem fill_all (E : En) : ((((((((((((ec ezz).setIfInBounds 0 (.int .u64 E.term)).setIfInBounds 1 (.int .u64 E.index)).setIfInBounds 2 (.int .i64 E.kind)).setIfInBounds 3 (.int .u64 E.client)).setIfInBounds 4 (.int .u64 E.seq)).setIfInBounds 5 (.int .u64 E.block)).setIfInBounds 6 (.int .u64 E.many)).setIfInBounds 7 (.int .i64 E.node)).setIfInBounds 8 (.int .i64 E.level)).setIfInBounds 9 (.string E.data)).setIfInBounds 10 (.string E.old)) = ec E := by
  simp
theorem store_all {wr : World} {g : Nat} (E : En) (h : wr.heap[g]? = some (.cells (ec ezz) 31 (0, 0))) : (((((((((((wr.setCell ⟨g, 0, none⟩ (.int .u64 E.term)).setCell ⟨g, 1, none⟩ (.int .u64 E.index)).setCell ⟨g, 2, none⟩ (.int .i64 E.kind)).setCell ⟨g, 3, none⟩ (.int .u64 E.client)).setCell ⟨g, 4, none⟩ (.int .u64 E.seq)).setCell ⟨g, 5, none⟩ (.int .u64 E.block)).setCell ⟨g, 6, none⟩ (.int .u64 E.many)).setCell ⟨g, 7, none⟩ (.int .i64 E.node)).setCell ⟨g, 8, none⟩ (.int .i64 E.level)).setCell ⟨g, 9, none⟩ (.string E.data)).setCell ⟨g, 10, none⟩ (.string E.old)).heap[g]? = some (.cells (ec E) 31 (0, 0)) := by
  rw [← fill_all E]
  exact (set_blk (set_blk (set_blk (set_blk (set_blk (set_blk (set_blk (set_blk (set_blk (set_blk (set_blk h 0 _) 1 _) 2 _) 3 _) 4 _) 5 _) 6 _) 7 _) 8 _) 9 _) 10 _)
theorem below_all {B : Nat} {a wr : World} {g : Nat} (E : En) (h : Below B a wr) (hg : B ≤ g) : Below B a (((((((((((wr.setCell ⟨g, 0, none⟩ (.int .u64 E.term)).setCell ⟨g, 1, none⟩ (.int .u64 E.index)).setCell ⟨g, 2, none⟩ (.int .i64 E.kind)).setCell ⟨g, 3, none⟩ (.int .u64 E.client)).setCell ⟨g, 4, none⟩ (.int .u64 E.seq)).setCell ⟨g, 5, none⟩ (.int .u64 E.block)).setCell ⟨g, 6, none⟩ (.int .u64 E.many)).setCell ⟨g, 7, none⟩ (.int .i64 E.node)).setCell ⟨g, 8, none⟩ (.int .i64 E.level)).setCell ⟨g, 9, none⟩ (.string E.data)).setCell ⟨g, 10, none⟩ (.string E.old)) :=
  (((((((((((h.setCell (p := ⟨g, 0, none⟩) hg _).setCell (p := ⟨g, 1, none⟩) hg _).setCell (p := ⟨g, 2, none⟩) hg _).setCell (p := ⟨g, 3, none⟩) hg _).setCell (p := ⟨g, 4, none⟩) hg _).setCell (p := ⟨g, 5, none⟩) hg _).setCell (p := ⟨g, 6, none⟩) hg _).setCell (p := ⟨g, 7, none⟩) hg _).setCell (p := ⟨g, 8, none⟩) hg _).setCell (p := ⟨g, 9, none⟩) hg _).setCell (p := ⟨g, 10, none⟩) hg _)
structure Md (w0 : World) (e : En) (r : Int) (L : ByteArray) (g k : Nat) (wr : World) : Prop where
  src : wr.heap[w0.heap.size + 1 + 1]? = some (.cells (ec e) 31 (0, 0))
  res : wr.heap[w0.heap.size + 1]? = some (.cells (ec ezz) 31 (0, 0))
  out : wr.heap[g]? = some (.cells (ec (part e r (L.data.toList.take k))) 31 (0, 0))
  be : Below w0.heap.size w0 wr
  l : w0.heap.size + 1 + 1 < g
theorem Md.sc {w0 : World} {e : En} {r : Int} {L : ByteArray} {g k : Nat} {wr : World} (h : Md w0 e r L g k wr) (i : Nat) : wr.cell? ⟨w0.heap.size + 1 + 1, i, none⟩ = (ec e)[i]? := cell_of_row wr _ i _ 31 (0, 0) h.src
theorem Md.oc {w0 : World} {e : En} {r : Int} {L : ByteArray} {g k : Nat} {wr : World} (h : Md w0 e r L g k wr) (i : Nat) : wr.cell? ⟨g, i, none⟩ = (ec (part e r (L.data.toList.take k)))[i]? := cell_of_row wr _ i _ 31 (0, 0) h.out
theorem Md.rc {w0 : World} {e : En} {r : Int} {L : ByteArray} {g k : Nat} {wr : World} (h : Md w0 e r L g k wr) (i : Nat) : wr.cell? ⟨w0.heap.size + 1, i, none⟩ = (ec ezz)[i]? := cell_of_row wr _ i _ 31 (0, 0) h.res
theorem Md.of {w : World} {g i : Nat} {T : TypeId} {cs : Array Value} (h : w.heap[g]? = some (.cells cs T (0, 0))) : w.frozen? ⟨g, i, none⟩ = false := by simp [World.frozen?, h]
theorem Md.step {w0 : World} {e : En} {r : Int} {L : ByteArray} {g k : Nat} {wr w1 : World} (h : Md w0 e r L g k wr) (ho : w1.heap[g]? = some (.cells (ec (part e r (L.data.toList.take (k + 1)))) 31 (0, 0))) (hk : ∀ j, j ≠ g → w1.heap[j]? = wr.heap[j]?) (hs : w1.heap.size = wr.heap.size) (h1 : w1.os = wr.os) (h2 : w1.tape = wr.tape) (h3 : w1.output = wr.output) :
    Md w0 e r L g (k + 1) w1 := by
  have hl := h.l
  refine ⟨(hk _ (by omega)).trans h.src, (hk _ (by omega)).trans h.res, ho, ⟨h1.trans h.be.os, h2.trans h.be.tape, h3.trans h.be.output, by rw [hs]; exact h.be.size, fun j hj => (hk j (by omega)).trans (h.be.block j hj)⟩, hl⟩
theorem Md.set1 {w0 : World} {e : En} {r : Int} {L : ByteArray} {g k : Nat} {wr : World} (h : Md w0 e r L g k wr) (i : Nat) (u : Value) (hp : ec (part e r (L.data.toList.take (k + 1))) = (ec (part e r (L.data.toList.take k))).setIfInBounds i u) : Md w0 e r L g (k + 1) (wr.setCell ⟨g, i, none⟩ u) :=
  h.step (by rw [hp]; exact set_blk h.out i u) (fun j hj => Below.heap_setCell wr _ _ j hj) (by simp) rfl rfl rfl
theorem Md.set2 {w0 : World} {e : En} {r : Int} {L : ByteArray} {g k : Nat} {wr : World} (h : Md w0 e r L g k wr) (i i' : Nat) (u u' : Value) (hp : ec (part e r (L.data.toList.take (k + 1))) = ((ec (part e r (L.data.toList.take k))).setIfInBounds i u).setIfInBounds i' u') : Md w0 e r L g (k + 1) ((wr.setCell ⟨g, i, none⟩ u).setCell ⟨g, i', none⟩ u') :=
  h.step (by rw [hp]; exact set_blk (set_blk h.out i u) i' u') (fun j hj => (Below.heap_setCell _ _ _ j hj).trans (Below.heap_setCell wr _ _ j hj)) (by simp) rfl rfl rfl
set_option maxRecDepth 100000 in
set_option maxHeartbeats 2000000 in
theorem made_no (e : En) (w : World) : Calls Tryd.prog 15 #[mdv e false] w fun r w' => r = .returned (ev e) ∧ Below w.heap.size w w' := by
  go_enter Tryd.func15, Tryd.ntmps15
  go_wp2
  refine bodyPost_ret (v := ev e) (by simp [results, Tryd.results15, go_sem]) rfl ⟨rfl, ((Below.refl _ _).alloc (Nat.le_refl _) _).alloc (by simp) _⟩
theorem mk_r (e : En) : (if e.kind.tmod 12 < 0 then e.kind.tmod 12 + 12 else e.kind.tmod 12) = e.kind % 12 := by
  have h1 := Int.tmod_add_mul_tdiv e.kind 12
  have h2 := Int.tmod_lt_of_pos e.kind (show (0:Int) < 12 by omega)
  have h3 : -12 < e.kind.tmod 12 := by
    rcases Int.lt_or_le e.kind 0 with h | h
    · have h4 := Int.tmod_lt_of_pos (-e.kind) (show (0:Int) < 12 by omega)
      rw [Int.neg_tmod] at h4
      omega
    · have := Int.tmod_nonneg 12 h
      omega
  split <;> omega
set_option maxRecDepth 100000 in
set_option maxHeartbeats 4000000 in
theorem made_yes (e : En) (w : World) (ok : e.Ok) : Calls Tryd.prog 15 #[mdv e true] w fun r w' => r = .returned (ev (mk e)) ∧ Below w.heap.size w w' := by
  have OK := Lib.hid ok
  clear ok
  have hr1 := mk_r e
  have hk := OK.out
  have x1 := hk.t0
  have x2 := hk.t1
  have x3 := hk.i0
  have x4 := hk.i1
  have x5 := hk.c0
  have x6 := hk.c1
  have x7 := hk.s0
  have x8 := hk.s1
  have x9 := hk.b0
  have x10 := hk.b1
  have x11 := hk.m0
  have x12 := hk.m1
  clear hk
  obtain ⟨wq, hQ⟩ : ∃ wq, wq = ((w.alloc (Obj.cells (mdc e true) 41)).alloc (Obj.cells (ec ezz) 31)).alloc (Obj.cells (ec e) 31) := ⟨_, rfl⟩
  have hbq : Below w.heap.size w wq := by rw [hQ]; exact (((Below.refl _ _).alloc (Nat.le_refl _) _).alloc (by simp) _).alloc (by simp; omega) _
  have hq2 : wq.heap[w.heap.size + 1 + 1]? = some (.cells (ec e) 31 (0, 0)) := by
    have h := heap_alloc_new ((w.alloc (Obj.cells (mdc e true) 41)).alloc (Obj.cells (ec ezz) 31)) (Obj.cells (ec e) 31)
    rw [show ((w.alloc (Obj.cells (mdc e true) 41)).alloc (Obj.cells (ec ezz) 31)).heap.size = w.heap.size + 1 + 1 by simp] at h
    rw [hQ]; exact h
  have hq1 : wq.heap[w.heap.size + 1]? = some (.cells (ec ezz) 31 (0, 0)) := by
    have h := heap_alloc_new (w.alloc (Obj.cells (mdc e true) 41)) (Obj.cells (ec ezz) 31)
    rw [show (w.alloc (Obj.cells (mdc e true) 41)).heap.size = w.heap.size + 1 by simp] at h
    rw [hQ]; exact (Lib.alloc_old _ _ _ (by simp)).trans h
  have hqs : wq.heap.size = w.heap.size + 1 + 1 + 1 := by rw [hQ]; simp
  have HQ := Lib.hid hQ
  have HB := Lib.hid hbq
  have HS := Lib.hid hqs
  have H1 := Lib.hid hq1
  have H2 := Lib.hid hq2
  clear hQ hbq hqs hq1 hq2
  by_cases hneg : e.kind.tmod 12 < 0
  all_goals
    first | rw [if_pos hneg] at hr1 | rw [if_neg hneg] at hr1
    have HR := Lib.hid hr1
    clear hr1
    go_enter Tryd.func15, Tryd.ntmps15
    go_wp2_with (go_at_call 31; fail)
    obtain ⟨r, hr⟩ : ∃ r, r = e.kind % 12 := ⟨_, rfl⟩
    first
      | rw [show wrap64 (e.kind.tmod 12 + 12) = r by have hx := HR.out; rw [hx, hr]; unfold wrap64; omega]
      | rw [show e.kind.tmod 12 + 12 = r by rw [hr, ← HR.out]]
      | rw [show e.kind.tmod 12 = r by rw [hr, ← HR.out]]
    rw [← HQ.out]
    have HRR := Lib.hid hr
    clear hr HR hneg
    with_reducible refine (rfields_any r _).mono ?_
    rintro q w1 ⟨rfl, hb1⟩
    have c0 : w1.cell? ⟨w.heap.size + 1 + 1, 0, none⟩ = some (.int .u64 e.term) := (hb1.cell (p := ⟨w.heap.size + 1 + 1, 0, none⟩) (by have := HS.out; simp; omega)).trans (cell_of_row wq _ 0 _ 31 (0, 0) H2.out)
    have c1 : w1.cell? ⟨w.heap.size + 1 + 1, 1, none⟩ = some (.int .u64 e.index) := (hb1.cell (p := ⟨w.heap.size + 1 + 1, 1, none⟩) (by have := HS.out; simp; omega)).trans (cell_of_row wq _ 1 _ 31 (0, 0) H2.out)
    have hq1w : w1.heap[w.heap.size + 1]? = some (.cells (ec ezz) 31 (0, 0)) := (hb1.block _ (by have := HS.out; omega)).trans H1.out
    have hq2w : w1.heap[w.heap.size + 1 + 1]? = some (.cells (ec e) 31 (0, 0)) := (hb1.block _ (by have := HS.out; omega)).trans H2.out
    have hbw : Below w.heap.size w w1 := HB.out.trans (hb1.mono HB.out.size)
    have hlt1 : w.heap.size + 1 + 1 < w1.heap.size := by have := HS.out; have := hb1.size; omega
    have hm0 : Md w e r (fl r) w1.heap.size 0 (w1.alloc (Obj.cells (ec (part e r [])) 31)) :=
      ⟨(Lib.alloc_old w1 _ _ hlt1).trans hq2w, (Lib.alloc_old w1 _ _ (by omega)).trans hq1w, heap_alloc_new w1 _, hbw.alloc hbw.size _, hlt1⟩
    have HM0 := Lib.hid hm0
    have hfl : (fl r).size ≤ 4 := fl_size r
    clear hq1w hq2w hm0 hb1
    go_wp2
    go_loopw [8] (fun i wr => ∃ k : Nat, k ≤ (fl r).size ∧ i = .int .i64 k ∧ Md w e r (fl r) w1.heap.size k wr) (fun i _ => (fl r).size - (intOf i).toNat)
    case atStart => exact ⟨0, Nat.zero_le _, rfl, HM0.out⟩
    case round =>
      obtain ⟨k, hk, rfl, hM⟩ := hrel
      by_cases hlt : k < (fl r).size
      · have htk : Hid ((fl r).data.toList.take (k + 1) = (fl r).data.toList.take k ++ [(fl r)[k]]) := by
          show _ = _
          rw [List.take_succ_eq_append_getElem (by simpa using hlt)]
          rfl
        have s3 := hM.sc 3
        have s4 := hM.sc 4
        have s5 := hM.sc 5
        have s6 := hM.sc 6
        have s7 := hM.sc 7
        have s8 := hM.sc 8
        have s9 := hM.sc 9
        have s10 := hM.sc 10
        have o3 := hM.oc 3
        have o4 := hM.oc 4
        have o5 := hM.oc 5
        have o6 := hM.oc 6
        have o7 := hM.oc 7
        have o8 := hM.oc 8
        have o9 := hM.oc 9
        have o10 := hM.oc 10
        simp only [ec, List.getElem?_toArray, List.getElem?_cons_succ, List.getElem?_cons_zero] at s3 s4 s5 s6 s7 s8 s9 s10 o3 o4 o5 o6 o7 o8 o9 o10
        have fz : ∀ i, wr.frozen? ⟨w1.heap.size, i, none⟩ = false := fun i => Md.of hM.out
        have HMM := Lib.hid hM
        clear hM
        by_cases y99 : (((fl r)[k].toNat : Int) == 99) = true
        · have hx : ((fl r)[k].toNat : Int) = 99 := by simpa using y99
          have HX := Lib.hid hx
          clear hx
          go_wp2
          go_roundw
          case rel => exact ⟨k + 1, by omega, by go_num, HMM.out.set2 3 4 _ _ (by rw [htk.out]; exact part_99 e r _ _ HX.out)⟩
          case measure => simp [intOf]; omega
        · have n99 : (((fl r)[k].toNat : Int) == 99) = false := by simpa using y99
          clear y99
          by_cases y98 : (((fl r)[k].toNat : Int) == 98) = true
          · have hx : ((fl r)[k].toNat : Int) = 98 := by simpa using y98
            have HX := Lib.hid hx
            clear hx
            go_wp2
            go_roundw
            case rel => exact ⟨k + 1, by omega, by go_num, HMM.out.set1 5 _ (by rw [htk.out]; exact part_98 e r _ _ HX.out)⟩
            case measure => simp [intOf]; omega
          · have n98 : (((fl r)[k].toNat : Int) == 98) = false := by simpa using y98
            clear y98
            by_cases y109 : (((fl r)[k].toNat : Int) == 109) = true
            · have hx : ((fl r)[k].toNat : Int) = 109 := by simpa using y109
              have HX := Lib.hid hx
              clear hx
              go_wp2
              go_roundw
              case rel => exact ⟨k + 1, by omega, by go_num, HMM.out.set1 6 _ (by rw [htk.out]; exact part_109 e r _ _ HX.out)⟩
              case measure => simp [intOf]; omega
            · have n109 : (((fl r)[k].toNat : Int) == 109) = false := by simpa using y109
              clear y109
              by_cases y110 : (((fl r)[k].toNat : Int) == 110) = true
              · have hx : ((fl r)[k].toNat : Int) = 110 := by simpa using y110
                have HX := Lib.hid hx
                clear hx
                go_wp2
                go_roundw
                case rel => exact ⟨k + 1, by omega, by go_num, HMM.out.set1 7 _ (by rw [htk.out, node_eq _ 7 (by omega) (by omega)]; exact part_110 e r _ _ HX.out)⟩
                case measure => simp [intOf]; omega
              · have n110 : (((fl r)[k].toNat : Int) == 110) = false := by simpa using y110
                clear y110
                by_cases y108 : (((fl r)[k].toNat : Int) == 108) = true
                · have hx : ((fl r)[k].toNat : Int) = 108 := by simpa using y108
                  have HX := Lib.hid hx
                  clear hx
                  go_wp2
                  go_roundw
                  case rel => exact ⟨k + 1, by omega, by go_num, HMM.out.set1 8 _ (by rw [htk.out, node_eq _ 2 (by omega) (by omega)]; exact part_108 e r _ _ HX.out)⟩
                  case measure => simp [intOf]; omega
                · have n108 : (((fl r)[k].toNat : Int) == 108) = false := by simpa using y108
                  clear y108
                  by_cases y100 : (((fl r)[k].toNat : Int) == 100) = true
                  · have hx : ((fl r)[k].toNat : Int) = 100 := by simpa using y100
                    have HX := Lib.hid hx
                    clear hx
                    go_wp2
                    go_roundw
                    case rel => exact ⟨k + 1, by omega, by go_num, HMM.out.set1 9 _ (by rw [htk.out]; exact part_100 e r _ _ HX.out)⟩
                    case measure => simp [intOf]; omega
                  · have n100 : (((fl r)[k].toNat : Int) == 100) = false := by simpa using y100
                    clear y100
                    by_cases y111 : (((fl r)[k].toNat : Int) == 111) = true
                    · have hx : ((fl r)[k].toNat : Int) = 111 := by simpa using y111
                      have HX := Lib.hid hx
                      clear hx
                      go_wp2
                      go_roundw
                      case rel => exact ⟨k + 1, by omega, by go_num, HMM.out.set1 10 _ (by rw [htk.out]; exact part_111 e r _ _ HX.out)⟩
                      case measure => simp [intOf]; omega
                    · have n111 : (((fl r)[k].toNat : Int) == 111) = false := by simpa using y111
                      clear y111
                      have hne : Hid (∀ c ∈ ([99, 98, 109, 110, 108, 100, 111] : List Int), ((fl r)[k].toNat : Int) ≠ c) := by
                        intro c hc h0
                        simp only [List.mem_cons, List.not_mem_nil, or_false] at hc
                        rw [h0] at n99 n98 n109 n110 n108 n100 n111
                        rcases hc with rfl | rfl | rfl | rfl | rfl | rfl | rfl <;> simp at n99 n98 n109 n110 n108 n100 n111
                      go_wp2
                      have hM2 : Md w e r (fl r) w1.heap.size (k + 1) wr := HMM.out.step (by rw [htk.out, part_other e r _ _ hne.out]; exact HMM.out.out) (fun _ _ => rfl) rfl rfl rfl rfl
                      go_roundw
                      case rel => exact ⟨k + 1, by omega, by go_num, hM2⟩
                      case measure => simp [intOf]; omega
      · have hkn : k = (fl r).size := by omega
        subst hkn
        have hd : Hid ((fl r).data.toList.take (fl r).size = (fl r).data.toList) := by
          show _ = _
          rw [List.take_of_length_le (by simp)]
        have hout := hM.out
        rw [hd.out] at hout
        obtain ⟨E, hE⟩ : ∃ E, E = part e r (fl r).data.toList := ⟨_, rfl⟩
        rw [← hE] at hout
        have hmk : Hid (mk e = E) := by show _ = _; rw [hE]; unfold mk; rw [HRR.out]
        have hEo : ∀ i, wr.cell? ⟨w1.heap.size, i, none⟩ = (ec E)[i]? := fun i => cell_of_row wr _ i _ 31 (0, 0) hout
        have p0 := hEo 0
        have p1 := hEo 1
        have p2 := hEo 2
        have p3 := hEo 3
        have p4 := hEo 4
        have p5 := hEo 5
        have p6 := hEo 6
        have p7 := hEo 7
        have p8 := hEo 8
        have p9 := hEo 9
        have p10 := hEo 10
        have z0 := hM.rc 0
        have z1 := hM.rc 1
        have z2 := hM.rc 2
        have z3 := hM.rc 3
        have z4 := hM.rc 4
        have z5 := hM.rc 5
        have z6 := hM.rc 6
        have z7 := hM.rc 7
        have z8 := hM.rc 8
        have z9 := hM.rc 9
        have z10 := hM.rc 10
        simp only [ec, List.getElem?_toArray, List.getElem?_cons_succ, List.getElem?_cons_zero] at p0 p1 p2 p3 p4 p5 p6 p7 p8 p9 p10 z0 z1 z2 z3 z4 z5 z6 z7 z8 z9 z10
        have fz : ∀ i, wr.frozen? ⟨w.heap.size + 1, i, none⟩ = false := fun i => Md.of hM.res
        have HBE := Lib.hid hM.be
        have HRES := Lib.hid hM.res
        clear hE hout hEo hM
        go_wp2
        obtain ⟨WF, hWF⟩ : ∃ WF, WF = (((((((((((wr.setCell ⟨w.heap.size + 1, 0, none⟩ (.int .u64 E.term)).setCell ⟨w.heap.size + 1, 1, none⟩ (.int .u64 E.index)).setCell ⟨w.heap.size + 1, 2, none⟩ (.int .i64 E.kind)).setCell ⟨w.heap.size + 1, 3, none⟩ (.int .u64 E.client)).setCell ⟨w.heap.size + 1, 4, none⟩ (.int .u64 E.seq)).setCell ⟨w.heap.size + 1, 5, none⟩ (.int .u64 E.block)).setCell ⟨w.heap.size + 1, 6, none⟩ (.int .u64 E.many)).setCell ⟨w.heap.size + 1, 7, none⟩ (.int .i64 E.node)).setCell ⟨w.heap.size + 1, 8, none⟩ (.int .i64 E.level)).setCell ⟨w.heap.size + 1, 9, none⟩ (.string E.data)).setCell ⟨w.heap.size + 1, 10, none⟩ (.string E.old)) := ⟨_, rfl⟩
        rw [← hWF]
        have hblk : WF.heap[w.heap.size + 1]? = some (.cells (ec E) 31 (0, 0)) := by
          rw [hWF]
          exact store_all E HRES.out
        have hbF : Below w.heap.size w WF := by
          rw [hWF]
          exact below_all E HBE.out (by omega)
        have hEf : ∀ i, WF.cell? ⟨w.heap.size + 1, i, none⟩ = (ec E)[i]? := fun i => cell_of_row WF _ i _ 31 (0, 0) hblk
        have f0 := hEf 0
        have f1 := hEf 1
        have f2 := hEf 2
        have f3 := hEf 3
        have f4 := hEf 4
        have f5 := hEf 5
        have f6 := hEf 6
        have f7 := hEf 7
        have f8 := hEf 8
        have f9 := hEf 9
        have f10 := hEf 10
        simp only [ec, List.getElem?_toArray, List.getElem?_cons_succ, List.getElem?_cons_zero] at f0 f1 f2 f3 f4 f5 f6 f7 f8 f9 f10
        clear hEf hblk hWF
        exact bodyPost_ret (v := ev E) (by simp [results, Tryd.results15, go_sem, f0, f1, f2, f3, f4, f5, f6, f7, f8, f9, f10]) rfl ⟨by rw [hmk.out], hbF⟩
end Go.Proofs.YtmencfmjmbbfhaaDoor
