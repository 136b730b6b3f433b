/-
  A message's bytes, as the package puts them.
  Conditions: the numbers are those of their kinds; the texts' lengths below 2^47.
-/
import Derived.Test.YtiikgfcfceldmaaPutE
import Derived.Test.YtiikgfcfceldmaaMLevel
import Derived.Test.YtiikgfcfceldmaaMRB01
import Derived.Test.YtiikgfcfceldmaaMRB10
import Derived.Test.YtiikgfcfceldmaaMRB00
import Derived.Test.YtiikgfcfceldmaaNState
namespace Go.Proofs.Ytiikgfcfceldmaa
open Go.RowKit
set_option linter.unusedVariables false
set_option linter.unusedSimpArgs false

theorem mright_any (m : Ms) (w : World) (hE : Ents w.heap.size m.A m.n m.es w) (hn : (m.n : Int) ≤ 9223372036854775807) (hok : ∀ e ∈ m.es, e.Ok) :
    Calls Try.prog 61 #[mv m] w fun r w' => r = .returned (.bool (mrightB m)) ∧ Below w.heap.size w w' := by
  by_cases h1 : 1 ≤ m.frm <;> by_cases h2 : 1 ≤ m.dst
  · exact mright_11 m w hE hn hok h1 h2
  · exact mright_10 m w hE hn hok h1 (by omega)
  · exact mright_01 m w hE hn hok (by omega) h2
  · exact mright_00 m w hE hn hok (by omega) (by omega)
/-- Entries, one behind the other. -/
def pbs : List En → ByteArray
  | [] => ⟨#[]⟩
  | e :: l => pb e ++ pbs l
/-- A message's bytes. -/
def pbm (m : Ms) : ByteArray :=
  fN m.kind 1 ++ fN m.frm 1 ++ fN m.dst 1 ++ fN m.term 8 ++ fN m.index 8 ++ fN m.prev 8 ++ fN m.commit 8 ++ fN m.mark 8 ++ fN (bitI m.ok) 1 ++ fN m.n 1 ++ pbs m.es ++ fN m.snap.size 4 ++ m.snap
def mmayB (m : Ms) : Bool := mrightB m && (mlvl m == 1)
def putM (m : Ms) : ByteArray := if mmayB m then pbm m else ⟨#[]⟩
theorem pbs_snoc : ∀ (l : List En) (e : En), pbs (l ++ [e]) = pbs l ++ pb e
  | [], e => by
    show pb e ++ ⟨#[]⟩ = ⟨#[]⟩ ++ pb e
    apply ByteArray.ext; simp
  | a :: l, e => by
    show pb a ++ pbs (l ++ [e]) = pb a ++ pbs l ++ pb e
    rw [pbs_snoc l e, Vi.append_assoc3]
theorem pbs_size : ∀ (l : List En), (∀ e ∈ l, Few e) → (pbs l).size = 110 * l.length
  | [], _ => rfl
  | a :: l, h => by
    show (pb a ++ pbs l).size = _
    rw [ByteArray.size_append, pb_size (h a (by simp)), pbs_size l (fun e he => h e (by simp [he])), List.length_cons]
    omega
/-- What holds of a message that may be. -/
structure MFew (m : Ms) : Prop where
  k0 : 0 ≤ m.kind
  k1 : m.kind ≤ 10
  f0 : 0 ≤ m.frm
  f1 : m.frm ≤ 7
  o0 : 0 ≤ m.dst
  o1 : m.dst ≤ 7
  n1 : m.n ≤ 64
  s1 : m.snap.size ≤ 16384
  es : ∀ e ∈ m.es, Few e
theorem mfew_of {m : Ms} (wd : m.Wide) (h : mrightB m = true) : MFew m := by
  unfold mrightB at h
  simp only [Bool.and_eq_true, Bool.not_eq_true'] at h
  obtain ⟨h1, h2⟩ := h
  have hes : ∀ e ∈ m.es, Few e := by
    intro e he
    refine few_of (wd.eo e he) ?_
    unfold hasWrong at h2
    rw [List.any_eq_false] at h2
    simpa using h2 e he
  unfold masksB masks at h1
  simp only [List.all_cons, List.all_nil, id, Bool.and_true, Bool.and_eq_true, decide_eq_true_eq, lim_facts, IntKind.wrap_u64] at h1
  obtain ⟨a0, a1, a2, a3, a4, a5, a6, a7, a8, a9⟩ := h1
  have f : 1 ≤ m.kind ∧ m.kind ≤ 10 := of_decide_eq_true a0
  have q1 := wd.n1
  have q2 := wd.s1
  refine ⟨by omega, f.2, by omega, a1.2, by omega, a2.2, ?_, ?_, hes⟩
  · exact both (fun h => by have := a8.1 h; omega) (fun h => by have := a8.2 h; omega)
  · exact both (fun h => by have := a9.1 h; omega) (fun h => by have := a9.2 h; omega)
theorem pbm_size {m : Ms} (h : MFew m) (hl : m.es.length = m.n) : (pbm m).size = 49 + 110 * m.n + m.snap.size := by
  unfold pbm
  simp only [ByteArray.size_append, pbs_size _ h.es, fN_size _ 1 (by omega) (by omega), fN_size _ 8 (by omega) (by omega), fN_size _ 4 (by omega) (by omega)]
  rw [hl]
  omega

/-- What stands in the midst of a message's being put. -/
structure Wm (w0 : World) (B b : Nat) (m : Ms) (x : ByteArray) (r : Nat) (w : World) : Prop where
  s : Ws w0 B b x w
  lb : b < w0.heap.size
  box : w.heap[w0.heap.size]? = some (.cells (mc m) 44 (0, 0))
  fn : w.heap[w0.heap.size + 1]? = some (.cells #[.func (.func 53) #[.pointer (some ⟨b, 0, none⟩)] #[]] 83 (0, 0))
  en : Ents B m.A m.n m.es w
  sz : x.size + r ≤ 140737488000000
section
variable {w0 : World} {B b : Nat} {m : Ms} {x : ByteArray} {r : Nat} {w w1 : World}
theorem Wm.cell (h : Wm w0 B b m x r w) (i : Nat) : w.cell? ⟨w0.heap.size, i, none⟩ = (mc m)[i]? := cell_of_row w _ i _ 44 (0, 0) h.box
theorem Wm.fcell (h : Wm w0 B b m x r w) : w.cell? ⟨w0.heap.size + 1, 0, none⟩ = some (.func (.func 53) #[.pointer (some ⟨b, 0, none⟩)] #[]) := cell_of_row w _ 0 _ 83 (0, 0) h.fn
theorem Wm.drew (h : Wm w0 B b m x r w) : Wm w0 B b m x r w.drew := ⟨h.s.drew, h.lb, h.box, h.fn, h.en.below (Below.refl _ w).drew, h.sz⟩
theorem Wm.below (h : Wm w0 B b m x r w) (hb : Below w.heap.size w w1) : Wm w0 B b m x r w1 :=
  ⟨h.s.below hb, h.lb, (hb.block _ (Array.getElem?_eq_some_iff.1 h.box).1).trans h.box, (hb.block _ (Array.getElem?_eq_some_iff.1 h.fn).1).trans h.fn, h.en.below (hb.mono h.s.sz), h.sz⟩
theorem Wm.on {y : ByteArray} {r' : Nat} (h : Wm w0 B b m x r w) (k : Ws w B b (x ++ y) w1) (hr : y.size + r' ≤ r) : Wm w0 B b m (x ++ y) r' w1 := by
  have h1 := h.lb
  have h2 := h.sz
  exact ⟨⟨k.t, h.s.be.trans k.be, h.s.ok.trans k.ok, k.sz, Nat.le_trans h.s.sw k.sw⟩, h.lb, kept_cells k.ok h.box (by omega) (by decide), kept_cells k.ok h.fn (by omega) (by decide), h.en.below k.be, by rw [ByteArray.size_append]; omega⟩
theorem Wm.all (h : Wm w0 B b m x r w) : Wm w0 B b m x r w ∧ w.cell? ⟨w0.heap.size, 0, none⟩ = some (.int .i64 m.kind) ∧ w.cell? ⟨w0.heap.size, 1, none⟩ = some (.int .i64 m.frm) ∧ w.cell? ⟨w0.heap.size, 2, none⟩ = some (.int .i64 m.dst) ∧ w.cell? ⟨w0.heap.size, 3, none⟩ = some (.int .u64 m.term) ∧ w.cell? ⟨w0.heap.size, 4, none⟩ = some (.int .u64 m.index) ∧ w.cell? ⟨w0.heap.size, 5, none⟩ = some (.int .u64 m.prev) ∧ w.cell? ⟨w0.heap.size, 6, none⟩ = some (.int .u64 m.commit) ∧ w.cell? ⟨w0.heap.size, 7, none⟩ = some (.int .u64 m.mark) ∧ w.cell? ⟨w0.heap.size, 8, none⟩ = some (.bool m.ok) ∧ w.cell? ⟨w0.heap.size, 9, none⟩ = some (.slice m.A m.n m.c) ∧ w.cell? ⟨w0.heap.size, 10, none⟩ = some (.string m.snap) ∧ w.cell? ⟨w0.heap.size + 1, 0, none⟩ = some (.func (.func 53) #[.pointer (some ⟨b, 0, none⟩)] #[]) := ⟨h, h.cell 0, h.cell 1, h.cell 2, h.cell 3, h.cell 4, h.cell 5, h.cell 6, h.cell 7, h.cell 8, h.cell 9, h.cell 10, h.fcell⟩
end
theorem wm_number (w0 : World) (B b : Nat) (m : Ms) (x : ByteArray) (r : Nat) (v k : Int) (w : World) (h : Wm w0 B b m x r w) (hr : 8 ≤ r) (hv : 0 ≤ v) (hk : 0 ≤ k ∧ k ≤ 8) :
    Calls Try.prog 53 #[.pointer (some ⟨b, 0, none⟩), .int .u64 v, .int .i64 k] w fun q w' => q = .returned (.tuple #[]) ∧ Wm w0 B b m (x ++ fN v k) (r - 8) w' ∧ w'.cell? ⟨w0.heap.size, 0, none⟩ = some (.int .i64 m.kind) ∧ w'.cell? ⟨w0.heap.size, 1, none⟩ = some (.int .i64 m.frm) ∧ w'.cell? ⟨w0.heap.size, 2, none⟩ = some (.int .i64 m.dst) ∧ w'.cell? ⟨w0.heap.size, 3, none⟩ = some (.int .u64 m.term) ∧ w'.cell? ⟨w0.heap.size, 4, none⟩ = some (.int .u64 m.index) ∧ w'.cell? ⟨w0.heap.size, 5, none⟩ = some (.int .u64 m.prev) ∧ w'.cell? ⟨w0.heap.size, 6, none⟩ = some (.int .u64 m.commit) ∧ w'.cell? ⟨w0.heap.size, 7, none⟩ = some (.int .u64 m.mark) ∧ w'.cell? ⟨w0.heap.size, 8, none⟩ = some (.bool m.ok) ∧ w'.cell? ⟨w0.heap.size, 9, none⟩ = some (.slice m.A m.n m.c) ∧ w'.cell? ⟨w0.heap.size, 10, none⟩ = some (.string m.snap) ∧ w'.cell? ⟨w0.heap.size + 1, 0, none⟩ = some (.func (.func 53) #[.pointer (some ⟨b, 0, none⟩)] #[]) := by
  obtain ⟨n, rfl⟩ := Int.eq_ofNat_of_zero_le hv
  obtain ⟨j, rfl⟩ := Int.eq_ofNat_of_zero_le hk.1
  have hs : (fN n j).size = j := by rw [fN_size _ _ (by omega) (by omega)]; omega
  have h1 := h.sz
  exact (number_any B b n j x w h.s.t (by omega) h.s.sz (by omega)).mono fun q w' ⟨h2, h3⟩ => ⟨h2, (h.on (y := fN n j) h3 (by omega)).all⟩
set_option maxHeartbeats 1000000 in
set_option maxRecDepth 100000 in
theorem wm_small (w0 : World) (B b : Nat) (m : Ms) (x : ByteArray) (r : Nat) (v : Int) (w : World) (h : Wm w0 B b m x r w) (hr : 8 ≤ r) (hv : 0 ≤ v ∧ v ≤ 255) :
    Calls Try.prog 62 #[.int .i64 v, .pointer (some ⟨w0.heap.size + 1, 0, none⟩)] w fun q w' => q = .returned (.tuple #[]) ∧ Wm w0 B b m (x ++ fN v 1) (r - 8) w' ∧ w'.cell? ⟨w0.heap.size, 0, none⟩ = some (.int .i64 m.kind) ∧ w'.cell? ⟨w0.heap.size, 1, none⟩ = some (.int .i64 m.frm) ∧ w'.cell? ⟨w0.heap.size, 2, none⟩ = some (.int .i64 m.dst) ∧ w'.cell? ⟨w0.heap.size, 3, none⟩ = some (.int .u64 m.term) ∧ w'.cell? ⟨w0.heap.size, 4, none⟩ = some (.int .u64 m.index) ∧ w'.cell? ⟨w0.heap.size, 5, none⟩ = some (.int .u64 m.prev) ∧ w'.cell? ⟨w0.heap.size, 6, none⟩ = some (.int .u64 m.commit) ∧ w'.cell? ⟨w0.heap.size, 7, none⟩ = some (.int .u64 m.mark) ∧ w'.cell? ⟨w0.heap.size, 8, none⟩ = some (.bool m.ok) ∧ w'.cell? ⟨w0.heap.size, 9, none⟩ = some (.slice m.A m.n m.c) ∧ w'.cell? ⟨w0.heap.size, 10, none⟩ = some (.string m.snap) ∧ w'.cell? ⟨w0.heap.size + 1, 0, none⟩ = some (.func (.func 53) #[.pointer (some ⟨b, 0, none⟩)] #[]) := by
  have c := h.fcell
  have hw : IntKind.u64.wrap v = v := IntWalk.u64_in _ (by omega)
  have K := Lib.hid (wm_number w0 B b m x r v 1 w h hr hv.1 (by omega))
  clear h
  go_enter Try.func62, Try.ntmps62
  go_wp2_with (go_at_call 53; (with_reducible refine K.out.mono ?_); rintro q w1 ⟨rfl, h1⟩)
  go_end0
  exact ⟨rfl, h1⟩
theorem wm_write (w0 : World) (B b : Nat) (m : Ms) (x s : ByteArray) (r : Nat) (w : World) (h : Wm w0 B b m x r w) (hr : s.size ≤ r) :
    Calls Try.prog 55 #[.pointer (some ⟨b, 0, none⟩), .string s] w fun q w' => q = .returned (.tuple #[.int .i64 s.size, .nilIface]) ∧ Wm w0 B b m (x ++ s) (r - s.size) w' ∧ w'.cell? ⟨w0.heap.size, 0, none⟩ = some (.int .i64 m.kind) ∧ w'.cell? ⟨w0.heap.size, 1, none⟩ = some (.int .i64 m.frm) ∧ w'.cell? ⟨w0.heap.size, 2, none⟩ = some (.int .i64 m.dst) ∧ w'.cell? ⟨w0.heap.size, 3, none⟩ = some (.int .u64 m.term) ∧ w'.cell? ⟨w0.heap.size, 4, none⟩ = some (.int .u64 m.index) ∧ w'.cell? ⟨w0.heap.size, 5, none⟩ = some (.int .u64 m.prev) ∧ w'.cell? ⟨w0.heap.size, 6, none⟩ = some (.int .u64 m.commit) ∧ w'.cell? ⟨w0.heap.size, 7, none⟩ = some (.int .u64 m.mark) ∧ w'.cell? ⟨w0.heap.size, 8, none⟩ = some (.bool m.ok) ∧ w'.cell? ⟨w0.heap.size, 9, none⟩ = some (.slice m.A m.n m.c) ∧ w'.cell? ⟨w0.heap.size, 10, none⟩ = some (.string m.snap) ∧ w'.cell? ⟨w0.heap.size + 1, 0, none⟩ = some (.func (.func 53) #[.pointer (some ⟨b, 0, none⟩)] #[]) := by
  have h1 := h.sz
  exact (wwrite B b x s w h.s.t (by omega) h.s.sz).mono fun q w' ⟨h2, h3, h4, h5⟩ => ⟨h2, (h.on (w1 := w') (y := s) ⟨h3, h4, h5, Nat.le_trans h.s.sz h4.size, h4.size⟩ (by omega)).all⟩
theorem wm_entry (w0 : World) (B b : Nat) (m : Ms) (x : ByteArray) (r : Nat) (e : En) (w : World) (h : Wm w0 B b m x r w) (hr : 110 ≤ r) (hx : x.size ≤ 140737487000000) (ok : e.Ok) (fw : Few e) :
    Calls Try.prog 29 #[.pointer (some ⟨b, 0, none⟩), ev e] w fun q w' => q = .returned (.tuple #[]) ∧ Wm w0 B b m (x ++ pb e) (r - 110) w' ∧ w'.cell? ⟨w0.heap.size, 0, none⟩ = some (.int .i64 m.kind) ∧ w'.cell? ⟨w0.heap.size, 1, none⟩ = some (.int .i64 m.frm) ∧ w'.cell? ⟨w0.heap.size, 2, none⟩ = some (.int .i64 m.dst) ∧ w'.cell? ⟨w0.heap.size, 3, none⟩ = some (.int .u64 m.term) ∧ w'.cell? ⟨w0.heap.size, 4, none⟩ = some (.int .u64 m.index) ∧ w'.cell? ⟨w0.heap.size, 5, none⟩ = some (.int .u64 m.prev) ∧ w'.cell? ⟨w0.heap.size, 6, none⟩ = some (.int .u64 m.commit) ∧ w'.cell? ⟨w0.heap.size, 7, none⟩ = some (.int .u64 m.mark) ∧ w'.cell? ⟨w0.heap.size, 8, none⟩ = some (.bool m.ok) ∧ w'.cell? ⟨w0.heap.size, 9, none⟩ = some (.slice m.A m.n m.c) ∧ w'.cell? ⟨w0.heap.size, 10, none⟩ = some (.string m.snap) ∧ w'.cell? ⟨w0.heap.size + 1, 0, none⟩ = some (.func (.func 53) #[.pointer (some ⟨b, 0, none⟩)] #[]) :=
  (entry_any B b e x w h.s.t hx h.s.sz ok fw).mono fun q w' ⟨h2, h3⟩ => ⟨h2, (h.on (y := pb e) h3 (by rw [pb_size fw]; omega)).all⟩
set_option maxHeartbeats 400000 in
theorem bit63b (b : Bool) (w : World) : Calls Try.prog 63 #[.bool b] w fun q w' => q = .returned (.int .i64 (bitI b)) ∧ w' = w := by
  cases b
  all_goals
    go_enter Try.func63, Try.ntmps63
    go_wp2
    go_ret
    exact ⟨rfl, rfl⟩

set_option maxHeartbeats 16000000 in
set_option maxRecDepth 100000 in
theorem msg_any (B b : Nat) (m : Ms) (x : ByteArray) (w : World) (h : Wt B b x w) (hx : x.size ≤ 1000) (hB : B ≤ w.heap.size) (hE : Ents B m.A m.n m.es w) (wd : m.Wide) (fw : MFew m) :
    Calls Try.prog 44 #[.pointer (some ⟨b, 0, none⟩), mv m] w fun q w' => q = .returned (.tuple #[]) ∧ Ws w B b (x ++ pbm m) w' := by
  have hmf : ∀ (fn : Fn) (first cap : Array Value) (w : World), (Instr.makeFunc fn first cap).run Try.prog w = .ok (.func fn first cap) w := fun _ _ _ _ => rfl
  obtain ⟨W0, hW0⟩ : ∃ W0, W0 = (w.alloc (Obj.cells (mc m) 44)).alloc (Obj.cells #[.func (.func 53) #[.pointer (some ⟨b, 0, none⟩)] #[]] 83) := ⟨_, rfl⟩
  have hb0 : Below w.heap.size w W0 := by rw [hW0]; exact ((Below.refl _ _).alloc (Nat.le_refl _) _).alloc (by simp) _
  have hlt : b < w.heap.size := by rcases h with h | h <;> exact h.lt
  have S0 : Wm w B b m x 100000 W0 := by
    have k0 : W0.heap[w.heap.size]? = some (.cells (mc m) 44 (0, 0)) := by
      rw [hW0]; exact (Lib.alloc_old _ _ _ (by simp)).trans (heap_alloc_new w _)
    have k1 : W0.heap[w.heap.size + 1]? = some (.cells #[.func (.func 53) #[.pointer (some ⟨b, 0, none⟩)] #[]] 83 (0, 0)) := by
      have h := heap_alloc_new (w.alloc (Obj.cells (mc m) 44)) (Obj.cells #[.func (.func 53) #[.pointer (some ⟨b, 0, none⟩)] #[]] 83)
      rw [show (w.alloc (Obj.cells (mc m) 44)).heap.size = w.heap.size + 1 by simp] at h
      rw [hW0]; exact h
    exact ⟨(Ws.start h hB).below hb0, hlt, k0, k1, hE.below (hb0.mono hB), by omega⟩
  have S1 := S0.all
  have K53 := Lib.hid (wm_number w B b m)
  have K62 := Lib.hid (wm_small w B b m)
  have K55 := Lib.hid (wm_write w B b m)
  have K29 := Lib.hid (wm_entry w B b m)
  have K63 := Lib.hid (fun (W : World) => bit63b m.ok W)
  have g1 := wd.t0
  have g2 := wd.i0
  have g3 := wd.p0
  have g4 := wd.c0
  have g5 := wd.m0
  have q1 : 0 ≤ m.kind ∧ m.kind ≤ 255 := ⟨fw.k0, by have := fw.k1; omega⟩
  have q2 : 0 ≤ m.frm ∧ m.frm ≤ 255 := ⟨fw.f0, by have := fw.f1; omega⟩
  have q3 : 0 ≤ m.dst ∧ m.dst ≤ 255 := ⟨fw.o0, by have := fw.o1; omega⟩
  have hn64 : m.n ≤ 64 := fw.n1
  have q4 : 0 ≤ (m.n : Int) ∧ (m.n : Int) ≤ 255 := by omega
  have q5 : 0 ≤ bitI m.ok ∧ bitI m.ok ≤ 255 := by cases m.ok <;> decide
  have hs1 : m.snap.size ≤ 16384 := fw.s1
  have q6 : 0 ≤ (m.snap.size : Int) := by omega
  have hw6 : IntKind.u64.wrap (m.snap.size : Int) = (m.snap.size : Int) := IntWalk.u64_in _ (by omega)
  have HEN := Lib.hid (fun (k : Nat) (e : En) (he : m.es[k]? = some e) => And.intro (wd.eo e (List.mem_of_getElem? he)) (fw.es e (List.mem_of_getElem? he)))
  have HLEN := Lib.hid hE.len
  obtain ⟨S, c0, c1, c2, c3, c4, c5, c6, c7, c8, c9, c10, cf⟩ := S1
  have HW0 := Lib.hid hW0
  have HX := Lib.hid hx
  clear hW0 hb0 hlt S0 h hx hB hE wd fw
  go_enter Try.func44, Try.ntmps44
  go_upto_region 3 with fail
  rw [← HW0.out]
  clear HW0
  go_upto_region 14 with (first
    | (go_at_call 62; (with_reducible refine (K62.out _ _ _ _ S (by omega) (by assumption)).mono ?_); clear S c0 c1 c2 c3 c4 c5 c6 c7 c8 c9 c10 cf; rintro q w1 ⟨rfl, S, c0, c1, c2, c3, c4, c5, c6, c7, c8, c9, c10, cf⟩)
    | (go_at_call 63; (with_reducible refine (K63.out _).mono ?_); rintro q w1 ⟨rfl, rfl⟩)
    | (go_at_call 53; (with_reducible refine (K53.out _ _ _ _ _ S (by omega) (by assumption) (by omega)).mono ?_); clear S c0 c1 c2 c3 c4 c5 c6 c7 c8 c9 c10 cf; rintro q w1 ⟨rfl, S, c0, c1, c2, c3, c4, c5, c6, c7, c8, c9, c10, cf⟩))
  obtain ⟨y, hy⟩ : ∃ y, y = x ++ fN m.kind 1 ++ fN m.frm 1 ++ fN m.dst 1 ++ fN m.term 8 ++ fN m.index 8 ++ fN m.prev 8 ++ fN m.commit 8 ++ fN m.mark 8 ++ fN (bitI m.ok) 1 ++ fN m.n 1 := ⟨_, rfl⟩
  rw [← hy] at S
  have hys : y.size ≤ 2000 := by
    rw [hy]
    simp only [ByteArray.size_append, fN_size _ 1 (by omega) (by omega), fN_size _ 8 (by omega) (by omega)]
    have := HX.out
    omega
  have HY := Lib.hid hy
  have HYS := Lib.hid hys
  have HS := Lib.hid S
  clear hy hys S c0 c1 c2 c3 c4 c5 c6 c7 c8
  go_loopw [56] (fun i wr => ∃ k : Nat, k ≤ m.n ∧ i = .int .i64 k ∧ Wm w B b m (y ++ pbs (m.es.take k)) (90000 - 110 * k) wr) (fun i _ => m.n - (intOf i).toNat)
  case atStart =>
    refine ⟨0, Nat.zero_le _, rfl, ?_⟩
    have e0 : y ++ pbs (m.es.take 0) = y := by rw [List.take_zero]; show y ++ ⟨#[]⟩ = y; apply ByteArray.ext; simp
    rw [e0]
    have h := HS.out
    exact ⟨h.s, h.lb, h.box, h.fn, h.en, by have := h.sz; omega⟩
  case round =>
    obtain ⟨k, hk, rfl, hr⟩ := hrel
    by_cases hlt : k < m.n
    · obtain ⟨e, he⟩ : ∃ e, m.es[k]? = some e := ⟨_, List.getElem?_eq_getElem (by rw [HLEN.out]; exact hlt)⟩
      obtain ⟨a, hA, hBl, hc⟩ := hr.en.at_ k e he
      have hef := HEN.out k e he
      have hst : Hid (y ++ pbs (m.es.take k) ++ pb e = y ++ pbs (m.es.take (k + 1))) := by
        show _ = _
        rw [take_snoc he, pbs_snoc, Vi.append_assoc3]
      have hps : (y ++ pbs (m.es.take k)).size ≤ 20000 := by
        rw [ByteArray.size_append, pbs_size _ (fun e' he' => by
          obtain ⟨j, hj, hje⟩ := List.getElem_of_mem (List.mem_of_mem_take he')
          exact (HEN.out j e' (by rw [← hje]; exact List.getElem?_eq_getElem hj)).2), List.length_take]
        have := HYS.out
        omega
      have KE := Lib.hid (fun (W : World) (h : Wm w B b m (y ++ pbs (m.es.take k)) (90000 - 110 * k) W) => wm_entry w B b m _ _ e W h (by omega) (by omega) hef.1 hef.2)
      have d0 : wr.cell? (a.add (k * 11)) = some (.int .u64 e.term) := hc 0 (by omega)
      have d1 : wr.cell? ⟨(a.add (k * 11)).block, (a.add (k * 11)).off + 1, none⟩ = some (.int .u64 e.index) := hc 1 (by omega)
      have d2 : wr.cell? ⟨(a.add (k * 11)).block, (a.add (k * 11)).off + 2, none⟩ = some (.int .i64 e.kind) := hc 2 (by omega)
      have d3 : wr.cell? ⟨(a.add (k * 11)).block, (a.add (k * 11)).off + 3, none⟩ = some (.int .u64 e.client) := hc 3 (by omega)
      have d4 : wr.cell? ⟨(a.add (k * 11)).block, (a.add (k * 11)).off + 4, none⟩ = some (.int .u64 e.seq) := hc 4 (by omega)
      have d5 : wr.cell? ⟨(a.add (k * 11)).block, (a.add (k * 11)).off + 5, none⟩ = some (.int .u64 e.block) := hc 5 (by omega)
      have d6 : wr.cell? ⟨(a.add (k * 11)).block, (a.add (k * 11)).off + 6, none⟩ = some (.int .u64 e.many) := hc 6 (by omega)
      have d7 : wr.cell? ⟨(a.add (k * 11)).block, (a.add (k * 11)).off + 7, none⟩ = some (.int .i64 e.node) := hc 7 (by omega)
      have d8 : wr.cell? ⟨(a.add (k * 11)).block, (a.add (k * 11)).off + 8, none⟩ = some (.int .i64 e.level) := hc 8 (by omega)
      have d9 : wr.cell? ⟨(a.add (k * 11)).block, (a.add (k * 11)).off + 9, none⟩ = some (.string e.data) := hc 9 (by omega)
      have d10 : wr.cell? ⟨(a.add (k * 11)).block, (a.add (k * 11)).off + 10, none⟩ = some (.string e.old) := hc 10 (by omega)
      have HR := Lib.hid hr
      rw [hA]
      clear hr hc hA hBl hef hps
      go_wp2_with (go_at_call 29; (with_reducible refine (KE.out _ (HR.out.below ((Below.refl _ _).alloc (Nat.le_refl _) _))).mono ?_); rintro q w2 ⟨rfl, S2, _⟩)
      go_roundw
      case rel =>
        rw [hst.out] at S2
        refine ⟨k + 1, by omega, by go_num, ?_⟩
        rw [show 90000 - 110 * (k + 1) = 90000 - 110 * k - 110 by omega]
        exact S2
      case measure => simp [intOf]; omega
    · have hkn : k = m.n := by omega
      have htk : m.es.take k = m.es := List.take_of_length_le (by rw [HLEN.out]; omega)
      rw [htk] at hr
      obtain ⟨S, c0, c1, c2, c3, c4, c5, c6, c7, c8, c9, c10, cf⟩ := hr.all
      have K53 := Lib.hid (wm_number w B b m)
      clear hr
      go_upto_region 19 with (go_at_call 53; (with_reducible refine (K53.out _ _ _ _ _ S (by omega) (by assumption) (by omega)).mono ?_); clear S c0 c1 c2 c3 c4 c5 c6 c7 c8 c9 c10 cf; rintro q w1 ⟨rfl, S, c0, c1, c2, c3, c4, c5, c6, c7, c8, c9, c10, cf⟩)
      have Sd := S.drew
      go_region_held3 (fun w' => w'.cell? ⟨w.heap.size, 10, none⟩ = some (.string m.snap)) (first | exact c10 | assumption) (first
        | (go_at_call 55; (with_reducible refine (K55.out _ _ _ _ Sd (by omega)).mono ?_); rintro q w13 ⟨rfl, T, d0, d1, d2, d3, d4, d5, d6, d7, d8, d9, d10, df⟩))
      go_wp2_with fail
      go_end0
      refine ⟨rfl, ?_⟩
      have h := T.s
      rw [HY.out] at h
      unfold pbm
      simp only [Vi.append_assoc3] at h ⊢
      exact h

/-- The message lies where it lay, its entries, too. -/
structure Pm (w0 : World) (m : Ms) (w : World) : Prop where
  k : w.heap[w0.heap.size]? = some (.cells (mc m) 44 (0, 0))
  en : Ents w0.heap.size m.A m.n m.es w
  be : Below w0.heap.size w0 w
  sz : w0.heap.size ≤ w.heap.size
theorem Pm.on {w0 w w1 : World} {m : Ms} (h : Pm w0 m w) (hb : Below w.heap.size w w1) : Pm w0 m w1 :=
  ⟨(hb.block _ (Array.getElem?_eq_some_iff.1 h.k).1).trans h.k, h.en.below (hb.mono h.sz), h.be.trans (hb.mono h.sz), Nat.le_trans h.sz hb.size⟩
theorem Pm.all {w0 w : World} {m : Ms} (h : Pm w0 m w) : Pm w0 m w ∧ w.cell? ⟨w0.heap.size, 0, none⟩ = some (.int .i64 m.kind) ∧ w.cell? ⟨w0.heap.size, 1, none⟩ = some (.int .i64 m.frm) ∧ w.cell? ⟨w0.heap.size, 2, none⟩ = some (.int .i64 m.dst) ∧ w.cell? ⟨w0.heap.size, 3, none⟩ = some (.int .u64 m.term) ∧ w.cell? ⟨w0.heap.size, 4, none⟩ = some (.int .u64 m.index) ∧ w.cell? ⟨w0.heap.size, 5, none⟩ = some (.int .u64 m.prev) ∧ w.cell? ⟨w0.heap.size, 6, none⟩ = some (.int .u64 m.commit) ∧ w.cell? ⟨w0.heap.size, 7, none⟩ = some (.int .u64 m.mark) ∧ w.cell? ⟨w0.heap.size, 8, none⟩ = some (.bool m.ok) ∧ w.cell? ⟨w0.heap.size, 9, none⟩ = some (.slice m.A m.n m.c) ∧ w.cell? ⟨w0.heap.size, 10, none⟩ = some (.string m.snap) := ⟨h, cell_of_row w _ 0 _ 44 (0, 0) h.k, cell_of_row w _ 1 _ 44 (0, 0) h.k, cell_of_row w _ 2 _ 44 (0, 0) h.k, cell_of_row w _ 3 _ 44 (0, 0) h.k, cell_of_row w _ 4 _ 44 (0, 0) h.k, cell_of_row w _ 5 _ 44 (0, 0) h.k, cell_of_row w _ 6 _ 44 (0, 0) h.k, cell_of_row w _ 7 _ 44 (0, 0) h.k, cell_of_row w _ 8 _ 44 (0, 0) h.k, cell_of_row w _ 9 _ 44 (0, 0) h.k, cell_of_row w _ 10 _ 44 (0, 0) h.k⟩
theorem Pm.start {w : World} {m : Ms} (hE : Ents w.heap.size m.A m.n m.es w) : Pm w m (w.alloc (Obj.cells (mc m) 44)) :=
  ⟨heap_alloc_new w _, hE.below ((Below.refl _ _).alloc (Nat.le_refl _) _), (Below.refl _ _).alloc (Nat.le_refl _) _, by simp⟩
theorem wide_n {m : Ms} (wd : m.Wide) : (m.n : Int) ≤ 9223372036854775807 := by have := wd.n1; omega

set_option maxHeartbeats 1000000 in
set_option maxRecDepth 100000 in
theorem mmay_any (m : Ms) (w : World) (hE : Ents w.heap.size m.A m.n m.es w) (wd : m.Wide) :
    Calls Try.prog 43 #[mv m] w fun q w' => q = .returned (.bool (mmayB m)) ∧ Below w.heap.size w w' := by
  obtain ⟨W0, hW0⟩ : ∃ W0, W0 = w.alloc (Obj.cells (mc m) 44) := ⟨_, rfl⟩
  have P0 : Pm w m W0 := hW0 ▸ Pm.start hE
  obtain ⟨rb, hrb⟩ : ∃ rb, rb = mrightB m := ⟨_, rfl⟩
  obtain ⟨lv, hlv⟩ : ∃ lv, lv = mlvl m := ⟨_, rfl⟩
  have KR := Lib.hid (fun (W : World) (h : Pm w m W) => (mright_any m W (h.en.mr h.sz) (wide_n wd) wd.eo).mono fun q w' ⟨h1, h2⟩ => And.intro (show q = Ending.returned (.bool rb) by rw [h1, hrb]) (h.on h2).all)
  have KL := Lib.hid (fun (W : World) (h : Pm w m W) => (mlevel_any m W (h.en.mr h.sz) (wide_n wd)).mono fun q w' ⟨h1, h2⟩ => And.intro (show q = Ending.returned (.int .i64 lv) by rw [h1, hlv]) (h.on h2).all)
  have HM : Hid (mmayB m = (rb && (lv == 1))) := by show _ = _; unfold mmayB; rw [← hrb, ← hlv]
  have P1 := P0.all
  have HW0 := Lib.hid hW0
  rw [hW0] at P1
  obtain ⟨S, c0, c1, c2, c3, c4, c5, c6, c7, c8, c9, c10⟩ := P1
  rw [← hW0] at S
  clear hW0 P0 hrb hlv hE wd
  cases rb with
  | true =>
    go_enter Try.func43, Try.ntmps43
    go_wp2_with (first
      | (go_at_call 61; rw [← HW0.out]; (with_reducible refine (KR.out _ S).mono ?_); rintro q w1 ⟨rfl, T, d0, d1, d2, d3, d4, d5, d6, d7, d8, d9, d10⟩)
      | (go_at_call 26; (with_reducible refine (KL.out _ T).mono ?_); rintro q w2 ⟨rfl, U, e0, e1, e2, e3, e4, e5, e6, e7, e8, e9, e10⟩))
    all_goals
      go_ret
      exact ⟨by rw [HM.out]; rfl, U.be⟩
  | false =>
    go_enter Try.func43, Try.ntmps43
    go_wp2_with (first
      | (go_at_call 61; rw [← HW0.out]; (with_reducible refine (KR.out _ S).mono ?_); rintro q w1 ⟨rfl, T, d0, d1, d2, d3, d4, d5, d6, d7, d8, d9, d10⟩))
    go_ret
    exact ⟨by rw [HM.out]; rfl, T.be⟩

set_option maxHeartbeats 2000000 in
set_option maxRecDepth 100000 in
theorem putM_any (m : Ms) (w : World) (hE : Ents w.heap.size m.A m.n m.es w) (wd : m.Wide) :
    Calls Try.prog 19 #[mv m] w fun q w' => q = .returned (.tuple #[.string (putM m), .bool (mmayB m)]) ∧ Below w.heap.size w w' := by
  obtain ⟨W0, hW0⟩ : ∃ W0, W0 = w.alloc (Obj.cells (mc m) 44) := ⟨_, rfl⟩
  have P0 : Pm w m W0 := hW0 ▸ Pm.start hE
  obtain ⟨mb, hmb⟩ : ∃ mb, mb = mmayB m := ⟨_, rfl⟩
  have KM := Lib.hid (fun (W : World) (h : Pm w m W) => (mmay_any m W (h.en.mr h.sz) wd).mono fun q w' ⟨h1, h2⟩ => And.intro (show q = Ending.returned (.bool mb) by rw [h1, hmb]) (h.on h2))
  have P1 := P0.all
  have HW0 := Lib.hid hW0
  rw [hW0] at P1
  obtain ⟨S, c0, c1, c2, c3, c4, c5, c6, c7, c8, c9, c10⟩ := P1
  rw [← hW0] at S
  have HE := Lib.hid hE
  have WD := Lib.hid wd
  clear hW0 P0 hE wd
  cases mb with
  | false =>
    have HP : Hid (putM m = ⟨#[]⟩) := by show _ = _; unfold putM; rw [← hmb]; rfl
    have HB : Hid (mmayB m = false) := hmb.symm
    clear hmb
    go_enter Try.func19, Try.ntmps19
    go_wp2_with (first
      | (go_at_call 43; rw [← HW0.out]; (with_reducible refine (KM.out _ S).mono ?_); rintro q w1 ⟨rfl, T⟩))
    go_ret2
    exact ⟨ret_pair HP.out.symm HB.out.symm, T.be⟩
  | true =>
    have HB : Hid (mmayB m = true) := hmb.symm
    have hmr : mrightB m = true := by
      have h := HB.out
      unfold mmayB at h
      simp only [Bool.and_eq_true] at h
      exact h.1
    have fw := mfew_of WD.out hmr
    have hes : (⟨#[]⟩ : ByteArray).size ≤ 1000 := Nat.zero_le _
    have HP : Hid (putM m = pbm m) := by show _ = _; unfold putM; rw [← hmb]; rfl
    have HS := Lib.hid (pbm_size fw HE.out.len)
    have FW := Lib.hid fw
    clear hmb hmr fw
    go_enter Try.func19, Try.ntmps19
    go_wp2_with (first
      | (go_at_call 43; rw [← HW0.out]; (with_reducible refine (KM.out _ S).mono ?_); rintro q w1 ⟨rfl, T⟩; have HT : Hid (Pm w m (w1.alloc (.cells #[.pointer none, .slice none 0 0] 66))) := T.on ((Below.refl _ _).alloc (Nat.le_refl _) _); have T1 := Lib.hid (fresh_wt w1 w.heap.size T.sz); have t0 : (w1.alloc (.cells #[.pointer none, .slice none 0 0] 66)).cell? ⟨w.heap.size, 0, none⟩ = some (.int .i64 m.kind) := cell_of_row _ _ 0 _ 44 (0, 0) HT.out.k; have t1 : (w1.alloc (.cells #[.pointer none, .slice none 0 0] 66)).cell? ⟨w.heap.size, 1, none⟩ = some (.int .i64 m.frm) := cell_of_row _ _ 1 _ 44 (0, 0) HT.out.k; have t2 : (w1.alloc (.cells #[.pointer none, .slice none 0 0] 66)).cell? ⟨w.heap.size, 2, none⟩ = some (.int .i64 m.dst) := cell_of_row _ _ 2 _ 44 (0, 0) HT.out.k; have t3 : (w1.alloc (.cells #[.pointer none, .slice none 0 0] 66)).cell? ⟨w.heap.size, 3, none⟩ = some (.int .u64 m.term) := cell_of_row _ _ 3 _ 44 (0, 0) HT.out.k; have t4 : (w1.alloc (.cells #[.pointer none, .slice none 0 0] 66)).cell? ⟨w.heap.size, 4, none⟩ = some (.int .u64 m.index) := cell_of_row _ _ 4 _ 44 (0, 0) HT.out.k; have t5 : (w1.alloc (.cells #[.pointer none, .slice none 0 0] 66)).cell? ⟨w.heap.size, 5, none⟩ = some (.int .u64 m.prev) := cell_of_row _ _ 5 _ 44 (0, 0) HT.out.k; have t6 : (w1.alloc (.cells #[.pointer none, .slice none 0 0] 66)).cell? ⟨w.heap.size, 6, none⟩ = some (.int .u64 m.commit) := cell_of_row _ _ 6 _ 44 (0, 0) HT.out.k; have t7 : (w1.alloc (.cells #[.pointer none, .slice none 0 0] 66)).cell? ⟨w.heap.size, 7, none⟩ = some (.int .u64 m.mark) := cell_of_row _ _ 7 _ 44 (0, 0) HT.out.k; have t8 : (w1.alloc (.cells #[.pointer none, .slice none 0 0] 66)).cell? ⟨w.heap.size, 8, none⟩ = some (.bool m.ok) := cell_of_row _ _ 8 _ 44 (0, 0) HT.out.k; have t9 : (w1.alloc (.cells #[.pointer none, .slice none 0 0] 66)).cell? ⟨w.heap.size, 9, none⟩ = some (.slice m.A m.n m.c) := cell_of_row _ _ 9 _ 44 (0, 0) HT.out.k; have t10 : (w1.alloc (.cells #[.pointer none, .slice none 0 0] 66)).cell? ⟨w.heap.size, 10, none⟩ = some (.string m.snap) := cell_of_row _ _ 10 _ 44 (0, 0) HT.out.k; clear T)
      | (go_at_call 44; (with_reducible refine (msg_any w.heap.size w1.heap.size m ⟨#[]⟩ _ T1.out hes HT.out.sz HT.out.en WD.out FW.out).mono ?_); rintro q w2 ⟨rfl, S2⟩; have HS2 := Lib.hid S2; clear S2)
      | (go_at_call 30; (with_reducible refine (wstring w.heap.size w1.heap.size _ _ HS2.out.t (by rw [ByteArray.size_append, HS.out]; omega)).mono ?_); rintro q w3 ⟨rfl, hb3⟩))
    go_ret2
    refine ⟨ret_pair ?_ HB.out.symm, (HT.out.be.trans HS2.out.be).trans hb3⟩
    rw [HP.out]
    apply ByteArray.ext; simp
end Go.Proofs.Ytiikgfcfceldmaa
