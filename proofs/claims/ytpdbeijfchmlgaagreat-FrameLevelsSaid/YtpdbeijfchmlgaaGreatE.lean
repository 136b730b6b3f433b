/-
  An entry's bytes, as the package puts them.
  Conditions: the numbers are those of their kinds; the texts' lengths below 2^47.
-/
import Derived.Test.YtpdbeijfchmlgaaGreatW2
import Derived.Test.YtpdbeijfchmlgaaGreatRFacts
import Derived.Test.YtpdbeijfchmlgaaGreatSmall
import Derived.Laws.EntriesVeiled
namespace Go.Proofs.YtpdbeijfchmlgaaGreat
open Go.RowKit
set_option linter.unusedVariables false

/-- A number's lowest k bytes. -/
def fN (v : Int) (k : Int) : ByteArray := Vi.fxB v.toNat k
/-- An entry's bytes. -/
def pb (e : En) : ByteArray :=
  fN e.kind 1 ++ fN e.term 8 ++ fN e.index 8 ++ fN e.client 8 ++ fN e.seq 8 ++ fN e.block 4 ++ fN e.many 4 ++ fN e.node 1 ++ fN e.level 1 ++ fN e.data.size 1 ++ (e.data ++ zer (66 - e.data.size))
def mayB (e : En) : Bool := rightB e && (lvl e.kind == 1)
def putS (e : En) : ByteArray := if mayB e then pb e else ⟨#[]⟩
theorem fN_size (v k : Int) (h0 : 0 ≤ k) (h : k ≤ 8) : (fN v k).size = k.toNat := by
  obtain ⟨n, rfl⟩ := Int.eq_ofNat_of_zero_le h0
  exact Vi.fxB_size _ n (by omega)
/-- What holds of an entry that may be. -/
structure Few (e : En) : Prop where
  k0 : 0 ≤ e.kind
  k1 : e.kind ≤ 11
  n0 : 0 ≤ e.node
  n1 : e.node ≤ 7
  l0 : 0 ≤ e.level
  l1 : e.level ≤ 2
  d : e.data.size ≤ 64
  o : e.old.size ≤ 64
  b : e.block ≤ 4294967295
  m : e.many ≤ 4294967295
theorem few_of {e : En} (ok : e.Ok) (h : rightB e = true) : Few e := by
  have A := (asked_iff e ok).1 h
  have f : 0 ≤ e.kind ∧ e.kind ≤ 11 := of_decide_eq_true A.f
  have hd := A.d1
  have ho := A.o1
  refine ⟨f.1, f.2, ?_, ?_, ?_, ?_, by omega, by omega, A.b1, A.m1⟩
  · exact both (fun h => by have := A.n1 h; omega) (fun h => by have := A.n0 h; omega)
  · exact both (fun h => by have := A.n1 h; omega) (fun h => by have := A.n0 h; omega)
  · exact both (fun h => by have := A.l1 h; omega) (fun h => by have := A.l0 h; omega)
  · exact both (fun h => by have := A.l1 h; omega) (fun h => by have := A.l0 h; omega)
theorem pb_size {e : En} (h : Few e) : (pb e).size = 110 := by
  have := h.d
  unfold pb
  simp only [ByteArray.size_append, zer_size, fN_size _ 1 (by omega) (by omega), fN_size _ 8 (by omega) (by omega), fN_size _ 4 (by omega) (by omega)]
  omega

theorem kept_cells {w w1 : World} {b i : Nat} {cs : Array Value} {T : TypeId} {fz : Nat × Nat} (h : Lib.OthersKept 5 (some b) w w1) (hi : w.heap[i]? = some (.cells cs T fz)) (hb : i ≠ b) (hT : T ≠ 5) : w1.heap[i]? = some (.cells cs T fz) :=
  h i _ hi (by simpa using hb) (fun c z he => by simp at he; exact hT he.2.1)

/-- What stands in the midst of an entry's being put. -/
structure We (w0 : World) (B b : Nat) (e : En) (x : ByteArray) (r : Nat) (w : World) : Prop where
  s : Ws w0 B b x w
  lb : b < w0.heap.size
  box : w.heap[w0.heap.size]? = some (.cells (ec e) 24 (0, 0))
  fn : w.heap[w0.heap.size + 1]? = some (.cells #[.func (.func 108) #[.pointer (some ⟨b, 0, none⟩)] #[]] 135 (0, 0))
  sz : x.size + r ≤ 140737488000000
section
variable {w0 : World} {B b : Nat} {e : En} {x : ByteArray} {r : Nat} {w w1 : World}
theorem We.cell (h : We w0 B b e x r w) (i : Nat) : w.cell? ⟨w0.heap.size, i, none⟩ = (ec e)[i]? := cell_of_row w _ i _ 24 (0, 0) h.box
theorem We.fcell (h : We w0 B b e x r w) : w.cell? ⟨w0.heap.size + 1, 0, none⟩ = some (.func (.func 108) #[.pointer (some ⟨b, 0, none⟩)] #[]) := cell_of_row w _ 0 _ 135 (0, 0) h.fn
theorem We.drew (h : We w0 B b e x r w) : We w0 B b e x r w.drew := ⟨h.s.drew, h.lb, h.box, h.fn, h.sz⟩
theorem We.below (h : We w0 B b e x r w) (hb : Below w.heap.size w w1) : We w0 B b e x r w1 :=
  ⟨h.s.below hb, h.lb, (hb.block _ (Array.getElem?_eq_some_iff.1 h.box).1).trans h.box, (hb.block _ (Array.getElem?_eq_some_iff.1 h.fn).1).trans h.fn, h.sz⟩
theorem We.on {y : ByteArray} {r' : Nat} (h : We w0 B b e x r w) (k : Ws w B b (x ++ y) w1) (hr : y.size + r' ≤ r) : We w0 B b e (x ++ y) r' w1 := by
  have h1 := h.lb
  have h2 := h.sz
  exact ⟨⟨k.t, h.s.be.trans k.be, h.s.ok.trans k.ok, k.sz, Nat.le_trans h.s.sw k.sw⟩, h.lb, kept_cells k.ok h.box (by omega) (by decide), kept_cells k.ok h.fn (by omega) (by decide), by rw [ByteArray.size_append]; omega⟩
theorem We.all (h : We w0 B b e x r w) : We w0 B b e x r w ∧ w.cell? ⟨w0.heap.size, 0, none⟩ = some (.int .u64 e.term) ∧ w.cell? ⟨w0.heap.size, 1, none⟩ = some (.int .u64 e.index) ∧ w.cell? ⟨w0.heap.size, 2, none⟩ = some (.int .i64 e.kind) ∧ w.cell? ⟨w0.heap.size, 3, none⟩ = some (.int .u64 e.client) ∧ w.cell? ⟨w0.heap.size, 4, none⟩ = some (.int .u64 e.seq) ∧ w.cell? ⟨w0.heap.size, 5, none⟩ = some (.int .u64 e.block) ∧ w.cell? ⟨w0.heap.size, 6, none⟩ = some (.int .u64 e.many) ∧ w.cell? ⟨w0.heap.size, 7, none⟩ = some (.int .i64 e.node) ∧ w.cell? ⟨w0.heap.size, 8, none⟩ = some (.int .i64 e.level) ∧ w.cell? ⟨w0.heap.size, 9, none⟩ = some (.string e.data) ∧ w.cell? ⟨w0.heap.size + 1, 0, none⟩ = some (.func (.func 108) #[.pointer (some ⟨b, 0, none⟩)] #[]) := ⟨h, h.cell 0, h.cell 1, h.cell 2, h.cell 3, h.cell 4, h.cell 5, h.cell 6, h.cell 7, h.cell 8, h.cell 9, h.fcell⟩
end
theorem we_number (w0 : World) (B b : Nat) (e : En) (x : ByteArray) (r : Nat) (v k : Int) (w : World) (h : We w0 B b e x r w) (hr : 8 ≤ r) (hv : 0 ≤ v) (hk : 0 ≤ k ∧ k ≤ 8) :
    Calls Tryz.prog 108 #[.pointer (some ⟨b, 0, none⟩), .int .u64 v, .int .i64 k] w fun q w' => q = .returned (.tuple #[]) ∧ We w0 B b e (x ++ fN v k) (r - 8) w' ∧ w'.cell? ⟨w0.heap.size, 0, none⟩ = some (.int .u64 e.term) ∧ w'.cell? ⟨w0.heap.size, 1, none⟩ = some (.int .u64 e.index) ∧ w'.cell? ⟨w0.heap.size, 2, none⟩ = some (.int .i64 e.kind) ∧ w'.cell? ⟨w0.heap.size, 3, none⟩ = some (.int .u64 e.client) ∧ w'.cell? ⟨w0.heap.size, 4, none⟩ = some (.int .u64 e.seq) ∧ w'.cell? ⟨w0.heap.size, 5, none⟩ = some (.int .u64 e.block) ∧ w'.cell? ⟨w0.heap.size, 6, none⟩ = some (.int .u64 e.many) ∧ w'.cell? ⟨w0.heap.size, 7, none⟩ = some (.int .i64 e.node) ∧ w'.cell? ⟨w0.heap.size, 8, none⟩ = some (.int .i64 e.level) ∧ w'.cell? ⟨w0.heap.size, 9, none⟩ = some (.string e.data) ∧ w'.cell? ⟨w0.heap.size + 1, 0, none⟩ = some (.func (.func 108) #[.pointer (some ⟨b, 0, none⟩)] #[]) := by
  obtain ⟨n, rfl⟩ := Int.eq_ofNat_of_zero_le hv
  obtain ⟨j, rfl⟩ := Int.eq_ofNat_of_zero_le hk.1
  have hs : (fN n j).size = j := by rw [fN_size _ _ (by omega) (by omega)]; omega
  have h1 := h.sz
  exact (number_any B b n j x w h.s.t (by omega) h.s.sz (by omega)).mono fun q w' ⟨h2, h3⟩ => ⟨h2, (h.on (y := fN n j) h3 (by omega)).all⟩
set_option maxHeartbeats 1000000 in
set_option maxRecDepth 100000 in
theorem we_small (w0 : World) (B b : Nat) (e : En) (x : ByteArray) (r : Nat) (v : Int) (w : World) (h : We w0 B b e x r w) (hr : 8 ≤ r) (hv : 0 ≤ v ∧ v ≤ 255) :
    Calls Tryz.prog 109 #[.int .i64 v, .pointer (some ⟨w0.heap.size + 1, 0, none⟩)] w fun q w' => q = .returned (.tuple #[]) ∧ We w0 B b e (x ++ fN v 1) (r - 8) w' ∧ w'.cell? ⟨w0.heap.size, 0, none⟩ = some (.int .u64 e.term) ∧ w'.cell? ⟨w0.heap.size, 1, none⟩ = some (.int .u64 e.index) ∧ w'.cell? ⟨w0.heap.size, 2, none⟩ = some (.int .i64 e.kind) ∧ w'.cell? ⟨w0.heap.size, 3, none⟩ = some (.int .u64 e.client) ∧ w'.cell? ⟨w0.heap.size, 4, none⟩ = some (.int .u64 e.seq) ∧ w'.cell? ⟨w0.heap.size, 5, none⟩ = some (.int .u64 e.block) ∧ w'.cell? ⟨w0.heap.size, 6, none⟩ = some (.int .u64 e.many) ∧ w'.cell? ⟨w0.heap.size, 7, none⟩ = some (.int .i64 e.node) ∧ w'.cell? ⟨w0.heap.size, 8, none⟩ = some (.int .i64 e.level) ∧ w'.cell? ⟨w0.heap.size, 9, none⟩ = some (.string e.data) ∧ w'.cell? ⟨w0.heap.size + 1, 0, none⟩ = some (.func (.func 108) #[.pointer (some ⟨b, 0, none⟩)] #[]) := by
  have c := h.fcell
  have hw : IntKind.u64.wrap v = v := IntWalk.u64_in _ (by omega)
  have K := Lib.hid (we_number w0 B b e x r v 1 w h hr hv.1 (by omega))
  clear h
  go_enter Tryz.func109, Tryz.ntmps109
  go_wp2_with (go_at_call 108; (with_reducible refine K.out.mono ?_); rintro q w1 ⟨rfl, h1⟩)
  go_end0
  exact ⟨rfl, h1⟩
theorem we_write (w0 : World) (B b : Nat) (e : En) (x s : ByteArray) (r : Nat) (w : World) (h : We w0 B b e x r w) (hr : s.size ≤ r) :
    Calls Tryz.prog 110 #[.pointer (some ⟨b, 0, none⟩), .string s] w fun q w' => q = .returned (.tuple #[.int .i64 s.size, .nilIface]) ∧ We w0 B b e (x ++ s) (r - s.size) w' ∧ w'.cell? ⟨w0.heap.size, 0, none⟩ = some (.int .u64 e.term) ∧ w'.cell? ⟨w0.heap.size, 1, none⟩ = some (.int .u64 e.index) ∧ w'.cell? ⟨w0.heap.size, 2, none⟩ = some (.int .i64 e.kind) ∧ w'.cell? ⟨w0.heap.size, 3, none⟩ = some (.int .u64 e.client) ∧ w'.cell? ⟨w0.heap.size, 4, none⟩ = some (.int .u64 e.seq) ∧ w'.cell? ⟨w0.heap.size, 5, none⟩ = some (.int .u64 e.block) ∧ w'.cell? ⟨w0.heap.size, 6, none⟩ = some (.int .u64 e.many) ∧ w'.cell? ⟨w0.heap.size, 7, none⟩ = some (.int .i64 e.node) ∧ w'.cell? ⟨w0.heap.size, 8, none⟩ = some (.int .i64 e.level) ∧ w'.cell? ⟨w0.heap.size, 9, none⟩ = some (.string e.data) ∧ w'.cell? ⟨w0.heap.size + 1, 0, none⟩ = some (.func (.func 108) #[.pointer (some ⟨b, 0, none⟩)] #[]) := by
  have h1 := h.sz
  exact (wwrite B b x s w h.s.t (by omega) h.s.sz).mono fun q w' ⟨h2, h3, h4, h5⟩ => ⟨h2, (h.on (w1 := w') (y := s) ⟨h3, h4, h5, Nat.le_trans h.s.sz h4.size, h4.size⟩ (by omega)).all⟩

set_option maxHeartbeats 4000000 in
set_option maxRecDepth 100000 in
theorem entry_any (B b : Nat) (e : En) (x : ByteArray) (w : World) (h : Wt B b x w) (hx : x.size ≤ 140737487000000) (hB : B ≤ w.heap.size) (ok : e.Ok) (fw : Few e) :
    Calls Tryz.prog 60 #[.pointer (some ⟨b, 0, none⟩), ev e] w fun q w' => q = .returned (.tuple #[]) ∧ Ws w B b (x ++ pb e) w' := by
  have hmf : ∀ (fn : Fn) (first cap : Array Value) (w : World), (Instr.makeFunc fn first cap).run Tryz.prog w = .ok (.func fn first cap) w := fun _ _ _ _ => rfl
  obtain ⟨W0, hW0⟩ : ∃ W0, W0 = (w.alloc (Obj.cells (ec e) 24)).alloc (Obj.cells #[.func (.func 108) #[.pointer (some ⟨b, 0, none⟩)] #[]] 135) := ⟨_, rfl⟩
  have hb0 : Below w.heap.size w W0 := by rw [hW0]; exact ((Below.refl _ _).alloc (Nat.le_refl _) _).alloc (by simp) _
  have hlt : b < w.heap.size := by rcases h with h | h <;> exact h.lt
  have S0 : We w B b e x 1000 W0 := by
    have k0 : W0.heap[w.heap.size]? = some (.cells (ec e) 24 (0, 0)) := by
      rw [hW0]; exact (Lib.alloc_old _ _ _ (by simp)).trans (heap_alloc_new w _)
    have k1 : W0.heap[w.heap.size + 1]? = some (.cells #[.func (.func 108) #[.pointer (some ⟨b, 0, none⟩)] #[]] 135 (0, 0)) := by
      have h := heap_alloc_new (w.alloc (Obj.cells (ec e) 24)) (Obj.cells #[.func (.func 108) #[.pointer (some ⟨b, 0, none⟩)] #[]] 135)
      rw [show (w.alloc (Obj.cells (ec e) 24)).heap.size = w.heap.size + 1 by simp] at h
      rw [hW0]; exact h
    exact ⟨(Ws.start h hB).below hb0, hlt, k0, k1, by omega⟩
  have S1 := S0.all
  have K53 := Lib.hid (we_number w B b e)
  have K54 := Lib.hid (we_small w B b e)
  have K55 := Lib.hid (we_write w B b e)
  have g1 := ok.t0
  have g2 := ok.i0
  have g3 := ok.c0
  have g4 := ok.s0
  have g5 := ok.b0
  have g6 := ok.m0
  have q1 : 0 ≤ e.kind ∧ e.kind ≤ 255 := ⟨fw.k0, by have := fw.k1; omega⟩
  have q2 : 0 ≤ e.node ∧ e.node ≤ 255 := ⟨fw.n0, by have := fw.n1; omega⟩
  have q3 : 0 ≤ e.level ∧ e.level ≤ 255 := ⟨fw.l0, by have := fw.l1; omega⟩
  have q4 : 0 ≤ (e.data.size : Int) ∧ (e.data.size : Int) ≤ 255 := by have := fw.d; omega
  have q5 : e.data.size ≤ 64 := fw.d
  obtain ⟨S, c0, c1, c2, c3, c4, c5, c6, c7, c8, c9, cf⟩ := S1
  have HW0 := Lib.hid hW0
  clear hW0 hb0 hlt S0 h hx hB ok fw
  go_enter Tryz.func60, Tryz.ntmps60
  go_upto_region 3 with fail
  rw [← HW0.out]
  clear HW0
  have K38 : Hid (∀ (x : ByteArray) (r : Nat) (W : World), We w B b e x r W → Calls Tryz.prog 86 #[.int .i64 (IntKind.i64.wrap (66 - (e.data.size : Int)))] W fun q w' => q = .returned (.string (zer (66 - e.data.size))) ∧ We w B b e x r w' ∧ w'.cell? ⟨w.heap.size, 9, none⟩ = some (.string e.data)) := by
    intro x r W hW
    have q6 : IntKind.i64.wrap ((66 : Int) - e.data.size) = ((66 - e.data.size : Nat) : Int) := (IntWalk.i64_in _ (by omega)).trans (by omega)
    rw [q6]
    exact (zeros_any _ W (by omega)).mono fun q w' ⟨h1, h2⟩ => ⟨h1, (hW.below h2), (hW.below h2).cell 9⟩
  go_upto_region 13 with (first
    | (go_at_call 109; (with_reducible refine (K54.out _ _ _ _ S (by omega) (by assumption)).mono ?_); clear S c0 c1 c2 c3 c4 c5 c6 c7 c8 c9 cf; rintro q w1 ⟨rfl, S, c0, c1, c2, c3, c4, c5, c6, c7, c8, c9, cf⟩)
    | (go_at_call 108; (with_reducible refine (K53.out _ _ _ _ _ S (by omega) (by assumption) (by omega)).mono ?_); clear S c0 c1 c2 c3 c4 c5 c6 c7 c8 c9 cf; rintro q w1 ⟨rfl, S, c0, c1, c2, c3, c4, c5, c6, c7, c8, c9, cf⟩))
  have Sd := S.drew
  go_region_held3 (fun w' => w'.cell? ⟨w.heap.size, 9, none⟩ = some (.string e.data)) (first | exact c9 | assumption) (first
    | (go_at_call 110; (with_reducible refine (K55.out _ _ _ _ Sd (by omega)).mono ?_); rintro q w13 ⟨rfl, T, d0, d1, d2, d3, d4, d5, d6, d7, d8, d9, df⟩))
  go_wp2_with fail
  have Td := T.drew
  clear S c0 c1 c2 c3 c4 c5 c6 c7 c8 c9 cf Sd
  go_region_held3 (fun w' => w'.cell? ⟨w.heap.size, 9, none⟩ = some (.string e.data)) (first | exact d9 | assumption) (first
    | (go_at_call 86; (with_reducible refine (K38.out _ _ _ Td).mono ?_); rintro q w14 ⟨rfl, U, u9⟩)
    | (go_at_call 110; (with_reducible refine (K55.out _ _ _ _ U (by rw [zer_size]; omega)).mono ?_); rintro q w15 ⟨rfl, V, v0, v1, v2, v3, v4, v5, v6, v7, v8, v9, vf⟩))
  go_wp2_with fail
  go_end0
  refine ⟨rfl, ?_⟩
  have h := V.s
  unfold pb
  simp only [Vi.append_assoc3] at h ⊢
  exact h

set_option maxHeartbeats 1000000 in
set_option maxRecDepth 100000 in
theorem may_any (e : En) (w : World) (ok : e.Ok) :
    Calls Tryz.prog 59 #[ev e] w fun q w' => q = .returned (.bool (mayB e)) ∧ Below w.heap.size w w' := by
  obtain ⟨W0, hW0⟩ : ∃ W0, W0 = w.alloc (Obj.cells (ec e) 24) := ⟨_, rfl⟩
  have hb0 : Below w.heap.size w W0 := by rw [hW0]; exact (Below.refl _ _).alloc (Nat.le_refl _) _
  have k0 : W0.heap[w.heap.size]? = some (.cells (ec e) 24 (0, 0)) := by rw [hW0]; exact heap_alloc_new w _
  have KR := Lib.hid (fun (W : World) => right_any e W ok)
  have KL := Lib.hid (fun (W : World) => level_any e W)
  have HW0 := Lib.hid hW0
  have HB := Lib.hid hb0
  have HK := Lib.hid k0
  have hlt : w.heap.size < W0.heap.size := (Array.getElem?_eq_some_iff.1 k0).1
  have HLT := Lib.hid hlt
  obtain ⟨rb, hrb⟩ : ∃ rb, rb = rightB e := ⟨_, rfl⟩
  obtain ⟨lv, hlv⟩ : ∃ lv, lv = lvl e.kind := ⟨_, rfl⟩
  have HM : Hid (mayB e = (rb && (lv == 1))) := by show _ = _; unfold mayB; rw [← hrb, ← hlv]
  have HR := Lib.hid hrb
  have HL := Lib.hid hlv
  clear hW0 hb0 k0 ok hlt hrb hlv
  cases rb with
  | true =>
    go_enter Tryz.func59, Tryz.ntmps59
    go_wp2_with (first
      | (go_at_call 62; rw [← HW0.out]; (with_reducible refine (KR.out _).mono ?_); rintro q w1 ⟨h1, hb1⟩; rw [← HR.out] at h1; subst h1; have k1 : w1.heap[w.heap.size]? = some (.cells (ec e) 24 (0, 0)) := (hb1.block _ HLT.out).trans HK.out; have c0 : w1.cell? ⟨w.heap.size, 0, none⟩ = some (.int .u64 e.term) := cell_of_row w1 _ 0 _ 24 (0, 0) k1; have c1 : w1.cell? ⟨w.heap.size, 1, none⟩ = some (.int .u64 e.index) := cell_of_row w1 _ 1 _ 24 (0, 0) k1; have c2 : w1.cell? ⟨w.heap.size, 2, none⟩ = some (.int .i64 e.kind) := cell_of_row w1 _ 2 _ 24 (0, 0) k1; have c3 : w1.cell? ⟨w.heap.size, 3, none⟩ = some (.int .u64 e.client) := cell_of_row w1 _ 3 _ 24 (0, 0) k1; have c4 : w1.cell? ⟨w.heap.size, 4, none⟩ = some (.int .u64 e.seq) := cell_of_row w1 _ 4 _ 24 (0, 0) k1; have c5 : w1.cell? ⟨w.heap.size, 5, none⟩ = some (.int .u64 e.block) := cell_of_row w1 _ 5 _ 24 (0, 0) k1; have c6 : w1.cell? ⟨w.heap.size, 6, none⟩ = some (.int .u64 e.many) := cell_of_row w1 _ 6 _ 24 (0, 0) k1; have c7 : w1.cell? ⟨w.heap.size, 7, none⟩ = some (.int .i64 e.node) := cell_of_row w1 _ 7 _ 24 (0, 0) k1; have c8 : w1.cell? ⟨w.heap.size, 8, none⟩ = some (.int .i64 e.level) := cell_of_row w1 _ 8 _ 24 (0, 0) k1; have c9 : w1.cell? ⟨w.heap.size, 9, none⟩ = some (.string e.data) := cell_of_row w1 _ 9 _ 24 (0, 0) k1; have c10 : w1.cell? ⟨w.heap.size, 10, none⟩ = some (.string e.old) := cell_of_row w1 _ 10 _ 24 (0, 0) k1; have HB1 := Lib.hid (HB.out.trans (hb1.mono HB.out.size)); clear k1 hb1)
      | (go_at_call 18; (with_reducible refine (KL.out _).mono ?_); rintro q w2 ⟨h2, hb2⟩; rw [← HL.out] at h2; subst h2; have HB2 := Lib.hid (HB1.out.trans (hb2.mono HB1.out.size)); clear hb2))
    all_goals
      go_ret
      exact ⟨by rw [HM.out]; rfl, HB2.out⟩
  | false =>
    go_enter Tryz.func59, Tryz.ntmps59
    go_wp2_with (first
      | (go_at_call 62; rw [← HW0.out]; (with_reducible refine (KR.out _).mono ?_); rintro q w1 ⟨h1, hb1⟩; rw [← HR.out] at h1; subst h1; have HB1 := Lib.hid (HB.out.trans (hb1.mono HB.out.size)); clear hb1))
    go_ret
    exact ⟨by rw [HM.out]; rfl, HB1.out⟩
end Go.Proofs.YtpdbeijfchmlgaaGreat
