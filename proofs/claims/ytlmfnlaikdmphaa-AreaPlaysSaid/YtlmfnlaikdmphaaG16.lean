/-
  Texts of the layer below and of this one: PY, LPlyA.
  Conditions: named in each theorem.
-/
import Derived.Test.YtlmfnlaikdmphaaG14
import Derived.Deep.CutRange
namespace Go.Proofs.Ytlmfnlaikdmphaa
open Go.RowKit Vi Dk
set_option linter.unusedVariables false
set_option linter.unusedSimpArgs false
theorem Dk.Rf.base {w : World} {B B' gr : Nat} {L : List Nat} {d : St} (h : Rf w B gr L d) (hB : B' ≤ B) : Rf w B' gr L d := by
  obtain ⟨ho, v1, v2, v3, rfl, hA⟩ := h
  have lo : ∀ {e n : Nat} {v : Value} {xs : List Value}, w.ownsRow B e 1 v n xs → w.ownsRow B' e 1 v n xs := by
    intro e n v xs h
    obtain ⟨hl, h⟩ := h
    refine ⟨hl, ?_⟩
    rcases h with h | ⟨gb, c, cur, rfl, hb, r⟩
    · exact .inl h
    · exact .inr ⟨gb, c, cur, rfl, by omega, r⟩
  exact ⟨ho, v1, v2, v3, rfl, ⟨hA.blk, lo hA.r1, lo hA.r2, lo hA.r3, hA.ap, by have := hA.hB; omega⟩⟩
section
variable {w W W' : World} {g gr : Nat} {K : List (Nat × Obj)} {d e d' e' : St}
/-- A crash of the program's device. -/
theorem Px.a1 {f : Nat} {xs : Array Value} (h : Px w g gr K d e W) (hc : ∀ L, Dv W g L d → Calls Try.prog f xs W fun x w' => ∃ g' L', x = .returned (ptr g') ∧ Dv w' g' L' d' ∧ (∀ k ∈ L', W.heap.size ≤ k) ∧ Below W.heap.size W w') :
    Calls Try.prog f xs W fun x w' => ∃ g', x = .returned (ptr g') ∧ Px w g' gr K d' e w' := by
  obtain ⟨L, Lr, h1, h2, h3, h4, h5⟩ := h
  refine (hc L h1).mono fun x w' ⟨g', L', hx, a1, a2, a3⟩ => ⟨g', hx, L', Lr, a1, h2.below a3, fun k hk => Nat.le_trans h4.size (a2 k hk), h4.trans (a3.mono h4.size), fun p hp => ?_⟩
  obtain ⟨b1, b2, b3⟩ := h5 p hp
  have hlt := (Array.getElem?_eq_some_iff.1 b1).1
  exact ⟨(a3.block _ hlt).trans b1, fun hm => by have := a2 _ hm; omega, b3⟩
/-- .. of the document's. -/
theorem Px.a2 {f : Nat} {xs : Array Value} (h : Px w g gr K d e W) (hc : ∀ L, Rf W w.heap.size gr L e → Calls Try.prog f xs W fun x w' => ∃ g' L', x = .returned (ptr g') ∧ Rf w' W.heap.size g' L' e' ∧ Below W.heap.size W w') :
    Calls Try.prog f xs W fun x w' => ∃ g', x = .returned (ptr g') ∧ Px w g g' K d e' w' := by
  obtain ⟨L, Lr, h1, h2, h3, h4, h5⟩ := h
  refine (hc Lr h2).mono fun x w' ⟨g', L', hx, a1, a3⟩ => ⟨g', hx, L, L', h1.below a3, a1.base h4.size, h3, h4.trans (a3.mono h4.size), fun p hp => ?_⟩
  obtain ⟨b1, b2, b3⟩ := h5 p hp
  have hlt := (Array.getElem?_eq_some_iff.1 b1).1
  exact ⟨(a3.block _ hlt).trans b1, b2, fun hm => by have := a1.low _ hm; omega⟩
/-- The document's device, new, beside the program's. -/
theorem Px.new2 (h : Qx w g K d W) (n : Nat) (h1 : 1 ≤ n) (h2 : n ≤ 4096) :
    Calls Try.prog 18 #[.int .i64 n] W fun x w' => ∃ gr, x = .returned (ptr gr) ∧ Px w g gr K d (St.fresh n fun _ => zsec) w' := by
  obtain ⟨L, a1, a3, a4, a5⟩ := h
  refine (rnew_yes n W h1 h2).mono fun x w' ⟨gr, Lr, hx, r, b⟩ => ⟨gr, hx, L, Lr, a1.below b, r.base a4.size, a3, a4.trans (b.mono a4.size), fun p hp => ?_⟩
  obtain ⟨b1, b2, b3⟩ := a5 p hp
  have hlt := (Array.getElem?_eq_some_iff.1 b1).1
  exact ⟨(b.block _ hlt).trans b1, b2, fun hm => by have := r.low _ hm; omega⟩
end
abbrev plc (a m u : Int) : Array Value := #[.int .i64 a, .int .i64 m, .int .i64 u]
theorem Try.pl41 : (Try.prog.info? 41).map (·.size) = some 3 := by kernel_rfl
theorem wpList_store_pl {ops : Array Oper} {rest : List Oper} {op : Oper} {a : Act} {Q : Exit → Act → World → Prop} (hgd : op.guard = none) (x y : Operand) (ho : op.op = .store 41 x y)
    (w : World) (z : Nat) (b1 b2 b3 c1 c2 c3 : Int) (hx : a.eval x = .pointer (some ⟨z, 0, none⟩)) (hy : a.eval y = .agg (plc b1 b2 b3)) (hz : w.heap[z]? = some (.cells (plc c1 c2 c3) 41 (0, 0)))
    (h : wpList Try.prog ops Q rest (a.put op.dst undef) (w.setRow z (plc b1 b2 b3))) : wpList Try.prog ops Q (op :: rest) a w :=
  wpList_store_row hgd 41 x y ho z _ hx hy 41 _ hz Try.pl41 rfl (by simp [Value.oneCell']) h
theorem pl_cells {w : World} {b T : Nat} {x y z : Int} (h : w.heap[b]? = some (.cells (plc x y z) T (0, 0))) : w.cell? ⟨b, 0, none⟩ = some (.int .i64 x) ∧ w.cell? ⟨b, 1, none⟩ = some (.int .i64 y) ∧ w.cell? ⟨b, 2, none⟩ = some (.int .i64 z) :=
  ⟨cell_of_row _ _ 0 _ T (0, 0) h, cell_of_row _ _ 1 _ T (0, 0) h, cell_of_row _ _ 2 _ T (0, 0) h⟩
theorem wrap64_in (x : Int) : -9223372036854775808 ≤ wrap64 x ∧ wrap64 x ≤ 9223372036854775807 := by unfold wrap64; omega
end Go.Proofs.Ytlmfnlaikdmphaa
namespace Go.Proofs.Ytlmfnlaikdmphaa
open Go.RowKit Vi Dk
set_option linter.unusedVariables false
set_option linter.unusedSimpArgs false
/-- What the law starts from: two places, two snaps. -/
structure Sx (w : World) (a1 m1 u1 a2 m2 u2 : Int) (s t : Sn) (W : World) : Prop where
  be : Below w.heap.size w W
  p0 : W.heap[w.heap.size]? = some (.cells (plc a1 m1 u1) 41 (0, 0))
  p1 : W.heap[w.heap.size + 1]? = some (.cells (plc a2 m2 u2) 41 (0, 0))
  p2 : W.heap[w.heap.size + 2]? = some (.cells s.c 24 (0, 0))
  p3 : W.heap[w.heap.size + 3]? = some (.cells t.c 24 (0, 0))
theorem Sx.row0 {w W : World} {a1 m1 u1 a2 m2 u2 : Int} {s t : Sn} (h : Sx w a1 m1 u1 a2 m2 u2 s t W) (b1 b2 b3 : Int) : Sx w b1 b2 b3 a2 m2 u2 s t (W.setRow w.heap.size (plc b1 b2 b3)) :=
  ⟨h.be.trans ⟨rfl, rfl, rfl, by simp, fun k hk => setRow_other _ _ _ _ (by omega)⟩, setRow_heap _ _ _ _ 41 (0, 0) h.p0, (setRow_other _ _ _ _ (by omega)).trans h.p1, (setRow_other _ _ _ _ (by omega)).trans h.p2, (setRow_other _ _ _ _ (by omega)).trans h.p3⟩
theorem Sx.row1 {w W : World} {a1 m1 u1 a2 m2 u2 : Int} {s t : Sn} (h : Sx w a1 m1 u1 a2 m2 u2 s t W) (b1 b2 b3 : Int) : Sx w a1 m1 u1 b1 b2 b3 s t (W.setRow (w.heap.size + 1) (plc b1 b2 b3)) :=
  ⟨h.be.trans ⟨rfl, rfl, rfl, by simp, fun k hk => setRow_other _ _ _ _ (by omega)⟩, (setRow_other _ _ _ _ (by omega)).trans h.p0, setRow_heap _ _ _ _ 41 (0, 0) h.p1, (setRow_other _ _ _ _ (by omega)).trans h.p2, (setRow_other _ _ _ _ (by omega)).trans h.p3⟩
theorem Sx.cell2 {w W : World} {a1 m1 u1 a2 m2 u2 : Int} {s t : Sn} (h : Sx w a1 m1 u1 a2 m2 u2 s t W) (D : ByteArray) : Sx w a1 m1 u1 a2 m2 u2 ⟨s.ix, s.tm, D⟩ t (W.setCell ⟨w.heap.size + 2, 2, none⟩ (.string D)) :=
  ⟨h.be.setCell (p := ⟨w.heap.size + 2, 2, none⟩) (by show _ ≤ w.heap.size + 2; omega) _, (heap_setCell_other W ⟨w.heap.size + 2, 2, none⟩ _ _ (by show w.heap.size ≠ w.heap.size + 2; omega)).trans h.p0, (heap_setCell_other W ⟨w.heap.size + 2, 2, none⟩ _ _ (by show w.heap.size + 1 ≠ w.heap.size + 2; omega)).trans h.p1,
    heap_setCell_same _ (w.heap.size + 2) 2 _ 24 (.string D) h.p2, (heap_setCell_other W ⟨w.heap.size + 2, 2, none⟩ _ _ (by show w.heap.size + 3 ≠ w.heap.size + 2; omega)).trans h.p3⟩
theorem Sx.cell3 {w W : World} {a1 m1 u1 a2 m2 u2 : Int} {s t : Sn} (h : Sx w a1 m1 u1 a2 m2 u2 s t W) (D : ByteArray) : Sx w a1 m1 u1 a2 m2 u2 s ⟨t.ix, t.tm, D⟩ (W.setCell ⟨w.heap.size + 3, 2, none⟩ (.string D)) :=
  ⟨h.be.setCell (p := ⟨w.heap.size + 3, 2, none⟩) (by show _ ≤ w.heap.size + 3; omega) _, (heap_setCell_other W ⟨w.heap.size + 3, 2, none⟩ _ _ (by show w.heap.size ≠ w.heap.size + 3; omega)).trans h.p0, (heap_setCell_other W ⟨w.heap.size + 3, 2, none⟩ _ _ (by show w.heap.size + 1 ≠ w.heap.size + 3; omega)).trans h.p1,
    (heap_setCell_other W ⟨w.heap.size + 3, 2, none⟩ _ _ (by show w.heap.size + 2 ≠ w.heap.size + 3; omega)).trans h.p2, heap_setCell_same _ (w.heap.size + 3) 2 _ 24 (.string D) h.p3⟩
theorem Sx.below {w W W' : World} {a1 m1 u1 a2 m2 u2 : Int} {s t : Sn} (h : Sx w a1 m1 u1 a2 m2 u2 s t W) (hb : Below W.heap.size W W') : Sx w a1 m1 u1 a2 m2 u2 s t W' :=
  ⟨h.be.trans (hb.mono h.be.size), (hb.block _ (Array.getElem?_eq_some_iff.1 h.p0).1).trans h.p0, (hb.block _ (Array.getElem?_eq_some_iff.1 h.p1).1).trans h.p1, (hb.block _ (Array.getElem?_eq_some_iff.1 h.p2).1).trans h.p2, (hb.block _ (Array.getElem?_eq_some_iff.1 h.p3).1).trans h.p3⟩
theorem Sx.start (w : World) (a1 m1 u1 a2 m2 u2 : Int) (s t : Sn) : Sx w a1 m1 u1 a2 m2 u2 s t ((((w.alloc (.cells (plc a1 m1 u1) 41)).alloc (.cells (plc a2 m2 u2) 41)).alloc (.cells s.c 24)).alloc (.cells t.c 24)) := by
  refine ⟨((((Below.refl _ w).alloc (Nat.le_refl _) _).alloc (by simp) _).alloc (by simp; omega) _).alloc (by simp; omega) _, ?_, ?_, ?_, ?_⟩
  · rw [Lib.alloc_old _ _ _ (by first | (simp; done) | (simp; omega)), Lib.alloc_old _ _ _ (by first | (simp; done) | (simp; omega)), Lib.alloc_old _ _ _ (by first | (simp; done) | (simp; omega))]
    exact heap_alloc_new w _
  · rw [Lib.alloc_old _ _ _ (by first | (simp; done) | (simp; omega)), Lib.alloc_old _ _ _ (by first | (simp; done) | (simp; omega))]
    have := heap_alloc_new (w.alloc (.cells (plc a1 m1 u1) 41)) (.cells (plc a2 m2 u2) 41)
    rwa [World.size_alloc] at this
  · rw [Lib.alloc_old _ _ _ (by first | (simp; done) | (simp; omega))]
    have := heap_alloc_new ((w.alloc (.cells (plc a1 m1 u1) 41)).alloc (.cells (plc a2 m2 u2) 41)) (.cells s.c 24)
    rwa [World.size_alloc, World.size_alloc] at this
  · have := heap_alloc_new (((w.alloc (.cells (plc a1 m1 u1) 41)).alloc (.cells (plc a2 m2 u2) 41)).alloc (.cells s.c 24)) (.cells t.c 24)
    rwa [World.size_alloc, World.size_alloc, World.size_alloc] at this
def InI (x : Int) : Prop := -9223372036854775808 ≤ x ∧ x ≤ 9223372036854775807
set_option maxHeartbeats 4000000 in
set_option maxRecDepth 100000 in
theorem lplays_any (a1 m1 u1 a2 m2 u2 : Int) (near : Bool) (s t : Sn) (arm : Int) (A : Option Addr) (lost : List Int) (c : Nat) (w : World) (z1 : InI a1 ∧ InI m1 ∧ InI u1) (z2 : InI a2 ∧ InI m2 ∧ InI u2)
    (oks : s.Ok) (okt : t.Ok) (za : -9223372036854775808 ≤ arm ∧ arm ≤ 9223372036854775807) (hml : lost.length ≤ maxLen) (hI : IntsAt w A lost) :
    Calls Try.prog 4 #[.agg (plc a1 m1 u1), .agg (plc a2 m2 u2), .bool near, s.v, t.v, .int .i64 arm, .slice A lost.length c] w fun e w' => e = .returned (.bool true) ∧ Below w.heap.size w w' := by
  obtain ⟨W, hW⟩ : ∃ W, W = (((w.alloc (.cells (plc a1 m1 u1) 41)).alloc (.cells (plc a2 m2 u2) 41)).alloc (.cells s.c 24)).alloc (.cells t.c 24) := ⟨_, rfl⟩
  have hS : Sx w a1 m1 u1 a2 m2 u2 s t W := by rw [hW]; exact Sx.start _ _ _ _ _ _ _ _ _
  have KE := Lib.hid (examples_any W)
  have HS := Lib.hid hS
  have HW := Lib.hid hW
  have HOS := Lib.hid oks
  have HOT := Lib.hid okt
  have HZ1 := Lib.hid z1
  have HZ2 := Lib.hid z2
  have HML := Lib.hid hml
  have HI := Lib.hid hI
  have HOC1 := Lib.hid (cutS_ok oks)
  have HOC2 := Lib.hid (cutS_ok okt)
  have HC1 : Hid (s.da.extract 0 (min s.da.size 300) = cutD s.da) := rfl
  have HC2 : Hid (t.da.extract 0 (min t.da.size 300) = cutD t.da) := rfl
  have hk1 : min (s.da.size : Int) 300 = ((min s.da.size 300 : Nat) : Int) := by omega
  have hk2 : min (t.da.size : Int) 300 = ((min t.da.size 300 : Nat) : Int) := by omega
  obtain ⟨k1, hk1'⟩ : ∃ k, k = min s.da.size 300 := ⟨_, rfl⟩
  obtain ⟨k2, hk2'⟩ : ∃ k, k = min t.da.size 300 := ⟨_, rfl⟩
  rw [← hk1'] at HC1 hk1
  rw [← hk2'] at HC2 hk2
  have hl1 : (k1 : Int) ≤ (s.da.size : Int) := by omega
  have hl2 : (k2 : Int) ≤ (t.da.size : Int) := by omega
  have HK1 := Lib.hid (⟨hk1, hl1⟩ : _ ∧ _)
  have HK2 := Lib.hid (⟨hk2, hl2⟩ : _ ∧ _)
  clear hS hW oks okt z1 z2 hml hI hk1 hk2 hk1' hk2' hl1 hl2
  obtain ⟨ix, tm, D⟩ := s
  obtain ⟨jx, tn, D2⟩ := t
  unfold Sn.v Sn.c cutS plc at *
  dsimp only at *
  go_enter Try.func4, Try.ntmps4
  go_upto_region 1 with fail
  refine wp_at (w := W) HW.out.symm ?_
  go_upto_region 4 with (go_at_call 8; (with_reducible refine KE.out.mono ?_); rintro r w1 ⟨rfl, b1⟩)
  have HS1 := Lib.hid (HS.out.below b1)
  clear b1 HS KE HW
  go_upto_if 31 with fail
  go_cut [31] from 32 to 81 (fun s31 wx => s31 = s31 ∧ ∃ wz, wz = wx ∧ ∃ (b1 n1 v1 b2 n2 v2 : Int) (s' t' : Sn), (InI b1 ∧ InI n1 ∧ InI v1) ∧ (InI b2 ∧ InI n2 ∧ InI v2) ∧ s'.Ok ∧ t'.Ok ∧ Sx w b1 n1 v1 b2 n2 v2 s' t' wz)
  case first =>
    cases near
    · go_wp2_with fail
      go_meet
      exact ⟨trivial, _, rfl, a1, m1, u1, a2, m2, u2, _, _, HZ1.out, HZ2.out, HOS.out, HOT.out, HS1.out⟩
    · obtain ⟨c0, c1, c2⟩ := pl_cells HS1.out.p0
      obtain ⟨W2, hW2⟩ : ∃ W2, W2 = w1.setRow w.heap.size (plc (wrap64 ((IntKind.u64.wrap a1).tmod 11)) (wrap64 ((IntKind.u64.wrap m1).tmod 7)) (wrap64 (1 + wrap64 ((IntKind.u64.wrap u1).tmod 2)))) := ⟨_, rfl⟩
      have HS2 : Hid (Sx w (wrap64 ((IntKind.u64.wrap a1).tmod 11)) (wrap64 ((IntKind.u64.wrap m1).tmod 7)) (wrap64 (1 + wrap64 ((IntKind.u64.wrap u1).tmod 2))) a2 m2 u2 ⟨ix, tm, D⟩ ⟨jx, tn, D2⟩ W2) := by show Sx _ _ _ _ _ _ _ _ _ _; rw [hW2]; exact HS1.out.row0 _ _ _
      have HW2 := Lib.hid hW2
      clear hW2
      go_upto_region 6 with (refine wpList_store_pl rfl _ _ rfl _ _ (wrap64 ((IntKind.u64.wrap a1).tmod 11)) (wrap64 ((IntKind.u64.wrap m1).tmod 7)) (wrap64 (1 + wrap64 ((IntKind.u64.wrap u1).tmod 2))) a1 m1 u1 rfl rfl HS1.out.p0 ?_; refine wpList_at HW2.out.symm ?_; go_frame)
      obtain ⟨e1, he1⟩ : ∃ x, x = wrap64 ((IntKind.u64.wrap a1).tmod 11) := ⟨_, rfl⟩
      obtain ⟨e2, he2⟩ : ∃ x, x = wrap64 ((IntKind.u64.wrap m1).tmod 7) := ⟨_, rfl⟩
      obtain ⟨e3, he3⟩ : ∃ x, x = wrap64 (1 + wrap64 ((IntKind.u64.wrap u1).tmod 2)) := ⟨_, rfl⟩
      have HE : Hid (InI e1 ∧ InI e2 ∧ InI e3) := by show _ ∧ _; rw [he1, he2, he3]; exact ⟨wrap64_in _, wrap64_in _, wrap64_in _⟩
      rw [← he1, ← he2, ← he3] at HS2
      clear c0 c1 c2 he1 he2 he3 HW2 HS1
      obtain ⟨c0, c1, c2⟩ := pl_cells HS2.out.p1
      obtain ⟨W3, hW3⟩ : ∃ W3, W3 = W2.setRow (w.heap.size + 1) (plc (wrap64 ((IntKind.u64.wrap a2).tmod 11)) (wrap64 ((IntKind.u64.wrap m2).tmod 7)) (wrap64 (1 + wrap64 ((IntKind.u64.wrap u2).tmod 2)))) := ⟨_, rfl⟩
      have HS3 : Hid (Sx w e1 e2 e3 (wrap64 ((IntKind.u64.wrap a2).tmod 11)) (wrap64 ((IntKind.u64.wrap m2).tmod 7)) (wrap64 (1 + wrap64 ((IntKind.u64.wrap u2).tmod 2))) ⟨ix, tm, D⟩ ⟨jx, tn, D2⟩ W3) := by show Sx _ _ _ _ _ _ _ _ _ _; rw [hW3]; exact HS2.out.row1 _ _ _
      have HW3 := Lib.hid hW3
      clear hW3
      go_upto_region 7 with (refine wpList_store_pl rfl _ _ rfl _ _ (wrap64 ((IntKind.u64.wrap a2).tmod 11)) (wrap64 ((IntKind.u64.wrap m2).tmod 7)) (wrap64 (1 + wrap64 ((IntKind.u64.wrap u2).tmod 2))) a2 m2 u2 rfl rfl HS2.out.p1 ?_; refine wpList_at HW3.out.symm ?_; go_frame)
      obtain ⟨f1, hf1⟩ : ∃ x, x = wrap64 ((IntKind.u64.wrap a2).tmod 11) := ⟨_, rfl⟩
      obtain ⟨f2, hf2⟩ : ∃ x, x = wrap64 ((IntKind.u64.wrap m2).tmod 7) := ⟨_, rfl⟩
      obtain ⟨f3, hf3⟩ : ∃ x, x = wrap64 (1 + wrap64 ((IntKind.u64.wrap u2).tmod 2)) := ⟨_, rfl⟩
      have HF : Hid (InI f1 ∧ InI f2 ∧ InI f3) := by show _ ∧ _; rw [hf1, hf2, hf3]; exact ⟨wrap64_in _, wrap64_in _, wrap64_in _⟩
      rw [← hf1, ← hf2, ← hf3] at HS3
      clear c0 c1 c2 hf1 hf2 hf3 HW3 HS2
      obtain ⟨x0, x1, x2⟩ := sn_cells (s := ⟨ix, tm, D⟩) HS3.out.p2
      have xf : W3.frozen? ⟨w.heap.size + 2, 2, none⟩ = false := Lib.frozen_of_heap HS3.out.p2 2
      obtain ⟨hk1, hl1⟩ := HK1.out
      obtain ⟨W4, hW4⟩ : ∃ W4, W4 = W3.setCell ⟨w.heap.size + 2, 2, none⟩ (.string (cutD D)) := ⟨_, rfl⟩
      have HS4 : Hid (Sx w e1 e2 e3 f1 f2 f3 ⟨ix, tm, cutD D⟩ ⟨jx, tn, D2⟩ W4) := by show Sx _ _ _ _ _ _ _ _ _ _; rw [hW4]; exact HS3.out.cell2 _
      have HW4 := Lib.hid hW4
      clear hW4
      go_upto_region 8 with fail
      rw [HC1.out, ← HW4.out]
      clear x0 x1 x2 xf HW4 HS3 hk1 hl1
      obtain ⟨x0, x1, x2⟩ := sn_cells (s := ⟨jx, tn, D2⟩) HS4.out.p3
      have xf : W4.frozen? ⟨w.heap.size + 3, 2, none⟩ = false := Lib.frozen_of_heap HS4.out.p3 2
      obtain ⟨hk2, hl2⟩ := HK2.out
      obtain ⟨W5, hW5⟩ : ∃ W5, W5 = W4.setCell ⟨w.heap.size + 3, 2, none⟩ (.string (cutD D2)) := ⟨_, rfl⟩
      have HS5 : Hid (Sx w e1 e2 e3 f1 f2 f3 ⟨ix, tm, cutD D⟩ ⟨jx, tn, cutD D2⟩ W5) := by show Sx _ _ _ _ _ _ _ _ _ _; rw [hW5]; exact HS4.out.cell3 _
      have HW5 := Lib.hid hW5
      clear hW5
      go_wp2_with fail
      rw [HC2.out, ← HW5.out]
      go_meet
      exact ⟨trivial, _, rfl, e1, e2, e3, f1, f2, f3, _, _, HE.out, HF.out, HOC1.out, HOC2.out, HS5.out⟩
  case rest =>
    obtain ⟨_, W0, hW0, b1, n1, v1, b2, n2, v2, s', t', zb, zc, ok1, ok2, hS0⟩ := hcut
    subst hW0
    clear HS1 HOS HOT HZ1 HZ2 HOC1 HOC2 HC1 HC2 HK1 HK2
    have HI0 := Lib.hid (HI.out.below hS0.be)
    have HZB := Lib.hid (⟨zb, zc⟩ : _ ∧ _)
    have HOK := Lib.hid (⟨ok1, ok2⟩ : _ ∧ _)
    have KN := Lib.hid (Qx.new (w := w) (W := W0) (K := [(w.heap.size, .cells (plc b1 n1 v1) 41 (0, 0)), (w.heap.size + 1, .cells (plc b2 n2 v2) 41 (0, 0)), (w.heap.size + 2, .cells s'.c 24 (0, 0)), (w.heap.size + 3, .cells t'.c 24 (0, 0))]) 10 (by omega) (by omega) hS0.be (by
      intro p hp
      simp at hp
      rcases hp with rfl | rfl | rfl | rfl
      · exact ⟨hS0.p0, Nat.le_refl _⟩
      · exact ⟨hS0.p1, by show _ ≤ w.heap.size + 1; omega⟩
      · exact ⟨hS0.p2, by show _ ≤ w.heap.size + 2; omega⟩
      · exact ⟨hS0.p3, by show _ ≤ w.heap.size + 3; omega⟩))
    obtain ⟨p0, hp0⟩ : ∃ p, p = w.heap.size := ⟨_, rfl⟩
    obtain ⟨p1, hp1⟩ : ∃ p, p = w.heap.size + 1 := ⟨_, rfl⟩
    obtain ⟨p2, hp2⟩ : ∃ p, p = w.heap.size + 2 := ⟨_, rfl⟩
    obtain ⟨p3, hp3⟩ : ∃ p, p = w.heap.size + 3 := ⟨_, rfl⟩
    obtain ⟨K0, hK0⟩ : ∃ K0, K0 = [(w.heap.size, Obj.cells (plc b1 n1 v1) 41 (0, 0)), (w.heap.size + 1, .cells (plc b2 n2 v2) 41 (0, 0)), (w.heap.size + 2, .cells s'.c 24 (0, 0)), (w.heap.size + 3, .cells t'.c 24 (0, 0))] := ⟨_, rfl⟩
    have GS : Hid (∀ g gr d e W, Px w g gr K0 d e W → (W.heap[p0]? = some (.cells (plc b1 n1 v1) 41 (0, 0)) ∧ W.heap[p1]? = some (.cells (plc b2 n2 v2) 41 (0, 0))) ∧ W.heap[p2]? = some (.cells s'.c 24 (0, 0)) ∧ W.heap[p3]? = some (.cells t'.c 24 (0, 0))) := fun g gr d e W hp => by
      rw [hK0] at hp
      rw [hp0, hp1, hp2, hp3]
      exact ⟨⟨hp.get (by simp), hp.get (by simp)⟩, hp.get (by simp), hp.get (by simp)⟩
    rw [← hK0] at KN
    rw [show w.heap.size + 1 + 1 + 1 = p3 by omega, show w.heap.size + 1 + 1 = p2 by omega, ← hp1, ← hp0]
    clear hK0 hp0 hp1 hp2 hp3 hS0 zb zc ok1 ok2
    obtain ⟨ia, ib⟩ := HZB.out
    obtain ⟨D1, hD1⟩ : ∃ D, D = arW (St.fresh 10 fun _ => zsec) b1 n1 v1 s' := ⟨_, rfl⟩
    have KW1 := Lib.hid (fun (g gr : Nat) (W : World) (hp : Px w g gr K0 (St.fresh 10 fun _ => zsec) (St.fresh 10 fun _ => zsec) W) => hp.c1 fun L hD => awrite_any g L _ b1 n1 v1 s' W hD HOK.out.1 ia.1.2)
    have KW2 := Lib.hid (fun (g gr : Nat) (d : St) (W : World) (hp : Px w g gr K0 d (St.fresh 10 fun _ => zsec) W) => hp.c2 fun L hR => rwrite_sn w.heap.size gr L _ b1 n1 v1 s' W hR hp.be.size HOK.out.1 ia.1.2)
    rw [← hD1] at KW1 KW2
    obtain ⟨d1, r1⟩ := D1
    obtain ⟨d2, hd2⟩ : ∃ d, d = d1.flush.1 := ⟨_, rfl⟩
    obtain ⟨r2, hr2⟩ : ∃ d, d = d1.flush.2 := ⟨_, rfl⟩
    have KF1 := Lib.hid (fun (g gr : Nat) (W : World) (hp : Px w g gr K0 d1 d1 W) => hp.c1 fun L hD => flush_any g L d1 W hD)
    have KF2 := Lib.hid (fun (g gr : Nat) (d : St) (W : World) (hp : Px w g gr K0 d d1 W) => hp.c2 fun L hR => rflush_any w.heap.size gr L d1 W hR)
    rw [← hd2, ← hr2] at KF1 KF2
    have KA1 := Lib.hid (fun (g gr : Nat) (W : World) (hp : Px w g gr K0 d2 d2 W) => hp.c1 fun L hD => arm_any g L d2 arm W hD za.1 za.2)
    have KA2 := Lib.hid (fun (g gr : Nat) (d : St) (W : World) (hp : Px w g gr K0 d d2 W) => hp.c2 fun L hR => rarm_any w.heap.size gr L d2 arm W hR za.1 za.2)
    obtain ⟨d3, hd3⟩ : ∃ d, d = d2.arm arm := ⟨_, rfl⟩
    rw [← hd3] at KA1 KA2
    obtain ⟨D4, hD4⟩ : ∃ D, D = arW d3 b2 n2 v2 t' := ⟨_, rfl⟩
    have KX1 := Lib.hid (fun (g gr : Nat) (W : World) (hp : Px w g gr K0 d3 d3 W) => hp.c1 fun L hD => awrite_any g L _ b2 n2 v2 t' W hD HOK.out.2 ib.1.2)
    have KX2 := Lib.hid (fun (g gr : Nat) (d : St) (W : World) (hp : Px w g gr K0 d d3 W) => hp.c2 fun L hR => rwrite_sn w.heap.size gr L _ b2 n2 v2 t' W hR hp.be.size HOK.out.2 ib.1.2)
    rw [← hD4] at KX1 KX2
    obtain ⟨d4, r4⟩ := D4
    have KL1 := Lib.hid (fun (g gr : Nat) (W : World) (hp : Px w g gr K0 d4 d4 W) (hI : IntsAt W A lost) => hp.a1 fun L hD => after_any g L d4 A lost c W hD hI HML.out)
    have KL2 := Lib.hid (fun (g gr : Nat) (d : St) (W : World) (hp : Px w g gr K0 d d4 W) (hI : IntsAt W A lost) => hp.a2 fun L hR => rafter_any w.heap.size gr L d4 A lost c W hR hI HML.out)
    obtain ⟨d5, hd5⟩ : ∃ d, d = d4.after lost := ⟨_, rfl⟩
    rw [← hd5] at KL1 KL2
    have KR1 := Lib.hid (fun (g gr : Nat) (K : List (Nat × Obj)) (W : World) (hp : Px w g gr K d5 d5 W) => hp.q1 fun L hD => aread_any g L d5 b1 n1 W hD ia.1.2)
    have KR2 := Lib.hid (fun (g gr : Nat) (K : List (Nat × Obj)) (W : World) (hp : Px w g gr K d5 d5 W) => hp.q2 fun L hR => rread_sn w.heap.size gr L d5 b1 n1 W hR ia.1.2)
    obtain ⟨X, hX⟩ : ∃ X, X = arR d5 b1 n1 := ⟨_, rfl⟩
    rw [← hX] at KR1 KR2
    obtain ⟨xs, xv, xe⟩ := X
    have KJ := Lib.hid (fun (g gr : Nat) (K : List (Nat × Obj)) (W : World) (hp : Px w g gr K d5 d5 W) => (hp.q1 fun L hD => image_any g L d5 W hD).mono fun _ w' ⟨h1, h2, _⟩ => (⟨h1, h2⟩ : _ ∧ Px w g gr K d5 d5 w'))
    have KK := Lib.hid (fun (g gr : Nat) (K : List (Nat × Obj)) (W : World) (hp : Px w g gr K d5 d5 W) => (hp.q2 fun L hR => (rimage_any w.heap.size gr L d5 W hR).mono fun _ w' ⟨h1, h2⟩ => (⟨h1, by rw [← h2]; exact Below.refl _ _⟩ : _ ∧ Below W.heap.size W w')).mono fun _ w' ⟨h1, h2, _⟩ => (⟨h1, h2⟩ : _ ∧ Px w g gr K d5 d5 w'))
    generalize txt d5.image = im at *
    have KB1 := Lib.hid (fun (g gr : Nat) (d e : St) (W : World) (hp : Px w g gr K0 d e W) => (ref_any s' W).mono fun _ w' ⟨h1, h2⟩ => (⟨h1, hp.below h2⟩ : _ ∧ Px w g gr K0 d e w'))
    have KB2 := Lib.hid (fun (g gr : Nat) (d e : St) (W : World) (hp : Px w g gr K0 d e W) => (ref_any t' W).mono fun _ w' ⟨h1, h2⟩ => (⟨h1, hp.below h2⟩ : _ ∧ Px w g gr K0 d e w'))
    have KB3 := Lib.hid (fun (g gr : Nat) (K : List (Nat × Obj)) (W : World) (hp : Px w g gr K d5 d5 W) => (ref_any xs W).mono fun _ w' ⟨h1, h2⟩ => (⟨h1, hp.below h2⟩ : _ ∧ Px w g gr K d5 d5 w'))
    have kq := fun (W : World) => eql_rn xs xs W
    rw [sameSn_self] at kq
    have KQ := Lib.hid kq
    have K2 := Lib.hid (fun (g : Nat) (W : World) (hp : Qx w g K0 (St.fresh 10 fun _ => zsec) W) => Px.new2 hp 10 (by omega) (by omega))
    obtain ⟨D0, hD0⟩ : ∃ D, D = (St.fresh 10 fun _ => zsec) := ⟨_, rfl⟩
    rw [← hD0] at KN KW1 KW2 K2
    obtain ⟨si, st, sd⟩ := s'
    obtain ⟨ti, tt, td⟩ := t'
    obtain ⟨xi, xt, xd⟩ := xs
    unfold Sn.v Sn.c plc at *
    clear hD1 hd2 hr2 hd3 hD4 hd5 hX kq hD0 ia ib za HOK HML
    unfold ptr at *
    dsimp only at *
    go_wp2_with fail
    refine KN.out.mono ?_
    rintro e w1 ⟨g, rfl, P1⟩
    have HP1 := Lib.hid P1
    clear P1 KN
    unfold ptr at *
    go_wp2_with fail
    refine (K2.out _ _ HP1.out).mono ?_
    rintro e w2 ⟨gr, rfl, P2⟩
    have HP2 := Lib.hid P2
    clear P2 HP1 K2
    unfold ptr at *
    go_upto_region 13 with fail
    have G1 : Hid (∀ (g gr : Nat) (d e : St) (Z : World), Px w g gr K0 d e Z → (Z.cell? ⟨p0, 0, none⟩ = some (.int .i64 b1) ∧ Z.cell? ⟨p0, 1, none⟩ = some (.int .i64 n1) ∧ Z.cell? ⟨p0, 2, none⟩ = some (.int .i64 v1)) ∧ (Z.cell? ⟨p2, 0, none⟩ = some (.int .u64 si) ∧ Z.cell? ⟨p2, 1, none⟩ = some (.int .u64 st) ∧ Z.cell? ⟨p2, 2, none⟩ = some (.string sd))) := fun g gr d e Z hp => ⟨pl_cells (GS.out _ _ _ _ _ hp).1.1, sn_cells (s := ⟨si, st, sd⟩) (GS.out _ _ _ _ _ hp).2.1⟩
    have G2 : Hid (∀ (g gr : Nat) (d e : St) (Z : World), Px w g gr K0 d e Z → (Z.cell? ⟨p1, 0, none⟩ = some (.int .i64 b2) ∧ Z.cell? ⟨p1, 1, none⟩ = some (.int .i64 n2) ∧ Z.cell? ⟨p1, 2, none⟩ = some (.int .i64 v2)) ∧ (Z.cell? ⟨p3, 0, none⟩ = some (.int .u64 ti) ∧ Z.cell? ⟨p3, 1, none⟩ = some (.int .u64 tt) ∧ Z.cell? ⟨p3, 2, none⟩ = some (.string td))) := fun g gr d e Z hp => ⟨pl_cells (GS.out _ _ _ _ _ hp).1.2, sn_cells (s := ⟨ti, tt, td⟩) (GS.out _ _ _ _ _ hp).2.2⟩
    have qr1 : (r1 == r1) = true := beq_self_eq_true _
    have qr2 : (r2 == r2) = true := beq_self_eq_true _
    have qr4 : (r4 == r4) = true := beq_self_eq_true _
    have qxv : (xv == xv) = true := beq_self_eq_true _
    have qxe : (xe == xe) = true := beq_self_eq_true _
    have qim : (im.toList == im.toList) = true := beq_self_eq_true _
    have PF := HP2.out.drew
    obtain ⟨⟨a0, a1, a2⟩, ⟨a3, a4, a5⟩⟩ := G1.out _ _ _ _ _ PF
    go_region_held3 (fun Z => (Z.cell? ⟨p0, 0, none⟩ = some (.int .i64 b1) ∧ Z.cell? ⟨p0, 1, none⟩ = some (.int .i64 n1) ∧ Z.cell? ⟨p0, 2, none⟩ = some (.int .i64 v1)) ∧ (Z.cell? ⟨p2, 0, none⟩ = some (.int .u64 si) ∧ Z.cell? ⟨p2, 1, none⟩ = some (.int .u64 st) ∧ Z.cell? ⟨p2, 2, none⟩ = some (.string sd))) (first | exact ⟨⟨a0, a1, a2⟩, ⟨a3, a4, a5⟩⟩ | exact G1.out _ _ _ _ _ (by assumption)) (first
      | (go_at_call 19; (with_reducible refine (KW1.out _ _ _ PF).mono ?_); rintro e y1 ⟨rfl, Q1⟩)
      | (go_at_call 11; (with_reducible refine (KB1.out _ _ _ _ _ Q1).mono ?_); rintro e y2 ⟨rfl, Q2⟩)
      | (go_at_call 20; (with_reducible refine (KW2.out _ _ _ _ Q2).mono ?_); rintro e y3 ⟨rfl, Q3⟩))
    have HQ3 := Lib.hid Q3
    clear a0 a1 a2 a3 a4 a5 PF Q1 Q2 Q3 KW1 KB1 KW2 G1 HP2
    go_wp2_with fail
    refine (KF1.out _ _ _ HQ3.out).mono ?_
    rintro e w4 ⟨rfl, P4⟩
    have HP4 := Lib.hid P4
    clear P4 HQ3 KF1
    go_wp2_with fail
    refine (KF2.out _ _ _ _ HP4.out).mono ?_
    rintro e w5 ⟨rfl, P5⟩
    have HP5 := Lib.hid P5
    clear P5 HP4 KF2
    go_wp2_with fail
    refine (KA1.out _ _ _ HP5.out).mono ?_
    rintro e w6 ⟨rfl, P6⟩
    have HP6 := Lib.hid P6
    clear P6 HP5 KA1
    go_wp2_with fail
    refine (KA2.out _ _ _ _ HP6.out).mono ?_
    rintro e w7 ⟨rfl, P7⟩
    have HP7 := Lib.hid P7
    clear P7 HP6 KA2
    go_upto_region 17 with fail
    have PG := HP7.out.drew
    obtain ⟨⟨a0, a1, a2⟩, ⟨a3, a4, a5⟩⟩ := G2.out _ _ _ _ _ PG
    go_region_held3 (fun Z => (Z.cell? ⟨p1, 0, none⟩ = some (.int .i64 b2) ∧ Z.cell? ⟨p1, 1, none⟩ = some (.int .i64 n2) ∧ Z.cell? ⟨p1, 2, none⟩ = some (.int .i64 v2)) ∧ (Z.cell? ⟨p3, 0, none⟩ = some (.int .u64 ti) ∧ Z.cell? ⟨p3, 1, none⟩ = some (.int .u64 tt) ∧ Z.cell? ⟨p3, 2, none⟩ = some (.string td))) (first | exact ⟨⟨a0, a1, a2⟩, ⟨a3, a4, a5⟩⟩ | exact G2.out _ _ _ _ _ (by assumption)) (first
      | (go_at_call 19; (with_reducible refine (KX1.out _ _ _ PG).mono ?_); rintro e y4 ⟨rfl, Q4⟩)
      | (go_at_call 11; (with_reducible refine (KB2.out _ _ _ _ _ Q4).mono ?_); rintro e y5 ⟨rfl, Q5⟩)
      | (go_at_call 20; (with_reducible refine (KX2.out _ _ _ _ Q5).mono ?_); rintro e y6 ⟨rfl, Q6⟩))
    have HQ6 := Lib.hid Q6
    clear a0 a1 a2 a3 a4 a5 PG Q4 Q5 Q6 KX1 KB2 KX2 G2 HP7
    go_wp2_with fail
    refine (KL1.out _ _ _ HQ6.out (HI.out.below HQ6.out.be)).mono ?_
    rintro e w8 ⟨g2, rfl, P8⟩
    have HP8 := Lib.hid P8
    clear P8 HQ6 KL1
    unfold ptr at *
    go_wp2_with fail
    refine (KL2.out _ _ _ _ HP8.out (HI.out.below HP8.out.be)).mono ?_
    rintro e w9 ⟨gr2, rfl, P9⟩
    have HP9 := Lib.hid P9
    obtain ⟨⟨g0, _⟩, _⟩ := GS.out _ _ _ _ _ P9
    obtain ⟨c0, c1, c2⟩ := pl_cells g0
    clear P9 HP8 KL2 g0
    unfold ptr at *
    go_upto_region 23 with (go_at_call 27; (with_reducible refine (KR1.out _ _ _ _ HP9.out).mono ?_); rintro e w10 ⟨rfl, P10, b10⟩)
    obtain ⟨q1, hq1⟩ : ∃ q, q = w10.heap.size := ⟨_, rfl⟩
    obtain ⟨W11, hW11⟩ : ∃ W, W = w10.alloc (.cells #[.int .u64 xi, .int .u64 xt, .string xd] 24) := ⟨_, rfl⟩
    have P11 := P10.add (W' := W11) (k := q1) (o := .cells (Sn.c ⟨xi, xt, xd⟩) 24 (0, 0)) (by rw [hW11]; exact (Below.refl _ _).alloc (Nat.le_refl _) _) (by rw [hq1]; exact Nat.le_refl _) (by rw [hW11, hq1]; exact heap_alloc_new w10 _)
    have P11' : Px w g2 gr2 K0 d5 d5 W11 := by rw [hW11]; exact P10.below ((Below.refl _ _).alloc (Nat.le_refl _) _)
    have HP11 := Lib.hid P11
    rw [← hW11, ← hq1]
    obtain ⟨⟨g0, _⟩, _⟩ := GS.out _ _ _ _ _ P11'
    clear c0 c1 c2
    obtain ⟨c0, c1, c2⟩ := pl_cells g0
    clear P11 P11' P10 b10 hW11 hq1 HP9 KR1 g0 GS
    go_upto_region 24 with (go_at_call 28; (with_reducible refine (KR2.out _ _ _ _ HP11.out).mono ?_); rintro e w12 ⟨rfl, P12, b12⟩)
    obtain ⟨q2, hq2⟩ : ∃ q, q = w12.heap.size := ⟨_, rfl⟩
    obtain ⟨W13, hW13⟩ : ∃ W, W = w12.alloc (.cells #[.int .u64 xi, .int .u64 xt, .string xd] 30) := ⟨_, rfl⟩
    have P13 := P12.add (W' := W13) (k := q2) (o := .cells (Sn.c ⟨xi, xt, xd⟩) 30 (0, 0)) (by rw [hW13]; exact (Below.refl _ _).alloc (Nat.le_refl _) _) (by rw [hq2]; exact Nat.le_refl _) (by rw [hW13, hq2]; exact heap_alloc_new w12 _)
    rw [← hW13, ← hq2]
    have PH := P13.drew
    clear P13 P12 b12 hW13 hq2 HP11 KR2 c0 c1 c2
    have G3 : Hid (∀ (g gr : Nat) (Z : World), Px w g gr ((q2, .cells (Sn.c ⟨xi, xt, xd⟩) 30 (0, 0)) :: (q1, .cells (Sn.c ⟨xi, xt, xd⟩) 24 (0, 0)) :: K0) d5 d5 Z → (Z.cell? ⟨q1, 0, none⟩ = some (.int .u64 xi) ∧ Z.cell? ⟨q1, 1, none⟩ = some (.int .u64 xt) ∧ Z.cell? ⟨q1, 2, none⟩ = some (.string xd)) ∧ (Z.cell? ⟨q2, 0, none⟩ = some (.int .u64 xi) ∧ Z.cell? ⟨q2, 1, none⟩ = some (.int .u64 xt) ∧ Z.cell? ⟨q2, 2, none⟩ = some (.string xd))) := fun g gr Z hp => ⟨sn_cells (T := 24) (s := ⟨xi, xt, xd⟩) (hp.get (by simp)), sn_cells (T := 30) (s := ⟨xi, xt, xd⟩) (hp.get (by simp))⟩
    obtain ⟨⟨a0, a1, a2⟩, ⟨a3, a4, a5⟩⟩ := G3.out _ _ _ PH
    have kq := KQ.out
    go_region_held3 (fun Z => (Z.cell? ⟨q1, 0, none⟩ = some (.int .u64 xi) ∧ Z.cell? ⟨q1, 1, none⟩ = some (.int .u64 xt) ∧ Z.cell? ⟨q1, 2, none⟩ = some (.string xd)) ∧ (Z.cell? ⟨q2, 0, none⟩ = some (.int .u64 xi) ∧ Z.cell? ⟨q2, 1, none⟩ = some (.int .u64 xt) ∧ Z.cell? ⟨q2, 2, none⟩ = some (.string xd))) (first | exact ⟨⟨a0, a1, a2⟩, ⟨a3, a4, a5⟩⟩ | exact G3.out _ _ _ (by assumption)) (first
      | (go_at_call 11; (with_reducible refine (KB3.out _ _ _ _ PH).mono ?_); rintro e z1 ⟨rfl, Q7⟩)
      | (go_at_call 29; (with_reducible refine (KJ.out _ _ _ _ Q7).mono ?_); rintro e z2 ⟨rfl, Q8⟩)
      | (go_at_call 30; (with_reducible refine (KK.out _ _ _ _ Q8).mono ?_); rintro e z3 ⟨rfl, Q9⟩))
    all_goals
      have HB9 := Lib.hid Q9.be
      clear a0 a1 a2 a3 a4 a5 PH Q7 Q8 Q9 KB3 KJ KK G3
      go_wp2
      go_ret
      exact ⟨rfl, HB9.out⟩
end Go.Proofs.Ytlmfnlaikdmphaa
