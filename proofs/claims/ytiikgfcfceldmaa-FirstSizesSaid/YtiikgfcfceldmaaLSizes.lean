/-
  FirstSizes, walked: true for every input.
  Conditions: what came in is as its types say.
-/
import Derived.Test.YtiikgfcfceldmaaLEntries
import Derived.Test.YtiikgfcfceldmaaPutM
import Derived.Test.YtiikgfcfceldmaaNote
namespace Go.Proofs.Ytiikgfcfceldmaa
open Go.RowKit
set_option linter.unusedVariables false
set_option linter.unusedSimpArgs false

theorem Mades.mr {B B' : Nat} {A : Option Addr} {n : Nat} {L : List (En × Bool)} {w : World} (h : Mades B A n L w) (hB : B ≤ B') : Mades B' A n L w :=
  ⟨h.len, fun i e he => by
    obtain ⟨a, hA, h1, hc⟩ := h.at_ i e he
    exact ⟨a, hA, Nat.lt_of_lt_of_le h1 hB, hc⟩⟩
theorem NoteIn.on {w w1 : World} {m : Ms} {LA : Option Addr} {ln : Nat} {L : List (En × Bool)} (h : NoteIn w m LA ln L) (hb : Below w.heap.size w w1) : NoteIn w1 m LA ln L :=
  ⟨h.wd, (h.en.below hb).mr hb.size, (h.md.below hb).mr hb.size, h.ok, h.ll⟩
/-- What the law's note hands back. -/
structure NoteOut (m : Ms) (L : List (En × Bool)) (M : Ms) (w : World) : Prop where
  rt : mrightB M = true
  en : Ents w.heap.size M.A M.n M.es w
  f1 : 1 ≤ M.frm
  f7 : M.frm ≤ 7
  o1 : 1 ≤ M.dst
  o7 : M.dst ≤ 7
  k1 : 1 ≤ M.kind
  k9 : M.kind ≤ 10
  n : (M.n : Int) ≤ 10
  es : ∀ e ∈ M.es, e.Ok ∧ rightB e = true ∧ e.data.size ≤ 64 ∧ e.old.size ≤ 64
  t : M.term = m.term
  i0 : 0 ≤ M.index
  i1 : M.index ≤ 18446744073709551615
  p0 : 0 ≤ M.prev
  p1 : M.prev ≤ 18446744073709551615
  c0 : 0 ≤ M.commit
  c1 : M.commit ≤ 18446744073709551615
  m0 : 0 ≤ M.mark
  m1 : M.mark ≤ 18446744073709551615
  sn : M.snap.size ≤ 200
theorem ite0 {p : Prop} [Decidable p] {x hi : Int} (h0 : 0 ≤ x) (h1 : x ≤ hi) (h2 : 0 ≤ hi) : 0 ≤ (if p then x else 0) ∧ (if p then x else 0) ≤ hi := by
  split <;> omega
theorem note_ok (m : Ms) (LA : Option Addr) (ln lc : Nat) (L : List (En × Bool)) (w : World) (h : NoteIn w m LA ln L) :
    Calls Try.prog 20 #[nvv m true LA ln lc] w fun r w' => ∃ M, r = .returned (mv M) ∧ Hid (NoteOut m L M w') ∧ Below w.heap.size w w' :=
  (note_yes m LA ln lc L w h.md h.ok h.ll).mono fun r w' ⟨A, c, n, hr, hl, hE, hb⟩ => by
    refine ⟨_, hr, ⟨nm_right m L A n c h.ok hl h.wd.i0 h.wd.i1 h.wd.p0 h.wd.p1 h.wd.c0 h.wd.c1 h.wd.m0 h.wd.m1 h.wd.s1, hE, (nfrom _).1, (nfrom _).2, (nfrom _).1, (nfrom _).2, (nkind _).1, (nkind _).2, ?_, fun e he => nes_mem h.ok he, rfl, (ite0 h.wd.i0 h.wd.i1 (by omega)).1, (ite0 h.wd.i0 h.wd.i1 (by omega)).2, (ite0 h.wd.p0 h.wd.p1 (by omega)).1, (ite0 h.wd.p0 h.wd.p1 (by omega)).2, (ite0 h.wd.c0 h.wd.c1 (by omega)).1, (ite0 h.wd.c0 h.wd.c1 (by omega)).2, (ite0 h.wd.m0 h.wd.m1 (by omega)).1, (ite0 h.wd.m0 h.wd.m1 (by omega)).2, ?_⟩, hb⟩
    · have := nes_length m L A n c
      rw [hl] at this
      show (n : Int) ≤ 10
      omega
    · show (if hasT (mfl (m.kind % 10 + 1)).data.toList 115 then cut200 m.snap else ⟨#[]⟩ : ByteArray).size ≤ 200
      split
      · exact cut200_size _ h.wd.s1
      · exact Nat.zero_le _

theorem NoteOut.wide {m : Ms} {L : List (En × Bool)} {M : Ms} {w : World} (wd : m.Wide) (h : NoteOut m L M w) : M.Wide := by
  have k1 := h.k1
  have k9 := h.k9
  have f1 := h.f1
  have f7 := h.f7
  have o1 := h.o1
  have o7 := h.o7
  have sn := h.sn
  have hn := h.n
  exact ⟨by omega, by omega, by omega, by omega, by omega, by omega, h.t ▸ wd.t0, h.t ▸ wd.t1, h.i0, h.i1, h.p0, h.p1, h.c0, h.c1, h.m0, h.m1, by omega, by omega, fun e he => (h.es e he).1⟩
/-- The law's own arguments lie where they lay. -/
structure L3 (w0 : World) (ca cb cn : Array Value) (w : World) : Prop where
  ka : w.heap[w0.heap.size]? = some (.cells ca 26 (0, 0))
  kb : w.heap[w0.heap.size + 1]? = some (.cells cb 26 (0, 0))
  kc : w.heap[w0.heap.size + 1 + 1]? = some (.cells cn 47 (0, 0))
  be : Below w0.heap.size w0 w
  sz : w0.heap.size + 1 + 1 < w.heap.size
theorem L3.on {w0 w w1 : World} {ca cb cn : Array Value} (h : L3 w0 ca cb cn w) (hb : Below w.heap.size w w1) : L3 w0 ca cb cn w1 :=
  ⟨(hb.block _ (Array.getElem?_eq_some_iff.1 h.ka).1).trans h.ka, (hb.block _ (Array.getElem?_eq_some_iff.1 h.kb).1).trans h.kb, (hb.block _ (Array.getElem?_eq_some_iff.1 h.kc).1).trans h.kc, h.be.trans (hb.mono (by have := h.sz; omega)), Nat.lt_of_lt_of_le h.sz hb.size⟩
theorem L3.al {w0 w : World} {ca cb cn : Array Value} (h : L3 w0 ca cb cn w) (o : Obj) : L3 w0 ca cb cn (w.alloc o) := h.on ((Below.refl _ _).alloc (Nat.le_refl _) _)

set_option maxHeartbeats 16000000 in
set_option maxRecDepth 100000 in
theorem lsizes_any (e : En) (o : Bool) (f : En) (o' : Bool) (m : Ms) (own : Bool) (LA : Option Addr) (ln lc : Nat) (L : List (En × Bool)) (w : World) (oke : e.Ok) (okf : f.Ok) (hN : NoteIn w m LA ln L) :
    Calls Try.prog 6 #[mdv e o, mdv f o', nvv m own LA ln lc] w fun r w' => r = .returned (.bool true) ∧ Below w.heap.size w w' := by
  obtain ⟨X, hX⟩ : ∃ X, X = mk e := ⟨_, rfl⟩
  obtain ⟨Y, hY⟩ : ∃ Y, Y = mk f := ⟨_, rfl⟩
  have hXok : X.Ok := hX ▸ (mk_facts e oke).1
  have hYok : Y.Ok := hY ▸ (mk_facts f okf).1
  obtain ⟨P, hP⟩ : ∃ P, P = putS X := ⟨_, rfl⟩
  obtain ⟨mb, hmb⟩ : ∃ mb, mb = mayB X := ⟨_, rfl⟩
  obtain ⟨Q, hQ⟩ : ∃ Q, Q = putS Y := ⟨_, rfl⟩
  obtain ⟨nb, hnb⟩ : ∃ nb, nb = mayB Y := ⟨_, rfl⟩
  have hps : mb = true → P.size = 110 := fun h => by
    rw [hP]; unfold putS; rw [← hmb, if_pos h, pb_size (few_of hXok (mayB_right (hmb ▸ h)))]
  have hqs : nb = true → Q.size = 110 := fun h => by
    rw [hQ]; unfold putS; rw [← hnb, if_pos h, pb_size (few_of hYok (mayB_right (hnb ▸ h)))]
  have KE := Lib.hid (fun (W : World) => examples_any W)
  have KX := Lib.hid (fun (W : World) => (made_yes e W oke).mono fun r w' ⟨h1, h2⟩ => And.intro (show r = Ending.returned (ev X) by rw [h1, hX]) h2)
  have KY := Lib.hid (fun (W : World) => (made_yes f W okf).mono fun r w' ⟨h1, h2⟩ => And.intro (show r = Ending.returned (ev Y) by rw [h1, hY]) h2)
  have KP := Lib.hid (fun (W : World) => (put_any X W hXok).mono fun r w' ⟨h1, h2⟩ => And.intro (show r = Ending.returned (.tuple #[.string P, .bool mb]) by rw [h1, hP, hmb]) h2)
  have KQ := Lib.hid (fun (W : World) => (put_any Y W hYok).mono fun r w' ⟨h1, h2⟩ => And.intro (show r = Ending.returned (.tuple #[.string Q, .bool nb]) by rw [h1, hQ, hnb]) h2)
  have KN := Lib.hid (fun (W : World) (hb : Below w.heap.size w W) => note_ok m LA ln lc L W (hN.on hb))
  have WD := Lib.hid hN.wd
  obtain ⟨W0, hW0⟩ : ∃ W0, W0 = ((w.alloc (Obj.cells (mdc e o) 26)).alloc (Obj.cells (mdc f o') 26)).alloc (Obj.cells (nvc m own LA ln lc) 47) := ⟨_, rfl⟩
  have S0 : L3 w (mdc e o) (mdc f o') (nvc m own LA ln lc) W0 := by
    have h1 := heap_alloc_new w (Obj.cells (mdc e o) 26)
    have h2 := heap_alloc_new (w.alloc (Obj.cells (mdc e o) 26)) (Obj.cells (mdc f o') 26)
    have h3 := heap_alloc_new ((w.alloc (Obj.cells (mdc e o) 26)).alloc (Obj.cells (mdc f o') 26)) (Obj.cells (nvc m own LA ln lc) 47)
    rw [show (w.alloc (Obj.cells (mdc e o) 26)).heap.size = w.heap.size + 1 by simp] at h2
    rw [show ((w.alloc (Obj.cells (mdc e o) 26)).alloc (Obj.cells (mdc f o') 26)).heap.size = w.heap.size + 1 + 1 by simp] at h3
    rw [hW0]
    exact ⟨(Lib.alloc_old _ _ _ (by simp; omega)).trans ((Lib.alloc_old _ _ _ (by simp)).trans h1), (Lib.alloc_old _ _ _ (by simp)).trans h2, h3, (((Below.refl _ _).alloc (Nat.le_refl _) _).alloc (by simp) _).alloc (by simp; omega) _, by simp⟩
  have HW0 := Lib.hid hW0
  have HS0 := Lib.hid S0
  have HPS := Lib.hid hps
  have HQS := Lib.hid hqs
  clear hX hY hXok hYok hP hmb hQ hnb hps hqs hN hW0 S0 oke okf
  go_enter Try.func6, Try.ntmps6
  go_upto_region 6 with (go_at_call 8; rw [← HW0.out]; (with_reducible refine (KE.out _).mono ?_); rintro r w1 ⟨rfl, b1⟩; have HS1 := Lib.hid (HS0.out.on b1); have a11 : w1.cell? ⟨w.heap.size, 11, none⟩ = some (.bool o) := cell_of_row w1 _ 11 _ 26 (0, 0) HS1.out.ka; have b11 : w1.cell? ⟨w.heap.size + 1, 11, none⟩ = some (.bool o') := cell_of_row w1 _ 11 _ 26 (0, 0) HS1.out.kb; have fa : w1.frozen? ⟨w.heap.size, 11, none⟩ = false := Md.of HS1.out.ka; have fb : w1.frozen? ⟨w.heap.size + 1, 11, none⟩ = false := Md.of HS1.out.kb; clear b1)
  obtain ⟨W2, hW2⟩ : ∃ W2, W2 = (w1.setCell ⟨w.heap.size, 11, none⟩ (.bool true)).setCell ⟨w.heap.size + 1, 11, none⟩ (.bool true) := ⟨_, rfl⟩
  rw [← hW2]
  have HS2 : Hid (L3 w (mdc e true) (mdc f true) (nvc m own LA ln lc) W2) := by
    have h := HS1.out
    rw [hW2]
    refine ⟨?_, ?_, ?_, (h.be.setCell (p := ⟨w.heap.size, 11, none⟩) (Nat.le_refl _) _).setCell (p := ⟨w.heap.size + 1, 11, none⟩) (by simp) _, by simpa using h.sz⟩
    · rw [Below.heap_setCell _ _ _ _ (by simp)]
      exact (set_blk h.ka 11 (.bool true)).trans (by simp)
    · refine (set_blk (w := w1.setCell ⟨w.heap.size, 11, none⟩ (.bool true)) (cs := mdc f o') (T := 26) ?_ 11 (.bool true)).trans (by simp)
      rw [Below.heap_setCell _ _ _ _ (by simp)]
      exact h.kb
    · rw [Below.heap_setCell _ _ _ _ (by simp), Below.heap_setCell _ _ _ _ (by simp; omega)]
      exact h.kc
  clear hW2 HS1 HS0 HW0 a11 b11 fa fb KE
  have a0 : W2.cell? ⟨w.heap.size, 0, none⟩ = some (.int .u64 e.term) := cell_of_row _ _ 0 _ 26 (0, 0) HS2.out.ka
  have a1 : W2.cell? ⟨w.heap.size, 1, none⟩ = some (.int .u64 e.index) := cell_of_row _ _ 1 _ 26 (0, 0) HS2.out.ka
  have a2 : W2.cell? ⟨w.heap.size, 2, none⟩ = some (.int .i64 e.kind) := cell_of_row _ _ 2 _ 26 (0, 0) HS2.out.ka
  have a3 : W2.cell? ⟨w.heap.size, 3, none⟩ = some (.int .u64 e.client) := cell_of_row _ _ 3 _ 26 (0, 0) HS2.out.ka
  have a4 : W2.cell? ⟨w.heap.size, 4, none⟩ = some (.int .u64 e.seq) := cell_of_row _ _ 4 _ 26 (0, 0) HS2.out.ka
  have a5 : W2.cell? ⟨w.heap.size, 5, none⟩ = some (.int .u64 e.block) := cell_of_row _ _ 5 _ 26 (0, 0) HS2.out.ka
  have a6 : W2.cell? ⟨w.heap.size, 6, none⟩ = some (.int .u64 e.many) := cell_of_row _ _ 6 _ 26 (0, 0) HS2.out.ka
  have a7 : W2.cell? ⟨w.heap.size, 7, none⟩ = some (.int .i64 e.node) := cell_of_row _ _ 7 _ 26 (0, 0) HS2.out.ka
  have a8 : W2.cell? ⟨w.heap.size, 8, none⟩ = some (.int .i64 e.level) := cell_of_row _ _ 8 _ 26 (0, 0) HS2.out.ka
  have a9 : W2.cell? ⟨w.heap.size, 9, none⟩ = some (.string e.data) := cell_of_row _ _ 9 _ 26 (0, 0) HS2.out.ka
  have a10 : W2.cell? ⟨w.heap.size, 10, none⟩ = some (.string e.old) := cell_of_row _ _ 10 _ 26 (0, 0) HS2.out.ka
  have a11 : W2.cell? ⟨w.heap.size, 11, none⟩ = some (.bool true) := cell_of_row _ _ 11 _ 26 (0, 0) HS2.out.ka
  go_upto_region 10 with (first
    | (go_at_call 10; (with_reducible refine (KX.out _).mono ?_); rintro r w3 ⟨rfl, q3⟩; have HS3 := Lib.hid ((HS2.out.on q3).al (.cells (ec X) 24)); have b0 : (w3.alloc (.cells (ec X) 24)).cell? ⟨w.heap.size + 1, 0, none⟩ = some (.int .u64 f.term) := cell_of_row _ _ 0 _ 26 (0, 0) HS3.out.kb; have b1 : (w3.alloc (.cells (ec X) 24)).cell? ⟨w.heap.size + 1, 1, none⟩ = some (.int .u64 f.index) := cell_of_row _ _ 1 _ 26 (0, 0) HS3.out.kb; have b2 : (w3.alloc (.cells (ec X) 24)).cell? ⟨w.heap.size + 1, 2, none⟩ = some (.int .i64 f.kind) := cell_of_row _ _ 2 _ 26 (0, 0) HS3.out.kb; have b3 : (w3.alloc (.cells (ec X) 24)).cell? ⟨w.heap.size + 1, 3, none⟩ = some (.int .u64 f.client) := cell_of_row _ _ 3 _ 26 (0, 0) HS3.out.kb; have b4 : (w3.alloc (.cells (ec X) 24)).cell? ⟨w.heap.size + 1, 4, none⟩ = some (.int .u64 f.seq) := cell_of_row _ _ 4 _ 26 (0, 0) HS3.out.kb; have b5 : (w3.alloc (.cells (ec X) 24)).cell? ⟨w.heap.size + 1, 5, none⟩ = some (.int .u64 f.block) := cell_of_row _ _ 5 _ 26 (0, 0) HS3.out.kb; have b6 : (w3.alloc (.cells (ec X) 24)).cell? ⟨w.heap.size + 1, 6, none⟩ = some (.int .u64 f.many) := cell_of_row _ _ 6 _ 26 (0, 0) HS3.out.kb; have b7 : (w3.alloc (.cells (ec X) 24)).cell? ⟨w.heap.size + 1, 7, none⟩ = some (.int .i64 f.node) := cell_of_row _ _ 7 _ 26 (0, 0) HS3.out.kb; have b8 : (w3.alloc (.cells (ec X) 24)).cell? ⟨w.heap.size + 1, 8, none⟩ = some (.int .i64 f.level) := cell_of_row _ _ 8 _ 26 (0, 0) HS3.out.kb; have b9 : (w3.alloc (.cells (ec X) 24)).cell? ⟨w.heap.size + 1, 9, none⟩ = some (.string f.data) := cell_of_row _ _ 9 _ 26 (0, 0) HS3.out.kb; have b10 : (w3.alloc (.cells (ec X) 24)).cell? ⟨w.heap.size + 1, 10, none⟩ = some (.string f.old) := cell_of_row _ _ 10 _ 26 (0, 0) HS3.out.kb; have b11 : (w3.alloc (.cells (ec X) 24)).cell? ⟨w.heap.size + 1, 11, none⟩ = some (.bool true) := cell_of_row _ _ 11 _ 26 (0, 0) HS3.out.kb; clear q3)
    | (go_at_call 10; (with_reducible refine (KY.out _).mono ?_); rintro r w4 ⟨rfl, q4⟩; have HS4 := Lib.hid ((HS3.out.on q4).al (.cells (ec Y) 24)); have HX4 : Hid ((w4.alloc (.cells (ec Y) 24)).heap[w3.heap.size]? = some (.cells (ec X) 24 (0, 0))) := (Lib.alloc_old w4 _ _ (by have := q4.size; simp at this; omega)).trans ((q4.block _ (by simp)).trans (heap_alloc_new w3 _)); have x0 : (w4.alloc (.cells (ec Y) 24)).cell? ⟨w3.heap.size, 0, none⟩ = some (.int .u64 X.term) := cell_of_row _ _ 0 _ 24 (0, 0) HX4.out; have x1 : (w4.alloc (.cells (ec Y) 24)).cell? ⟨w3.heap.size, 1, none⟩ = some (.int .u64 X.index) := cell_of_row _ _ 1 _ 24 (0, 0) HX4.out; have x2 : (w4.alloc (.cells (ec Y) 24)).cell? ⟨w3.heap.size, 2, none⟩ = some (.int .i64 X.kind) := cell_of_row _ _ 2 _ 24 (0, 0) HX4.out; have x3 : (w4.alloc (.cells (ec Y) 24)).cell? ⟨w3.heap.size, 3, none⟩ = some (.int .u64 X.client) := cell_of_row _ _ 3 _ 24 (0, 0) HX4.out; have x4 : (w4.alloc (.cells (ec Y) 24)).cell? ⟨w3.heap.size, 4, none⟩ = some (.int .u64 X.seq) := cell_of_row _ _ 4 _ 24 (0, 0) HX4.out; have x5 : (w4.alloc (.cells (ec Y) 24)).cell? ⟨w3.heap.size, 5, none⟩ = some (.int .u64 X.block) := cell_of_row _ _ 5 _ 24 (0, 0) HX4.out; have x6 : (w4.alloc (.cells (ec Y) 24)).cell? ⟨w3.heap.size, 6, none⟩ = some (.int .u64 X.many) := cell_of_row _ _ 6 _ 24 (0, 0) HX4.out; have x7 : (w4.alloc (.cells (ec Y) 24)).cell? ⟨w3.heap.size, 7, none⟩ = some (.int .i64 X.node) := cell_of_row _ _ 7 _ 24 (0, 0) HX4.out; have x8 : (w4.alloc (.cells (ec Y) 24)).cell? ⟨w3.heap.size, 8, none⟩ = some (.int .i64 X.level) := cell_of_row _ _ 8 _ 24 (0, 0) HX4.out; have x9 : (w4.alloc (.cells (ec Y) 24)).cell? ⟨w3.heap.size, 9, none⟩ = some (.string X.data) := cell_of_row _ _ 9 _ 24 (0, 0) HX4.out; have x10 : (w4.alloc (.cells (ec Y) 24)).cell? ⟨w3.heap.size, 10, none⟩ = some (.string X.old) := cell_of_row _ _ 10 _ 24 (0, 0) HX4.out; clear q4)
    | (go_at_call 9; (with_reducible refine (KP.out _).mono ?_); rintro r w5 ⟨rfl, q5⟩; have HS5 := Lib.hid (HS4.out.on q5); have HY5 : Hid (w5.heap[w4.heap.size]? = some (.cells (ec Y) 24 (0, 0))) := (q5.block _ (by simp)).trans (heap_alloc_new w4 _); have y0 : w5.cell? ⟨w4.heap.size, 0, none⟩ = some (.int .u64 Y.term) := cell_of_row _ _ 0 _ 24 (0, 0) HY5.out; have y1 : w5.cell? ⟨w4.heap.size, 1, none⟩ = some (.int .u64 Y.index) := cell_of_row _ _ 1 _ 24 (0, 0) HY5.out; have y2 : w5.cell? ⟨w4.heap.size, 2, none⟩ = some (.int .i64 Y.kind) := cell_of_row _ _ 2 _ 24 (0, 0) HY5.out; have y3 : w5.cell? ⟨w4.heap.size, 3, none⟩ = some (.int .u64 Y.client) := cell_of_row _ _ 3 _ 24 (0, 0) HY5.out; have y4 : w5.cell? ⟨w4.heap.size, 4, none⟩ = some (.int .u64 Y.seq) := cell_of_row _ _ 4 _ 24 (0, 0) HY5.out; have y5 : w5.cell? ⟨w4.heap.size, 5, none⟩ = some (.int .u64 Y.block) := cell_of_row _ _ 5 _ 24 (0, 0) HY5.out; have y6 : w5.cell? ⟨w4.heap.size, 6, none⟩ = some (.int .u64 Y.many) := cell_of_row _ _ 6 _ 24 (0, 0) HY5.out; have y7 : w5.cell? ⟨w4.heap.size, 7, none⟩ = some (.int .i64 Y.node) := cell_of_row _ _ 7 _ 24 (0, 0) HY5.out; have y8 : w5.cell? ⟨w4.heap.size, 8, none⟩ = some (.int .i64 Y.level) := cell_of_row _ _ 8 _ 24 (0, 0) HY5.out; have y9 : w5.cell? ⟨w4.heap.size, 9, none⟩ = some (.string Y.data) := cell_of_row _ _ 9 _ 24 (0, 0) HY5.out; have y10 : w5.cell? ⟨w4.heap.size, 10, none⟩ = some (.string Y.old) := cell_of_row _ _ 10 _ 24 (0, 0) HY5.out; clear q5)
    | (go_at_call 9; (with_reducible refine (KQ.out _).mono ?_); rintro r w6 ⟨rfl, q6⟩; have HS6 := Lib.hid (HS5.out.on q6); have c11 : w6.cell? ⟨w.heap.size + 1 + 1, 11, none⟩ = some (.bool own) := cell_of_row w6 _ 11 _ 47 (0, 0) HS6.out.kc; have fc : w6.frozen? ⟨w.heap.size + 1 + 1, 11, none⟩ = false := Md.of HS6.out.kc; clear q6))
  clear a0 b0 a1 b1 a2 b2 a3 b3 a4 b4 a5 b5 a6 b6 a7 b7 a8 b8 a9 b9 a10 b10 a11 b11 x0 y0 x1 y1 x2 y2 x3 y3 x4 y4 x5 y5 x6 y6 x7 y7 x8 y8 x9 y9 x10 y10 HS2 HS3 HS4 HS5 HX4 HY5 KX KY KP KQ
  go_upto_region 11 with fail
  obtain ⟨W7, hW7⟩ : ∃ W7, W7 = w6.setCell ⟨w.heap.size + 1 + 1, 11, none⟩ (.bool true) := ⟨_, rfl⟩
  rw [← hW7]
  have HK7 : Hid (W7.heap[w.heap.size + 1 + 1]? = some (.cells (nvc m true LA ln lc) 47 (0, 0))) := by
    show _ = _
    rw [hW7]
    exact (set_blk HS6.out.kc 11 (.bool true)).trans (by simp)
  have HB7 : Hid (Below w.heap.size w W7) := by rw [hW7]; exact HS6.out.be.setCell (p := ⟨w.heap.size + 1 + 1, 11, none⟩) (by simp; omega) _
  clear hW7 HS6 c11 fc
  have n0 : W7.cell? ⟨w.heap.size + 1 + 1, 0, none⟩ = some (.int .i64 m.kind) := cell_of_row _ _ 0 _ 47 (0, 0) HK7.out
  have n1 : W7.cell? ⟨w.heap.size + 1 + 1, 1, none⟩ = some (.int .i64 m.frm) := cell_of_row _ _ 1 _ 47 (0, 0) HK7.out
  have n2 : W7.cell? ⟨w.heap.size + 1 + 1, 2, none⟩ = some (.int .i64 m.dst) := cell_of_row _ _ 2 _ 47 (0, 0) HK7.out
  have n3 : W7.cell? ⟨w.heap.size + 1 + 1, 3, none⟩ = some (.int .u64 m.term) := cell_of_row _ _ 3 _ 47 (0, 0) HK7.out
  have n4 : W7.cell? ⟨w.heap.size + 1 + 1, 4, none⟩ = some (.int .u64 m.index) := cell_of_row _ _ 4 _ 47 (0, 0) HK7.out
  have n5 : W7.cell? ⟨w.heap.size + 1 + 1, 5, none⟩ = some (.int .u64 m.prev) := cell_of_row _ _ 5 _ 47 (0, 0) HK7.out
  have n6 : W7.cell? ⟨w.heap.size + 1 + 1, 6, none⟩ = some (.int .u64 m.commit) := cell_of_row _ _ 6 _ 47 (0, 0) HK7.out
  have n7 : W7.cell? ⟨w.heap.size + 1 + 1, 7, none⟩ = some (.int .u64 m.mark) := cell_of_row _ _ 7 _ 47 (0, 0) HK7.out
  have n8 : W7.cell? ⟨w.heap.size + 1 + 1, 8, none⟩ = some (.bool m.ok) := cell_of_row _ _ 8 _ 47 (0, 0) HK7.out
  have n9 : W7.cell? ⟨w.heap.size + 1 + 1, 9, none⟩ = some (.slice m.A m.n m.c) := cell_of_row _ _ 9 _ 47 (0, 0) HK7.out
  have n10 : W7.cell? ⟨w.heap.size + 1 + 1, 10, none⟩ = some (.string m.snap) := cell_of_row _ _ 10 _ 47 (0, 0) HK7.out
  have n11 : W7.cell? ⟨w.heap.size + 1 + 1, 11, none⟩ = some (.bool true) := cell_of_row _ _ 11 _ 47 (0, 0) HK7.out
  have n12 : W7.cell? ⟨w.heap.size + 1 + 1, 12, none⟩ = some (.slice LA ln lc) := cell_of_row _ _ 12 _ 47 (0, 0) HK7.out
  go_upto_region 12 with (go_at_call 20; (with_reducible refine (KN.out _ HB7.out).mono ?_); rintro r w8 ⟨M, rfl, HM, b8⟩; have HB8 : Hid (Below w.heap.size w w8) := HB7.out.trans (b8.mono HB7.out.size); clear b8)
  clear n0 n1 n2 n3 n4 n5 n6 n7 n8 n9 n10 n11 n12 HK7 HB7 KN
  have MW := Lib.hid (HM.out.wide WD.out)
  have HMR := Lib.hid HM.out.rt
  obtain ⟨W9, hW9⟩ : ∃ W9, W9 = w8.alloc (Obj.cells (mc M) 44) := ⟨_, rfl⟩
  rw [← hW9]
  have b9 : Below w8.heap.size w8 W9 := by rw [hW9]; exact (Below.refl _ _).alloc (Nat.le_refl _) _
  have HE9 : Hid (Ents W9.heap.size M.A M.n M.es W9) := (HM.out.en.below b9).mr b9.size
  have HK9 : Hid (W9.heap[w8.heap.size]? = some (.cells (mc M) 44 (0, 0))) := by show _ = _; rw [hW9]; exact heap_alloc_new w8 _
  have HB9 : Hid (Below w.heap.size w W9) := HB8.out.trans (b9.mono HB8.out.size)
  obtain ⟨U, hU⟩ : ∃ U, U = putM M := ⟨_, rfl⟩
  obtain ⟨fb, hfb⟩ : ∃ fb, fb = mmayB M := ⟨_, rfl⟩
  obtain ⟨lv, hlv⟩ : ∃ lv, lv = mlvl M := ⟨_, rfl⟩
  have hfl : fb = (lv == 1) := by rw [hfb, hlv]; unfold mmayB; rw [HMR.out]; rfl
  have hus : fb = true → (U.size : Int) = 49 + 110 * (M.n : Int) + (M.snap.size : Int) := fun h => by
    have fw := mfew_of MW.out HMR.out
    rw [hU]; unfold putM; rw [← hfb, if_pos h, pbm_size fw HE9.out.len]; omega
  have hn10 : (M.n : Int) ≤ 10 := HM.out.n
  have hs200 : (M.snap.size : Int) ≤ 200 := by have := HM.out.sn; omega
  have KU := Lib.hid (fun (W : World) (hE : Ents W.heap.size M.A M.n M.es W) => (putM_any M W hE MW.out).mono fun r w' ⟨h1, h2⟩ => And.intro (show r = Ending.returned (.tuple #[.string U, .bool fb]) by rw [h1, hU, hfb]) h2)
  have KL := Lib.hid (fun (W : World) (hE : Ents W.heap.size M.A M.n M.es W) => (mlevel_any M W hE (wide_n MW.out)).mono fun r w' ⟨h1, h2⟩ => And.intro (show r = Ending.returned (.int .i64 lv) by rw [h1, hlv]) h2)
  have HUS := Lib.hid hus
  have HFL := Lib.hid hfl
  clear hW9 b9 HB8 HM hU hfb hlv hfl hus HMR MW WD
  have m0 : W9.cell? ⟨w8.heap.size, 0, none⟩ = some (.int .i64 M.kind) := cell_of_row _ _ 0 _ 44 (0, 0) HK9.out
  have m1 : W9.cell? ⟨w8.heap.size, 1, none⟩ = some (.int .i64 M.frm) := cell_of_row _ _ 1 _ 44 (0, 0) HK9.out
  have m2 : W9.cell? ⟨w8.heap.size, 2, none⟩ = some (.int .i64 M.dst) := cell_of_row _ _ 2 _ 44 (0, 0) HK9.out
  have m3 : W9.cell? ⟨w8.heap.size, 3, none⟩ = some (.int .u64 M.term) := cell_of_row _ _ 3 _ 44 (0, 0) HK9.out
  have m4 : W9.cell? ⟨w8.heap.size, 4, none⟩ = some (.int .u64 M.index) := cell_of_row _ _ 4 _ 44 (0, 0) HK9.out
  have m5 : W9.cell? ⟨w8.heap.size, 5, none⟩ = some (.int .u64 M.prev) := cell_of_row _ _ 5 _ 44 (0, 0) HK9.out
  have m6 : W9.cell? ⟨w8.heap.size, 6, none⟩ = some (.int .u64 M.commit) := cell_of_row _ _ 6 _ 44 (0, 0) HK9.out
  have m7 : W9.cell? ⟨w8.heap.size, 7, none⟩ = some (.int .u64 M.mark) := cell_of_row _ _ 7 _ 44 (0, 0) HK9.out
  have m8 : W9.cell? ⟨w8.heap.size, 8, none⟩ = some (.bool M.ok) := cell_of_row _ _ 8 _ 44 (0, 0) HK9.out
  have m9 : W9.cell? ⟨w8.heap.size, 9, none⟩ = some (.slice M.A M.n M.c) := cell_of_row _ _ 9 _ 44 (0, 0) HK9.out
  have m10 : W9.cell? ⟨w8.heap.size, 10, none⟩ = some (.string M.snap) := cell_of_row _ _ 10 _ 44 (0, 0) HK9.out
  have hlv : Hid ((lv == 1) = fb) := HFL.out.symm
  go_upto_region 13 with (go_at_call 19; (with_reducible refine (KU.out _ HE9.out).mono ?_); rintro r w10 ⟨rfl, b10⟩; have HE10 := Lib.hid ((HE9.out.below b10).mr b10.size); have HK10 : Hid (w10.heap[w8.heap.size]? = some (.cells (mc M) 44 (0, 0))) := (b10.block _ (Array.getElem?_eq_some_iff.1 HK9.out).1).trans HK9.out; have HB10 : Hid (Below w.heap.size w w10) := HB9.out.trans (b10.mono HB9.out.size); have p0 : w10.cell? ⟨w8.heap.size, 0, none⟩ = some (.int .i64 M.kind) := cell_of_row _ _ 0 _ 44 (0, 0) HK10.out; have p1 : w10.cell? ⟨w8.heap.size, 1, none⟩ = some (.int .i64 M.frm) := cell_of_row _ _ 1 _ 44 (0, 0) HK10.out; have p2 : w10.cell? ⟨w8.heap.size, 2, none⟩ = some (.int .i64 M.dst) := cell_of_row _ _ 2 _ 44 (0, 0) HK10.out; have p3 : w10.cell? ⟨w8.heap.size, 3, none⟩ = some (.int .u64 M.term) := cell_of_row _ _ 3 _ 44 (0, 0) HK10.out; have p4 : w10.cell? ⟨w8.heap.size, 4, none⟩ = some (.int .u64 M.index) := cell_of_row _ _ 4 _ 44 (0, 0) HK10.out; have p5 : w10.cell? ⟨w8.heap.size, 5, none⟩ = some (.int .u64 M.prev) := cell_of_row _ _ 5 _ 44 (0, 0) HK10.out; have p6 : w10.cell? ⟨w8.heap.size, 6, none⟩ = some (.int .u64 M.commit) := cell_of_row _ _ 6 _ 44 (0, 0) HK10.out; have p7 : w10.cell? ⟨w8.heap.size, 7, none⟩ = some (.int .u64 M.mark) := cell_of_row _ _ 7 _ 44 (0, 0) HK10.out; have p8 : w10.cell? ⟨w8.heap.size, 8, none⟩ = some (.bool M.ok) := cell_of_row _ _ 8 _ 44 (0, 0) HK10.out; have p9 : w10.cell? ⟨w8.heap.size, 9, none⟩ = some (.slice M.A M.n M.c) := cell_of_row _ _ 9 _ 44 (0, 0) HK10.out; have p10 : w10.cell? ⟨w8.heap.size, 10, none⟩ = some (.string M.snap) := cell_of_row _ _ 10 _ 44 (0, 0) HK10.out; clear b10)
  clear m0 m1 m2 m3 m4 m5 m6 m7 m8 m9 m10 HE9 HK9 HB9 KU
  have hl2 := hlv.out
  cases fb with
  | true =>
    have hz := HUS.out rfl
    clear HUS HFL hlv
    cases mb <;> cases nb
    all_goals
      first | (have hp1 := HPS.out rfl) | skip
      first | (have hp2 := HQS.out rfl) | skip
      clear HPS HQS
      go_wp2_with (go_at_call 26; (with_reducible refine (KL.out _ HE10.out).mono ?_); rintro r w11 ⟨rfl, b11⟩; have HK11 : Hid (w11.heap[w8.heap.size]? = some (.cells (mc M) 44 (0, 0))) := (b11.block _ (Array.getElem?_eq_some_iff.1 HK10.out).1).trans HK10.out; have HB11 : Hid (Below w.heap.size w w11) := HB10.out.trans (b11.mono HB10.out.size); have t9 : w11.cell? ⟨w8.heap.size, 9, none⟩ = some (.slice M.A M.n M.c) := cell_of_row _ _ 9 _ 44 (0, 0) HK11.out; have t10 : w11.cell? ⟨w8.heap.size, 10, none⟩ = some (.string M.snap) := cell_of_row _ _ 10 _ 44 (0, 0) HK11.out; clear b11)
      go_ret
      exact ⟨rfl, HB11.out⟩
  | false =>
    clear HUS HFL hlv
    cases mb <;> cases nb
    all_goals
      first | (have hp1 := HPS.out rfl) | skip
      first | (have hp2 := HQS.out rfl) | skip
      clear HPS HQS
      go_wp2_with (go_at_call 26; (with_reducible refine (KL.out _ HE10.out).mono ?_); rintro r w11 ⟨rfl, b11⟩; have HB11 : Hid (Below w.heap.size w w11) := HB10.out.trans (b11.mono HB10.out.size); clear b11)
      go_ret
      exact ⟨rfl, HB11.out⟩
end Go.Proofs.Ytiikgfcfceldmaa
