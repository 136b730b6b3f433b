/-
  EntryLevels, walked: true for every input.
  Conditions: the table of powers of ten lies as its initialiser lays it; what came in is as its types say.
-/
import Derived.Test.YtclohjcenkpgoaaDoorNote
import Derived.Test.YtclohjcenkpgoaaDoorMLevel
namespace Go.Proofs.YtclohjcenkpgoaaDoor
open Go.RowKit
set_option linter.unusedVariables false

theorem Mades.mr {B B' : Nat} {A : Option Addr} {n : Nat} {L : List (En × Bool)} {w : World} (h : Mades B A n L w) (hB : B ≤ B') : Mades B' A n L w :=
  ⟨h.len, fun i e he => by
    obtain ⟨a, hA, h1, hc⟩ := h.at_ i e he
    exact ⟨a, hA, Nat.lt_of_lt_of_le h1 hB, hc⟩⟩
theorem NoteIn.on {w w1 : World} {m : Ms} {LA : Option Addr} {ln : Nat} {L : List (En × Bool)} (h : NoteIn w m LA ln L) (hb : Below w.heap.size w w1) : NoteIn w1 m LA ln L :=
  ⟨h.wd, (h.en.below hb).mr hb.size, (h.md.below hb).mr hb.size, h.ok, h.ll⟩
/-- What the law's note hands back. -/
structure NoteOut (m : Ms) (L : List (En × Bool)) (M : Ms) (w : World) : Prop where
  rt : mrightB M = true
  en : Ents w.heap.size M.A M.n M.es w
  f1 : 1 ≤ M.frm
  f7 : M.frm ≤ 7
  o1 : 1 ≤ M.to
  o7 : M.to ≤ 7
  k1 : 1 ≤ M.kind
  k9 : M.kind ≤ 10
  n : (M.n : Int) ≤ 10
  es : ∀ e ∈ M.es, e.Ok ∧ rightB e = true ∧ e.data.size ≤ 64 ∧ e.old.size ≤ 64
  t : M.term = m.term
  i0 : 0 ≤ M.index
  i1 : M.index ≤ 18446744073709551615
  p0 : 0 ≤ M.prev
  p1 : M.prev ≤ 18446744073709551615
  c0 : 0 ≤ M.commit
  c1 : M.commit ≤ 18446744073709551615
  m0 : 0 ≤ M.mark
  m1 : M.mark ≤ 18446744073709551615
  sn : M.snap.size ≤ 200
theorem ite0 {p : Prop} [Decidable p] {x hi : Int} (h0 : 0 ≤ x) (h1 : x ≤ hi) (h2 : 0 ≤ hi) : 0 ≤ (if p then x else 0) ∧ (if p then x else 0) ≤ hi := by
  split <;> omega
theorem note_ok (m : Ms) (LA : Option Addr) (ln lc : Nat) (L : List (En × Bool)) (w : World) (h : NoteIn w m LA ln L) :
    Calls Tryd.prog 21 #[nvv m true LA ln lc] w fun r w' => ∃ M, r = .returned (mv M) ∧ Hid (NoteOut m L M w') ∧ Below w.heap.size w w' :=
  (note_yes m LA ln lc L w h.md h.ok h.ll).mono fun r w' ⟨A, c, n, hr, hl, hE, hb⟩ => by
    refine ⟨_, hr, ⟨nm_right m L A n c h.ok hl h.wd.i0 h.wd.i1 h.wd.p0 h.wd.p1 h.wd.c0 h.wd.c1 h.wd.m0 h.wd.m1 h.wd.s1, hE, (nfrom _).1, (nfrom _).2, (nfrom _).1, (nfrom _).2, (nkind _).1, (nkind _).2, ?_, fun e he => nes_mem h.ok he, rfl, (ite0 h.wd.i0 h.wd.i1 (by omega)).1, (ite0 h.wd.i0 h.wd.i1 (by omega)).2, (ite0 h.wd.p0 h.wd.p1 (by omega)).1, (ite0 h.wd.p0 h.wd.p1 (by omega)).2, (ite0 h.wd.c0 h.wd.c1 (by omega)).1, (ite0 h.wd.c0 h.wd.c1 (by omega)).2, (ite0 h.wd.m0 h.wd.m1 (by omega)).1, (ite0 h.wd.m0 h.wd.m1 (by omega)).2, ?_⟩, hb⟩
    · have := nes_length m L A n c
      rw [hl] at this
      show (n : Int) ≤ 10
      omega
    · show (if hasT (mfl (m.kind % 10 + 1)).data.toList 115 then cut200 m.snap else ⟨#[]⟩ : ByteArray).size ≤ 200
      split
      · exact cut200_size _ h.wd.s1
      · exact Nat.zero_le _

/-- The law's entry and message lie where they lay. -/
structure LvS (w0 : World) (gx gm : Nat) (X : En) (M : Ms) (W : World) : Prop where
  e : W.heap[gx]? = some (.cells (ec X) 24 (0, 0))
  m : W.heap[gm]? = some (.cells (mc M) 38 (0, 0))
  en : Ents W.heap.size M.A M.n M.es W
  be : Below w0.heap.size w0 W
section
variable {w0 : World} {gx gm : Nat} {X : En} {M : Ms} {W w1 : World}
theorem LvS.on (h : LvS w0 gx gm X M W) (hb : Below W.heap.size W w1) : LvS w0 gx gm X M w1 :=
  ⟨(hb.block _ (Array.getElem?_eq_some_iff.1 h.e).1).trans h.e, (hb.block _ (Array.getElem?_eq_some_iff.1 h.m).1).trans h.m, (h.en.below hb).mr hb.size, h.be.trans (hb.mono h.be.size)⟩
theorem LvS.ecell (h : LvS w0 gx gm X M W) (j : Nat) : W.cell? ⟨gx, j, none⟩ = (ec X)[j]? := cell_of_row W _ j _ 24 (0, 0) h.e
theorem LvS.mcell (h : LvS w0 gx gm X M W) (j : Nat) : W.cell? ⟨gm, j, none⟩ = (mc M)[j]? := cell_of_row W _ j _ 38 (0, 0) h.m
theorem LvS.drew (h : LvS w0 gx gm X M W) : LvS w0 gx gm X M W.drew := ⟨h.e, h.m, h.en.below (Below.refl _ W).drew, h.be.drew⟩
/-- The state, and the cells that are read. -/
theorem LvS.all (h : LvS w0 gx gm X M W) : LvS w0 gx gm X M W ∧ W.cell? ⟨gx, 0, none⟩ = some (.int .u64 X.term) ∧ W.cell? ⟨gx, 1, none⟩ = some (.int .u64 X.index) ∧ W.cell? ⟨gx, 2, none⟩ = some (.int .i64 X.kind) ∧ W.cell? ⟨gx, 3, none⟩ = some (.int .u64 X.client) ∧ W.cell? ⟨gx, 4, none⟩ = some (.int .u64 X.seq) ∧ W.cell? ⟨gx, 5, none⟩ = some (.int .u64 X.block) ∧ W.cell? ⟨gx, 6, none⟩ = some (.int .u64 X.many) ∧ W.cell? ⟨gx, 7, none⟩ = some (.int .i64 X.node) ∧ W.cell? ⟨gx, 8, none⟩ = some (.int .i64 X.level) ∧ W.cell? ⟨gx, 9, none⟩ = some (.string X.data) ∧ W.cell? ⟨gx, 10, none⟩ = some (.string X.old) ∧ W.cell? ⟨gm, 0, none⟩ = some (.int .i64 M.kind) ∧ W.cell? ⟨gm, 1, none⟩ = some (.int .i64 M.frm) ∧ W.cell? ⟨gm, 2, none⟩ = some (.int .i64 M.to) ∧ W.cell? ⟨gm, 3, none⟩ = some (.int .u64 M.term) ∧ W.cell? ⟨gm, 4, none⟩ = some (.int .u64 M.index) ∧ W.cell? ⟨gm, 5, none⟩ = some (.int .u64 M.prev) ∧ W.cell? ⟨gm, 6, none⟩ = some (.int .u64 M.commit) ∧ W.cell? ⟨gm, 7, none⟩ = some (.int .u64 M.mark) ∧ W.cell? ⟨gm, 8, none⟩ = some (.bool M.ok) ∧ W.cell? ⟨gm, 9, none⟩ = some (.slice M.A M.n M.c) ∧ W.cell? ⟨gm, 10, none⟩ = some (.string M.snap) := ⟨h, h.ecell 0, h.ecell 1, h.ecell 2, h.ecell 3, h.ecell 4, h.ecell 5, h.ecell 6, h.ecell 7, h.ecell 8, h.ecell 9, h.ecell 10, h.mcell 0, h.mcell 1, h.mcell 2, h.mcell 3, h.mcell 4, h.mcell 5, h.mcell 6, h.mcell 7, h.mcell 8, h.mcell 9, h.mcell 10⟩
end
/-- Is anything high in it, up to the k-th entry? -/
def hv (M : Ms) (k : Nat) : Bool := M.kind == 9 || M.kind == 10 || (M.es.take k).any fun e => e.kind == 11
theorem hv_step (M : Ms) (k : Nat) (e : En) (h : M.es[k]? = some e) : hv M (k + 1) = (hv M k || e.kind == 11) := by
  unfold hv
  rw [take_snoc h, List.any_append]
  simp [Bool.or_assoc]
theorem hv_all (M : Ms) (k : Nat) (h : M.es.length ≤ k) : (mlvl M == 2) = hv M k := by
  rw [mlvl_two]
  unfold hv
  rw [List.take_of_length_le h]

set_option maxRecDepth 100000 in
set_option maxHeartbeats 16000000 in
theorem levels_any (e : En) (o : Bool) (m : Ms) (own : Bool) (LA : Option Addr) (ln lc : Nat) (L : List (En × Bool)) (w : World) (ok : e.Ok) (hN : NoteIn w m LA ln L) (ht : Tab w) :
    Calls Tryd.prog 7 #[mdv e o, nvv m own LA ln lc] w fun r w' => r = .returned (.bool true) ∧ Below w.heap.size w w' := by
  obtain ⟨X, hX⟩ : ∃ X, X = mk e := ⟨_, rfl⟩
  have hXf := mk_facts e ok
  rw [← hX] at hXf
  obtain ⟨W0, hW0⟩ : ∃ W0, W0 = (w.alloc (Obj.cells (mdc e o) 26)).alloc (Obj.cells (nvc m own LA ln lc) 41) := ⟨_, rfl⟩
  have hb0 : Below w.heap.size w W0 := by rw [hW0]; exact ((Below.refl _ _).alloc (Nat.le_refl _) _).alloc (by simp) _
  have hk0 : W0.heap[w.heap.size]? = some (.cells (mdc e o) 26 (0, 0)) := by
    rw [hW0]; exact (Lib.alloc_old _ _ _ (by simp)).trans (heap_alloc_new w _)
  have hk1 : W0.heap[w.heap.size + 1]? = some (.cells (nvc m own LA ln lc) 41 (0, 0)) := by
    have h := heap_alloc_new (w.alloc (Obj.cells (mdc e o) 26)) (Obj.cells (nvc m own LA ln lc) 41)
    rw [show (w.alloc (Obj.cells (mdc e o) 26)).heap.size = w.heap.size + 1 by simp] at h
    rw [hW0]; exact h
  have hs0 : W0.heap.size = w.heap.size + 1 + 1 := by rw [hW0]; simp
  have KE := Lib.hid (examples_any W0 (ht.below hb0))
  have KMb : ∀ (W : World), Calls Tryd.prog 10 #[mdv e true] W fun r w' => r = .returned (ev X) ∧ Below W.heap.size W w' := fun W => hX ▸ made_yes e W ok
  have KM := Lib.hid KMb
  clear KMb
  have KN := Lib.hid (fun (W : World) (hb : Below w.heap.size w W) => note_ok m LA ln lc L W (hN.on hb))
  have HX := Lib.hid hX
  have HF := Lib.hid hXf
  have HW0 := Lib.hid hW0
  have HB0 := Lib.hid hb0
  have HK0 := Lib.hid hk0
  have HK1 := Lib.hid hk1
  have HS0 := Lib.hid hs0
  clear hX hXf hb0 hk0 hk1 hs0 ok hN ht
  go_enter Tryd.func7, Tryd.ntmps7
  go_upto_region 4 with (go_at_call 9; rw [← HW0.out]; (with_reducible refine KE.out.mono ?_); rintro r w1 ⟨rfl, hb1⟩)
  have hk0 : w1.heap[w.heap.size]? = some (.cells (mdc e o) 26 (0, 0)) := (hb1.block _ (by have := HS0.out; omega)).trans HK0.out
  have hk1 : w1.heap[w.heap.size + 1]? = some (.cells (nvc m own LA ln lc) 41 (0, 0)) := (hb1.block _ (by have := HS0.out; omega)).trans HK1.out
  have b11 : w1.cell? ⟨w.heap.size, 11, none⟩ = some (.bool o) := cell_of_row w1 _ 11 _ 26 (0, 0) hk0
  have c11 : w1.cell? ⟨w.heap.size + 1, 11, none⟩ = some (.bool own) := cell_of_row w1 _ 11 _ 41 (0, 0) hk1
  have fz0 : w1.frozen? ⟨w.heap.size, 11, none⟩ = false := Md.of hk0
  have fz1 : w1.frozen? ⟨w.heap.size + 1, 11, none⟩ = false := Md.of hk1
  have HK0' := Lib.hid hk0
  have HK1' := Lib.hid hk1
  have HB1 : Hid (Below w.heap.size w w1) := HB0.out.trans (hb1.mono HB0.out.size)
  clear hk0 hk1 hb1
  go_upto_region 6 with fail
  obtain ⟨Wa, hWa⟩ : ∃ Wa, Wa = (w1.setCell ⟨w.heap.size, 11, none⟩ (.bool true)).setCell ⟨w.heap.size + 1, 11, none⟩ (.bool true) := ⟨_, rfl⟩
  rw [← hWa]
  have hba : Below w.heap.size w Wa := by rw [hWa]; exact (HB1.out.setCell (p := ⟨w.heap.size, 11, none⟩) (Nat.le_refl _) _).setCell (p := ⟨w.heap.size + 1, 11, none⟩) (Nat.le_succ _) _
  have ha0 : Wa.heap[w.heap.size]? = some (.cells (mdc e true) 26 (0, 0)) := by
    rw [hWa]
    exact (Below.heap_setCell _ _ _ _ (by simp)).trans (set_blk HK0'.out 11 (.bool true))
  have ha1 : Wa.heap[w.heap.size + 1]? = some (.cells (nvc m true LA ln lc) 41 (0, 0)) := by
    rw [hWa]
    exact set_blk ((Below.heap_setCell _ _ _ _ (by simp)).trans HK1'.out) 11 (.bool true)
  have a0 : Wa.cell? ⟨w.heap.size, 0, none⟩ = some (.int .u64 e.term) := cell_of_row Wa _ 0 _ 26 (0, 0) ha0
  have a1 : Wa.cell? ⟨w.heap.size, 1, none⟩ = some (.int .u64 e.index) := cell_of_row Wa _ 1 _ 26 (0, 0) ha0
  have a2 : Wa.cell? ⟨w.heap.size, 2, none⟩ = some (.int .i64 e.kind) := cell_of_row Wa _ 2 _ 26 (0, 0) ha0
  have a3 : Wa.cell? ⟨w.heap.size, 3, none⟩ = some (.int .u64 e.client) := cell_of_row Wa _ 3 _ 26 (0, 0) ha0
  have a4 : Wa.cell? ⟨w.heap.size, 4, none⟩ = some (.int .u64 e.seq) := cell_of_row Wa _ 4 _ 26 (0, 0) ha0
  have a5 : Wa.cell? ⟨w.heap.size, 5, none⟩ = some (.int .u64 e.block) := cell_of_row Wa _ 5 _ 26 (0, 0) ha0
  have a6 : Wa.cell? ⟨w.heap.size, 6, none⟩ = some (.int .u64 e.many) := cell_of_row Wa _ 6 _ 26 (0, 0) ha0
  have a7 : Wa.cell? ⟨w.heap.size, 7, none⟩ = some (.int .i64 e.node) := cell_of_row Wa _ 7 _ 26 (0, 0) ha0
  have a8 : Wa.cell? ⟨w.heap.size, 8, none⟩ = some (.int .i64 e.level) := cell_of_row Wa _ 8 _ 26 (0, 0) ha0
  have a9 : Wa.cell? ⟨w.heap.size, 9, none⟩ = some (.string e.data) := cell_of_row Wa _ 9 _ 26 (0, 0) ha0
  have a10 : Wa.cell? ⟨w.heap.size, 10, none⟩ = some (.string e.old) := cell_of_row Wa _ 10 _ 26 (0, 0) ha0
  have a11 : Wa.cell? ⟨w.heap.size, 11, none⟩ = some (.bool true) := cell_of_row Wa _ 11 _ 26 (0, 0) ha0
  have HBA := Lib.hid hba
  have HA1 := Lib.hid ha1
  clear b11 c11 fz0 fz1 hWa hba ha0 ha1 HK0' HK1' HB1
  go_upto_region 8 with (first
    | (go_at_call 10; (with_reducible refine (KM.out _).mono ?_); rintro r w2 ⟨rfl, hb2⟩; have hbx : Below w.heap.size w (w2.alloc (Obj.cells (ec X) 24)) := ((HBA.out.trans (hb2.mono HBA.out.size)).alloc (Nat.le_trans HBA.out.size hb2.size) _); have hw2 : (w2.alloc (Obj.cells (ec X) 24)).heap[w.heap.size + 1]? = some (.cells (nvc m true LA ln lc) 41 (0, 0)) := (Lib.alloc_old w2 _ _ (Nat.lt_of_lt_of_le (Array.getElem?_eq_some_iff.1 HA1.out).1 hb2.size)).trans ((hb2.block _ (Array.getElem?_eq_some_iff.1 HA1.out).1).trans HA1.out); have n0 : (w2.alloc (Obj.cells (ec X) 24)).cell? ⟨w.heap.size + 1, 0, none⟩ = some (.int .i64 m.kind) := cell_of_row _ _ 0 _ 41 (0, 0) hw2; have n1 : (w2.alloc (Obj.cells (ec X) 24)).cell? ⟨w.heap.size + 1, 1, none⟩ = some (.int .i64 m.frm) := cell_of_row _ _ 1 _ 41 (0, 0) hw2; have n2 : (w2.alloc (Obj.cells (ec X) 24)).cell? ⟨w.heap.size + 1, 2, none⟩ = some (.int .i64 m.to) := cell_of_row _ _ 2 _ 41 (0, 0) hw2; have n3 : (w2.alloc (Obj.cells (ec X) 24)).cell? ⟨w.heap.size + 1, 3, none⟩ = some (.int .u64 m.term) := cell_of_row _ _ 3 _ 41 (0, 0) hw2; have n4 : (w2.alloc (Obj.cells (ec X) 24)).cell? ⟨w.heap.size + 1, 4, none⟩ = some (.int .u64 m.index) := cell_of_row _ _ 4 _ 41 (0, 0) hw2; have n5 : (w2.alloc (Obj.cells (ec X) 24)).cell? ⟨w.heap.size + 1, 5, none⟩ = some (.int .u64 m.prev) := cell_of_row _ _ 5 _ 41 (0, 0) hw2; have n6 : (w2.alloc (Obj.cells (ec X) 24)).cell? ⟨w.heap.size + 1, 6, none⟩ = some (.int .u64 m.commit) := cell_of_row _ _ 6 _ 41 (0, 0) hw2; have n7 : (w2.alloc (Obj.cells (ec X) 24)).cell? ⟨w.heap.size + 1, 7, none⟩ = some (.int .u64 m.mark) := cell_of_row _ _ 7 _ 41 (0, 0) hw2; have n8 : (w2.alloc (Obj.cells (ec X) 24)).cell? ⟨w.heap.size + 1, 8, none⟩ = some (.bool m.ok) := cell_of_row _ _ 8 _ 41 (0, 0) hw2; have n9 : (w2.alloc (Obj.cells (ec X) 24)).cell? ⟨w.heap.size + 1, 9, none⟩ = some (.slice m.A m.n m.c) := cell_of_row _ _ 9 _ 41 (0, 0) hw2; have n10 : (w2.alloc (Obj.cells (ec X) 24)).cell? ⟨w.heap.size + 1, 10, none⟩ = some (.string m.snap) := cell_of_row _ _ 10 _ 41 (0, 0) hw2; have n11 : (w2.alloc (Obj.cells (ec X) 24)).cell? ⟨w.heap.size + 1, 11, none⟩ = some (.bool true) := cell_of_row _ _ 11 _ 41 (0, 0) hw2; have n12 : (w2.alloc (Obj.cells (ec X) 24)).cell? ⟨w.heap.size + 1, 12, none⟩ = some (.slice LA ln lc) := cell_of_row _ _ 12 _ 41 (0, 0) hw2; have HBX := Lib.hid hbx; clear hb2 hw2 hbx)
    | (go_at_call 21; (with_reducible refine (KN.out _ HBX.out).mono ?_); rintro r w3 ⟨M, rfl, HMo, hb3⟩))
  obtain ⟨W3, hW3⟩ : ∃ W3, W3 = w3.alloc (Obj.cells (mc M) 38) := ⟨_, rfl⟩
  rw [← hW3]
  have hS3 : LvS w w2.heap.size w3.heap.size X M W3 := by
    rw [hW3]
    exact ⟨(Lib.alloc_old w3 _ _ (Nat.lt_of_lt_of_le (by simp) hb3.size)).trans ((hb3.block _ (by simp)).trans (heap_alloc_new w2 _)), heap_alloc_new w3 _, (HMo.out.en.below ((Below.refl _ w3).alloc (Nat.le_refl _) _)).mr (by simp), (HBX.out.trans (hb3.mono HBX.out.size)).alloc (Nat.le_trans HBX.out.size hb3.size) _⟩
  have HS3 := Lib.hid hS3
  obtain ⟨gx, hgx⟩ : ∃ gx, gx = w2.heap.size := ⟨_, rfl⟩
  obtain ⟨gm, hgm⟩ : ∃ gm, gm = w3.heap.size := ⟨_, rfl⟩
  rw [← hgx, ← hgm] at HS3
  rw [← hgx, ← hgm]
  have k0 : W3.cell? ⟨gm, 0, none⟩ = some (.int .i64 M.kind) := HS3.out.mcell 0
  clear hS3 hW3 hgx hgm hb3 a0 a1 a2 a3 a4 a5 a6 a7 a8 a9 a10 a11 n0 n1 n2 n3 n4 n5 n6 n7 n8 n9 n10 n11 n12 HBX HBA HA1 KN KM KE HB0 HK0 HK1 HS0 HW0 hW0
  go_cut [8] from 19 to 26 (fun s wx => s = .bool (hv M 0) ∧ LvS w gx gm X M wx)
  case first =>
    by_cases h9 : M.kind = 9
    · have g9 : (M.kind == 9) = true := by simpa using h9
      have hT : Hid (hv M 0 = true) := by show _ = _; unfold hv; rw [g9]; rfl
      clear h9
      go_wp2_with fail
      go_meet
      exact ⟨congrArg Value.bool hT.out.symm, HS3.out⟩
    · have g9 : (M.kind == 9) = false := beqF h9
      by_cases h10 : M.kind = 10
      · have g10 : (M.kind == 10) = true := by simpa using h10
        have hT : Hid (hv M 0 = true) := by show _ = _; unfold hv; rw [g9, g10]; rfl
        clear h9 h10
        go_wp2_with fail
        go_meet
        exact ⟨congrArg Value.bool hT.out.symm, HS3.out⟩
      · have g10 : (M.kind == 10) = false := beqF h10
        have hT : Hid (hv M 0 = false) := by show _ = _; unfold hv; rw [g9, g10]; rfl
        clear h9 h10
        go_wp2_with fail
        go_meet
        exact ⟨congrArg Value.bool hT.out.symm, HS3.out⟩
  case rest =>
    obtain ⟨rfl, hS⟩ := hcut
    clear k0 HS3
    have hMn := HMo.out.n
    have HS0 := Lib.hid hS
    clear hS
    go_wp2_with fail
    go_loopw [9, 8] (fun i s wr => ∃ k : Nat, k ≤ M.n ∧ i = .int .i64 k ∧ s = .bool (hv M k) ∧ LvS w gx gm X M wr) (fun i _ _ => M.n - (intOf i).toNat)
    case atStart => exact ⟨0, Nat.zero_le _, rfl, rfl, HS0.out⟩
    case round =>
      obtain ⟨k, hk, rfl, rfl, hS⟩ := hrel
      clear HS0
      have m9 : wr.cell? ⟨gm, 9, none⟩ = some (.slice M.A M.n M.c) := hS.mcell 9
      by_cases hlt : k < M.n
      · obtain ⟨y, hy⟩ : ∃ y, M.es[k]? = some y := ⟨_, List.getElem?_eq_getElem (by rw [hS.en.len]; exact hlt)⟩
        obtain ⟨a, hA, hB, hc⟩ := hS.en.at_ k y hy
        have d2 : wr.cell? ⟨(a.add (k * 11)).block, (a.add (k * 11)).off + 2, none⟩ = some (.int .i64 y.kind) := hc 2 (by omega)
        have hst : Hid (hv M (k + 1) = (hv M k || y.kind == 11)) := hv_step M k y hy
        have HS := Lib.hid hS
        rw [hA] at m9
        clear hS hc hy hA hB
        cases hq : hv M k with
        | true =>
          have hT : Hid (hv M (k + 1) = true) := by show _ = _; rw [hst.out, hq]; rfl
          clear hq
          go_wp2
          go_roundw
          case rel => exact ⟨k + 1, by omega, by go_num, congrArg Value.bool hT.out.symm, HS.out⟩
          case measure => simp [intOf]; omega
        | false =>
          have hT : Hid (hv M (k + 1) = (y.kind == 11)) := by show _ = _; rw [hst.out, hq, Bool.false_or]
          clear hq
          obtain ⟨yb, hyb⟩ : ∃ yb, yb = (y.kind == 11) := ⟨_, rfl⟩
          rw [← hyb] at hT
          cases yb
          all_goals
            have hyb' := hyb.symm
            clear hyb
            go_wp2
            go_roundw
            case rel => exact ⟨k + 1, by omega, by go_num, congrArg Value.bool hT.out.symm, HS.out⟩
            case measure => simp [intOf]; omega
      · have hkn : k = M.n := by omega
        subst hkn
        obtain ⟨hb, hhb⟩ : ∃ hb, hb = hv M M.n := ⟨_, rfl⟩
        obtain ⟨xb, hxb⟩ : ∃ xb, xb = (X.kind == 11) := ⟨_, rfl⟩
        obtain ⟨p, hp⟩ : ∃ p, p = lvl X.kind := ⟨_, rfl⟩
        obtain ⟨q, hq⟩ : ∃ q, q = mlvl M := ⟨_, rfl⟩
        have K13 := Lib.hid (fun (W : World) (h : LvS w gx gm X M W) => (right_any X W HF.out.1).mono fun r w' ⟨h1, h2⟩ => And.intro (show r = Ending.returned (.bool true) by rw [h1, HF.out.2.1]) (h.on h2).all)
        have K24 := Lib.hid (fun (W : World) (h : LvS w gx gm X M W) => (mright_11 M W h.en (by omega) (fun e he => (HMo.out.es e he).1) HMo.out.f1 HMo.out.o1).mono fun r w' ⟨h1, h2⟩ => And.intro (show r = Ending.returned (.bool true) by rw [h1, HMo.out.rt]) (h.on h2).all)
        have K15 := Lib.hid (fun (W : World) (h : LvS w gx gm X M W) => (level_any X W).mono fun r w' ⟨h1, h2⟩ => And.intro (show r = Ending.returned (.int .i64 p) by rw [h1, hp]) (h.on h2).all)
        have K26 := Lib.hid (fun (W : World) (h : LvS w gx gm X M W) => (mlevel_any M W h.en (by omega)).mono fun r w' ⟨h1, h2⟩ => And.intro (show r = Ending.returned (.int .i64 q) by rw [h1, hq]) (h.on h2).all)
        have y1 : (X.kind == 11) = xb := hxb.symm
        have y2 : (p == 2) = xb := by rw [hp, lvl_two, hxb]
        have y3 : (q == 2) = hb := by rw [hq, hhb]; exact hv_all M M.n (Nat.le_of_eq hS.en.len)
        have y4 : decide (1 ≤ q) = true := by rw [hq]; exact decide_eq_true (mlvl_bounds M).1
        have y5 : decide (q ≤ 2) = true := by rw [hq]; exact decide_eq_true (mlvl_bounds M).2
        rw [← hhb]
        have hSd := hS.drew
        have r0 : wr.cell? ⟨gx, 0, none⟩ = some (.int .u64 X.term) := hS.ecell 0
        have r1 : wr.cell? ⟨gx, 1, none⟩ = some (.int .u64 X.index) := hS.ecell 1
        have r2 : wr.cell? ⟨gx, 2, none⟩ = some (.int .i64 X.kind) := hS.ecell 2
        have r3 : wr.cell? ⟨gx, 3, none⟩ = some (.int .u64 X.client) := hS.ecell 3
        have r4 : wr.cell? ⟨gx, 4, none⟩ = some (.int .u64 X.seq) := hS.ecell 4
        have r5 : wr.cell? ⟨gx, 5, none⟩ = some (.int .u64 X.block) := hS.ecell 5
        have r6 : wr.cell? ⟨gx, 6, none⟩ = some (.int .u64 X.many) := hS.ecell 6
        have r7 : wr.cell? ⟨gx, 7, none⟩ = some (.int .i64 X.node) := hS.ecell 7
        have r8 : wr.cell? ⟨gx, 8, none⟩ = some (.int .i64 X.level) := hS.ecell 8
        have r9 : wr.cell? ⟨gx, 9, none⟩ = some (.string X.data) := hS.ecell 9
        have r10 : wr.cell? ⟨gx, 10, none⟩ = some (.string X.old) := hS.ecell 10
        have t0 : wr.cell? ⟨gm, 0, none⟩ = some (.int .i64 M.kind) := hS.mcell 0
        have t1 : wr.cell? ⟨gm, 1, none⟩ = some (.int .i64 M.frm) := hS.mcell 1
        have t2 : wr.cell? ⟨gm, 2, none⟩ = some (.int .i64 M.to) := hS.mcell 2
        have t3 : wr.cell? ⟨gm, 3, none⟩ = some (.int .u64 M.term) := hS.mcell 3
        have t4 : wr.cell? ⟨gm, 4, none⟩ = some (.int .u64 M.index) := hS.mcell 4
        have t5 : wr.cell? ⟨gm, 5, none⟩ = some (.int .u64 M.prev) := hS.mcell 5
        have t6 : wr.cell? ⟨gm, 6, none⟩ = some (.int .u64 M.commit) := hS.mcell 6
        have t7 : wr.cell? ⟨gm, 7, none⟩ = some (.int .u64 M.mark) := hS.mcell 7
        have t8 : wr.cell? ⟨gm, 8, none⟩ = some (.bool M.ok) := hS.mcell 8
        have t9 : wr.cell? ⟨gm, 9, none⟩ = some (.slice M.A M.n M.c) := hS.mcell 9
        have t10 : wr.cell? ⟨gm, 10, none⟩ = some (.string M.snap) := hS.mcell 10
        clear hhb hxb hp hq hS m9 hk hlt HX hMn HMo HF
        go_wp2_with fail
        go_region_held3 (fun w' => LvS w gx gm X M w' ∧ w'.cell? ⟨gx, 0, none⟩ = some (.int .u64 X.term) ∧ w'.cell? ⟨gx, 1, none⟩ = some (.int .u64 X.index) ∧ w'.cell? ⟨gx, 2, none⟩ = some (.int .i64 X.kind) ∧ w'.cell? ⟨gx, 3, none⟩ = some (.int .u64 X.client) ∧ w'.cell? ⟨gx, 4, none⟩ = some (.int .u64 X.seq) ∧ w'.cell? ⟨gx, 5, none⟩ = some (.int .u64 X.block) ∧ w'.cell? ⟨gx, 6, none⟩ = some (.int .u64 X.many) ∧ w'.cell? ⟨gx, 7, none⟩ = some (.int .i64 X.node) ∧ w'.cell? ⟨gx, 8, none⟩ = some (.int .i64 X.level) ∧ w'.cell? ⟨gx, 9, none⟩ = some (.string X.data) ∧ w'.cell? ⟨gx, 10, none⟩ = some (.string X.old) ∧ w'.cell? ⟨gm, 0, none⟩ = some (.int .i64 M.kind) ∧ w'.cell? ⟨gm, 1, none⟩ = some (.int .i64 M.frm) ∧ w'.cell? ⟨gm, 2, none⟩ = some (.int .i64 M.to) ∧ w'.cell? ⟨gm, 3, none⟩ = some (.int .u64 M.term) ∧ w'.cell? ⟨gm, 4, none⟩ = some (.int .u64 M.index) ∧ w'.cell? ⟨gm, 5, none⟩ = some (.int .u64 M.prev) ∧ w'.cell? ⟨gm, 6, none⟩ = some (.int .u64 M.commit) ∧ w'.cell? ⟨gm, 7, none⟩ = some (.int .u64 M.mark) ∧ w'.cell? ⟨gm, 8, none⟩ = some (.bool M.ok) ∧ w'.cell? ⟨gm, 9, none⟩ = some (.slice M.A M.n M.c) ∧ w'.cell? ⟨gm, 10, none⟩ = some (.string M.snap))
          (first | exact ⟨hSd, r0, r1, r2, r3, r4, r5, r6, r7, r8, r9, r10, t0, t1, t2, t3, t4, t5, t6, t7, t8, t9, t10⟩ | (refine ⟨?_, ?_, ?_, ?_, ?_, ?_, ?_, ?_, ?_, ?_, ?_, ?_, ?_, ?_, ?_, ?_, ?_, ?_, ?_, ?_, ?_, ?_, ?_⟩ <;> assumption))
          (first
            | (go_at_call 13; (with_reducible refine (K13.out _ (by assumption)).mono ?_); rintro r w5 ⟨rfl, s5, e0, e1, e2, e3, e4, e5, e6, e7, e8, e9, e10, f0, f1, f2, f3, f4, f5, f6, f7, f8, f9, f10⟩)
            | (go_at_call 24; (with_reducible refine (K24.out _ (by assumption)).mono ?_); rintro r w5 ⟨rfl, s5, e0, e1, e2, e3, e4, e5, e6, e7, e8, e9, e10, f0, f1, f2, f3, f4, f5, f6, f7, f8, f9, f10⟩)
            | (go_at_call 15; (with_reducible refine (K15.out _ (by assumption)).mono ?_); rintro r w5 ⟨rfl, s5, e0, e1, e2, e3, e4, e5, e6, e7, e8, e9, e10, f0, f1, f2, f3, f4, f5, f6, f7, f8, f9, f10⟩)
            | (go_at_call 26; (with_reducible refine (K26.out _ (by assumption)).mono ?_); rintro r w5 ⟨rfl, s5, e0, e1, e2, e3, e4, e5, e6, e7, e8, e9, e10, f0, f1, f2, f3, f4, f5, f6, f7, f8, f9, f10⟩))
        all_goals
          rename_i hk
          have hbe := hk.1.be
          clear hk
          go_wp2
          go_ret
          exact ⟨rfl, hbe⟩
end Go.Proofs.YtclohjcenkpgoaaDoor
