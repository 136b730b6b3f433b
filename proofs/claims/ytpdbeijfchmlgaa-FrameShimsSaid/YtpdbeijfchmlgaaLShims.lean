/-
  FrameShims, walked: true for every input.
  Conditions: what came in is as its types say.
-/
import Derived.Test.YtpdbeijfchmlgaaFX
import Derived.Test.YtpdbeijfchmlgaaFS2
import Derived.Test.YtpdbeijfchmlgaaNote
import Derived.Test.YtpdbeijfchmlgaaRMSame
import Derived.Test.YtpdbeijfchmlgaaMkFacts
namespace Go.Proofs.Ytpdbeijfchmlgaa
open Go.RowKit
set_option linter.unusedVariables false
set_option linter.unusedSimpArgs false
theorem sameB_refl (e : En) : sameB e e = true := by unfold sameB; simp
theorem preB_refl (es : List En) (n : Nat) : preB es es n = true := by
  have key : ∀ l : List En, (List.zipWith sameB l l).all id = true := by
    intro l
    induction l with
    | nil => rfl
    | cons a l ih =>
      rw [List.zipWith_cons_cons, List.all_cons, ih, sameB_refl]
      rfl
  exact key _
theorem msame_at (M : Ms) (A A' : Option Addr) (c c' : Nat) : msameB { M with A := A, c := c } { M with A := A', c := c' } = true := by
  refine (msame_eq (a := { M with A := A, c := c }) (b := { M with A := A', c := c' }) rfl (preB_refl M.es M.n)).trans ?_
  unfold scalB
  simp
theorem Mades.mr {B B' : Nat} {A : Option Addr} {n : Nat} {L : List (En × Bool)} {w : World} (h : Mades B A n L w) (hB : B ≤ B') : Mades B' A n L w :=
  ⟨h.len, fun i e he => by
    obtain ⟨a, hA, h1, hc⟩ := h.at_ i e he
    exact ⟨a, hA, Nat.lt_of_lt_of_le h1 hB, hc⟩⟩
theorem NoteIn.on {w w1 : World} {m : Ms} {LA : Option Addr} {ln : Nat} {L : List (En × Bool)} (h : NoteIn w m LA ln L) (hb : Below w.heap.size w w1) : NoteIn w1 m LA ln L :=
  ⟨h.wd, (h.en.below hb).mr hb.size, (h.md.below hb).mr hb.size, h.ok, h.ll⟩
/-- What the law's note hands back. -/
structure NoteOut (m : Ms) (L : List (En × Bool)) (M : Ms) (w : World) : Prop where
  rt : mrightB M = true
  en : Ents w.heap.size M.A M.n M.es w
  f1 : 1 ≤ M.frm
  f7 : M.frm ≤ 7
  o1 : 1 ≤ M.dst
  o7 : M.dst ≤ 7
  k1 : 1 ≤ M.kind
  k9 : M.kind ≤ 10
  n : (M.n : Int) ≤ 10
  es : ∀ e ∈ M.es, e.Ok ∧ rightB e = true ∧ e.data.size ≤ 64 ∧ e.old.size ≤ 64
  t : M.term = m.term
  i0 : 0 ≤ M.index
  i1 : M.index ≤ 18446744073709551615
  p0 : 0 ≤ M.prev
  p1 : M.prev ≤ 18446744073709551615
  c0 : 0 ≤ M.commit
  c1 : M.commit ≤ 18446744073709551615
  m0 : 0 ≤ M.mark
  m1 : M.mark ≤ 18446744073709551615
  sn : M.snap.size ≤ 200
theorem ite0 {p : Prop} [Decidable p] {x hi : Int} (h0 : 0 ≤ x) (h1 : x ≤ hi) (h2 : 0 ≤ hi) : 0 ≤ (if p then x else 0) ∧ (if p then x else 0) ≤ hi := by
  split <;> omega
theorem NoteOut.wide {m : Ms} {L : List (En × Bool)} {M : Ms} {w : World} (wd : m.Wide) (h : NoteOut m L M w) : M.Wide := by
  have k1 := h.k1
  have k9 := h.k9
  have f1 := h.f1
  have f7 := h.f7
  have o1 := h.o1
  have o7 := h.o7
  have sn := h.sn
  have hn := h.n
  exact ⟨by omega, by omega, by omega, by omega, by omega, by omega, h.t ▸ wd.t0, h.t ▸ wd.t1, h.i0, h.i1, h.p0, h.p1, h.c0, h.c1, h.m0, h.m1, by omega, by omega, fun e he => (h.es e he).1⟩
/-- What the law's note gives, wherever its entries lie. -/
def ML (m : Ms) (own : Bool) (L : List (En × Bool)) (A : Option Addr) (c : Nat) : Ms := if own then nm m L A (nm m L none 0 0).es.length c else m
theorem nm_at (m : Ms) (L : List (En × Bool)) (A : Option Addr) (n c : Nat) : nm m L A n c = { nm m L none n 0 with A := A, c := c } := by
  simp only [nm, npart]
theorem nm_es (m : Ms) (L : List (En × Bool)) (A : Option Addr) (n c : Nat) : (nm m L A n c).es = (nm m L none 0 0).es := by
  simp only [nm, npart]
theorem note3 (m : Ms) (own : Bool) (LA : Option Addr) (ln lc : Nat) (L : List (En × Bool)) (w : World) (h : NoteIn w m LA ln L) :
    Calls Try.prog 17 #[nvv m own LA ln lc] w fun r w' => ∃ A c, r = .returned (mv (ML m own L A c)) ∧ Ents w'.heap.size (ML m own L A c).A (ML m own L A c).n (ML m own L A c).es w' ∧ (ML m own L A c).Wide ∧ Below w.heap.size w w' := by
  cases own with
  | false => exact (note_no m LA ln lc w).mono fun r w' ⟨h1, h2⟩ => ⟨none, 0, h1, (h.en.below h2).mr h2.size, h.wd, h2⟩
  | true =>
    refine (note_yes m LA ln lc L w h.md h.ok h.ll).mono ?_
    rintro r w' ⟨A, c, n, hr, hl, hE, hb⟩
    have hN : NoteOut m L (nm m L A n c) w' := by
      refine ⟨nm_right m L A n c h.ok hl h.wd.i0 h.wd.i1 h.wd.p0 h.wd.p1 h.wd.c0 h.wd.c1 h.wd.m0 h.wd.m1 h.wd.s1, hE, (nfrom _).1, (nfrom _).2, (nfrom _).1, (nfrom _).2, (nkind _).1, (nkind _).2, ?_, fun e he => nes_mem h.ok he, rfl, (ite0 h.wd.i0 h.wd.i1 (by omega)).1, (ite0 h.wd.i0 h.wd.i1 (by omega)).2, (ite0 h.wd.p0 h.wd.p1 (by omega)).1, (ite0 h.wd.p0 h.wd.p1 (by omega)).2, (ite0 h.wd.c0 h.wd.c1 (by omega)).1, (ite0 h.wd.c0 h.wd.c1 (by omega)).2, (ite0 h.wd.m0 h.wd.m1 (by omega)).1, (ite0 h.wd.m0 h.wd.m1 (by omega)).2, ?_⟩
      · have := nes_length m L A n c
        rw [hl] at this
        show (n : Int) ≤ 10
        omega
      · show (if hasT (mfl (m.kind % 10 + 1)).data.toList 115 then cut200 m.snap else ⟨#[]⟩ : ByteArray).size ≤ 200
        split
        · exact cut200_size _ h.wd.s1
        · exact Nat.zero_le _
    have hw := hN.wide h.wd
    have hn : n = (nm m L none 0 0).es.length := by rw [← nm_es m L A n c]; exact hl.symm
    have hML : ML m true L A c = nm m L A n c := by unfold ML; rw [if_pos rfl, ← hn]
    refine ⟨A, c, by rw [hML]; exact hr, ?_, by rw [hML]; exact hw, hb⟩
    rw [hML]
    have hes : (nm m L A n c).A = A ∧ (nm m L A n c).n = n := by simp only [nm, npart, and_self]
    rw [hes.1, hes.2]
    exact hE

theorem Like.tr {M m k : Ms} (h : Like M m) (h2 : Like m k) : Like M k := by
  obtain ⟨A, c, rfl⟩ := h
  obtain ⟨A', c', rfl⟩ := h2
  exact ⟨A, c, rfl⟩
theorem like_same {X Y m : Ms} (h : Like X m) (h2 : Like Y m) : msameB X Y = true := by
  obtain ⟨A, c, rfl⟩ := h
  obtain ⟨A', c', rfl⟩ := h2
  exact msame_at m A A' c c'
theorem shim_at (m : Ms) (A : Option Addr) (c : Nat) : shimO { m with A := A, c := c } = shimO m ∧ Like (shimM { m with A := A, c := c }) (shimM m) := by
  have h1 : shimO { m with A := A, c := c } = shimO m := rfl
  refine ⟨h1, ?_⟩
  unfold shimM
  rw [h1]
  split
  · exact like_refl _
  · split
    · exact like_refl _
    · split
      · exact like_refl _
      · exact ⟨A, c, rfl⟩
theorem ML_shim (m : Ms) (own : Bool) (L : List (En × Bool)) (A : Option Addr) (c : Nat) : shimO (ML m own L A c) = shimO (ML m own L none 0) ∧ Like (shimM (ML m own L A c)) (shimM (ML m own L none 0)) := by
  unfold ML
  cases own with
  | false => exact ⟨rfl, like_refl _⟩
  | true =>
    rw [if_pos rfl, if_pos rfl, nm_at m L A]
    exact shim_at _ _ _
theorem shimM_n (m : Ms) : (shimM m).n = 0 ∨ (shimM m).n = m.n := by
  unfold shimM
  split
  · exact .inl rfl
  · split
    · exact .inl rfl
    · split
      · exact .inl rfl
      · exact .inr rfl
theorem like_n {X m : Ms} (wd : m.Wide) (h : Like X (shimM m)) : (X.n : Int) ≤ 9223372036854775807 := by
  obtain ⟨A, c, rfl⟩ := h
  have h1 := wide_n wd
  have h2 := shimM_n m
  show ((shimM m).n : Int) ≤ _
  omega
set_option maxHeartbeats 2000000 in
set_option maxRecDepth 100000 in
theorem lshims_any (m : Ms) (own : Bool) (LA : Option Addr) (ln lc : Nat) (L : List (En × Bool)) (w : World) (hN : NoteIn w m LA ln L) :
    Calls Try.prog 4 #[nvv m own LA ln lc] w fun r w' => r = .returned (.bool true) ∧ Below w.heap.size w w' := by
  obtain ⟨W0, hW0⟩ : ∃ W0, W0 = w.alloc (Obj.cells (nvc m own LA ln lc) 38) := ⟨_, rfl⟩
  have b0 : Below w.heap.size w W0 := by rw [hW0]; exact (Below.refl _ _).alloc (Nat.le_refl _) _
  have k0 : W0.heap[w.heap.size]? = some (.cells (nvc m own LA ln lc) 38 (0, 0)) := by rw [hW0]; exact heap_alloc_new w _
  have KE := Lib.hid (examples_any W0)
  have KN := Lib.hid (fun (W : World) (hb : Below w.heap.size w W) => note3 m own LA ln lc L W (hN.on hb))
  obtain ⟨M0, hM0⟩ : ∃ M0, M0 = ML m own L none 0 := ⟨_, rfl⟩
  obtain ⟨so, hso⟩ : ∃ so, so = shimO M0 := ⟨_, rfl⟩
  have KS : Hid (∀ (A : Option Addr) (c : Nat) (W : World), Ents W.heap.size (ML m own L A c).A (ML m own L A c).n (ML m own L A c).es W → (ML m own L A c).Wide → Calls Try.prog 16 #[mv (ML m own L A c)] W fun q w' => ∃ M, q = .returned (.tuple #[mv M, .bool so]) ∧ Ents w'.heap.size M.A M.n M.es w' ∧ Like M (shimM M0) ∧ Below W.heap.size W w' ∧ (M.n : Int) ≤ 9223372036854775807) := by
    intro A c W hE hw
    refine (shim_any _ W hE hw).mono ?_
    rintro q w' ⟨M, h1, h2, h3, h4⟩
    exact ⟨M, by rw [h1, (ML_shim m own L A c).1, hso, hM0], h2, by rw [hM0]; exact h3.tr (ML_shim m own L A c).2, h4, like_n hw h3⟩
  have KR : Hid (∀ (A : Option Addr) (c : Nat) (W : World), Ents W.heap.size (ML m own L A c).A (ML m own L A c).n (ML m own L A c).es W → (ML m own L A c).Wide → Calls Try.prog 18 #[mv (ML m own L A c)] W fun q w' => ∃ M, q = .returned (.tuple #[mv M, .bool so]) ∧ Ents w'.heap.size M.A M.n M.es w' ∧ Like M (shimM M0) ∧ Below W.heap.size W w' ∧ (M.n : Int) ≤ 9223372036854775807) := by
    intro A c W hE hw
    refine (rshim_any _ W hE hw).mono ?_
    rintro q w' ⟨M, h1, h2, h3, h4⟩
    exact ⟨M, by rw [h1, (ML_shim m own L A c).1, hso, hM0], h2, by rw [hM0]; exact h3.tr (ML_shim m own L A c).2, h4, like_n hw h3⟩
  have HW0 := Lib.hid hW0
  have HB0 := Lib.hid b0
  have HK0 := Lib.hid k0
  clear hW0 b0 k0 hM0 hso hN
  go_enter Try.func4, Try.ntmps4
  go_wp2_with fail
  rw [← HW0.out]
  refine KE.out.mono ?_
  rintro r w1 ⟨rfl, b1⟩
  have HB1 : Hid (Below w.heap.size w w1) := HB0.out.trans (b1.mono HB0.out.size)
  have HK1 : Hid (w1.heap[w.heap.size]? = some (.cells (nvc m own LA ln lc) 38 (0, 0))) := (b1.block _ (Array.getElem?_eq_some_iff.1 HK0.out).1).trans HK0.out
  clear b1 KE HB0 HK0
  have n0 : w1.cell? ⟨w.heap.size, 0, none⟩ = some (.int .i64 m.kind) := cell_of_row w1 _ 0 _ 38 (0, 0) HK1.out
  have n1 : w1.cell? ⟨w.heap.size, 1, none⟩ = some (.int .i64 m.frm) := cell_of_row w1 _ 1 _ 38 (0, 0) HK1.out
  have n2 : w1.cell? ⟨w.heap.size, 2, none⟩ = some (.int .i64 m.dst) := cell_of_row w1 _ 2 _ 38 (0, 0) HK1.out
  have n3 : w1.cell? ⟨w.heap.size, 3, none⟩ = some (.int .u64 m.term) := cell_of_row w1 _ 3 _ 38 (0, 0) HK1.out
  have n4 : w1.cell? ⟨w.heap.size, 4, none⟩ = some (.int .u64 m.index) := cell_of_row w1 _ 4 _ 38 (0, 0) HK1.out
  have n5 : w1.cell? ⟨w.heap.size, 5, none⟩ = some (.int .u64 m.prev) := cell_of_row w1 _ 5 _ 38 (0, 0) HK1.out
  have n6 : w1.cell? ⟨w.heap.size, 6, none⟩ = some (.int .u64 m.commit) := cell_of_row w1 _ 6 _ 38 (0, 0) HK1.out
  have n7 : w1.cell? ⟨w.heap.size, 7, none⟩ = some (.int .u64 m.mark) := cell_of_row w1 _ 7 _ 38 (0, 0) HK1.out
  have n8 : w1.cell? ⟨w.heap.size, 8, none⟩ = some (.bool m.ok) := cell_of_row w1 _ 8 _ 38 (0, 0) HK1.out
  have n9 : w1.cell? ⟨w.heap.size, 9, none⟩ = some (.slice m.A m.n m.c) := cell_of_row w1 _ 9 _ 38 (0, 0) HK1.out
  have n10 : w1.cell? ⟨w.heap.size, 10, none⟩ = some (.string m.snap) := cell_of_row w1 _ 10 _ 38 (0, 0) HK1.out
  have n11 : w1.cell? ⟨w.heap.size, 11, none⟩ = some (.bool own) := cell_of_row w1 _ 11 _ 38 (0, 0) HK1.out
  have n12 : w1.cell? ⟨w.heap.size, 12, none⟩ = some (.slice LA ln lc) := cell_of_row w1 _ 12 _ 38 (0, 0) HK1.out
  go_wp2_with fail
  refine (KN.out _ HB1.out).mono ?_
  rintro r w2 ⟨A1, c1, rfl, e1, wd1, b2⟩
  have HB2 : Hid (Below w.heap.size w w2) := HB1.out.trans (b2.mono HB1.out.size)
  have HK2 : Hid (w2.heap[w.heap.size]? = some (.cells (nvc m own LA ln lc) 38 (0, 0))) := (b2.block _ (Array.getElem?_eq_some_iff.1 HK1.out).1).trans HK1.out
  clear b2 HB1 HK1 n0 n1 n2 n3 n4 n5 n6 n7 n8 n9 n10 n11 n12
  go_wp2_with fail
  refine (KS.out _ _ _ e1 wd1).mono ?_
  rintro r w3 ⟨X, rfl, ex, lx, b3, nx⟩
  obtain ⟨W3, hW3⟩ : ∃ W3, W3 = w3.alloc (Obj.cells (mc X) 35) := ⟨_, rfl⟩
  have bb : Below w3.heap.size w3 W3 := by rw [hW3]; exact (Below.refl _ _).alloc (Nat.le_refl _) _
  have HX3 : Hid (W3.heap[w3.heap.size]? = some (.cells (mc X) 35 (0, 0))) := by show _ = _; rw [hW3]; exact heap_alloc_new w3 _
  have HEX3 : Hid (Ents W3.heap.size X.A X.n X.es W3) := (ex.below bb).mr bb.size
  have HB3 : Hid (Below w.heap.size w W3) := (HB2.out.trans (b3.mono HB2.out.size)).trans (bb.mono (Nat.le_trans HB2.out.size b3.size))
  have HK3 : Hid (W3.heap[w.heap.size]? = some (.cells (nvc m own LA ln lc) 38 (0, 0))) := (bb.block _ (Nat.lt_of_lt_of_le (Array.getElem?_eq_some_iff.1 HK2.out).1 b3.size)).trans ((b3.block _ (Array.getElem?_eq_some_iff.1 HK2.out).1).trans HK2.out)
  have HLX := Lib.hid lx
  have HNX := Lib.hid nx
  have HW3 := Lib.hid hW3
  clear b3 bb ex lx nx e1 wd1 HB2 HK2 hW3
  go_upto_region 5 with fail
  rw [← HW3.out]
  have n0 : W3.cell? ⟨w.heap.size, 0, none⟩ = some (.int .i64 m.kind) := cell_of_row W3 _ 0 _ 38 (0, 0) HK3.out
  have n1 : W3.cell? ⟨w.heap.size, 1, none⟩ = some (.int .i64 m.frm) := cell_of_row W3 _ 1 _ 38 (0, 0) HK3.out
  have n2 : W3.cell? ⟨w.heap.size, 2, none⟩ = some (.int .i64 m.dst) := cell_of_row W3 _ 2 _ 38 (0, 0) HK3.out
  have n3 : W3.cell? ⟨w.heap.size, 3, none⟩ = some (.int .u64 m.term) := cell_of_row W3 _ 3 _ 38 (0, 0) HK3.out
  have n4 : W3.cell? ⟨w.heap.size, 4, none⟩ = some (.int .u64 m.index) := cell_of_row W3 _ 4 _ 38 (0, 0) HK3.out
  have n5 : W3.cell? ⟨w.heap.size, 5, none⟩ = some (.int .u64 m.prev) := cell_of_row W3 _ 5 _ 38 (0, 0) HK3.out
  have n6 : W3.cell? ⟨w.heap.size, 6, none⟩ = some (.int .u64 m.commit) := cell_of_row W3 _ 6 _ 38 (0, 0) HK3.out
  have n7 : W3.cell? ⟨w.heap.size, 7, none⟩ = some (.int .u64 m.mark) := cell_of_row W3 _ 7 _ 38 (0, 0) HK3.out
  have n8 : W3.cell? ⟨w.heap.size, 8, none⟩ = some (.bool m.ok) := cell_of_row W3 _ 8 _ 38 (0, 0) HK3.out
  have n9 : W3.cell? ⟨w.heap.size, 9, none⟩ = some (.slice m.A m.n m.c) := cell_of_row W3 _ 9 _ 38 (0, 0) HK3.out
  have n10 : W3.cell? ⟨w.heap.size, 10, none⟩ = some (.string m.snap) := cell_of_row W3 _ 10 _ 38 (0, 0) HK3.out
  have n11 : W3.cell? ⟨w.heap.size, 11, none⟩ = some (.bool own) := cell_of_row W3 _ 11 _ 38 (0, 0) HK3.out
  have n12 : W3.cell? ⟨w.heap.size, 12, none⟩ = some (.slice LA ln lc) := cell_of_row W3 _ 12 _ 38 (0, 0) HK3.out
  go_wp2_with fail
  refine (KN.out _ HB3.out).mono ?_
  rintro r w4 ⟨A2, c2, rfl, e2, wd2, b4⟩
  have HB4 : Hid (Below w.heap.size w w4) := HB3.out.trans (b4.mono HB3.out.size)
  have HX4 : Hid (w4.heap[w3.heap.size]? = some (.cells (mc X) 35 (0, 0))) := (b4.block _ (Array.getElem?_eq_some_iff.1 HX3.out).1).trans HX3.out
  have HEX4 : Hid (Ents w4.heap.size X.A X.n X.es w4) := (HEX3.out.below b4).mr b4.size
  clear b4 HB3 HK3 HX3 HEX3 n0 n1 n2 n3 n4 n5 n6 n7 n8 n9 n10 n11 n12
  go_wp2_with fail
  refine (KR.out _ _ _ e2 wd2).mono ?_
  rintro r w5 ⟨Y, rfl, ey, ly, b5, ny⟩
  obtain ⟨W5, hW5⟩ : ∃ W5, W5 = w5.alloc (Obj.cells (mc Y) 35) := ⟨_, rfl⟩
  have bb : Below w5.heap.size w5 W5 := by rw [hW5]; exact (Below.refl _ _).alloc (Nat.le_refl _) _
  have b6 : Below w4.heap.size w4 W5 := b5.trans (bb.mono b5.size)
  have HY5 : Hid (W5.heap[w5.heap.size]? = some (.cells (mc Y) 35 (0, 0))) := by show _ = _; rw [hW5]; exact heap_alloc_new w5 _
  have HEY5 : Hid (Ents W5.heap.size Y.A Y.n Y.es W5) := (ey.below bb).mr bb.size
  have HX5 : Hid (W5.heap[w3.heap.size]? = some (.cells (mc X) 35 (0, 0))) := (b6.block _ (Array.getElem?_eq_some_iff.1 HX4.out).1).trans HX4.out
  have HEX5 : Hid (Ents W5.heap.size X.A X.n X.es W5) := (HEX4.out.below b6).mr b6.size
  have HB5 : Hid (Below w.heap.size w W5) := HB4.out.trans (b6.mono HB4.out.size)
  have KM : Hid (Calls Try.prog 19 #[mv X, mv Y] W5 fun r w' => r = .returned (.bool true) ∧ Below W5.heap.size W5 w') := by
    refine (rmsame_any X Y W5 HEX5.out HEY5.out HNX.out ny).mono fun r w' ⟨h1, h2⟩ => ⟨?_, h2⟩
    rw [h1, like_same HLX.out ly]
  have HW5 := Lib.hid hW5
  clear b5 b6 bb ey ly ny e2 wd2 HB4 HX4 HEX4 hW5
  go_upto_region 6 with fail
  rw [← HW5.out]
  have x0 : W5.cell? ⟨w3.heap.size, 0, none⟩ = some (.int .i64 X.kind) := cell_of_row W5 _ 0 _ 35 (0, 0) HX5.out
  have x1 : W5.cell? ⟨w3.heap.size, 1, none⟩ = some (.int .i64 X.frm) := cell_of_row W5 _ 1 _ 35 (0, 0) HX5.out
  have x2 : W5.cell? ⟨w3.heap.size, 2, none⟩ = some (.int .i64 X.dst) := cell_of_row W5 _ 2 _ 35 (0, 0) HX5.out
  have x3 : W5.cell? ⟨w3.heap.size, 3, none⟩ = some (.int .u64 X.term) := cell_of_row W5 _ 3 _ 35 (0, 0) HX5.out
  have x4 : W5.cell? ⟨w3.heap.size, 4, none⟩ = some (.int .u64 X.index) := cell_of_row W5 _ 4 _ 35 (0, 0) HX5.out
  have x5 : W5.cell? ⟨w3.heap.size, 5, none⟩ = some (.int .u64 X.prev) := cell_of_row W5 _ 5 _ 35 (0, 0) HX5.out
  have x6 : W5.cell? ⟨w3.heap.size, 6, none⟩ = some (.int .u64 X.commit) := cell_of_row W5 _ 6 _ 35 (0, 0) HX5.out
  have x7 : W5.cell? ⟨w3.heap.size, 7, none⟩ = some (.int .u64 X.mark) := cell_of_row W5 _ 7 _ 35 (0, 0) HX5.out
  have x8 : W5.cell? ⟨w3.heap.size, 8, none⟩ = some (.bool X.ok) := cell_of_row W5 _ 8 _ 35 (0, 0) HX5.out
  have x9 : W5.cell? ⟨w3.heap.size, 9, none⟩ = some (.slice X.A X.n X.c) := cell_of_row W5 _ 9 _ 35 (0, 0) HX5.out
  have x10 : W5.cell? ⟨w3.heap.size, 10, none⟩ = some (.string X.snap) := cell_of_row W5 _ 10 _ 35 (0, 0) HX5.out
  have y0 : W5.cell? ⟨w5.heap.size, 0, none⟩ = some (.int .i64 Y.kind) := cell_of_row W5 _ 0 _ 35 (0, 0) HY5.out
  have y1 : W5.cell? ⟨w5.heap.size, 1, none⟩ = some (.int .i64 Y.frm) := cell_of_row W5 _ 1 _ 35 (0, 0) HY5.out
  have y2 : W5.cell? ⟨w5.heap.size, 2, none⟩ = some (.int .i64 Y.dst) := cell_of_row W5 _ 2 _ 35 (0, 0) HY5.out
  have y3 : W5.cell? ⟨w5.heap.size, 3, none⟩ = some (.int .u64 Y.term) := cell_of_row W5 _ 3 _ 35 (0, 0) HY5.out
  have y4 : W5.cell? ⟨w5.heap.size, 4, none⟩ = some (.int .u64 Y.index) := cell_of_row W5 _ 4 _ 35 (0, 0) HY5.out
  have y5 : W5.cell? ⟨w5.heap.size, 5, none⟩ = some (.int .u64 Y.prev) := cell_of_row W5 _ 5 _ 35 (0, 0) HY5.out
  have y6 : W5.cell? ⟨w5.heap.size, 6, none⟩ = some (.int .u64 Y.commit) := cell_of_row W5 _ 6 _ 35 (0, 0) HY5.out
  have y7 : W5.cell? ⟨w5.heap.size, 7, none⟩ = some (.int .u64 Y.mark) := cell_of_row W5 _ 7 _ 35 (0, 0) HY5.out
  have y8 : W5.cell? ⟨w5.heap.size, 8, none⟩ = some (.bool Y.ok) := cell_of_row W5 _ 8 _ 35 (0, 0) HY5.out
  have y9 : W5.cell? ⟨w5.heap.size, 9, none⟩ = some (.slice Y.A Y.n Y.c) := cell_of_row W5 _ 9 _ 35 (0, 0) HY5.out
  have y10 : W5.cell? ⟨w5.heap.size, 10, none⟩ = some (.string Y.snap) := cell_of_row W5 _ 10 _ 35 (0, 0) HY5.out
  cases so
  all_goals
    go_wp2_with fail
    refine KM.out.mono ?_
    rintro r w6 ⟨rfl, b6⟩
    go_wp2
    go_ret
    exact ⟨rfl, HB5.out.trans (b6.mono HB5.out.size)⟩
end Go.Proofs.Ytpdbeijfchmlgaa
