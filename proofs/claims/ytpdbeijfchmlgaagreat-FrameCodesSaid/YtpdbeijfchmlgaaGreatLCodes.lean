/-
  FrameCodes, walked: true for every input.
  Conditions: what came in is as its types say.
-/
import Derived.Test.YtpdbeijfchmlgaaGreatG45
import Derived.Test.YtpdbeijfchmlgaaGreatG46
import Derived.Test.YtpdbeijfchmlgaaGreatG47
import Derived.Test.YtpdbeijfchmlgaaGreatG21
import Derived.Test.YtpdbeijfchmlgaaGreatG03
import Derived.Deep.RegionHeld3
namespace Go.Proofs.YtpdbeijfchmlgaaGreat.D
open Go.RowKit
open Vi
set_option linter.unusedVariables false
set_option linter.unusedSimpArgs false
theorem preB_refl (es : List En) (n : Nat) : preB es es n = true := by
  have key : ∀ l : List En, (List.zipWith sameB l l).all id = true := by
    intro l
    induction l with
    | nil => rfl
    | cons a l ih =>
      rw [List.zipWith_cons_cons, List.all_cons, ih]
      unfold sameB
      simp
  exact key _
theorem _root_.Go.Proofs.YtpdbeijfchmlgaaGreat.Mades.mr {B B' : Nat} {A : Option Addr} {n : Nat} {L : List (En × Bool)} {w : World} (h : Mades B A n L w) (hB : B ≤ B') : Mades B' A n L w :=
  ⟨h.len, fun i e he => by
    obtain ⟨a, hA, h1, hc⟩ := h.at_ i e he
    exact ⟨a, hA, Nat.lt_of_lt_of_le h1 hB, hc⟩⟩
theorem nm_wide {m : Ms} {L : List (En × Bool)} {A : Option Addr} {n c : Nat} (wd : m.Wide) (hok : ∀ p ∈ L, p.1.Ok) (hl : (nm m L A n c).es.length = n) : (nm m L A n c).Wide := by
  have hn := nes_length m L A n c
  rw [hl] at hn
  have k := nkind m.kind
  have f1 := nfrom m.frm
  have f2 := nfrom m.dst
  have hs : (nm m L A n c).snap.size ≤ 200 := by
    show (if hasT (mfl (m.kind % 10 + 1)).data.toList 115 then cut200 m.snap else ⟨#[]⟩ : ByteArray).size ≤ 200
    split
    · exact cut200_size _ wd.s1
    · exact Nat.zero_le _
  have ite0 : ∀ {p : Prop} [Decidable p] {x hi : Int}, 0 ≤ x → x ≤ hi → 0 ≤ hi → 0 ≤ (if p then x else 0) ∧ (if p then x else 0) ≤ hi := by
    intro p _ x hi h0 h1 h2
    split <;> omega
  have i := ite0 (p := hasT (mfl (m.kind % 10 + 1)).data.toList 105 = true) wd.i0 wd.i1 (by omega)
  exact ⟨by have := k.1; show _ ≤ m.kind % 10 + 1; omega, by have := k.2; show m.kind % 10 + 1 ≤ _; omega, Int.le_trans (by omega) f1.1, Int.le_trans f1.2 (by omega), Int.le_trans (by omega) f2.1, Int.le_trans f2.2 (by omega), wd.t0, wd.t1,
    (ite0 wd.i0 wd.i1 (by omega)).1, (ite0 wd.i0 wd.i1 (by omega)).2, (ite0 wd.p0 wd.p1 (by omega)).1, (ite0 wd.p0 wd.p1 (by omega)).2, (ite0 wd.c0 wd.c1 (by omega)).1, (ite0 wd.c0 wd.c1 (by omega)).2, (ite0 wd.m0 wd.m1 (by omega)).1, (ite0 wd.m0 wd.m1 (by omega)).2, by omega, by show (n : Int) ≤ _; omega, fun e he => (nes_mem hok he).1⟩
theorem mdcells {w : World} {b : Nat} {e : En} {o : Bool} (h : w.heap[b]? = some (.cells (mdc e o) 26 (0, 0))) : w.cell? ⟨b, 0, none⟩ = some (.int .u64 e.term) ∧ w.cell? ⟨b, 1, none⟩ = some (.int .u64 e.index) ∧ w.cell? ⟨b, 2, none⟩ = some (.int .i64 e.kind) ∧ w.cell? ⟨b, 3, none⟩ = some (.int .u64 e.client) ∧ w.cell? ⟨b, 4, none⟩ = some (.int .u64 e.seq) ∧ w.cell? ⟨b, 5, none⟩ = some (.int .u64 e.block) ∧ w.cell? ⟨b, 6, none⟩ = some (.int .u64 e.many) ∧ w.cell? ⟨b, 7, none⟩ = some (.int .i64 e.node) ∧ w.cell? ⟨b, 8, none⟩ = some (.int .i64 e.level) ∧ w.cell? ⟨b, 9, none⟩ = some (.string e.data) ∧ w.cell? ⟨b, 10, none⟩ = some (.string e.old) ∧ w.cell? ⟨b, 11, none⟩ = some (.bool o) :=
  ⟨cell_of_row w _ 0 _ 26 (0, 0) h, cell_of_row w _ 1 _ 26 (0, 0) h, cell_of_row w _ 2 _ 26 (0, 0) h, cell_of_row w _ 3 _ 26 (0, 0) h, cell_of_row w _ 4 _ 26 (0, 0) h, cell_of_row w _ 5 _ 26 (0, 0) h, cell_of_row w _ 6 _ 26 (0, 0) h, cell_of_row w _ 7 _ 26 (0, 0) h, cell_of_row w _ 8 _ 26 (0, 0) h, cell_of_row w _ 9 _ 26 (0, 0) h, cell_of_row w _ 10 _ 26 (0, 0) h, cell_of_row w _ 11 _ 26 (0, 0) h⟩
theorem nvcells {w : World} {b : Nat} {m : Ms} {own : Bool} {LA : Option Addr} {ln lc : Nat} (h : w.heap[b]? = some (.cells (nvc m own LA ln lc) 32 (0, 0))) : w.cell? ⟨b, 0, none⟩ = some (.int .i64 m.kind) ∧ w.cell? ⟨b, 1, none⟩ = some (.int .i64 m.frm) ∧ w.cell? ⟨b, 2, none⟩ = some (.int .i64 m.dst) ∧ w.cell? ⟨b, 3, none⟩ = some (.int .u64 m.term) ∧ w.cell? ⟨b, 4, none⟩ = some (.int .u64 m.index) ∧ w.cell? ⟨b, 5, none⟩ = some (.int .u64 m.prev) ∧ w.cell? ⟨b, 6, none⟩ = some (.int .u64 m.commit) ∧ w.cell? ⟨b, 7, none⟩ = some (.int .u64 m.mark) ∧ w.cell? ⟨b, 8, none⟩ = some (.bool m.ok) ∧ w.cell? ⟨b, 9, none⟩ = some (.slice m.A m.n m.c) ∧ w.cell? ⟨b, 10, none⟩ = some (.string m.snap) ∧ w.cell? ⟨b, 11, none⟩ = some (.bool own) ∧ w.cell? ⟨b, 12, none⟩ = some (.slice LA ln lc) :=
  ⟨cell_of_row w _ 0 _ 32 (0, 0) h, cell_of_row w _ 1 _ 32 (0, 0) h, cell_of_row w _ 2 _ 32 (0, 0) h, cell_of_row w _ 3 _ 32 (0, 0) h, cell_of_row w _ 4 _ 32 (0, 0) h, cell_of_row w _ 5 _ 32 (0, 0) h, cell_of_row w _ 6 _ 32 (0, 0) h, cell_of_row w _ 7 _ 32 (0, 0) h, cell_of_row w _ 8 _ 32 (0, 0) h, cell_of_row w _ 9 _ 32 (0, 0) h, cell_of_row w _ 10 _ 32 (0, 0) h, cell_of_row w _ 11 _ 32 (0, 0) h, cell_of_row w _ 12 _ 32 (0, 0) h⟩
theorem kept {w w1 : World} {k : Nat} {x : Obj} (hb : Below w.heap.size w w1) (h : w.heap[k]? = some x) : w1.heap[k]? = some x := (hb.block _ (Array.getElem?_eq_some_iff.1 h).1).trans h
theorem lt_of {w : World} {k : Nat} {x : Obj} (h : w.heap[k]? = some x) : k < w.heap.size := (Array.getElem?_eq_some_iff.1 h).1
theorem eq_same (E : En) (w : World) : (binOp .eql 24 (ev E) (ev E)).run Tryz.prog w = .ok (.bool true) w := by
  go_simp

/-- The law's entry and message lie where they lay. -/
structure Lc (w0 : World) (e : En) (oe : Bool) (m : Ms) (own : Bool) (LA : Option Addr) (ln lc : Nat) (w : World) : Prop where
  e : w.heap[w0.heap.size]? = some (.cells (mdc e oe) 26 (0, 0))
  m : w.heap[w0.heap.size + 1]? = some (.cells (nvc m own LA ln lc) 32 (0, 0))
  b : Below w0.heap.size w0 w
theorem Lc.on {w0 w w1 : World} {e : En} {oe : Bool} {m : Ms} {own : Bool} {LA : Option Addr} {ln lc : Nat} (h : Lc w0 e oe m own LA ln lc w) (hb : Below w.heap.size w w1) : Lc w0 e oe m own LA ln lc w1 :=
  ⟨kept hb h.e, kept hb h.m, h.b.trans (hb.mono h.b.size)⟩
/-- What the law's own message is, and what each copy of it has in common. -/
def nM (m : Ms) (own : Bool) (L : List (En × Bool)) : Ms := if own then nm m L none (nm m L none 0 0).es.length 0 else m
def CopyOf (M0 M : Ms) : Prop := ∀ v, mOv v M = mOv v M0 ∧ mPv v M = mPv v M0
theorem copy_nm (m : Ms) (L : List (En × Bool)) (A : Option Addr) (n c : Nat) (h : (nm m L A n c).es.length = n) : CopyOf (nM m true L) (nm m L A n c) := by
  have hn : n = (nm m L none 0 0).es.length := h.symm
  subst hn
  intro v
  exact ⟨rfl, rfl⟩
theorem msame_got {o : Bool} {P : Option Addr → Nat → Ms} {M N : Ms} (hM : GotZ o (fun M => ∃ A c, M = P A c) M) (hN : GotZ o (fun M => ∃ A c, M = P A c) N) (hP : ∀ A c A' c', (P A c).n = (P A' c').n ∧ (P A c).es = (P A' c').es ∧ scalB (P A c) (P A' c') = scalB (P A c) (P A c)) : msameB M N = true := by
  have sc : ∀ X : Ms, (scalB X X).all id = true := fun X => by unfold scalB; simp
  cases o with
  | false =>
    rw [hM.2 rfl, hN.2 rfl]
    rw [msame_eq rfl (preB_refl _ _)]
    exact sc _
  | true =>
    obtain ⟨A, c, rfl⟩ := hM.1 rfl
    obtain ⟨A', c', rfl⟩ := hN.1 rfl
    obtain ⟨h1, h2, h3⟩ := hP A c A' c'
    rw [msame_eq h1 (by rw [← h2]; exact preB_refl _ _), h3]
    exact sc _
set_option maxHeartbeats 16000000 in
set_option maxRecDepth 100000 in
theorem _root_.Go.Proofs.YtpdbeijfchmlgaaGreat.lcodes_any (v : Int) (known : Bool) (e : En) (oe : Bool) (m : Ms) (own : Bool) (LA : Option Addr) (ln lc : Nat) (L : List (En × Bool)) (s : ByteArray) (at_ : Int) (by_ : Nat) (w : World)
    (hv : -9223372036854775808 ≤ v ∧ v ≤ 9223372036854775807) (ok : e.Ok) (hN : NoteIn w m LA ln L) (hs : s.size ≤ 140737488351232) (hat : -9223372036854775808 ≤ at_ ∧ at_ ≤ 9223372036854775807) (hby : by_ < 256) :
    Calls Tryz.prog 3 #[.int .i64 v, .bool known, mdv e oe, nvv m own LA ln lc, .string s, .int .i64 at_, .int .u8 by_] w fun r w' => r = .returned (.bool true) ∧ Below w.heap.size w w' := by
  obtain ⟨W0, hW0⟩ : ∃ W0, W0 = (w.alloc (Obj.cells (mdc e oe) 26)).alloc (Obj.cells (nvc m own LA ln lc) 32) := ⟨_, rfl⟩
  have b0 : Below w.heap.size w W0 := by rw [hW0]; exact ((Below.refl _ _).alloc (Nat.le_refl _) _).alloc (by simp) _
  have L0 : Lc w e oe m own LA ln lc W0 := ⟨by rw [hW0]; exact (Lib.alloc_old _ _ _ (by simp)).trans (heap_alloc_new w _), by rw [hW0]; have h := heap_alloc_new (w.alloc (Obj.cells (mdc e oe) 26)) (Obj.cells (nvc m own LA ln lc) 32); simpa using h, b0⟩
  obtain ⟨E, hE⟩ : ∃ E, E = if oe then mk e else e := ⟨_, rfl⟩
  have hEok : E.Ok := by
    rw [hE]; split
    · exact (mk_facts e ok).1
    · exact ok
  have KM : Hid (∀ W, Calls Tryz.prog 7 #[mdv e oe] W fun r w' => r = .returned (ev E) ∧ Below W.heap.size W w') := by
    intro W
    cases oe with
    | true => rw [hE]; exact made_yes e W ok
    | false => rw [hE]; exact made_no e W
  have KN : Hid (∀ W, Below w.heap.size w W → Calls Tryz.prog 10 #[nvv m own LA ln lc] W fun r w' => ∃ M : Ms, r = .returned (mv M) ∧ Ents w'.heap.size M.A M.n M.es w' ∧ M.Wide ∧ Below W.heap.size W w' ∧ CopyOf (nM m own L) M) := by
    intro W hb
    cases own with
    | true =>
      refine (note_yes m LA ln lc L W ((hN.md.below hb).mr hb.size) hN.ok hN.ll).mono ?_
      rintro r w' ⟨A, c, n, rfl, hl, hEs, hb'⟩
      have hMA : (nm m L A n c).A = A ∧ (nm m L A n c).n = n := by simp only [nm, npart, and_self]
      exact ⟨nm m L A n c, rfl, by rw [hMA.1, hMA.2]; exact hEs, nm_wide hN.wd hN.ok hl, hb', copy_nm m L A n c hl⟩
    | false =>
      refine (note_no m LA ln lc W).mono ?_
      rintro r w' ⟨rfl, hb'⟩
      exact ⟨m, rfl, ((hN.en.below hb).mr hb.size).below hb' |>.mr hb'.size, hN.wd, hb', fun _ => ⟨rfl, rfl⟩⟩
  have HL0 := Lib.hid L0
  have HW0 := Lib.hid hW0
  have KX := Lib.hid (examples_any W0)
  have HS := Lib.hid hs
  have HEO := Lib.hid hEok
  have HAT := Lib.hid hat
  have HBY := Lib.hid hby
  clear hW0 b0 L0 hN ok hE hEok hs hat hby
  go_enter Tryz.func3, Tryz.ntmps3
  go_wp2_with fail
  rw [← HW0.out]
  refine KX.out.mono ?_
  rintro r w1 ⟨rfl, b1⟩
  have L1 := Lib.hid (HL0.out.on b1)
  clear b1 KX HL0 HW0
  go_upto_if 40 with (fail)
  go_cut [0] from 40 to 46 (fun s0 wx => w1 = wx ∧ ∃ v' : Int, s0 = .int .i64 v')
  case first =>
    cases known with
    | false =>
      go_wp2_with fail
      go_meet
      exact ⟨rfl, _, rfl⟩
    | true =>
      obtain ⟨u, hu⟩ : ∃ u, IntKind.u64.wrap v = u := ⟨_, rfl⟩
      obtain ⟨r, hr⟩ : ∃ r, u % 2 = r := ⟨_, rfl⟩
      have hr0 : 0 ≤ r ∧ r < 2 := by omega
      have hw1 : IntKind.i64.wrap r = r := IntWalk.i64_in _ (by omega)
      have hw2 : IntKind.i64.wrap (1 + r) = 1 + r := IntWalk.i64_in _ (by omega)
      go_wp2_with fail
      go_meet
      exact ⟨rfl, _, rfl⟩
  case rest =>
    obtain ⟨rfl, v', rfl⟩ := hcut
    have KP := Lib.hid (fun (W : World) => aPutE v' E W HEO.out)
    have KQ := Lib.hid (fun (W : World) => aRPutE v' E W HEO.out)
    have zx : (rfP v' (eOv v' E) (ePv v' E)).size ≤ 140737488351232 := by
      unfold rfP; split
      · exact Nat.le_trans (pkS_size _ _) (by omega)
      · exact Nat.zero_le _
    have zp : (rfP v' (mOv v' (nM m own L)) (mPv v' (nM m own L))).size ≤ 140737488351232 := by
      unfold rfP; split
      · exact Nat.le_trans (pkS_size _ _) (by omega)
      · exact Nat.zero_le _
    have HC : Hid (∀ M, CopyOf (nM m own L) M → rfP v' (mOv v' M) (mPv v' M) = rfP v' (mOv v' (nM m own L)) (mPv v' (nM m own L)) ∧ (mOv v' M && pkO v' (mPv v' M)) = (mOv v' (nM m own L) && pkO v' (mPv v' (nM m own L)))) := fun M hM => by rw [(hM v').1, (hM v').2]; exact ⟨rfl, rfl⟩
    obtain ⟨x, hx⟩ : ∃ x, x = rfP v' (eOv v' E) (ePv v' E) := ⟨_, rfl⟩
    obtain ⟨xo, hxo⟩ : ∃ xo, xo = (eOv v' E && pkO v' (ePv v' E)) := ⟨_, rfl⟩
    obtain ⟨p, hp⟩ : ∃ p, p = rfP v' (mOv v' (nM m own L)) (mPv v' (nM m own L)) := ⟨_, rfl⟩
    obtain ⟨po, hpo⟩ : ∃ po, po = (mOv v' (nM m own L) && pkO v' (mPv v' (nM m own L))) := ⟨_, rfl⟩
    rw [← hx, ← hxo] at KP KQ
    rw [← hx] at zx
    rw [← hp] at zp
    rw [← hp, ← hpo] at HC
    have HZX := Lib.hid zx
    have HZP := Lib.hid zp
    have qx : (x.toList == x.toList) = true := beq_self_eq_true _
    have qxo : (xo == xo) = true := beq_self_eq_true _
    have qp : (p.toList == p.toList) = true := beq_self_eq_true _
    have qpo : (po == po) = true := beq_self_eq_true _
    clear hx hxo hp hpo zx zp HEO
    obtain ⟨a0, a1, a2, a3, a4, a5, a6, a7, a8, a9, a10, a11⟩ := mdcells L1.out.e
    go_wp2_with fail
    refine (KM.out _).mono ?_
    rintro r w2 ⟨rfl, b2⟩
    have L2 := Lib.hid (L1.out.on b2)
    clear b2 L1 a0 a1 a2 a3 a4 a5 a6 a7 a8 a9 a10 a11
    go_wp2_with fail
    refine (KP.out _).mono ?_
    rintro r w3 ⟨rfl, b3⟩
    have L3 := Lib.hid (L2.out.on b3)
    clear b3 L2 KP
    obtain ⟨a0, a1, a2, a3, a4, a5, a6, a7, a8, a9, a10, a11⟩ := mdcells L3.out.e
    go_wp2_with fail
    refine (KM.out _).mono ?_
    rintro r w4 ⟨rfl, b4⟩
    have L4 := Lib.hid (L3.out.on b4)
    clear b4 L3 KM a0 a1 a2 a3 a4 a5 a6 a7 a8 a9 a10 a11
    go_wp2_with fail
    refine (KQ.out _).mono ?_
    rintro r w5 ⟨rfl, b5⟩
    have L5 := Lib.hid (L4.out.on b5)
    clear b5 L4 KQ
    obtain ⟨n0, n1, n2, n3, n4, n5, n6, n7, n8, n9, n10, n11, n12⟩ := nvcells L5.out.m
    go_wp2_with fail
    refine (KN.out _ L5.out.b).mono ?_
    rintro r w6 ⟨M, rfl, hEs, hMw, b6, hMc⟩
    have L6 := Lib.hid (L5.out.on b6)
    have KP := Lib.hid (aPutM v' M w6 hEs hMw)
    rw [(HC.out M hMc).1, (HC.out M hMc).2] at KP
    clear b6 L5 n0 n1 n2 n3 n4 n5 n6 n7 n8 n9 n10 n11 n12 hEs hMw hMc
    go_wp2_with fail
    refine KP.out.mono ?_
    rintro r w7 ⟨rfl, b7⟩
    have L7 := Lib.hid (L6.out.on b7)
    clear b7 L6 KP
    obtain ⟨n0, n1, n2, n3, n4, n5, n6, n7, n8, n9, n10, n11, n12⟩ := nvcells L7.out.m
    go_wp2_with fail
    refine (KN.out _ L7.out.b).mono ?_
    rintro r w8 ⟨M', rfl, hEs, hMw, b8, hMc⟩
    have L8 := Lib.hid (L7.out.on b8)
    have KP := Lib.hid (aRPutM v' M' w8 hEs hMw)
    rw [(HC.out M' hMc).1, (HC.out M' hMc).2] at KP
    clear b8 L7 n0 n1 n2 n3 n4 n5 n6 n7 n8 n9 n10 n11 n12 hEs hMw hMc KN HC
    go_wp2_with fail
    refine KP.out.mono ?_
    rintro r w9 ⟨rfl, b9⟩
    have B9 : Hid (Below w.heap.size w w9) := L8.out.b.trans (b9.mono L8.out.b.size)
    clear b9 L8 KP
    go_upto_if 80 with (fail)
    all_goals
      go_cut [4, 24] from 47 to 89 (fun s1 s2 wx => Below w.heap.size w wx ∧ ∃ s' t' : ByteArray, s1 = .string s' ∧ s2 = .string t' ∧ s'.size ≤ 140737488351232 ∧ t'.size ≤ 140737488351232)
      case first =>
        cases hp1 : p.toList.isEmpty
        all_goals
          go_wp2_with fail
          all_goals first
          | go_meet
            exact ⟨B9.out, _, _, rfl, rfl, HS.out, HS.out⟩
          | refine (bend_any x at_ by_ _ HZX.out HAT.out HBY.out).mono ?_
            rintro r w10 ⟨t1, rfl, z1, c1⟩
            go_wp2_with fail
            refine (bend_any p at_ by_ _ HZP.out HAT.out HBY.out).mono ?_
            rintro r w11 ⟨t2, rfl, z2, c2⟩
            go_wp2_with fail
            go_meet
            have d1 : Below w.heap.size w w10 := B9.out.trans (c1.mono B9.out.size)
            exact ⟨d1.trans (c2.mono d1.size), _, _, rfl, rfl, by rw [z1]; exact HZX.out, by rw [z2]; exact HZP.out⟩
      case rest =>
        obtain ⟨BC, s', t', rfl, rfl, hs', ht'⟩ := hcut
        obtain ⟨O, hO⟩ : ∃ O, O = aO s' := ⟨_, rfl⟩
        obtain ⟨X, hX⟩ : ∃ X, X = (if aO s' = true then aX s' else ezz) := ⟨_, rfl⟩
        obtain ⟨V, hV⟩ : ∃ V : Int, V = (if aO s' = true then uV s' else 0) := ⟨_, rfl⟩
        obtain ⟨P, hP⟩ : ∃ P, P = aMO t' := ⟨_, rfl⟩
        obtain ⟨U, hU⟩ : ∃ U : Int, U = (if aMO t' = true then uV t' else 0) := ⟨_, rfl⟩
        have KX := Lib.hid (fun (W : World) => aGetE s' W hs')
        have KY := Lib.hid (fun (W : World) => aRGetE s' W hs')
        have KM := Lib.hid (fun (W : World) => aGetM t' W ht')
        have KR := Lib.hid (fun (W : World) => aRGetM t' W ht')
        unfold AMsg at KM KR
        rw [← hX, ← hV, ← hO] at KX KY
        rw [← hU, ← hP] at KM KR
        have qO : (O == O) = true := beq_self_eq_true _
        have qP : (P == P) = true := beq_self_eq_true _
        have qV : (V == V) = true := beq_self_eq_true _
        have qU : (U == U) = true := beq_self_eq_true _
        clear hO hX hV hP hU
        go_wp2_with fail
        refine (KX.out _).mono ?_
        rintro r w10 ⟨rfl, b10⟩
        have B10 : Hid (Below w.heap.size w w10) := BC.trans (b10.mono BC.size)
        clear b10 BC KX
        go_wp2_with fail
        refine (KY.out _).mono ?_
        rintro r w11 ⟨rfl, b11⟩
        have c1 : Below w.heap.size w (w10.alloc (Obj.cells (ec X) 24)) := B10.out.alloc B10.out.size _
        have B11 : Hid (Below w.heap.size w w11) := c1.trans (b11.mono c1.size)
        have k1 : Hid (w11.heap[w10.heap.size]? = some (.cells (ec X) 24 (0, 0))) := kept b11 (heap_alloc_new w10 _)
        clear b11 c1 KY B10
        go_wp2_with fail
        refine (KM.out _).mono ?_
        rintro r w12 ⟨M1, rfl, e1, m1, b12, g1⟩
        have c1 : Below w.heap.size w (w11.alloc (Obj.cells (ec X) 24)) := B11.out.alloc B11.out.size _
        have B12 : Hid (Below w.heap.size w w12) := c1.trans (b12.mono c1.size)
        have k2 : Hid (w12.heap[w11.heap.size]? = some (.cells (ec X) 24 (0, 0))) := kept b12 (heap_alloc_new w11 _)
        have k3 : Hid (w12.heap[w10.heap.size]? = some (.cells (ec X) 24 (0, 0))) := kept b12 ((Lib.alloc_old _ _ _ (lt_of k1.out)).trans k1.out)
        have E1 := Lib.hid e1
        have M1w := Lib.hid m1
        have G1 := Lib.hid g1
        clear b12 c1 KM B11 k1 e1 m1 g1
        go_wp2_with fail
        refine (KR.out _).mono ?_
        rintro r w13 ⟨M2, rfl, e2, m2, b13, g2⟩
        have c1 : Below w.heap.size w (w12.alloc (Obj.cells (mc M1) 29)) := B12.out.alloc B12.out.size _
        have B13 : Hid (Below w.heap.size w w13) := c1.trans (b13.mono c1.size)
        have k4 : Hid (w13.heap[w11.heap.size]? = some (.cells (ec X) 24 (0, 0))) := kept b13 ((Lib.alloc_old _ _ _ (lt_of k2.out)).trans k2.out)
        have k5 : Hid (w13.heap[w10.heap.size]? = some (.cells (ec X) 24 (0, 0))) := kept b13 ((Lib.alloc_old _ _ _ (lt_of k3.out)).trans k3.out)
        have k6 : Hid (w13.heap[w12.heap.size]? = some (.cells (mc M1) 29 (0, 0))) := kept b13 (heap_alloc_new w12 _)
        have E3 : Hid (Ents w13.heap.size M1.A M1.n M1.es w13) := by
          have c2 : Below w12.heap.size w12 (w12.alloc (Obj.cells (mc M1) 29)) := (Below.refl _ _).alloc (Nat.le_refl _) _
          have q := (E1.out.below c2).mr c2.size
          exact (q.below b13).mr b13.size
        have E2 := Lib.hid e2
        have M2w := Lib.hid m2
        have G2 := Lib.hid g2
        clear b13 c1 KR B12 k2 k3 E1 e2 m2 g2
        go_upto_region 18 with fail
        obtain ⟨W, hW⟩ : ∃ W, w13.alloc (Obj.cells (mc M2) 29) = W := ⟨_, rfl⟩
        have c1 : Below w.heap.size w W := by rw [← hW]; exact B13.out.alloc B13.out.size _
        have b13 : Below w13.heap.size w13 W := by rw [← hW]; exact (Below.refl _ _).alloc (Nat.le_refl _) _
        have f4 : W.heap[w11.heap.size]? = some (.cells (ec X) 24 (0, 0)) := kept b13 k4.out
        have f5 : W.heap[w10.heap.size]? = some (.cells (ec X) 24 (0, 0)) := kept b13 k5.out
        have f6 : W.heap[w12.heap.size]? = some (.cells (mc M1) 29 (0, 0)) := kept b13 k6.out
        have f7 : W.heap[w13.heap.size]? = some (.cells (mc M2) 29 (0, 0)) := by rw [← hW]; exact heap_alloc_new w13 _
        have KE := Lib.hid (rmsame_any M1 M2 W ((E3.out.below b13).mr b13.size) ((E2.out.below b13).mr b13.size) M1w.out.n1 M2w.out.n1)
        have hms : msameB M1 M2 = true := msame_got G1.out G2.out (fun A c A' c' => by unfold aM; split <;> exact ⟨rfl, rfl, rfl⟩)
        rw [hms] at KE
        have C1 := Lib.hid c1
        rw [hW]
        clear hW b13 c1 E3 E2 M1w M2w G1 G2 k4 k5 k6 B13 B9
        obtain ⟨x0, x1, x2, x3, x4, x5, x6, x7, x8, x9, x10⟩ := zecl f4
        obtain ⟨y0, y1, y2, y3, y4, y5, y6, y7, y8, y9, y10⟩ := zecl f5
        obtain ⟨p0, p1, p2, p3, p4, p5, p6, p7, p8, p9, p10⟩ := zmcl f6
        obtain ⟨q0, q1, q2, q3, q4, q5, q6, q7, q8, q9, q10⟩ := zmcl f7
        clear f4 f5 f6 f7
        go_wp2_with fail
        refine KE.out.mono ?_
        rintro r w14 ⟨rfl, b14⟩
        go_wp2_with fail
        go_ret
        exact ⟨rfl, C1.out.trans (b14.mono C1.out.size)⟩
end Go.Proofs.YtpdbeijfchmlgaaGreat.D
