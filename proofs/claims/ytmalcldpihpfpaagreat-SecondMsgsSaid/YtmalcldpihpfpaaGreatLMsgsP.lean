/-
  SecondMsgs: for every input the law's function returns true, and leaves what was there as it was.
  Conditions: named in each theorem.
-/
import Derived.Test.YtmalcldpihpfpaaGreatSMid
import Derived.Deep.CutRange
import Derived.Test.YtmalcldpihpfpaaGreatRows
import Derived.Test.YtmalcldpihpfpaaGreatOpenN
import Derived.WalkKit
import Derived.ProofKit
import Derived.OpenShut
import Derived.ShutString
import Derived.ChangeOld
import Derived.Below
import Derived.SizedLaws
namespace Go.Proofs.YtmalcldpihpfpaaGreat
open Go.RowKit
open Vi
set_option linter.unusedVariables false
set_option linter.unusedSimpArgs false

set_option maxHeartbeats 16000000 in
set_option maxRecDepth 100000 in
theorem lmsgs_any (m : Ms) (own : Bool) (LA : Option Addr) (ln lc : Nat) (L : List (En × Bool)) (s : ByteArray) (o2 : Bool) (at_ : Int) (by_ : Nat) (w : World) (hN : NoteIn w m LA ln L) (hs : s.size ≤ 140737488351232) (hat : -9223372036854775808 ≤ at_ ∧ at_ ≤ 9223372036854775807) (hby : by_ < 256) :
    Calls Tryz.prog 4 #[nvv m own LA ln lc, .string s, .bool o2, .int .i64 at_, .int .u8 by_] w fun r w' => r = .returned (.bool true) ∧ Below w.heap.size w w' := by
  obtain ⟨W0, hW0⟩ : ∃ W0, W0 = w.alloc (Obj.cells (nvc m own LA ln lc) 47) := ⟨_, rfl⟩
  have b0 : Below w.heap.size w W0 := by rw [hW0]; exact (Below.refl _ _).alloc (Nat.le_refl _) _
  have k0 : W0.heap[w.heap.size]? = some (.cells (nvc m own LA ln lc) 47 (0, 0)) := by rw [hW0]; exact heap_alloc_new w _
  obtain ⟨PU, hPU⟩ : ∃ PU, PU = putX (ML m own L none 0) := ⟨_, rfl⟩
  obtain ⟨mb, hmb⟩ : ∃ mb, mb = mrightB (ML m own L none 0) := ⟨_, rfl⟩
  have KE := Lib.hid (examples_any W0)
  have KN := Lib.hid (fun (W : World) (hb : Below w.heap.size w W) => note3 m own LA ln lc L W (hN.on hb))
  have KP : Hid (∀ (A : Option Addr) (c : Nat) (W : World), Ents W.heap.size (ML m own L A c).A (ML m own L A c).n (ML m own L A c).es W → (ML m own L A c).Wide → Calls Tryz.prog 20 #[mv (ML m own L A c)] W fun r w' => r = .returned (.tuple #[.string PU, .bool mb]) ∧ Below W.heap.size W w' ∧ PU.size ≤ 1000000) := by
    intro A c W hE hw
    have hz := putM_size hw hE.len
    rw [(putM_ML m own L A c).1, ← hPU] at hz
    refine (putM_any _ W hE hw).mono fun r w' ⟨h1, h2⟩ => ⟨?_, h2, hz⟩
    rw [h1, (putM_ML m own L A c).1, (putM_ML m own L A c).2, hPU, hmb]
  have KQ : Hid (∀ (A : Option Addr) (c : Nat) (W : World), Ents W.heap.size (ML m own L A c).A (ML m own L A c).n (ML m own L A c).es W → (ML m own L A c).Wide → Calls Tryz.prog 22 #[mv (ML m own L A c)] W fun r w' => r = .returned (.tuple #[.string PU, .bool mb]) ∧ Below W.heap.size W w') := by
    intro A c W hE hw
    refine (rputM_any _ W hE hw).mono fun r w' ⟨h1, h2⟩ => ⟨?_, h2⟩
    rw [h1, (putM_ML m own L A c).1, (putM_ML m own L A c).2, hPU, hmb]
  have KB := Lib.hid (fun (W : World) (h : PU.size ≤ 1000000) => bend_any PU at_ by_ W (by omega) hat hby)
  have HW0 := Lib.hid hW0
  have HB0 := Lib.hid b0
  have HK0 := Lib.hid k0
  have HS := Lib.hid hs
  clear hW0 b0 k0 hPU hmb hN hs hat hby
  go_enter Tryz.func4, Tryz.ntmps4
  go_wp2_with fail
  rw [← HW0.out]
  refine KE.out.mono ?_
  rintro r w1 ⟨rfl, b1⟩
  have HB1 : Hid (Below w.heap.size w w1) := HB0.out.trans (b1.mono HB0.out.size)
  have HK1 : Hid (w1.heap[w.heap.size]? = some (.cells (nvc m own LA ln lc) 47 (0, 0))) := (b1.block _ (Array.getElem?_eq_some_iff.1 HK0.out).1).trans HK0.out
  clear b1 KE HB0 HK0
  have n0 : w1.cell? ⟨w.heap.size, 0, none⟩ = some (.int .i64 m.kind) := cell_of_row w1 _ 0 _ 47 (0, 0) HK1.out
  have n1 : w1.cell? ⟨w.heap.size, 1, none⟩ = some (.int .i64 m.frm) := cell_of_row w1 _ 1 _ 47 (0, 0) HK1.out
  have n2 : w1.cell? ⟨w.heap.size, 2, none⟩ = some (.int .i64 m.dst) := cell_of_row w1 _ 2 _ 47 (0, 0) HK1.out
  have n3 : w1.cell? ⟨w.heap.size, 3, none⟩ = some (.int .u64 m.term) := cell_of_row w1 _ 3 _ 47 (0, 0) HK1.out
  have n4 : w1.cell? ⟨w.heap.size, 4, none⟩ = some (.int .u64 m.index) := cell_of_row w1 _ 4 _ 47 (0, 0) HK1.out
  have n5 : w1.cell? ⟨w.heap.size, 5, none⟩ = some (.int .u64 m.prev) := cell_of_row w1 _ 5 _ 47 (0, 0) HK1.out
  have n6 : w1.cell? ⟨w.heap.size, 6, none⟩ = some (.int .u64 m.commit) := cell_of_row w1 _ 6 _ 47 (0, 0) HK1.out
  have n7 : w1.cell? ⟨w.heap.size, 7, none⟩ = some (.int .u64 m.mark) := cell_of_row w1 _ 7 _ 47 (0, 0) HK1.out
  have n8 : w1.cell? ⟨w.heap.size, 8, none⟩ = some (.bool m.ok) := cell_of_row w1 _ 8 _ 47 (0, 0) HK1.out
  have n9 : w1.cell? ⟨w.heap.size, 9, none⟩ = some (.slice m.A m.n m.c) := cell_of_row w1 _ 9 _ 47 (0, 0) HK1.out
  have n10 : w1.cell? ⟨w.heap.size, 10, none⟩ = some (.string m.snap) := cell_of_row w1 _ 10 _ 47 (0, 0) HK1.out
  have n11 : w1.cell? ⟨w.heap.size, 11, none⟩ = some (.bool own) := cell_of_row w1 _ 11 _ 47 (0, 0) HK1.out
  have n12 : w1.cell? ⟨w.heap.size, 12, none⟩ = some (.slice LA ln lc) := cell_of_row w1 _ 12 _ 47 (0, 0) HK1.out
  go_wp2_with fail
  refine (KN.out _ HB1.out).mono ?_
  rintro r w2 ⟨A1, c1, rfl, e1, wd1, b2⟩
  have HB2 : Hid (Below w.heap.size w w2) := HB1.out.trans (b2.mono HB1.out.size)
  have HK2 : Hid (w2.heap[w.heap.size]? = some (.cells (nvc m own LA ln lc) 47 (0, 0))) := (b2.block _ (Array.getElem?_eq_some_iff.1 HK1.out).1).trans HK1.out
  clear b2 HB1 HK1 n0 n1 n2 n3 n4 n5 n6 n7 n8 n9 n10 n11 n12
  go_wp2_with fail
  refine (KP.out _ _ _ e1 wd1).mono ?_
  rintro r w3 ⟨rfl, b3, hz⟩
  have HB3 : Hid (Below w.heap.size w w3) := HB2.out.trans (b3.mono HB2.out.size)
  have HK3 : Hid (w3.heap[w.heap.size]? = some (.cells (nvc m own LA ln lc) 47 (0, 0))) := (b3.block _ (Array.getElem?_eq_some_iff.1 HK2.out).1).trans HK2.out
  have HZ := Lib.hid hz
  clear b3 HB2 HK2 e1 wd1 hz KP
  have n0 : w3.cell? ⟨w.heap.size, 0, none⟩ = some (.int .i64 m.kind) := cell_of_row w3 _ 0 _ 47 (0, 0) HK3.out
  have n1 : w3.cell? ⟨w.heap.size, 1, none⟩ = some (.int .i64 m.frm) := cell_of_row w3 _ 1 _ 47 (0, 0) HK3.out
  have n2 : w3.cell? ⟨w.heap.size, 2, none⟩ = some (.int .i64 m.dst) := cell_of_row w3 _ 2 _ 47 (0, 0) HK3.out
  have n3 : w3.cell? ⟨w.heap.size, 3, none⟩ = some (.int .u64 m.term) := cell_of_row w3 _ 3 _ 47 (0, 0) HK3.out
  have n4 : w3.cell? ⟨w.heap.size, 4, none⟩ = some (.int .u64 m.index) := cell_of_row w3 _ 4 _ 47 (0, 0) HK3.out
  have n5 : w3.cell? ⟨w.heap.size, 5, none⟩ = some (.int .u64 m.prev) := cell_of_row w3 _ 5 _ 47 (0, 0) HK3.out
  have n6 : w3.cell? ⟨w.heap.size, 6, none⟩ = some (.int .u64 m.commit) := cell_of_row w3 _ 6 _ 47 (0, 0) HK3.out
  have n7 : w3.cell? ⟨w.heap.size, 7, none⟩ = some (.int .u64 m.mark) := cell_of_row w3 _ 7 _ 47 (0, 0) HK3.out
  have n8 : w3.cell? ⟨w.heap.size, 8, none⟩ = some (.bool m.ok) := cell_of_row w3 _ 8 _ 47 (0, 0) HK3.out
  have n9 : w3.cell? ⟨w.heap.size, 9, none⟩ = some (.slice m.A m.n m.c) := cell_of_row w3 _ 9 _ 47 (0, 0) HK3.out
  have n10 : w3.cell? ⟨w.heap.size, 10, none⟩ = some (.string m.snap) := cell_of_row w3 _ 10 _ 47 (0, 0) HK3.out
  have n11 : w3.cell? ⟨w.heap.size, 11, none⟩ = some (.bool own) := cell_of_row w3 _ 11 _ 47 (0, 0) HK3.out
  have n12 : w3.cell? ⟨w.heap.size, 12, none⟩ = some (.slice LA ln lc) := cell_of_row w3 _ 12 _ 47 (0, 0) HK3.out
  go_wp2_with fail
  refine (KN.out _ HB3.out).mono ?_
  rintro r w4 ⟨A2, c2, rfl, e2, wd2, b4⟩
  have HB4 : Hid (Below w.heap.size w w4) := HB3.out.trans (b4.mono HB3.out.size)
  clear b4 HB3 HK3 n0 n1 n2 n3 n4 n5 n6 n7 n8 n9 n10 n11 n12
  go_wp2_with fail
  refine (KQ.out _ _ _ e2 wd2).mono ?_
  rintro r w5 ⟨rfl, b5⟩
  have HB5 : Hid (Below w.heap.size w w5) := HB4.out.trans (b5.mono HB4.out.size)
  clear b5 HB4 e2 wd2 KQ KN
  have hself : (PU.toList == PU.toList) = true := by simp
  cases o2 with
  | true =>
    go_wp2_with fail
    refine (KB.out _ HZ.out).mono ?_
    rintro r w6 ⟨t, rfl, ht, b6⟩
    have HB6 : Hid (Below w.heap.size w w6) := HB5.out.trans (b6.mono HB5.out.size)
    have HT : Hid (t.size ≤ 140737488351232) := by show _ ≤ _; have := HZ.out; omega
    clear b6 HB5 ht HZ HS KB
    go_wp2_with fail
    refine (getMsg_any t _ HT.out).mono ?_
    rintro r w7 ⟨M, rfl, e7, wd7, b7, g1, g2⟩
    obtain ⟨gk, hgk⟩ : ∃ gk, gk = gok t := ⟨_, rfl⟩
    rw [← hgk] at g1 g2 ⊢
    have HG1 := Lib.hid g1
    have HG2 := Lib.hid g2
    have HGK := Lib.hid hgk
    obtain ⟨W7, hW7⟩ : ∃ W7, W7 = w7.alloc (Obj.cells (mc M) 44) := ⟨_, rfl⟩
    have bb7 : Below w7.heap.size w7 W7 := by rw [hW7]; exact (Below.refl _ _).alloc (Nat.le_refl _) _
    have HE7 : Hid (Ents W7.heap.size M.A M.n M.es W7) := (e7.below bb7).mr bb7.size
    have HM7 : Hid (W7.heap[w7.heap.size]? = some (.cells (mc M) 44 (0, 0))) := by show _ = _; rw [hW7]; exact heap_alloc_new w7 _
    have HB7 : Hid (Below w.heap.size w W7) := (HB6.out.trans (b7.mono HB6.out.size)).trans (bb7.mono (Nat.le_trans HB6.out.size b7.size))
    have HW7 := Lib.hid hW7
    have HWD := Lib.hid wd7
    clear e7 b7 g1 g2 hgk hW7 bb7 HB6 wd7
    go_wp2_with fail
    rw [← HW7.out]
    refine (rgetM_any t _ HT.out).mono ?_
    rintro r w8 ⟨M', rfl, e8, wd8, b8, k1, k2⟩
    rw [← HGK.out] at k1 k2 ⊢
    have HSAME : Hid (msameB M M' = true) := by
      have h1 := HG1.out
      have h2 := HG2.out
      rw [HGK.out] at h1 h2 k1 k2
      exact gmsg_same h1 h2 k1 k2
    obtain ⟨W8, hW8⟩ : ∃ W8, W8 = w8.alloc (Obj.cells (mc M') 44) := ⟨_, rfl⟩
    have bb8 : Below w8.heap.size w8 W8 := by rw [hW8]; exact (Below.refl _ _).alloc (Nat.le_refl _) _
    have b9 : Below W7.heap.size W7 W8 := b8.trans (bb8.mono b8.size)
    have HE8 : Hid (Ents W8.heap.size M.A M.n M.es W8) := (HE7.out.below b9).mr b9.size
    have HF8 : Hid (Ents W8.heap.size M'.A M'.n M'.es W8) := (e8.below bb8).mr bb8.size
    have HM8 : Hid (W8.heap[w7.heap.size]? = some (.cells (mc M) 44 (0, 0))) := (b9.block _ (Array.getElem?_eq_some_iff.1 HM7.out).1).trans HM7.out
    have HN8 : Hid (W8.heap[w8.heap.size]? = some (.cells (mc M') 44 (0, 0))) := by show _ = _; rw [hW8]; exact heap_alloc_new w8 _
    have HB8 : Hid (Below w.heap.size w W8) := HB7.out.trans (b9.mono HB7.out.size)
    have HW8 := Lib.hid hW8
    have KS : Hid (Calls Tryz.prog 25 #[mv M, mv M'] W8 fun r w' => r = .returned (.bool true) ∧ Below W8.heap.size W8 w') := by
      refine (rmsame_any M M' W8 HE8.out HF8.out (wide_n HWD.out) (wide_n wd8)).mono fun r w' ⟨h1, h2⟩ => ⟨?_, h2⟩
      rw [h1, HSAME.out]
    clear e8 b8 k1 k2 hW8 bb8 b9 wd8 HE7 HM7 HB7 HSAME HE8 HF8 HG1 HG2
    have x0 : W8.cell? ⟨w7.heap.size, 0, none⟩ = some (.int .i64 M.kind) := cell_of_row W8 _ 0 _ 44 (0, 0) HM8.out
    have x1 : W8.cell? ⟨w7.heap.size, 1, none⟩ = some (.int .i64 M.frm) := cell_of_row W8 _ 1 _ 44 (0, 0) HM8.out
    have x2 : W8.cell? ⟨w7.heap.size, 2, none⟩ = some (.int .i64 M.dst) := cell_of_row W8 _ 2 _ 44 (0, 0) HM8.out
    have x3 : W8.cell? ⟨w7.heap.size, 3, none⟩ = some (.int .u64 M.term) := cell_of_row W8 _ 3 _ 44 (0, 0) HM8.out
    have x4 : W8.cell? ⟨w7.heap.size, 4, none⟩ = some (.int .u64 M.index) := cell_of_row W8 _ 4 _ 44 (0, 0) HM8.out
    have x5 : W8.cell? ⟨w7.heap.size, 5, none⟩ = some (.int .u64 M.prev) := cell_of_row W8 _ 5 _ 44 (0, 0) HM8.out
    have x6 : W8.cell? ⟨w7.heap.size, 6, none⟩ = some (.int .u64 M.commit) := cell_of_row W8 _ 6 _ 44 (0, 0) HM8.out
    have x7 : W8.cell? ⟨w7.heap.size, 7, none⟩ = some (.int .u64 M.mark) := cell_of_row W8 _ 7 _ 44 (0, 0) HM8.out
    have x8 : W8.cell? ⟨w7.heap.size, 8, none⟩ = some (.bool M.ok) := cell_of_row W8 _ 8 _ 44 (0, 0) HM8.out
    have x9 : W8.cell? ⟨w7.heap.size, 9, none⟩ = some (.slice M.A M.n M.c) := cell_of_row W8 _ 9 _ 44 (0, 0) HM8.out
    have x10 : W8.cell? ⟨w7.heap.size, 10, none⟩ = some (.string M.snap) := cell_of_row W8 _ 10 _ 44 (0, 0) HM8.out
    have y0 : W8.cell? ⟨w8.heap.size, 0, none⟩ = some (.int .i64 M'.kind) := cell_of_row W8 _ 0 _ 44 (0, 0) HN8.out
    have y1 : W8.cell? ⟨w8.heap.size, 1, none⟩ = some (.int .i64 M'.frm) := cell_of_row W8 _ 1 _ 44 (0, 0) HN8.out
    have y2 : W8.cell? ⟨w8.heap.size, 2, none⟩ = some (.int .i64 M'.dst) := cell_of_row W8 _ 2 _ 44 (0, 0) HN8.out
    have y3 : W8.cell? ⟨w8.heap.size, 3, none⟩ = some (.int .u64 M'.term) := cell_of_row W8 _ 3 _ 44 (0, 0) HN8.out
    have y4 : W8.cell? ⟨w8.heap.size, 4, none⟩ = some (.int .u64 M'.index) := cell_of_row W8 _ 4 _ 44 (0, 0) HN8.out
    have y5 : W8.cell? ⟨w8.heap.size, 5, none⟩ = some (.int .u64 M'.prev) := cell_of_row W8 _ 5 _ 44 (0, 0) HN8.out
    have y6 : W8.cell? ⟨w8.heap.size, 6, none⟩ = some (.int .u64 M'.commit) := cell_of_row W8 _ 6 _ 44 (0, 0) HN8.out
    have y7 : W8.cell? ⟨w8.heap.size, 7, none⟩ = some (.int .u64 M'.mark) := cell_of_row W8 _ 7 _ 44 (0, 0) HN8.out
    have y8 : W8.cell? ⟨w8.heap.size, 8, none⟩ = some (.bool M'.ok) := cell_of_row W8 _ 8 _ 44 (0, 0) HN8.out
    have y9 : W8.cell? ⟨w8.heap.size, 9, none⟩ = some (.slice M'.A M'.n M'.c) := cell_of_row W8 _ 9 _ 44 (0, 0) HN8.out
    have y10 : W8.cell? ⟨w8.heap.size, 10, none⟩ = some (.string M'.snap) := cell_of_row W8 _ 10 _ 44 (0, 0) HN8.out
    cases mb <;> cases gk
    all_goals
      go_upto_region 10 with fail
      rw [← HW8.out]
      go_wp2_with fail
      refine KS.out.mono ?_
      rintro r w9 ⟨rfl, b9⟩
      go_wp2
      go_ret
      exact ⟨rfl, HB8.out.trans (b9.mono HB8.out.size)⟩
  | false =>
    have HB6 := HB5
    obtain ⟨t, ht⟩ : ∃ t, t = s := ⟨_, rfl⟩
    have HT : Hid (t.size ≤ 140737488351232) := by rw [ht]; exact HS.out
    rw [← ht]
    obtain ⟨w6, hw6⟩ : ∃ w6, w6 = w5 := ⟨_, rfl⟩
    rw [← hw6] at HB6 ⊢
    clear ht HB5 HS HZ KB hw6
    go_wp2_with fail
    refine (getMsg_any t _ HT.out).mono ?_
    rintro r w7 ⟨M, rfl, e7, wd7, b7, g1, g2⟩
    obtain ⟨gk, hgk⟩ : ∃ gk, gk = gok t := ⟨_, rfl⟩
    rw [← hgk] at g1 g2 ⊢
    have HG1 := Lib.hid g1
    have HG2 := Lib.hid g2
    have HGK := Lib.hid hgk
    obtain ⟨W7, hW7⟩ : ∃ W7, W7 = w7.alloc (Obj.cells (mc M) 44) := ⟨_, rfl⟩
    have bb7 : Below w7.heap.size w7 W7 := by rw [hW7]; exact (Below.refl _ _).alloc (Nat.le_refl _) _
    have HE7 : Hid (Ents W7.heap.size M.A M.n M.es W7) := (e7.below bb7).mr bb7.size
    have HM7 : Hid (W7.heap[w7.heap.size]? = some (.cells (mc M) 44 (0, 0))) := by show _ = _; rw [hW7]; exact heap_alloc_new w7 _
    have HB7 : Hid (Below w.heap.size w W7) := (HB6.out.trans (b7.mono HB6.out.size)).trans (bb7.mono (Nat.le_trans HB6.out.size b7.size))
    have HW7 := Lib.hid hW7
    have HWD := Lib.hid wd7
    clear e7 b7 g1 g2 hgk hW7 bb7 HB6 wd7
    go_wp2_with fail
    rw [← HW7.out]
    refine (rgetM_any t _ HT.out).mono ?_
    rintro r w8 ⟨M', rfl, e8, wd8, b8, k1, k2⟩
    rw [← HGK.out] at k1 k2 ⊢
    have HSAME : Hid (msameB M M' = true) := by
      have h1 := HG1.out
      have h2 := HG2.out
      rw [HGK.out] at h1 h2 k1 k2
      exact gmsg_same h1 h2 k1 k2
    obtain ⟨W8, hW8⟩ : ∃ W8, W8 = w8.alloc (Obj.cells (mc M') 44) := ⟨_, rfl⟩
    have bb8 : Below w8.heap.size w8 W8 := by rw [hW8]; exact (Below.refl _ _).alloc (Nat.le_refl _) _
    have b9 : Below W7.heap.size W7 W8 := b8.trans (bb8.mono b8.size)
    have HE8 : Hid (Ents W8.heap.size M.A M.n M.es W8) := (HE7.out.below b9).mr b9.size
    have HF8 : Hid (Ents W8.heap.size M'.A M'.n M'.es W8) := (e8.below bb8).mr bb8.size
    have HM8 : Hid (W8.heap[w7.heap.size]? = some (.cells (mc M) 44 (0, 0))) := (b9.block _ (Array.getElem?_eq_some_iff.1 HM7.out).1).trans HM7.out
    have HN8 : Hid (W8.heap[w8.heap.size]? = some (.cells (mc M') 44 (0, 0))) := by show _ = _; rw [hW8]; exact heap_alloc_new w8 _
    have HB8 : Hid (Below w.heap.size w W8) := HB7.out.trans (b9.mono HB7.out.size)
    have HW8 := Lib.hid hW8
    have KS : Hid (Calls Tryz.prog 25 #[mv M, mv M'] W8 fun r w' => r = .returned (.bool true) ∧ Below W8.heap.size W8 w') := by
      refine (rmsame_any M M' W8 HE8.out HF8.out (wide_n HWD.out) (wide_n wd8)).mono fun r w' ⟨h1, h2⟩ => ⟨?_, h2⟩
      rw [h1, HSAME.out]
    clear e8 b8 k1 k2 hW8 bb8 b9 wd8 HE7 HM7 HB7 HSAME HE8 HF8 HG1 HG2
    have x0 : W8.cell? ⟨w7.heap.size, 0, none⟩ = some (.int .i64 M.kind) := cell_of_row W8 _ 0 _ 44 (0, 0) HM8.out
    have x1 : W8.cell? ⟨w7.heap.size, 1, none⟩ = some (.int .i64 M.frm) := cell_of_row W8 _ 1 _ 44 (0, 0) HM8.out
    have x2 : W8.cell? ⟨w7.heap.size, 2, none⟩ = some (.int .i64 M.dst) := cell_of_row W8 _ 2 _ 44 (0, 0) HM8.out
    have x3 : W8.cell? ⟨w7.heap.size, 3, none⟩ = some (.int .u64 M.term) := cell_of_row W8 _ 3 _ 44 (0, 0) HM8.out
    have x4 : W8.cell? ⟨w7.heap.size, 4, none⟩ = some (.int .u64 M.index) := cell_of_row W8 _ 4 _ 44 (0, 0) HM8.out
    have x5 : W8.cell? ⟨w7.heap.size, 5, none⟩ = some (.int .u64 M.prev) := cell_of_row W8 _ 5 _ 44 (0, 0) HM8.out
    have x6 : W8.cell? ⟨w7.heap.size, 6, none⟩ = some (.int .u64 M.commit) := cell_of_row W8 _ 6 _ 44 (0, 0) HM8.out
    have x7 : W8.cell? ⟨w7.heap.size, 7, none⟩ = some (.int .u64 M.mark) := cell_of_row W8 _ 7 _ 44 (0, 0) HM8.out
    have x8 : W8.cell? ⟨w7.heap.size, 8, none⟩ = some (.bool M.ok) := cell_of_row W8 _ 8 _ 44 (0, 0) HM8.out
    have x9 : W8.cell? ⟨w7.heap.size, 9, none⟩ = some (.slice M.A M.n M.c) := cell_of_row W8 _ 9 _ 44 (0, 0) HM8.out
    have x10 : W8.cell? ⟨w7.heap.size, 10, none⟩ = some (.string M.snap) := cell_of_row W8 _ 10 _ 44 (0, 0) HM8.out
    have y0 : W8.cell? ⟨w8.heap.size, 0, none⟩ = some (.int .i64 M'.kind) := cell_of_row W8 _ 0 _ 44 (0, 0) HN8.out
    have y1 : W8.cell? ⟨w8.heap.size, 1, none⟩ = some (.int .i64 M'.frm) := cell_of_row W8 _ 1 _ 44 (0, 0) HN8.out
    have y2 : W8.cell? ⟨w8.heap.size, 2, none⟩ = some (.int .i64 M'.dst) := cell_of_row W8 _ 2 _ 44 (0, 0) HN8.out
    have y3 : W8.cell? ⟨w8.heap.size, 3, none⟩ = some (.int .u64 M'.term) := cell_of_row W8 _ 3 _ 44 (0, 0) HN8.out
    have y4 : W8.cell? ⟨w8.heap.size, 4, none⟩ = some (.int .u64 M'.index) := cell_of_row W8 _ 4 _ 44 (0, 0) HN8.out
    have y5 : W8.cell? ⟨w8.heap.size, 5, none⟩ = some (.int .u64 M'.prev) := cell_of_row W8 _ 5 _ 44 (0, 0) HN8.out
    have y6 : W8.cell? ⟨w8.heap.size, 6, none⟩ = some (.int .u64 M'.commit) := cell_of_row W8 _ 6 _ 44 (0, 0) HN8.out
    have y7 : W8.cell? ⟨w8.heap.size, 7, none⟩ = some (.int .u64 M'.mark) := cell_of_row W8 _ 7 _ 44 (0, 0) HN8.out
    have y8 : W8.cell? ⟨w8.heap.size, 8, none⟩ = some (.bool M'.ok) := cell_of_row W8 _ 8 _ 44 (0, 0) HN8.out
    have y9 : W8.cell? ⟨w8.heap.size, 9, none⟩ = some (.slice M'.A M'.n M'.c) := cell_of_row W8 _ 9 _ 44 (0, 0) HN8.out
    have y10 : W8.cell? ⟨w8.heap.size, 10, none⟩ = some (.string M'.snap) := cell_of_row W8 _ 10 _ 44 (0, 0) HN8.out
    cases mb <;> cases gk
    all_goals
      go_upto_region 10 with fail
      rw [← HW8.out]
      go_wp2_with fail
      refine KS.out.mono ?_
      rintro r w9 ⟨rfl, b9⟩
      go_wp2
      go_ret
      exact ⟨rfl, HB8.out.trans (b9.mono HB8.out.size)⟩
end Go.Proofs.YtmalcldpihpfpaaGreat
namespace Go.Proofs.YtmalcldpihpfpaaGreat
open Go.ChangeShapes Go.WideShapes Go.ChangeAt Go.RowKit
open Go.ChangeMaps (open_string shut_string)
set_option linter.unusedVariables false

theorem secondMsgs_own : ownKnob Tryz.prog.godebug = none := by kernel_rfl

set_option maxRecDepth 100000 in
theorem secondMsgs_lifted (os : Os) (started : os.Started) (H : Type) (enc : TypeId × Value → H) :
    ReturnsInHanded {} Tryz.checked os 4 .any (Rows.secondMsgsSpec.pre6 enc Tryz.prog Tryz.f4 Rows.secondMsgsRow.domain false) (Rows.secondMsgsSpec.post enc Tryz.prog Tryz.f4 false true false false) := by
  refine returnsInHanded_of_change_sized (C := Tryz.checked) secondMsgs_own started (by kernel_rfl) Tryz.func4
    (ChangeSpec.witness6 (enc := enc) (C := Tryz.checked) false ⟨#[], #[.agg #[.int .i64 0, .int .i64 0, .int .i64 0, .int .u64 0, .int .u64 0, .int .u64 0, .int .u64 0, .int .u64 0, .bool false, .slice none 0 0, .string ByteArray.empty, .bool false, .slice none 0 0], .string ByteArray.empty, .bool false, .int .i64 0, .int .u8 0], []⟩ 8 (by kernel_rfl) (by kernel_rfl) (by kernel_rfl) (by kernel_rfl)) ?_
  intro W base args ds gs before hval0 hW hcnd hsz0 _
  have hval : ∀ (j : Nat) t v, Tryz.f4.params[j]? = some t → args[j]? = some v → Value.okWide Tryz.prog W .any base t v := hval0
  have hsz : (DataW.weightsEach Tryz.prog (Tryz.f4.params.toList ++ Rows.secondMsgsSpec.plain.varTypes Tryz.prog) (ds ++ gs)).all (· ≤ reachBytes) = true := hsz0
  have hW' := hW
  obtain ⟨p, q, hA0, hV, rfl, hfz, hnd⟩ := hW
  have hA : DataW.TrodAll enc Tryz.prog W 0 (fun _ => true) true Tryz.f4.params.toList args.toList ds p := hA0
  rw [Tryz.params4] at hA hval hsz
  obtain ⟨v0, vs0, d0, ds0, p0, q0, hargs, rfl, rfl, h0, r0⟩ := trodAll_cons hA
  obtain ⟨v1, vs1, d1, ds1, p1, q1, rfl, rfl, rfl, h1, r1⟩ := trodAll_cons r0
  obtain ⟨v2, vs2, d2, ds2, p2, q2, rfl, rfl, rfl, h2, r2⟩ := trodAll_cons r1
  obtain ⟨v3, vs3, d3, ds3, p3, q3, rfl, rfl, rfl, h3, r3⟩ := trodAll_cons r2
  obtain ⟨v4, vs4, d4, ds4, p4, q4, rfl, rfl, rfl, h4, r4⟩ := trodAll_cons r3
  obtain ⟨rfl, rfl, rfl⟩ := trodAll_nil r4
  obtain rfl : args = #[v0, v1, v2, v3, v4] := by cases args; simp_all
  obtain ⟨rfl, rfl⟩ := trodVars_none hV
  obtain ⟨m0, o0, A0, n0, c0, L0, rfl, k0⟩ := open_note (hval 0 47 v0 rfl rfl) h0 (fun n hn => of_decide_eq_true (List.all_eq_true.1 hsz n (DataW.weights_mem_each (j := 0) (t := 47) rfl rfl n hn)))
  obtain ⟨a1, rfl, rfl, rfl, w1⟩ := open_string Tryz.underlying9 (hval 1 9 v1 rfl rfl) h1
  have z1 : a1.size ≤ 140737488351232 := by
    have hq := sized_string hsz (j := 1) (t := 9) rfl rfl
    simp only [reachBytes, Array.length_toList] at hq
    exact hq
  obtain ⟨a2, rfl, rfl, rfl⟩ := open_bool Tryz.underlying4 (hval 2 4 v2 rfl rfl) h2
  obtain ⟨a3, rfl, rfl, rfl, w3⟩ := open_int Tryz.underlying3 (hval 3 3 v3 rfl rfl) h3
  have z3 : -9223372036854775808 ≤ a3 ∧ a3 ≤ 9223372036854775807 := by have y := bounds_i64 w3; omega
  obtain ⟨a4, rfl, rfl, rfl, w4⟩ := open_int Tryz.underlying5 (hval 4 5 v4 rfl rfl) h4
  have y4 := bounds_u8 w4
  obtain ⟨n4, rfl⟩ := Int.eq_ofNat_of_zero_le y4.1
  have z4 : n4 < 256 := by omega
  clear hA0 hval0 hsz0
  simp only [List.append_nil] at hW'
  refine (lmsgs_any m0 o0 A0 n0 c0 L0 a1 a2 a3 n4 W k0 z1 z3 z4).mono fun e W' ⟨he, bel⟩ => ?_
  subst he
  exact ⟨_, rfl, _, _, _, [], _, [], hW', trodAll_mk1 (shut_bool Tryz.underlying4 _), (trodAll_cons_mk (Below.trod seat_laidOut (by kernel_rfl) (of_decide_eq_true (by kernel_rfl)) h0 bel (fun x hx => by simpa using hW'.lt x (by simp [hx]))) (trodAll_cons_mk (shut_string Tryz.underlying9 w1) (trodAll_cons_mk (shut_bool Tryz.underlying4 a2) (trodAll_cons_mk (shut_int Tryz.underlying3 w3) (trodAll_cons_mk (shut_int Tryz.underlying5 w4) trodAll_mk0))))), rfl, bel.frame _, fun h => by cases h⟩

theorem secondMsgs_holds : Rows.SecondMsgsSaid :=
  OpenClaim.holds_of_wide 4 Tryz.f4 rfl rfl rfl rfl rfl rfl rfl ⟨rfl, rfl, rfl, rfl, rfl⟩ rfl rfl rfl rfl rfl (by kernel_rfl) Tryz.func4 (by kernel_rfl)
    (of_decide_eq_true (by kernel_rfl)) (by unfold Func.isWrapper; first | (rw [if_pos (by decide +kernel)]; kernel_rfl) | (rw [if_neg (by decide +kernel)]; exact ⟨rfl, rfl⟩))
    (fun os started H enc _ => secondMsgs_lifted os started H enc)

end Go.Proofs.YtmalcldpihpfpaaGreat
