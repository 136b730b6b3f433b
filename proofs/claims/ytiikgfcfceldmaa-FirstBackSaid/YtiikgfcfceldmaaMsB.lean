/-
  What two readings of one text have in common; the law's note, both ways; the chapter's examples.
  Conditions: named in each theorem.
-/
import Derived.Test.YtiikgfcfceldmaaRGM
import Derived.Test.YtiikgfcfceldmaaRMSame
import Derived.Test.YtiikgfcfceldmaaBend
import Derived.Test.YtiikgfcfceldmaaMkFacts
namespace Go.Proofs.Ytiikgfcfceldmaa
open Go.RowKit
open Vi
set_option linter.unusedVariables false
set_option linter.unusedSimpArgs false

theorem sameB_refl (e : En) : sameB e e = true := by unfold sameB; simp
theorem preB_refl (es : List En) (n : Nat) : preB es es n = true := by
  have key : ∀ l : List En, (List.zipWith sameB l l).all id = true := by
    intro l
    induction l with
    | nil => rfl
    | cons a l ih =>
      rw [List.zipWith_cons_cons, List.all_cons, ih, sameB_refl]
      rfl
  exact key _
theorem msame_at (M : Ms) (A A' : Option Addr) (c c' : Nat) : msameB { M with A := A, c := c } { M with A := A', c := c' } = true := by
  refine (msame_eq (a := { M with A := A, c := c }) (b := { M with A := A', c := c' }) rfl (preB_refl M.es M.n)).trans ?_
  unfold scalB
  simp
theorem mPrs_at (s : ByteArray) (A : Option Addr) (c : Nat) : mPrs s A c = { mPrs s none 0 with A := A, c := c } := by
  simp only [mPrs]
theorem gmsg_same {s : ByteArray} {M M' : Ms} (h1 : gok s = true → ∃ A c, M = mPrs s A c) (h2 : gok s = false → M = mzz) (k1 : gok s = true → ∃ A c, M' = mPrs s A c) (k2 : gok s = false → M' = mzz) : msameB M M' = true := by
  cases hg : gok s with
  | true =>
    obtain ⟨A, c, rfl⟩ := h1 hg
    obtain ⟨A', c', rfl⟩ := k1 hg
    rw [mPrs_at s A c, mPrs_at s A' c']
    exact msame_at _ _ _ _ _
  | false =>
    rw [h2 hg, k2 hg]
    exact msame_at mzz none none 0 0
theorem gok_nil : gok ⟨#[]⟩ = false := by
  cases h : gok ⟨#[]⟩ with
  | false => rfl
  | true =>
    unfold gok at h
    rw [Bool.and_eq_true] at h
    have h2 := (mAll_sizes _ h.1).1
    have h3 : (⟨#[]⟩ : ByteArray).size = 0 := rfl
    rw [h3] at h2
    omega
theorem getMsg_nil (w : World) : Calls Try.prog 22 #[.string ⟨#[]⟩] w fun q w' => q = .returned (.tuple #[mv mzz, .bool false]) ∧ Below w.heap.size w w' := by
  refine (getMsg_any ⟨#[]⟩ w (by show 0 ≤ _; omega)).mono ?_
  rintro q w' ⟨M, h1, _, _, h4, _, h6⟩
  rw [gok_nil] at h1
  rw [h6 gok_nil] at h1
  exact ⟨h1, h4⟩
abbrev x1 : En := ⟨1, 2, 0, 0, 0, 0, 0, 0, 0, ⟨#[]⟩, ⟨#[]⟩⟩
abbrev x2 : En := ⟨1, 1, 11, 1, 0, 0, 0, 0, 0, ⟨#[]⟩, ⟨#[]⟩⟩
theorem x1_ok : x1.Ok := by constructor <;> decide
theorem x2_ok : x2.Ok := by constructor <;> decide
theorem x1_may : mayB x1 = true := by decide +kernel
theorem x2_may : mayB x2 = false := by decide +kernel
theorem x1_put : putS x1 = ⟨#[0, 0, 0, 0, 0, 0, 0, 0, 1, 0, 0, 0, 0, 0, 0, 0, 2, 0, 0, 0, 0, 0, 0, 0, 0, 0, 0, 0, 0, 0, 0, 0, 0, 0, 0, 0, 0, 0, 0, 0, 0, 0, 0, 0, 0, 0, 0, 0, 0, 0, 0, 0, 0, 0, 0, 0, 0, 0, 0, 0, 0, 0, 0, 0, 0, 0, 0, 0, 0, 0, 0, 0, 0, 0, 0, 0, 0, 0, 0, 0, 0, 0, 0, 0, 0, 0, 0, 0, 0, 0, 0, 0, 0, 0, 0, 0, 0, 0, 0, 0, 0, 0, 0, 0, 0, 0, 0, 0, 0, 0]⟩ := by decide +kernel
theorem x2_put : putS x2 = ⟨#[]⟩ := by unfold putS; rw [x2_may]; rfl

set_option maxHeartbeats 2000000 in
set_option maxRecDepth 100000 in
theorem examples_any (w : World) : Calls Try.prog 8 #[] w fun q w' => q = .returned (.bool true) ∧ Below w.heap.size w w' := by
  have K1 : Hid (∀ W, Calls Try.prog 9 #[ev x1] W fun q w' => q = .returned (.tuple #[.string ⟨#[0, 0, 0, 0, 0, 0, 0, 0, 1, 0, 0, 0, 0, 0, 0, 0, 2, 0, 0, 0, 0, 0, 0, 0, 0, 0, 0, 0, 0, 0, 0, 0, 0, 0, 0, 0, 0, 0, 0, 0, 0, 0, 0, 0, 0, 0, 0, 0, 0, 0, 0, 0, 0, 0, 0, 0, 0, 0, 0, 0, 0, 0, 0, 0, 0, 0, 0, 0, 0, 0, 0, 0, 0, 0, 0, 0, 0, 0, 0, 0, 0, 0, 0, 0, 0, 0, 0, 0, 0, 0, 0, 0, 0, 0, 0, 0, 0, 0, 0, 0, 0, 0, 0, 0, 0, 0, 0, 0, 0, 0]⟩, .bool true]) ∧ Below W.heap.size W w') := fun W => (put_any x1 W x1_ok).mono fun q w' ⟨h1, h2⟩ => ⟨by rw [h1, x1_put, x1_may], h2⟩
  have K2 : Hid (∀ W, Calls Try.prog 9 #[ev x2] W fun q w' => q = .returned (.tuple #[.string ⟨#[]⟩, .bool false]) ∧ Below W.heap.size W w') := fun W => (put_any x2 W x2_ok).mono fun q w' ⟨h1, h2⟩ => ⟨by rw [h1, x2_put, x2_may], h2⟩
  have K3 := Lib.hid (fun (W : World) => getMsg_nil W)
  go_enter Try.func8, Try.ntmps8
  go_wp2_with (first
    | (go_at_call 9; (with_reducible refine (K1.out _).mono ?_); rintro q w1 ⟨rfl, b1⟩; have HB1 := Lib.hid b1; clear b1)
    | (go_at_call 9; (with_reducible refine (K2.out _).mono ?_); rintro q w2 ⟨rfl, b2⟩; have HB2 : Hid (Below w.heap.size w w2) := HB1.out.trans (b2.mono HB1.out.size); clear b2)
    | (go_at_call 22; (with_reducible refine (K3.out _).mono ?_); rintro q w3 ⟨rfl, b3⟩; have HB3 : Hid (Below w.heap.size w w3) := HB2.out.trans (b3.mono HB2.out.size); clear b3))
  go_ret
  exact ⟨rfl, HB3.out.alloc HB3.out.size _⟩
theorem Mades.mr {B B' : Nat} {A : Option Addr} {n : Nat} {L : List (En × Bool)} {w : World} (h : Mades B A n L w) (hB : B ≤ B') : Mades B' A n L w :=
  ⟨h.len, fun i e he => by
    obtain ⟨a, hA, h1, hc⟩ := h.at_ i e he
    exact ⟨a, hA, Nat.lt_of_lt_of_le h1 hB, hc⟩⟩
theorem NoteIn.on {w w1 : World} {m : Ms} {LA : Option Addr} {ln : Nat} {L : List (En × Bool)} (h : NoteIn w m LA ln L) (hb : Below w.heap.size w w1) : NoteIn w1 m LA ln L :=
  ⟨h.wd, (h.en.below hb).mr hb.size, (h.md.below hb).mr hb.size, h.ok, h.ll⟩
/-- What the law's note hands back. -/
structure NoteOut (m : Ms) (L : List (En × Bool)) (M : Ms) (w : World) : Prop where
  rt : mrightB M = true
  en : Ents w.heap.size M.A M.n M.es w
  f1 : 1 ≤ M.frm
  f7 : M.frm ≤ 7
  o1 : 1 ≤ M.dst
  o7 : M.dst ≤ 7
  k1 : 1 ≤ M.kind
  k9 : M.kind ≤ 10
  n : (M.n : Int) ≤ 10
  es : ∀ e ∈ M.es, e.Ok ∧ rightB e = true ∧ e.data.size ≤ 64 ∧ e.old.size ≤ 64
  t : M.term = m.term
  i0 : 0 ≤ M.index
  i1 : M.index ≤ 18446744073709551615
  p0 : 0 ≤ M.prev
  p1 : M.prev ≤ 18446744073709551615
  c0 : 0 ≤ M.commit
  c1 : M.commit ≤ 18446744073709551615
  m0 : 0 ≤ M.mark
  m1 : M.mark ≤ 18446744073709551615
  sn : M.snap.size ≤ 200
theorem ite0 {p : Prop} [Decidable p] {x hi : Int} (h0 : 0 ≤ x) (h1 : x ≤ hi) (h2 : 0 ≤ hi) : 0 ≤ (if p then x else 0) ∧ (if p then x else 0) ≤ hi := by
  split <;> omega
theorem NoteOut.wide {m : Ms} {L : List (En × Bool)} {M : Ms} {w : World} (wd : m.Wide) (h : NoteOut m L M w) : M.Wide := by
  have k1 := h.k1
  have k9 := h.k9
  have f1 := h.f1
  have f7 := h.f7
  have o1 := h.o1
  have o7 := h.o7
  have sn := h.sn
  have hn := h.n
  exact ⟨by omega, by omega, by omega, by omega, by omega, by omega, h.t ▸ wd.t0, h.t ▸ wd.t1, h.i0, h.i1, h.p0, h.p1, h.c0, h.c1, h.m0, h.m1, by omega, by omega, fun e he => (h.es e he).1⟩
/-- What the law's note gives, wherever its entries lie. -/
def ML (m : Ms) (own : Bool) (L : List (En × Bool)) (A : Option Addr) (c : Nat) : Ms := if own then nm m L A (nm m L none 0 0).es.length c else m
theorem nm_at (m : Ms) (L : List (En × Bool)) (A : Option Addr) (n c : Nat) : nm m L A n c = { nm m L none n 0 with A := A, c := c } := by
  simp only [nm, npart]
theorem nm_es (m : Ms) (L : List (En × Bool)) (A : Option Addr) (n c : Nat) : (nm m L A n c).es = (nm m L none 0 0).es := by
  simp only [nm, npart]
theorem putM_at (M : Ms) (A : Option Addr) (c : Nat) : putM { M with A := A, c := c } = putM M ∧ mmayB { M with A := A, c := c } = mmayB M := ⟨rfl, rfl⟩
theorem putM_ML (m : Ms) (own : Bool) (L : List (En × Bool)) (A : Option Addr) (c : Nat) : putM (ML m own L A c) = putM (ML m own L none 0) ∧ mmayB (ML m own L A c) = mmayB (ML m own L none 0) := by
  unfold ML
  cases own with
  | false => exact ⟨rfl, rfl⟩
  | true =>
    rw [if_pos rfl, if_pos rfl, nm_at m L A]
    exact putM_at _ _ _
theorem note3 (m : Ms) (own : Bool) (LA : Option Addr) (ln lc : Nat) (L : List (En × Bool)) (w : World) (h : NoteIn w m LA ln L) :
    Calls Try.prog 20 #[nvv m own LA ln lc] w fun r w' => ∃ A c, r = .returned (mv (ML m own L A c)) ∧ Ents w'.heap.size (ML m own L A c).A (ML m own L A c).n (ML m own L A c).es w' ∧ (ML m own L A c).Wide ∧ Below w.heap.size w w' := by
  cases own with
  | false => exact (note_no m LA ln lc w).mono fun r w' ⟨h1, h2⟩ => ⟨none, 0, h1, (h.en.below h2).mr h2.size, h.wd, h2⟩
  | true =>
    refine (note_yes m LA ln lc L w h.md h.ok h.ll).mono ?_
    rintro r w' ⟨A, c, n, hr, hl, hE, hb⟩
    have hN : NoteOut m L (nm m L A n c) w' := by
      refine ⟨nm_right m L A n c h.ok hl h.wd.i0 h.wd.i1 h.wd.p0 h.wd.p1 h.wd.c0 h.wd.c1 h.wd.m0 h.wd.m1 h.wd.s1, hE, (nfrom _).1, (nfrom _).2, (nfrom _).1, (nfrom _).2, (nkind _).1, (nkind _).2, ?_, fun e he => nes_mem h.ok he, rfl, (ite0 h.wd.i0 h.wd.i1 (by omega)).1, (ite0 h.wd.i0 h.wd.i1 (by omega)).2, (ite0 h.wd.p0 h.wd.p1 (by omega)).1, (ite0 h.wd.p0 h.wd.p1 (by omega)).2, (ite0 h.wd.c0 h.wd.c1 (by omega)).1, (ite0 h.wd.c0 h.wd.c1 (by omega)).2, (ite0 h.wd.m0 h.wd.m1 (by omega)).1, (ite0 h.wd.m0 h.wd.m1 (by omega)).2, ?_⟩
      · have := nes_length m L A n c
        rw [hl] at this
        show (n : Int) ≤ 10
        omega
      · show (if hasT (mfl (m.kind % 10 + 1)).data.toList 115 then cut200 m.snap else ⟨#[]⟩ : ByteArray).size ≤ 200
        split
        · exact cut200_size _ h.wd.s1
        · exact Nat.zero_le _
    have hw := hN.wide h.wd
    have hn : n = (nm m L none 0 0).es.length := by rw [← nm_es m L A n c]; exact hl.symm
    have hML : ML m true L A c = nm m L A n c := by unfold ML; rw [if_pos rfl, ← hn]
    refine ⟨A, c, by rw [hML]; exact hr, ?_, by rw [hML]; exact hw, hb⟩
    rw [hML]
    have hes : (nm m L A n c).A = A ∧ (nm m L A n c).n = n := by simp only [nm, npart, and_self]
    rw [hes.1, hes.2]
    exact hE
theorem putM_size {m : Ms} (wd : m.Wide) (hl : m.es.length = m.n) : (putM m).size ≤ 100000 := by
  unfold putM
  split
  · rename_i h
    have hr : mrightB m = true := by
      unfold mmayB at h
      simp only [Bool.and_eq_true] at h
      exact h.1
    have fw := mfew_of wd hr
    have h1 := pbm_size fw hl
    have h2 := fw.n1
    have h3 := fw.s1
    omega
  · exact Nat.zero_le _
end Go.Proofs.Ytiikgfcfceldmaa
