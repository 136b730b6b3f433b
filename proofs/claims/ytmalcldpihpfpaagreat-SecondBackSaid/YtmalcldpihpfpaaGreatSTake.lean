/-
  The document's own Get: what it reads.
  Conditions: the reader's text has at most 2^48 bytes.
-/
import Derived.Test.YtmalcldpihpfpaaGreatSRef
namespace Go.Proofs.YtmalcldpihpfpaaGreat
open Go.RowKit
open Vi
set_option linter.unusedVariables false
set_option linter.unusedSimpArgs false

structure Tr (w0 : World) (g q : Nat) (E : En) (T : ByteArray) (b : Bool) (w : World) : Prop where
  hr : Rd 39 g T b w
  al : w.heap[q]? = some (.cells (ec E) 24 (0, 0))
  fr : w0.grownBy w (some g)
  lg : g < w0.heap.size
  lq : w0.heap.size ≤ q
  sz : T.size ≤ 281474976710656
  sn : Vi.Sane T b
section
variable {w0 w w1 : World} {g q : Nat} {E E' : En} {T T' : ByteArray} {b b' : Bool}
theorem Tr.call (h : Tr w0 g q E T b w) (hb : Below w.heap.size w w1) : Tr w0 g q E T b w1 :=
  ⟨h.hr.below hb h.hr.lt, (hb.block _ (Array.getElem?_eq_some_iff.1 h.al).1).trans h.al, gb_below h.fr hb, h.lg, h.lq, h.sz, h.sn⟩
theorem Tr.step (h : Tr w0 g q E T b w) (hx : Rd 39 g T' b' w1) (hf : w.grownBy w1 (some g)) (hT : T'.size ≤ T.size) (hs : Vi.Sane T' b') : Tr w0 g q E T' b' w1 := by
  have h1 := h.lg
  have h2 := h.lq
  exact ⟨hx, (hf.block _ (Array.getElem?_eq_some_iff.1 h.al).1 (by simp; omega)).trans h.al, h.fr.trans hf, h.lg, h.lq, Nat.le_trans hT h.sz, hs⟩
theorem Tr.cell (h : Tr w0 g q E T b w) (i : Nat) : w.cell? ⟨q, i, none⟩ = (ec E)[i]? := cell_of_row w _ i _ 24 (0, 0) h.al
theorem Tr.fz (h : Tr w0 g q E T b w) (i : Nat) : w.frozen? ⟨q, i, none⟩ = false := Lib.frozen_of_heap h.al i
theorem Tr.set (h : Tr w0 g q E T b w) (i : Nat) (v : Value) (he : (ec E).setIfInBounds i v = ec E') : Tr w0 g q E' T b (w.setCell ⟨q, i, none⟩ v) := by
  have h1 := h.lg
  have h2 := h.lq
  refine ⟨rd_set h.hr (by simp; omega), ?_, gb_set h.fr (by simp; omega), h.lg, h.lq, h.sz, h.sn⟩
  rw [← he]; exact set_blk h.al i v
end
section
set_option maxRecDepth 100000
set_option maxHeartbeats 1000000
variable (w0 : World) (g q : Nat) (E : En) (T : ByteArray) (b : Bool) (w : World)
theorem tr_var (h : Tr w0 g q E T b w) :
    Calls Tryz.prog 38 #[.pointer (some ⟨g, 0, none⟩)] w fun e w' => e = .returned (.int .u64 (varV T)) ∧ Tr w0 g q E (varT T) (b || !varO T) w' :=
  (rvar_any g T b w h.hr h.sz).mono fun e w' ⟨h1, h2, h3⟩ => ⟨h1, h.step h2 h3 (varT_size T) (Vi.sane_var _ _ h.sn)⟩
theorem tr_fail (h : Tr w0 g q E T b w) :
    Calls Tryz.prog 40 #[.pointer (some ⟨g, 0, none⟩)] w fun e w' => e = .returned (.tuple #[]) ∧ Tr w0 g q E ⟨#[]⟩ true w' :=
  (rfail_any g T b w h.hr).mono fun e w' ⟨h1, h2, h3⟩ => ⟨h1, h.step h2 h3 (Nat.zero_le _) (fun _ => rfl)⟩
theorem tr_tex (h : Tr w0 g q E T b w) :
    Calls Tryz.prog 77 #[.pointer (some ⟨g, 0, none⟩)] w fun e w' => e = .returned (.string (texV T)) ∧ Tr w0 g q E (texT T) (b || !texO T) w' :=
  (rtextr_any g T b w h.hr h.sn h.sz).mono fun e w' ⟨h1, h2, h3⟩ => ⟨h1, h.step h2 h3 (texT_le T) (Vi.sane_tex _ _ h.sn)⟩
theorem rtake1_any (h : Tr w0 g q E T b w) :
    Calls Tryz.prog 39 #[.pointer (some ⟨g, 0, none⟩), .pointer (some ⟨q, 0, none⟩), .int .u64 1] w fun e w' => e = .returned (.tuple #[]) ∧ Tr w0 g q (fR 1 E T).1 (fR 1 E T).2.1 (b || !(fR 1 E T).2.2) w' := by
  have K := Lib.hid (tr_var w0 g q E T b w h)
  have HC : Hid (fR 1 E T = (setR 1 E (varV T), varT T, varO T)) := by show _ = _; unfold fR; rw [if_neg (by omega), if_pos (by omega)]
  rw [HC.out]
  have hvl := varV_lt T
  obtain ⟨n, hn⟩ : ∃ n, n = varV T := ⟨_, rfl⟩
  rw [← hn] at K hvl ⊢
  have HSET : Hid (∀ T' b' W, Tr w0 g q E T' b' W → Tr w0 g q (setR 1 E n) T' b' (W.setCell ⟨q, 2, none⟩ (.int .i64 ((n % 1000 : Nat) : Int)))) := fun T' b' W hW => hW.set 2 _ (by simp [setR, setN])
  have e1 : IntKind.i64.wrap ((n : Int) % 1000) = ((n % 1000 : Nat) : Int) := by rw [IntWalk.i64_in _ (by omega)]; omega
  have e2 : (n : Int).tmod 1000 = (n : Int) % 1000 := Int.tmod_eq_emod_of_nonneg (by omega)
  clear HC h hn
  go_enter Tryz.func39, Tryz.ntmps39
  go_wp2_with fail
  refine K.out.mono ?_
  rintro e w2 ⟨rfl, h2⟩
  have cq : w2.cell? ⟨q, 2, none⟩ = some (.int .i64 E.kind) := h2.cell 2
  have fq := h2.fz 2
  have H2 := Lib.hid h2
  clear h2
  go_wp2
  first | go_end0 | refine bodyPost_ret (results_none rfl _ _ _) rfl ?_
  exact ⟨rfl, HSET.out _ _ _ H2.out⟩
theorem rtake2_any (h : Tr w0 g q E T b w) :
    Calls Tryz.prog 39 #[.pointer (some ⟨g, 0, none⟩), .pointer (some ⟨q, 0, none⟩), .int .u64 2] w fun e w' => e = .returned (.tuple #[]) ∧ Tr w0 g q (fR 2 E T).1 (fR 2 E T).2.1 (b || !(fR 2 E T).2.2) w' := by
  have K := Lib.hid (tr_var w0 g q E T b w h)
  have HC : Hid (fR 2 E T = (setR 2 E (varV T), varT T, varO T)) := by show _ = _; unfold fR; rw [if_neg (by omega), if_pos (by omega)]
  rw [HC.out]
  have hvl := varV_lt T
  obtain ⟨n, hn⟩ : ∃ n, n = varV T := ⟨_, rfl⟩
  rw [← hn] at K hvl ⊢
  have HSET : Hid (∀ T' b' W, Tr w0 g q E T' b' W → Tr w0 g q (setR 2 E n) T' b' (W.setCell ⟨q, 0, none⟩ (.int .u64 ((n : Nat) : Int)))) := fun T' b' W hW => hW.set 0 _ (by simp [setR, setN])
  clear HC h hn
  go_enter Tryz.func39, Tryz.ntmps39
  go_wp2_with fail
  refine K.out.mono ?_
  rintro e w2 ⟨rfl, h2⟩
  have cq : w2.cell? ⟨q, 0, none⟩ = some (.int .u64 E.term) := h2.cell 0
  have fq := h2.fz 0
  have H2 := Lib.hid h2
  clear h2
  go_wp2
  first | go_end0 | refine bodyPost_ret (results_none rfl _ _ _) rfl ?_
  exact ⟨rfl, HSET.out _ _ _ H2.out⟩
theorem rtake3_any (h : Tr w0 g q E T b w) :
    Calls Tryz.prog 39 #[.pointer (some ⟨g, 0, none⟩), .pointer (some ⟨q, 0, none⟩), .int .u64 3] w fun e w' => e = .returned (.tuple #[]) ∧ Tr w0 g q (fR 3 E T).1 (fR 3 E T).2.1 (b || !(fR 3 E T).2.2) w' := by
  have K := Lib.hid (tr_var w0 g q E T b w h)
  have HC : Hid (fR 3 E T = (setR 3 E (varV T), varT T, varO T)) := by show _ = _; unfold fR; rw [if_neg (by omega), if_pos (by omega)]
  rw [HC.out]
  have hvl := varV_lt T
  obtain ⟨n, hn⟩ : ∃ n, n = varV T := ⟨_, rfl⟩
  rw [← hn] at K hvl ⊢
  have HSET : Hid (∀ T' b' W, Tr w0 g q E T' b' W → Tr w0 g q (setR 3 E n) T' b' (W.setCell ⟨q, 1, none⟩ (.int .u64 ((n : Nat) : Int)))) := fun T' b' W hW => hW.set 1 _ (by simp [setR, setN])
  clear HC h hn
  go_enter Tryz.func39, Tryz.ntmps39
  go_wp2_with fail
  refine K.out.mono ?_
  rintro e w2 ⟨rfl, h2⟩
  have cq : w2.cell? ⟨q, 1, none⟩ = some (.int .u64 E.index) := h2.cell 1
  have fq := h2.fz 1
  have H2 := Lib.hid h2
  clear h2
  go_wp2
  first | go_end0 | refine bodyPost_ret (results_none rfl _ _ _) rfl ?_
  exact ⟨rfl, HSET.out _ _ _ H2.out⟩
theorem rtake4_any (h : Tr w0 g q E T b w) :
    Calls Tryz.prog 39 #[.pointer (some ⟨g, 0, none⟩), .pointer (some ⟨q, 0, none⟩), .int .u64 4] w fun e w' => e = .returned (.tuple #[]) ∧ Tr w0 g q (fR 4 E T).1 (fR 4 E T).2.1 (b || !(fR 4 E T).2.2) w' := by
  have K := Lib.hid (tr_var w0 g q E T b w h)
  have HC : Hid (fR 4 E T = (setR 4 E (varV T), varT T, varO T)) := by show _ = _; unfold fR; rw [if_neg (by omega), if_pos (by omega)]
  rw [HC.out]
  have hvl := varV_lt T
  obtain ⟨n, hn⟩ : ∃ n, n = varV T := ⟨_, rfl⟩
  rw [← hn] at K hvl ⊢
  have HSET : Hid (∀ T' b' W, Tr w0 g q E T' b' W → Tr w0 g q (setR 4 E n) T' b' (W.setCell ⟨q, 3, none⟩ (.int .u64 ((n : Nat) : Int)))) := fun T' b' W hW => hW.set 3 _ (by simp [setR, setN])
  clear HC h hn
  go_enter Tryz.func39, Tryz.ntmps39
  go_wp2_with fail
  refine K.out.mono ?_
  rintro e w2 ⟨rfl, h2⟩
  have cq : w2.cell? ⟨q, 3, none⟩ = some (.int .u64 E.client) := h2.cell 3
  have fq := h2.fz 3
  have H2 := Lib.hid h2
  clear h2
  go_wp2
  first | go_end0 | refine bodyPost_ret (results_none rfl _ _ _) rfl ?_
  exact ⟨rfl, HSET.out _ _ _ H2.out⟩
theorem rtake5_any (h : Tr w0 g q E T b w) :
    Calls Tryz.prog 39 #[.pointer (some ⟨g, 0, none⟩), .pointer (some ⟨q, 0, none⟩), .int .u64 5] w fun e w' => e = .returned (.tuple #[]) ∧ Tr w0 g q (fR 5 E T).1 (fR 5 E T).2.1 (b || !(fR 5 E T).2.2) w' := by
  have K := Lib.hid (tr_var w0 g q E T b w h)
  have HC : Hid (fR 5 E T = (setR 5 E (varV T), varT T, varO T)) := by show _ = _; unfold fR; rw [if_neg (by omega), if_pos (by omega)]
  rw [HC.out]
  have hvl := varV_lt T
  obtain ⟨n, hn⟩ : ∃ n, n = varV T := ⟨_, rfl⟩
  rw [← hn] at K hvl ⊢
  have HSET : Hid (∀ T' b' W, Tr w0 g q E T' b' W → Tr w0 g q (setR 5 E n) T' b' (W.setCell ⟨q, 4, none⟩ (.int .u64 ((n : Nat) : Int)))) := fun T' b' W hW => hW.set 4 _ (by simp [setR, setN])
  clear HC h hn
  go_enter Tryz.func39, Tryz.ntmps39
  go_wp2_with fail
  refine K.out.mono ?_
  rintro e w2 ⟨rfl, h2⟩
  have cq : w2.cell? ⟨q, 4, none⟩ = some (.int .u64 E.seq) := h2.cell 4
  have fq := h2.fz 4
  have H2 := Lib.hid h2
  clear h2
  go_wp2
  first | go_end0 | refine bodyPost_ret (results_none rfl _ _ _) rfl ?_
  exact ⟨rfl, HSET.out _ _ _ H2.out⟩
theorem rtake6_any (h : Tr w0 g q E T b w) :
    Calls Tryz.prog 39 #[.pointer (some ⟨g, 0, none⟩), .pointer (some ⟨q, 0, none⟩), .int .u64 6] w fun e w' => e = .returned (.tuple #[]) ∧ Tr w0 g q (fR 6 E T).1 (fR 6 E T).2.1 (b || !(fR 6 E T).2.2) w' := by
  have K := Lib.hid (tr_var w0 g q E T b w h)
  have HC : Hid (fR 6 E T = (setR 6 E (varV T), varT T, varO T)) := by show _ = _; unfold fR; rw [if_neg (by omega), if_pos (by omega)]
  rw [HC.out]
  have hvl := varV_lt T
  obtain ⟨n, hn⟩ : ∃ n, n = varV T := ⟨_, rfl⟩
  rw [← hn] at K hvl ⊢
  have HSET : Hid (∀ T' b' W, Tr w0 g q E T' b' W → Tr w0 g q (setR 6 E n) T' b' (W.setCell ⟨q, 5, none⟩ (.int .u64 ((n : Nat) : Int)))) := fun T' b' W hW => hW.set 5 _ (by simp [setR, setN])
  clear HC h hn
  go_enter Tryz.func39, Tryz.ntmps39
  go_wp2_with fail
  refine K.out.mono ?_
  rintro e w2 ⟨rfl, h2⟩
  have cq : w2.cell? ⟨q, 5, none⟩ = some (.int .u64 E.block) := h2.cell 5
  have fq := h2.fz 5
  have H2 := Lib.hid h2
  clear h2
  go_wp2
  first | go_end0 | refine bodyPost_ret (results_none rfl _ _ _) rfl ?_
  exact ⟨rfl, HSET.out _ _ _ H2.out⟩
theorem rtake7_any (h : Tr w0 g q E T b w) :
    Calls Tryz.prog 39 #[.pointer (some ⟨g, 0, none⟩), .pointer (some ⟨q, 0, none⟩), .int .u64 7] w fun e w' => e = .returned (.tuple #[]) ∧ Tr w0 g q (fR 7 E T).1 (fR 7 E T).2.1 (b || !(fR 7 E T).2.2) w' := by
  have K := Lib.hid (tr_var w0 g q E T b w h)
  have HC : Hid (fR 7 E T = (setR 7 E (varV T), varT T, varO T)) := by show _ = _; unfold fR; rw [if_neg (by omega), if_pos (by omega)]
  rw [HC.out]
  have hvl := varV_lt T
  obtain ⟨n, hn⟩ : ∃ n, n = varV T := ⟨_, rfl⟩
  rw [← hn] at K hvl ⊢
  have HSET : Hid (∀ T' b' W, Tr w0 g q E T' b' W → Tr w0 g q (setR 7 E n) T' b' (W.setCell ⟨q, 6, none⟩ (.int .u64 ((n : Nat) : Int)))) := fun T' b' W hW => hW.set 6 _ (by simp [setR, setN])
  clear HC h hn
  go_enter Tryz.func39, Tryz.ntmps39
  go_wp2_with fail
  refine K.out.mono ?_
  rintro e w2 ⟨rfl, h2⟩
  have cq : w2.cell? ⟨q, 6, none⟩ = some (.int .u64 E.many) := h2.cell 6
  have fq := h2.fz 6
  have H2 := Lib.hid h2
  clear h2
  go_wp2
  first | go_end0 | refine bodyPost_ret (results_none rfl _ _ _) rfl ?_
  exact ⟨rfl, HSET.out _ _ _ H2.out⟩
theorem rtake8_any (h : Tr w0 g q E T b w) :
    Calls Tryz.prog 39 #[.pointer (some ⟨g, 0, none⟩), .pointer (some ⟨q, 0, none⟩), .int .u64 8] w fun e w' => e = .returned (.tuple #[]) ∧ Tr w0 g q (fR 8 E T).1 (fR 8 E T).2.1 (b || !(fR 8 E T).2.2) w' := by
  have K := Lib.hid (tr_var w0 g q E T b w h)
  have HC : Hid (fR 8 E T = (setR 8 E (varV T), varT T, varO T)) := by show _ = _; unfold fR; rw [if_neg (by omega), if_pos (by omega)]
  rw [HC.out]
  have hvl := varV_lt T
  obtain ⟨n, hn⟩ : ∃ n, n = varV T := ⟨_, rfl⟩
  rw [← hn] at K hvl ⊢
  have HSET : Hid (∀ T' b' W, Tr w0 g q E T' b' W → Tr w0 g q (setR 8 E n) T' b' (W.setCell ⟨q, 7, none⟩ (.int .i64 ((n % 1000 : Nat) : Int)))) := fun T' b' W hW => hW.set 7 _ (by simp [setR, setN])
  have e1 : IntKind.i64.wrap ((n : Int) % 1000) = ((n % 1000 : Nat) : Int) := by rw [IntWalk.i64_in _ (by omega)]; omega
  have e2 : (n : Int).tmod 1000 = (n : Int) % 1000 := Int.tmod_eq_emod_of_nonneg (by omega)
  clear HC h hn
  go_enter Tryz.func39, Tryz.ntmps39
  go_wp2_with fail
  refine K.out.mono ?_
  rintro e w2 ⟨rfl, h2⟩
  have cq : w2.cell? ⟨q, 7, none⟩ = some (.int .i64 E.node) := h2.cell 7
  have fq := h2.fz 7
  have H2 := Lib.hid h2
  clear h2
  go_wp2
  first | go_end0 | refine bodyPost_ret (results_none rfl _ _ _) rfl ?_
  exact ⟨rfl, HSET.out _ _ _ H2.out⟩
theorem rtake9_any (h : Tr w0 g q E T b w) :
    Calls Tryz.prog 39 #[.pointer (some ⟨g, 0, none⟩), .pointer (some ⟨q, 0, none⟩), .int .u64 9] w fun e w' => e = .returned (.tuple #[]) ∧ Tr w0 g q (fR 9 E T).1 (fR 9 E T).2.1 (b || !(fR 9 E T).2.2) w' := by
  have K := Lib.hid (tr_var w0 g q E T b w h)
  have HC : Hid (fR 9 E T = (setR 9 E (varV T), varT T, varO T)) := by show _ = _; unfold fR; rw [if_neg (by omega), if_pos (by omega)]
  rw [HC.out]
  have hvl := varV_lt T
  obtain ⟨n, hn⟩ : ∃ n, n = varV T := ⟨_, rfl⟩
  rw [← hn] at K hvl ⊢
  have HSET : Hid (∀ T' b' W, Tr w0 g q E T' b' W → Tr w0 g q (setR 9 E n) T' b' (W.setCell ⟨q, 8, none⟩ (.int .i64 ((n % 1000 : Nat) : Int)))) := fun T' b' W hW => hW.set 8 _ (by simp [setR, setN])
  have e1 : IntKind.i64.wrap ((n : Int) % 1000) = ((n % 1000 : Nat) : Int) := by rw [IntWalk.i64_in _ (by omega)]; omega
  have e2 : (n : Int).tmod 1000 = (n : Int) % 1000 := Int.tmod_eq_emod_of_nonneg (by omega)
  clear HC h hn
  go_enter Tryz.func39, Tryz.ntmps39
  go_wp2_with fail
  refine K.out.mono ?_
  rintro e w2 ⟨rfl, h2⟩
  have cq : w2.cell? ⟨q, 8, none⟩ = some (.int .i64 E.level) := h2.cell 8
  have fq := h2.fz 8
  have H2 := Lib.hid h2
  clear h2
  go_wp2
  first | go_end0 | refine bodyPost_ret (results_none rfl _ _ _) rfl ?_
  exact ⟨rfl, HSET.out _ _ _ H2.out⟩
theorem rtake10_any (h : Tr w0 g q E T b w) :
    Calls Tryz.prog 39 #[.pointer (some ⟨g, 0, none⟩), .pointer (some ⟨q, 0, none⟩), .int .u64 10] w fun e w' => e = .returned (.tuple #[]) ∧ Tr w0 g q (fR 10 E T).1 (fR 10 E T).2.1 (b || !(fR 10 E T).2.2) w' := by
  have K := Lib.hid (tr_tex w0 g q E T b w h)
  have HC : Hid (fR 10 E T = (setT 10 E (texV T), texT T, texO T)) := by show _ = _; unfold fR; rw [if_pos (by omega)]
  rw [HC.out]
  obtain ⟨d, hd⟩ : ∃ d, d = texV T := ⟨_, rfl⟩
  rw [← hd] at K ⊢
  have HSET : Hid (∀ T' b' W, Tr w0 g q E T' b' W → Tr w0 g q (setT 10 E d) T' b' (W.setCell ⟨q, 9, none⟩ (.string d))) := fun T' b' W hW => hW.set 9 _ (by simp [setT])
  clear HC h hd
  go_enter Tryz.func39, Tryz.ntmps39
  go_wp2_with fail
  refine K.out.mono ?_
  rintro e w2 ⟨rfl, h2⟩
  have cq : w2.cell? ⟨q, 9, none⟩ = some (.string E.data) := h2.cell 9
  have fq := h2.fz 9
  have H2 := Lib.hid h2
  clear h2
  go_wp2
  refine bodyPost_ret (results_none rfl _ _ _) rfl ?_
  exact ⟨rfl, HSET.out _ _ _ H2.out⟩
theorem rtake11_any (h : Tr w0 g q E T b w) :
    Calls Tryz.prog 39 #[.pointer (some ⟨g, 0, none⟩), .pointer (some ⟨q, 0, none⟩), .int .u64 11] w fun e w' => e = .returned (.tuple #[]) ∧ Tr w0 g q (fR 11 E T).1 (fR 11 E T).2.1 (b || !(fR 11 E T).2.2) w' := by
  have K := Lib.hid (tr_tex w0 g q E T b w h)
  have HC : Hid (fR 11 E T = (setT 11 E (texV T), texT T, texO T)) := by show _ = _; unfold fR; rw [if_pos (by omega)]
  rw [HC.out]
  obtain ⟨d, hd⟩ : ∃ d, d = texV T := ⟨_, rfl⟩
  rw [← hd] at K ⊢
  have HSET : Hid (∀ T' b' W, Tr w0 g q E T' b' W → Tr w0 g q (setT 11 E d) T' b' (W.setCell ⟨q, 10, none⟩ (.string d))) := fun T' b' W hW => hW.set 10 _ (by simp [setT])
  clear HC h hd
  go_enter Tryz.func39, Tryz.ntmps39
  go_wp2_with fail
  refine K.out.mono ?_
  rintro e w2 ⟨rfl, h2⟩
  have cq : w2.cell? ⟨q, 10, none⟩ = some (.string E.old) := h2.cell 10
  have fq := h2.fz 10
  have H2 := Lib.hid h2
  clear h2
  go_wp2
  refine bodyPost_ret (results_none rfl _ _ _) rfl ?_
  exact ⟨rfl, HSET.out _ _ _ H2.out⟩
theorem rtakeD_any (t : Nat) (ht : 12 ≤ t) (h : Tr w0 g q E T b w) :
    Calls Tryz.prog 39 #[.pointer (some ⟨g, 0, none⟩), .pointer (some ⟨q, 0, none⟩), .int .u64 t] w fun e w' => e = .returned (.tuple #[]) ∧ Tr w0 g q (fR t E T).1 (fR t E T).2.1 (b || !(fR t E T).2.2) w' := by
  have K := Lib.hid (tr_var w0 g q E T b w h)
  have HC : Hid (fR t E T = (E, ⟨#[]⟩, false)) := by show _ = _; unfold fR; rw [if_neg (by omega), if_neg (by omega)]
  rw [HC.out]
  have k1 : ((t : Int) == 1) = false := by simp; omega
  have k2 : ((t : Int) == 2) = false := by simp; omega
  have k3 : ((t : Int) == 3) = false := by simp; omega
  have k4 : ((t : Int) == 4) = false := by simp; omega
  have k5 : ((t : Int) == 5) = false := by simp; omega
  have k6 : ((t : Int) == 6) = false := by simp; omega
  have k7 : ((t : Int) == 7) = false := by simp; omega
  have k8 : ((t : Int) == 8) = false := by simp; omega
  have k9 : ((t : Int) == 9) = false := by simp; omega
  have k10 : ((t : Int) == 10) = false := by simp; omega
  have k11 : ((t : Int) == 11) = false := by simp; omega
  clear HC h ht
  go_enter Tryz.func39, Tryz.ntmps39
  go_wp2_with fail
  refine K.out.mono ?_
  rintro e w2 ⟨rfl, h2⟩
  go_wp2_with fail
  refine (tr_fail w0 g q E _ _ w2 h2).mono ?_
  rintro e w3 ⟨rfl, h3⟩
  go_wp2
  go_end0
  refine ⟨rfl, ?_⟩
  rw [Bool.not_false, Bool.or_true]
  exact h3
end
end Go.Proofs.YtmalcldpihpfpaaGreat
