/-
  Shim: what a message of level 2 says at level 1; the list of a message, cloned.
  Conditions: the numbers are those of their kinds.
-/
import Derived.Test.YtpdbeijfchmlgaaMLevel
import Derived.Test.YtpdbeijfchmlgaaMRB01
import Derived.Test.YtpdbeijfchmlgaaMRB10
import Derived.Test.YtpdbeijfchmlgaaMRB00
import Derived.Test.YtpdbeijfchmlgaaNState
import Derived.Test.YtpdbeijfchmlgaaRMRight
import Derived.Test.YtpdbeijfchmlgaaSmall
namespace Go.Proofs.Ytpdbeijfchmlgaa
open Go.RowKit
set_option linter.unusedVariables false
set_option linter.unusedSimpArgs false
theorem wide_n {m : Ms} (wd : m.Wide) : (m.n : Int) ≤ 9223372036854775807 := by have := wd.n1; omega
theorem mright_any (m : Ms) (w : World) (hE : Ents w.heap.size m.A m.n m.es w) (hn : (m.n : Int) ≤ 9223372036854775807) (hok : ∀ e ∈ m.es, e.Ok) :
    Calls Try.prog 36 #[mv m] w fun r w' => r = .returned (.bool (mrightB m)) ∧ Below w.heap.size w w' := by
  by_cases h1 : 1 ≤ m.frm <;> by_cases h2 : 1 ≤ m.dst
  · exact mright_11 m w hE hn hok h1 h2
  · exact mright_10 m w hE hn hok h1 (by omega)
  · exact mright_01 m w hE hn hok (by omega) h2
  · exact mright_00 m w hE hn hok (by omega) (by omega)
theorem flat_one (es : List En) : ∀ u ∈ flat es, u.oneCell' = true := by
  intro u hu
  unfold flat at hu
  rw [List.mem_flatMap] at hu
  obtain ⟨e, _, he⟩ := hu
  simp only [Array.toList] at he
  simp at he
  rcases he with rfl | rfl | rfl | rfl | rfl | rfl | rfl | rfl | rfl | rfl | rfl <;> rfl
theorem ents_news {B : Nat} {a : Addr} {n : Nat} {es : List En} {w : World} (h : Ents B (some a) n es w) : ∀ j u, (flat es)[j]? = some u → w.cell? (a.add j) = some u := by
  intro j u hj
  have hl := flat_length es
  have hlt : j < es.length * 11 := by rw [← hl]; exact (List.getElem?_eq_some_iff.1 hj).1
  have hi : j / 11 < es.length := by omega
  obtain ⟨e, he⟩ : ∃ e, es[j / 11]? = some e := ⟨es[j / 11], List.getElem?_eq_getElem hi⟩
  obtain ⟨a', ha, _, hc⟩ := h.at_ (j / 11) e he
  cases ha
  have h1 := hc (j % 11) (Nat.mod_lt _ (by omega))
  rw [Addr.add_add] at h1
  have h2 := flat_get es (j / 11) e he (j % 11) (Nat.mod_lt _ (by omega))
  have e1 : j / 11 * 11 + j % 11 = j := by omega
  rw [e1] at h1 h2
  rw [h1, ← h2, hj]
theorem ents_none {B : Nat} {n : Nat} {es : List En} {w : World} (h : Ents B none n es w) : es = [] ∧ n = 0 := by
  cases es with
  | nil => exact ⟨rfl, h.len.symm⟩
  | cons e es =>
    obtain ⟨a, ha, _⟩ := h.at_ 0 e rfl
    cases ha
theorem ents_nil (B : Nat) (A : Option Addr) (w : World) : Ents B A 0 [] w := ⟨rfl, fun i e he => by cases he⟩
set_option maxHeartbeats 1000000 in
set_option maxRecDepth 100000 in
theorem clone_es (A : Option Addr) (n c : Nat) (es : List En) (w : World) (hE : Ents w.heap.size A n es w) (hn : n ≤ 1000000) :
    Calls Try.prog 38 #[.slice A n c] w fun q w' => ∃ A' c', q = .returned (.slice A' n c') ∧ Ents w'.heap.size A' n es w' ∧ Below w.heap.size w w' ∧ (∀ a', A' = some a' → w.heap.size ≤ a'.block) := by
  obtain ⟨i75, hi75, hz75, hs75, hb75⟩ := info_parts (show (Try.prog.info? 75).map (fun i => (i.zero, i.size, i.bytes)) = some (some (ev ezz), 11, 104) by kernel_rfl)
  cases A with
  | none =>
    obtain ⟨rfl, rfl⟩ := ents_none hE
    have hsl : ∀ W : World, (binOp .eql 33 (.slice none 0 c) (.slice none 0 0)).run Try.prog W = .ok (.bool true) W := fun W => rfl
    clear hE
    go_enter Try.func38, Try.ntmps38
    go_wp2
    go_ret
    exact ⟨none, 0, rfl, ents_nil _ _ _, Below.refl _ _, fun a h => by cases h⟩
  | some a =>
    have hown : (w.alloc (Obj.cells #[] 75)).ownsRow w.heap.size 75 11 (.slice (some ⟨w.heap.size, 0, none⟩) 0 0) 0 [] := ⟨rfl, .inr ⟨w.heap.size, 0, #[], rfl, Nat.le_refl _, heap_alloc_new w _, Nat.le_refl _, by decide, rfl, rfl⟩⟩
    have hB0 : Below w.heap.size w (w.alloc (Obj.cells #[] 75)) := (Below.refl _ _).alloc (Nat.le_refl _) _
    have hE0 := hE.below hB0
    have hl : (flat es).length = n * 11 := by rw [flat_length, hE.len]
    have hnews := ents_news hE0
    have hsl : ∀ W : World, (binOp .eql 33 (.slice (some a) n c) (.slice none 0 0)).run Try.prog W = .ok (.bool false) W := fun W => rfl
    have HE := Lib.hid hE.len
    have HOW := Lib.hid hown
    have HB0 := Lib.hid hB0
    have HNEWS := Lib.hid hnews
    have HL := Lib.hid hl
    clear hown hB0 hE0 hl hnews hE
    go_enter Try.func38, Try.ntmps38
    go_wp2_with (at_builtin; refine wpList_append_own_at _ rfl _ _ 33 rfl w.heap.size 75 i75 (ev ezz) 11 104 Try.underlying33 hi75 hz75 hs75 hb75 rfl (by omega) (.slice (some ⟨w.heap.size, 0, none⟩) 0 0) 0 [] rfl HOW.out a n c (flat es) rfl HL.out HNEWS.out (flat_one es) (by unfold maxLen; omega) (by omega) (by simp) ?_; intro v' w1 hown1 hgrow hnil hat)
    rw [Nat.zero_add, List.nil_append] at hown1
    have hbel : Below w.heap.size w w1 := HB0.out.grown hgrow (by simp) (fun k hk => by simp [Value.ownBlock] at hk; omega)
    have hform : ∃ A' c', v' = .slice A' n c' ∧ Ents w1.heap.size A' n es w1 ∧ (∀ a', A' = some a' → w.heap.size ≤ a'.block) := by
      rcases hown1.2 with ⟨rfl, h0⟩ | ⟨g, cap, cur, rfl, hg, _⟩
      · subst h0
        have : es = [] := List.eq_nil_of_length_eq_zero HE.out
        subst this
        exact ⟨none, 0, rfl, ents_nil _ _ _, fun a h => by cases h⟩
      · exact ⟨_, _, rfl, ents_of_own hown1 HE.out, fun a h => by cases h; exact hg⟩
    obtain ⟨A', c', rfl, hE', hlo⟩ := hform
    go_ret
    exact ⟨A', c', rfl, hE', hbel, hlo⟩
/-- What a message says at level 1. -/
def shimO (m : Ms) : Bool := mrightB m && (decide (mlvl m = 1) || (decide (m.kind = 9) || decide (m.kind = 10)))
def shimM (m : Ms) : Ms :=
  if shimO m = false then mzz
  else if m.kind = 9 then { mzz with kind := 5, frm := m.frm, dst := m.dst, term := m.term, mark := m.mark }
  else if m.kind = 10 then { mzz with kind := 6, frm := m.frm, dst := m.dst, term := m.term, mark := m.mark, ok := true }
  else m
/-- As a message, wherever its list lies. -/
def Like (M m : Ms) : Prop := ∃ A c, M = { m with A := A, c := c }
def Shimd (m : Ms) (w : World) (q : Ending) (w' : World) : Prop :=
  ∃ M : Ms, q = .returned (.tuple #[mv M, .bool (shimO m)]) ∧ Ents w'.heap.size M.A M.n M.es w' ∧ Like M (shimM m) ∧ Below w.heap.size w w'
theorem like_refl (m : Ms) : Like m m := ⟨m.A, m.c, rfl⟩
theorem mlvl9 {m : Ms} (h : m.kind = 9) : mlvl m = 2 := by unfold mlvl; rw [show (m.kind == 9) = true by simpa using h]; rfl
theorem mlvl10 {m : Ms} (h : m.kind = 10) : mlvl m = 2 := by unfold mlvl; rw [show (m.kind == 10) = true by simpa using h]; simp
theorem blk_al {w : World} {k : Nat} {x : Obj} (o : Obj) (h : w.heap[k]? = some x) : (w.alloc o).heap[k]? = some x := (Lib.alloc_old w o k (Array.getElem?_eq_some_iff.1 h).1).trans h
theorem shimO_no {m : Ms} (h : mrightB m = false) : shimO m = false := by unfold shimO; rw [h]; rfl
theorem shimM_no {m : Ms} (h : shimO m = false) : shimM m = mzz := by unfold shimM; rw [if_pos h]
theorem shim_end {m M : Ms} {w w' : World} {b : Bool} (h1 : Ents w'.heap.size M.A M.n M.es w') (h2 : Like M (shimM m)) (h3 : b = shimO m) (h4 : Below w.heap.size w w') : Shimd m w (.returned (.tuple #[mv M, .bool b])) w' := by
  subst h3
  exact ⟨M, rfl, h1, h2, h4⟩
theorem mzz_ents (B : Nat) (w : World) : Ents B mzz.A mzz.n mzz.es w := ents_nil B none w
theorem mright_n {m : Ms} (wd : m.Wide) (h : mrightB m = true) : m.n ≤ 1000000 := by
  have h1 : masksB m = true := by
    unfold mrightB at h
    rw [Bool.and_eq_true] at h
    exact h.1
  have h2 := ((mask_iff m wd).1 h1).n64
  omega
set_option maxHeartbeats 2000000 in
set_option maxRecDepth 100000 in
theorem shim_no (m : Ms) (w : World) (hE : Ents w.heap.size m.A m.n m.es w) (wd : m.Wide) (hr : mrightB m = false) :
    Calls Try.prog 16 #[mv m] w (Shimd m w) := by
  have hno := shimO_no hr
  have HNO := Lib.hid hno
  obtain ⟨W0, hW0⟩ : ∃ W0, W0 = (w.alloc (Obj.cells (mc m) 35)).alloc (Obj.cells (mc mzz) 35) := ⟨_, rfl⟩
  have b0 : Below w.heap.size w W0 := by rw [hW0]; exact ((Below.refl _ _).alloc (Nat.le_refl _) _).alloc (by simp) _
  have k0 : W0.heap[w.heap.size]? = some (.cells (mc m) 35 (0, 0)) := by rw [hW0]; exact blk_al _ (heap_alloc_new w _)
  have k1 : W0.heap[w.heap.size + 1]? = some (.cells (mc mzz) 35 (0, 0)) := by rw [hW0]; have h := heap_alloc_new (w.alloc (Obj.cells (mc m) 35)) (Obj.cells (mc mzz) 35); simpa using h
  have hE0 := (hE.below b0).mr b0.size
  have KR := Lib.hid (mright_any m W0 hE0 (wide_n wd) wd.eo)
  have KL := Lib.hid (fun (W : World) (h : Ents W.heap.size m.A m.n m.es W) => mlevel_any m W h (wide_n wd))
  have HW := Lib.hid hW0
  have HE := Lib.hid hE0
  have HEW := Lib.hid hE
  have HB0 := Lib.hid b0
  have HK0 := Lib.hid k0
  have HK1 := Lib.hid k1
  have HWD := Lib.hid wd
  clear hW0 b0 k0 k1 hE0
  rw [hr] at KR
  clear hr hno wd hE
  go_enter Try.func16, Try.ntmps16
  go_upto_region 1 with fail
  rw [← HW.out]
  have a0 : W0.cell? ⟨w.heap.size, 0, none⟩ = some (.int .i64 m.kind) := cell_of_row W0 _ 0 _ 35 (0, 0) HK0.out
  have a1 : W0.cell? ⟨w.heap.size, 1, none⟩ = some (.int .i64 m.frm) := cell_of_row W0 _ 1 _ 35 (0, 0) HK0.out
  have a2 : W0.cell? ⟨w.heap.size, 2, none⟩ = some (.int .i64 m.dst) := cell_of_row W0 _ 2 _ 35 (0, 0) HK0.out
  have a3 : W0.cell? ⟨w.heap.size, 3, none⟩ = some (.int .u64 m.term) := cell_of_row W0 _ 3 _ 35 (0, 0) HK0.out
  have a4 : W0.cell? ⟨w.heap.size, 4, none⟩ = some (.int .u64 m.index) := cell_of_row W0 _ 4 _ 35 (0, 0) HK0.out
  have a5 : W0.cell? ⟨w.heap.size, 5, none⟩ = some (.int .u64 m.prev) := cell_of_row W0 _ 5 _ 35 (0, 0) HK0.out
  have a6 : W0.cell? ⟨w.heap.size, 6, none⟩ = some (.int .u64 m.commit) := cell_of_row W0 _ 6 _ 35 (0, 0) HK0.out
  have a7 : W0.cell? ⟨w.heap.size, 7, none⟩ = some (.int .u64 m.mark) := cell_of_row W0 _ 7 _ 35 (0, 0) HK0.out
  have a8 : W0.cell? ⟨w.heap.size, 8, none⟩ = some (.bool m.ok) := cell_of_row W0 _ 8 _ 35 (0, 0) HK0.out
  have a9 : W0.cell? ⟨w.heap.size, 9, none⟩ = some (.slice m.A m.n m.c) := cell_of_row W0 _ 9 _ 35 (0, 0) HK0.out
  have a10 : W0.cell? ⟨w.heap.size, 10, none⟩ = some (.string m.snap) := cell_of_row W0 _ 10 _ 35 (0, 0) HK0.out
  go_wp2_with fail
  refine KR.out.mono ?_
  rintro q w1 ⟨rfl, b1⟩
  have l0 := (Array.getElem?_eq_some_iff.1 HK0.out).1
  have l1 := (Array.getElem?_eq_some_iff.1 HK1.out).1
  have HM : Hid (w1.heap[w.heap.size]? = some (.cells (mc m) 35 (0, 0))) := (b1.block _ l0).trans HK0.out
  have HZ : Hid (w1.heap[w.heap.size + 1]? = some (.cells (mc mzz) 35 (0, 0))) := (b1.block _ l1).trans HK1.out
  have HB : Hid (Below w.heap.size w w1) := HB0.out.trans (b1.mono HB0.out.size)
  have HE1 : Hid (Ents w1.heap.size m.A m.n m.es w1) := (HE.out.below b1).mr b1.size
  clear b1 l0 l1 a0 a1 a2 a3 a4 a5 a6 a7 a8 a9 a10
  have z0 : w1.cell? ⟨w.heap.size + 1, 0, none⟩ = some (.int .i64 0) := cell_of_row w1 _ 0 _ 35 (0, 0) HZ.out
  have z1 : w1.cell? ⟨w.heap.size + 1, 1, none⟩ = some (.int .i64 0) := cell_of_row w1 _ 1 _ 35 (0, 0) HZ.out
  have z2 : w1.cell? ⟨w.heap.size + 1, 2, none⟩ = some (.int .i64 0) := cell_of_row w1 _ 2 _ 35 (0, 0) HZ.out
  have z3 : w1.cell? ⟨w.heap.size + 1, 3, none⟩ = some (.int .u64 0) := cell_of_row w1 _ 3 _ 35 (0, 0) HZ.out
  have z4 : w1.cell? ⟨w.heap.size + 1, 4, none⟩ = some (.int .u64 0) := cell_of_row w1 _ 4 _ 35 (0, 0) HZ.out
  have z5 : w1.cell? ⟨w.heap.size + 1, 5, none⟩ = some (.int .u64 0) := cell_of_row w1 _ 5 _ 35 (0, 0) HZ.out
  have z6 : w1.cell? ⟨w.heap.size + 1, 6, none⟩ = some (.int .u64 0) := cell_of_row w1 _ 6 _ 35 (0, 0) HZ.out
  have z7 : w1.cell? ⟨w.heap.size + 1, 7, none⟩ = some (.int .u64 0) := cell_of_row w1 _ 7 _ 35 (0, 0) HZ.out
  have z8 : w1.cell? ⟨w.heap.size + 1, 8, none⟩ = some (.bool false) := cell_of_row w1 _ 8 _ 35 (0, 0) HZ.out
  have z9 : w1.cell? ⟨w.heap.size + 1, 9, none⟩ = some (.slice none 0 0) := cell_of_row w1 _ 9 _ 35 (0, 0) HZ.out
  have z10 : w1.cell? ⟨w.heap.size + 1, 10, none⟩ = some (.string ⟨#[]⟩) := cell_of_row w1 _ 10 _ 35 (0, 0) HZ.out
  have fz : ∀ i, w1.frozen? ⟨w.heap.size + 1, i, none⟩ = false := fun i => Md.of HZ.out
  go_wp2
  obtain ⟨WF, hWF⟩ : ∃ WF, WF = wrm w1 (w.heap.size + 1) mzz := ⟨_, rfl⟩
  have hblk : WF.heap[w.heap.size + 1]? = some (.cells (mc mzz) 35 (0, 0)) := by rw [hWF]; exact store_allm mzz HZ.out
  have hbF : Below w.heap.size w WF := by rw [hWF]; exact below_allm mzz HB.out (by omega)
  have HEF : Hid (∀ A n es, Ents w.heap.size A n es w → Ents WF.heap.size A n es WF) := fun A n es h => (h.below hbF).mr hbF.size
  have HFB := Lib.hid hbF
  unfold wrm at hWF
  rw [← hWF]
  have HWF := Lib.hid hWF
  clear hWF
  have f0 : WF.cell? ⟨w.heap.size + 1, 0, none⟩ = some (.int .i64 0) := cell_of_row WF _ 0 _ 35 (0, 0) hblk
  have f1 : WF.cell? ⟨w.heap.size + 1, 1, none⟩ = some (.int .i64 0) := cell_of_row WF _ 1 _ 35 (0, 0) hblk
  have f2 : WF.cell? ⟨w.heap.size + 1, 2, none⟩ = some (.int .i64 0) := cell_of_row WF _ 2 _ 35 (0, 0) hblk
  have f3 : WF.cell? ⟨w.heap.size + 1, 3, none⟩ = some (.int .u64 0) := cell_of_row WF _ 3 _ 35 (0, 0) hblk
  have f4 : WF.cell? ⟨w.heap.size + 1, 4, none⟩ = some (.int .u64 0) := cell_of_row WF _ 4 _ 35 (0, 0) hblk
  have f5 : WF.cell? ⟨w.heap.size + 1, 5, none⟩ = some (.int .u64 0) := cell_of_row WF _ 5 _ 35 (0, 0) hblk
  have f6 : WF.cell? ⟨w.heap.size + 1, 6, none⟩ = some (.int .u64 0) := cell_of_row WF _ 6 _ 35 (0, 0) hblk
  have f7 : WF.cell? ⟨w.heap.size + 1, 7, none⟩ = some (.int .u64 0) := cell_of_row WF _ 7 _ 35 (0, 0) hblk
  have f8 : WF.cell? ⟨w.heap.size + 1, 8, none⟩ = some (.bool false) := cell_of_row WF _ 8 _ 35 (0, 0) hblk
  have f9 : WF.cell? ⟨w.heap.size + 1, 9, none⟩ = some (.slice none 0 0) := cell_of_row WF _ 9 _ 35 (0, 0) hblk
  have f10 : WF.cell? ⟨w.heap.size + 1, 10, none⟩ = some (.string ⟨#[]⟩) := cell_of_row WF _ 10 _ 35 (0, 0) hblk
  exact bodyPost_ret (v := .tuple #[mv mzz, .bool false]) (by simp [results, Try.results16, go_sem, f0, f1, f2, f3, f4, f5, f6, f7, f8, f9, f10]) rfl (shim_end (mzz_ents _ _) (by rw [shimM_no HNO.out]; exact like_refl _) HNO.out.symm HFB.out)
set_option maxHeartbeats 2000000 in
set_option maxRecDepth 100000 in
theorem shim_9 (m : Ms) (w : World) (hE : Ents w.heap.size m.A m.n m.es w) (wd : m.Wide) (hr : mrightB m = true) (hk : m.kind = 9) :
    Calls Try.prog 16 #[mv m] w (Shimd m w) := by
  have hyes : shimO m = true := by unfold shimO; rw [hr, decide_eq_true hk]; simp
  have hM : shimM m = (⟨5, m.frm, m.dst, m.term, 0, 0, 0, m.mark, false, none, 0, 0, [], ⟨#[]⟩⟩ : Ms) := by unfold shimM; rw [hyes, if_neg (by decide)]; rw [if_pos hk]
  have HYES := Lib.hid hyes
  have HMM := Lib.hid hM
  obtain ⟨W0, hW0⟩ : ∃ W0, W0 = (w.alloc (Obj.cells (mc m) 35)).alloc (Obj.cells (mc mzz) 35) := ⟨_, rfl⟩
  have b0 : Below w.heap.size w W0 := by rw [hW0]; exact ((Below.refl _ _).alloc (Nat.le_refl _) _).alloc (by simp) _
  have k0 : W0.heap[w.heap.size]? = some (.cells (mc m) 35 (0, 0)) := by rw [hW0]; exact blk_al _ (heap_alloc_new w _)
  have k1 : W0.heap[w.heap.size + 1]? = some (.cells (mc mzz) 35 (0, 0)) := by rw [hW0]; have h := heap_alloc_new (w.alloc (Obj.cells (mc m) 35)) (Obj.cells (mc mzz) 35); simpa using h
  have hE0 := (hE.below b0).mr b0.size
  have KR := Lib.hid (mright_any m W0 hE0 (wide_n wd) wd.eo)
  have KL := Lib.hid (fun (W : World) (h : Ents W.heap.size m.A m.n m.es W) => mlevel_any m W h (wide_n wd))
  have HW := Lib.hid hW0
  have HE := Lib.hid hE0
  have HEW := Lib.hid hE
  have HB0 := Lib.hid b0
  have HK0 := Lib.hid k0
  have HK1 := Lib.hid k1
  have HWD := Lib.hid wd
  clear hW0 b0 k0 k1 hE0
  rw [hr] at KR
  rw [mlvl9 hk] at KL
  have HKD := Lib.hid hk
  clear hr hyes hM wd hE hk
  go_enter Try.func16, Try.ntmps16
  go_upto_region 1 with fail
  rw [← HW.out]
  have a0 : W0.cell? ⟨w.heap.size, 0, none⟩ = some (.int .i64 m.kind) := cell_of_row W0 _ 0 _ 35 (0, 0) HK0.out
  have a1 : W0.cell? ⟨w.heap.size, 1, none⟩ = some (.int .i64 m.frm) := cell_of_row W0 _ 1 _ 35 (0, 0) HK0.out
  have a2 : W0.cell? ⟨w.heap.size, 2, none⟩ = some (.int .i64 m.dst) := cell_of_row W0 _ 2 _ 35 (0, 0) HK0.out
  have a3 : W0.cell? ⟨w.heap.size, 3, none⟩ = some (.int .u64 m.term) := cell_of_row W0 _ 3 _ 35 (0, 0) HK0.out
  have a4 : W0.cell? ⟨w.heap.size, 4, none⟩ = some (.int .u64 m.index) := cell_of_row W0 _ 4 _ 35 (0, 0) HK0.out
  have a5 : W0.cell? ⟨w.heap.size, 5, none⟩ = some (.int .u64 m.prev) := cell_of_row W0 _ 5 _ 35 (0, 0) HK0.out
  have a6 : W0.cell? ⟨w.heap.size, 6, none⟩ = some (.int .u64 m.commit) := cell_of_row W0 _ 6 _ 35 (0, 0) HK0.out
  have a7 : W0.cell? ⟨w.heap.size, 7, none⟩ = some (.int .u64 m.mark) := cell_of_row W0 _ 7 _ 35 (0, 0) HK0.out
  have a8 : W0.cell? ⟨w.heap.size, 8, none⟩ = some (.bool m.ok) := cell_of_row W0 _ 8 _ 35 (0, 0) HK0.out
  have a9 : W0.cell? ⟨w.heap.size, 9, none⟩ = some (.slice m.A m.n m.c) := cell_of_row W0 _ 9 _ 35 (0, 0) HK0.out
  have a10 : W0.cell? ⟨w.heap.size, 10, none⟩ = some (.string m.snap) := cell_of_row W0 _ 10 _ 35 (0, 0) HK0.out
  go_wp2_with fail
  refine KR.out.mono ?_
  rintro q w1 ⟨rfl, b1⟩
  have l0 := (Array.getElem?_eq_some_iff.1 HK0.out).1
  have l1 := (Array.getElem?_eq_some_iff.1 HK1.out).1
  have HM : Hid (w1.heap[w.heap.size]? = some (.cells (mc m) 35 (0, 0))) := (b1.block _ l0).trans HK0.out
  have HZ : Hid (w1.heap[w.heap.size + 1]? = some (.cells (mc mzz) 35 (0, 0))) := (b1.block _ l1).trans HK1.out
  have HB : Hid (Below w.heap.size w w1) := HB0.out.trans (b1.mono HB0.out.size)
  have HE1 : Hid (Ents w1.heap.size m.A m.n m.es w1) := (HE.out.below b1).mr b1.size
  clear b1 l0 l1 a0 a1 a2 a3 a4 a5 a6 a7 a8 a9 a10
  have a0 : w1.cell? ⟨w.heap.size, 0, none⟩ = some (.int .i64 m.kind) := cell_of_row w1 _ 0 _ 35 (0, 0) HM.out
  have a1 : w1.cell? ⟨w.heap.size, 1, none⟩ = some (.int .i64 m.frm) := cell_of_row w1 _ 1 _ 35 (0, 0) HM.out
  have a2 : w1.cell? ⟨w.heap.size, 2, none⟩ = some (.int .i64 m.dst) := cell_of_row w1 _ 2 _ 35 (0, 0) HM.out
  have a3 : w1.cell? ⟨w.heap.size, 3, none⟩ = some (.int .u64 m.term) := cell_of_row w1 _ 3 _ 35 (0, 0) HM.out
  have a4 : w1.cell? ⟨w.heap.size, 4, none⟩ = some (.int .u64 m.index) := cell_of_row w1 _ 4 _ 35 (0, 0) HM.out
  have a5 : w1.cell? ⟨w.heap.size, 5, none⟩ = some (.int .u64 m.prev) := cell_of_row w1 _ 5 _ 35 (0, 0) HM.out
  have a6 : w1.cell? ⟨w.heap.size, 6, none⟩ = some (.int .u64 m.commit) := cell_of_row w1 _ 6 _ 35 (0, 0) HM.out
  have a7 : w1.cell? ⟨w.heap.size, 7, none⟩ = some (.int .u64 m.mark) := cell_of_row w1 _ 7 _ 35 (0, 0) HM.out
  have a8 : w1.cell? ⟨w.heap.size, 8, none⟩ = some (.bool m.ok) := cell_of_row w1 _ 8 _ 35 (0, 0) HM.out
  have a9 : w1.cell? ⟨w.heap.size, 9, none⟩ = some (.slice m.A m.n m.c) := cell_of_row w1 _ 9 _ 35 (0, 0) HM.out
  have a10 : w1.cell? ⟨w.heap.size, 10, none⟩ = some (.string m.snap) := cell_of_row w1 _ 10 _ 35 (0, 0) HM.out
  go_wp2_with fail
  refine (KL.out _ HE1.out).mono ?_
  rintro q w2 ⟨rfl, b2⟩
  have HM2 : Hid (w2.heap[w.heap.size]? = some (.cells (mc m) 35 (0, 0))) := (b2.block _ (Array.getElem?_eq_some_iff.1 HM.out).1).trans HM.out
  have HZ2 : Hid (w2.heap[w.heap.size + 1]? = some (.cells (mc mzz) 35 (0, 0))) := (b2.block _ (Array.getElem?_eq_some_iff.1 HZ.out).1).trans HZ.out
  have HB2 : Hid (Below w.heap.size w w2) := HB.out.trans (b2.mono HB.out.size)
  clear b2 HB HZ HM a0 a1 a2 a3 a4 a5 a6 a7 a8 a9 a10
  have HM := HM2
  have HZ := HZ2
  have HB := HB2
  clear HM2 HZ2 HB2
  have a0 : w2.cell? ⟨w.heap.size, 0, none⟩ = some (.int .i64 9) := by rw [← HKD.out]; exact cell_of_row w2 _ 0 _ 35 (0, 0) HM.out
  have a1 : w2.cell? ⟨w.heap.size, 1, none⟩ = some (.int .i64 m.frm) := cell_of_row w2 _ 1 _ 35 (0, 0) HM.out
  have a2 : w2.cell? ⟨w.heap.size, 2, none⟩ = some (.int .i64 m.dst) := cell_of_row w2 _ 2 _ 35 (0, 0) HM.out
  have a3 : w2.cell? ⟨w.heap.size, 3, none⟩ = some (.int .u64 m.term) := cell_of_row w2 _ 3 _ 35 (0, 0) HM.out
  have a4 : w2.cell? ⟨w.heap.size, 4, none⟩ = some (.int .u64 m.index) := cell_of_row w2 _ 4 _ 35 (0, 0) HM.out
  have a5 : w2.cell? ⟨w.heap.size, 5, none⟩ = some (.int .u64 m.prev) := cell_of_row w2 _ 5 _ 35 (0, 0) HM.out
  have a6 : w2.cell? ⟨w.heap.size, 6, none⟩ = some (.int .u64 m.commit) := cell_of_row w2 _ 6 _ 35 (0, 0) HM.out
  have a7 : w2.cell? ⟨w.heap.size, 7, none⟩ = some (.int .u64 m.mark) := cell_of_row w2 _ 7 _ 35 (0, 0) HM.out
  have a8 : w2.cell? ⟨w.heap.size, 8, none⟩ = some (.bool m.ok) := cell_of_row w2 _ 8 _ 35 (0, 0) HM.out
  have a9 : w2.cell? ⟨w.heap.size, 9, none⟩ = some (.slice m.A m.n m.c) := cell_of_row w2 _ 9 _ 35 (0, 0) HM.out
  have a10 : w2.cell? ⟨w.heap.size, 10, none⟩ = some (.string m.snap) := cell_of_row w2 _ 10 _ 35 (0, 0) HM.out
  have z0 : w2.cell? ⟨w.heap.size + 1, 0, none⟩ = some (.int .i64 0) := cell_of_row w2 _ 0 _ 35 (0, 0) HZ.out
  have z1 : w2.cell? ⟨w.heap.size + 1, 1, none⟩ = some (.int .i64 0) := cell_of_row w2 _ 1 _ 35 (0, 0) HZ.out
  have z2 : w2.cell? ⟨w.heap.size + 1, 2, none⟩ = some (.int .i64 0) := cell_of_row w2 _ 2 _ 35 (0, 0) HZ.out
  have z3 : w2.cell? ⟨w.heap.size + 1, 3, none⟩ = some (.int .u64 0) := cell_of_row w2 _ 3 _ 35 (0, 0) HZ.out
  have z4 : w2.cell? ⟨w.heap.size + 1, 4, none⟩ = some (.int .u64 0) := cell_of_row w2 _ 4 _ 35 (0, 0) HZ.out
  have z5 : w2.cell? ⟨w.heap.size + 1, 5, none⟩ = some (.int .u64 0) := cell_of_row w2 _ 5 _ 35 (0, 0) HZ.out
  have z6 : w2.cell? ⟨w.heap.size + 1, 6, none⟩ = some (.int .u64 0) := cell_of_row w2 _ 6 _ 35 (0, 0) HZ.out
  have z7 : w2.cell? ⟨w.heap.size + 1, 7, none⟩ = some (.int .u64 0) := cell_of_row w2 _ 7 _ 35 (0, 0) HZ.out
  have z8 : w2.cell? ⟨w.heap.size + 1, 8, none⟩ = some (.bool false) := cell_of_row w2 _ 8 _ 35 (0, 0) HZ.out
  have z9 : w2.cell? ⟨w.heap.size + 1, 9, none⟩ = some (.slice none 0 0) := cell_of_row w2 _ 9 _ 35 (0, 0) HZ.out
  have z10 : w2.cell? ⟨w.heap.size + 1, 10, none⟩ = some (.string ⟨#[]⟩) := cell_of_row w2 _ 10 _ 35 (0, 0) HZ.out
  have fz : ∀ i, w2.frozen? ⟨w.heap.size + 1, i, none⟩ = false := fun i => Md.of HZ.out
  go_wp2
  obtain ⟨WF, hWF⟩ : ∃ WF, WF = wrm w2 (w.heap.size + 1) (⟨5, m.frm, m.dst, m.term, 0, 0, 0, m.mark, false, none, 0, 0, [], ⟨#[]⟩⟩ : Ms) := ⟨_, rfl⟩
  have hblk : WF.heap[w.heap.size + 1]? = some (.cells (mc (⟨5, m.frm, m.dst, m.term, 0, 0, 0, m.mark, false, none, 0, 0, [], ⟨#[]⟩⟩ : Ms)) 35 (0, 0)) := by rw [hWF]; exact store_allm (⟨5, m.frm, m.dst, m.term, 0, 0, 0, m.mark, false, none, 0, 0, [], ⟨#[]⟩⟩ : Ms) HZ.out
  have hbF : Below w.heap.size w WF := by rw [hWF]; exact below_allm (⟨5, m.frm, m.dst, m.term, 0, 0, 0, m.mark, false, none, 0, 0, [], ⟨#[]⟩⟩ : Ms) HB.out (by omega)
  have HEF : Hid (∀ A n es, Ents w.heap.size A n es w → Ents WF.heap.size A n es WF) := fun A n es h => (h.below hbF).mr hbF.size
  have HFB := Lib.hid hbF
  unfold wrm at hWF
  rw [← hWF]
  have HWF := Lib.hid hWF
  clear hWF
  have f0 : WF.cell? ⟨w.heap.size + 1, 0, none⟩ = some (.int .i64 5) := cell_of_row WF _ 0 _ 35 (0, 0) hblk
  have f1 : WF.cell? ⟨w.heap.size + 1, 1, none⟩ = some (.int .i64 m.frm) := cell_of_row WF _ 1 _ 35 (0, 0) hblk
  have f2 : WF.cell? ⟨w.heap.size + 1, 2, none⟩ = some (.int .i64 m.dst) := cell_of_row WF _ 2 _ 35 (0, 0) hblk
  have f3 : WF.cell? ⟨w.heap.size + 1, 3, none⟩ = some (.int .u64 m.term) := cell_of_row WF _ 3 _ 35 (0, 0) hblk
  have f4 : WF.cell? ⟨w.heap.size + 1, 4, none⟩ = some (.int .u64 0) := cell_of_row WF _ 4 _ 35 (0, 0) hblk
  have f5 : WF.cell? ⟨w.heap.size + 1, 5, none⟩ = some (.int .u64 0) := cell_of_row WF _ 5 _ 35 (0, 0) hblk
  have f6 : WF.cell? ⟨w.heap.size + 1, 6, none⟩ = some (.int .u64 0) := cell_of_row WF _ 6 _ 35 (0, 0) hblk
  have f7 : WF.cell? ⟨w.heap.size + 1, 7, none⟩ = some (.int .u64 m.mark) := cell_of_row WF _ 7 _ 35 (0, 0) hblk
  have f8 : WF.cell? ⟨w.heap.size + 1, 8, none⟩ = some (.bool false) := cell_of_row WF _ 8 _ 35 (0, 0) hblk
  have f9 : WF.cell? ⟨w.heap.size + 1, 9, none⟩ = some (.slice none 0 0) := cell_of_row WF _ 9 _ 35 (0, 0) hblk
  have f10 : WF.cell? ⟨w.heap.size + 1, 10, none⟩ = some (.string ⟨#[]⟩) := cell_of_row WF _ 10 _ 35 (0, 0) hblk
  exact bodyPost_ret (v := .tuple #[mv (⟨5, m.frm, m.dst, m.term, 0, 0, 0, m.mark, false, none, 0, 0, [], ⟨#[]⟩⟩ : Ms), .bool true]) (by simp [results, Try.results16, go_sem, f0, f1, f2, f3, f4, f5, f6, f7, f8, f9, f10]) rfl (shim_end (ents_nil _ _ _) (by rw [HMM.out]; exact like_refl _) HYES.out.symm HFB.out)
set_option maxHeartbeats 2000000 in
set_option maxRecDepth 100000 in
theorem shim_10 (m : Ms) (w : World) (hE : Ents w.heap.size m.A m.n m.es w) (wd : m.Wide) (hr : mrightB m = true) (hk : m.kind = 10) :
    Calls Try.prog 16 #[mv m] w (Shimd m w) := by
  have hyes : shimO m = true := by unfold shimO; rw [hr, decide_eq_true hk]; simp
  have hM : shimM m = (⟨6, m.frm, m.dst, m.term, 0, 0, 0, m.mark, true, none, 0, 0, [], ⟨#[]⟩⟩ : Ms) := by unfold shimM; rw [hyes, if_neg (by decide)]; rw [if_neg (by omega), if_pos hk]
  have HYES := Lib.hid hyes
  have HMM := Lib.hid hM
  obtain ⟨W0, hW0⟩ : ∃ W0, W0 = (w.alloc (Obj.cells (mc m) 35)).alloc (Obj.cells (mc mzz) 35) := ⟨_, rfl⟩
  have b0 : Below w.heap.size w W0 := by rw [hW0]; exact ((Below.refl _ _).alloc (Nat.le_refl _) _).alloc (by simp) _
  have k0 : W0.heap[w.heap.size]? = some (.cells (mc m) 35 (0, 0)) := by rw [hW0]; exact blk_al _ (heap_alloc_new w _)
  have k1 : W0.heap[w.heap.size + 1]? = some (.cells (mc mzz) 35 (0, 0)) := by rw [hW0]; have h := heap_alloc_new (w.alloc (Obj.cells (mc m) 35)) (Obj.cells (mc mzz) 35); simpa using h
  have hE0 := (hE.below b0).mr b0.size
  have KR := Lib.hid (mright_any m W0 hE0 (wide_n wd) wd.eo)
  have KL := Lib.hid (fun (W : World) (h : Ents W.heap.size m.A m.n m.es W) => mlevel_any m W h (wide_n wd))
  have HW := Lib.hid hW0
  have HE := Lib.hid hE0
  have HEW := Lib.hid hE
  have HB0 := Lib.hid b0
  have HK0 := Lib.hid k0
  have HK1 := Lib.hid k1
  have HWD := Lib.hid wd
  clear hW0 b0 k0 k1 hE0
  rw [hr] at KR
  rw [mlvl10 hk] at KL
  have HKD := Lib.hid hk
  clear hr hyes hM wd hE hk
  go_enter Try.func16, Try.ntmps16
  go_upto_region 1 with fail
  rw [← HW.out]
  have a0 : W0.cell? ⟨w.heap.size, 0, none⟩ = some (.int .i64 m.kind) := cell_of_row W0 _ 0 _ 35 (0, 0) HK0.out
  have a1 : W0.cell? ⟨w.heap.size, 1, none⟩ = some (.int .i64 m.frm) := cell_of_row W0 _ 1 _ 35 (0, 0) HK0.out
  have a2 : W0.cell? ⟨w.heap.size, 2, none⟩ = some (.int .i64 m.dst) := cell_of_row W0 _ 2 _ 35 (0, 0) HK0.out
  have a3 : W0.cell? ⟨w.heap.size, 3, none⟩ = some (.int .u64 m.term) := cell_of_row W0 _ 3 _ 35 (0, 0) HK0.out
  have a4 : W0.cell? ⟨w.heap.size, 4, none⟩ = some (.int .u64 m.index) := cell_of_row W0 _ 4 _ 35 (0, 0) HK0.out
  have a5 : W0.cell? ⟨w.heap.size, 5, none⟩ = some (.int .u64 m.prev) := cell_of_row W0 _ 5 _ 35 (0, 0) HK0.out
  have a6 : W0.cell? ⟨w.heap.size, 6, none⟩ = some (.int .u64 m.commit) := cell_of_row W0 _ 6 _ 35 (0, 0) HK0.out
  have a7 : W0.cell? ⟨w.heap.size, 7, none⟩ = some (.int .u64 m.mark) := cell_of_row W0 _ 7 _ 35 (0, 0) HK0.out
  have a8 : W0.cell? ⟨w.heap.size, 8, none⟩ = some (.bool m.ok) := cell_of_row W0 _ 8 _ 35 (0, 0) HK0.out
  have a9 : W0.cell? ⟨w.heap.size, 9, none⟩ = some (.slice m.A m.n m.c) := cell_of_row W0 _ 9 _ 35 (0, 0) HK0.out
  have a10 : W0.cell? ⟨w.heap.size, 10, none⟩ = some (.string m.snap) := cell_of_row W0 _ 10 _ 35 (0, 0) HK0.out
  go_wp2_with fail
  refine KR.out.mono ?_
  rintro q w1 ⟨rfl, b1⟩
  have l0 := (Array.getElem?_eq_some_iff.1 HK0.out).1
  have l1 := (Array.getElem?_eq_some_iff.1 HK1.out).1
  have HM : Hid (w1.heap[w.heap.size]? = some (.cells (mc m) 35 (0, 0))) := (b1.block _ l0).trans HK0.out
  have HZ : Hid (w1.heap[w.heap.size + 1]? = some (.cells (mc mzz) 35 (0, 0))) := (b1.block _ l1).trans HK1.out
  have HB : Hid (Below w.heap.size w w1) := HB0.out.trans (b1.mono HB0.out.size)
  have HE1 : Hid (Ents w1.heap.size m.A m.n m.es w1) := (HE.out.below b1).mr b1.size
  clear b1 l0 l1 a0 a1 a2 a3 a4 a5 a6 a7 a8 a9 a10
  have a0 : w1.cell? ⟨w.heap.size, 0, none⟩ = some (.int .i64 m.kind) := cell_of_row w1 _ 0 _ 35 (0, 0) HM.out
  have a1 : w1.cell? ⟨w.heap.size, 1, none⟩ = some (.int .i64 m.frm) := cell_of_row w1 _ 1 _ 35 (0, 0) HM.out
  have a2 : w1.cell? ⟨w.heap.size, 2, none⟩ = some (.int .i64 m.dst) := cell_of_row w1 _ 2 _ 35 (0, 0) HM.out
  have a3 : w1.cell? ⟨w.heap.size, 3, none⟩ = some (.int .u64 m.term) := cell_of_row w1 _ 3 _ 35 (0, 0) HM.out
  have a4 : w1.cell? ⟨w.heap.size, 4, none⟩ = some (.int .u64 m.index) := cell_of_row w1 _ 4 _ 35 (0, 0) HM.out
  have a5 : w1.cell? ⟨w.heap.size, 5, none⟩ = some (.int .u64 m.prev) := cell_of_row w1 _ 5 _ 35 (0, 0) HM.out
  have a6 : w1.cell? ⟨w.heap.size, 6, none⟩ = some (.int .u64 m.commit) := cell_of_row w1 _ 6 _ 35 (0, 0) HM.out
  have a7 : w1.cell? ⟨w.heap.size, 7, none⟩ = some (.int .u64 m.mark) := cell_of_row w1 _ 7 _ 35 (0, 0) HM.out
  have a8 : w1.cell? ⟨w.heap.size, 8, none⟩ = some (.bool m.ok) := cell_of_row w1 _ 8 _ 35 (0, 0) HM.out
  have a9 : w1.cell? ⟨w.heap.size, 9, none⟩ = some (.slice m.A m.n m.c) := cell_of_row w1 _ 9 _ 35 (0, 0) HM.out
  have a10 : w1.cell? ⟨w.heap.size, 10, none⟩ = some (.string m.snap) := cell_of_row w1 _ 10 _ 35 (0, 0) HM.out
  go_wp2_with fail
  refine (KL.out _ HE1.out).mono ?_
  rintro q w2 ⟨rfl, b2⟩
  have HM2 : Hid (w2.heap[w.heap.size]? = some (.cells (mc m) 35 (0, 0))) := (b2.block _ (Array.getElem?_eq_some_iff.1 HM.out).1).trans HM.out
  have HZ2 : Hid (w2.heap[w.heap.size + 1]? = some (.cells (mc mzz) 35 (0, 0))) := (b2.block _ (Array.getElem?_eq_some_iff.1 HZ.out).1).trans HZ.out
  have HB2 : Hid (Below w.heap.size w w2) := HB.out.trans (b2.mono HB.out.size)
  clear b2 HB HZ HM a0 a1 a2 a3 a4 a5 a6 a7 a8 a9 a10
  have HM := HM2
  have HZ := HZ2
  have HB := HB2
  clear HM2 HZ2 HB2
  have a0 : w2.cell? ⟨w.heap.size, 0, none⟩ = some (.int .i64 10) := by rw [← HKD.out]; exact cell_of_row w2 _ 0 _ 35 (0, 0) HM.out
  have a1 : w2.cell? ⟨w.heap.size, 1, none⟩ = some (.int .i64 m.frm) := cell_of_row w2 _ 1 _ 35 (0, 0) HM.out
  have a2 : w2.cell? ⟨w.heap.size, 2, none⟩ = some (.int .i64 m.dst) := cell_of_row w2 _ 2 _ 35 (0, 0) HM.out
  have a3 : w2.cell? ⟨w.heap.size, 3, none⟩ = some (.int .u64 m.term) := cell_of_row w2 _ 3 _ 35 (0, 0) HM.out
  have a4 : w2.cell? ⟨w.heap.size, 4, none⟩ = some (.int .u64 m.index) := cell_of_row w2 _ 4 _ 35 (0, 0) HM.out
  have a5 : w2.cell? ⟨w.heap.size, 5, none⟩ = some (.int .u64 m.prev) := cell_of_row w2 _ 5 _ 35 (0, 0) HM.out
  have a6 : w2.cell? ⟨w.heap.size, 6, none⟩ = some (.int .u64 m.commit) := cell_of_row w2 _ 6 _ 35 (0, 0) HM.out
  have a7 : w2.cell? ⟨w.heap.size, 7, none⟩ = some (.int .u64 m.mark) := cell_of_row w2 _ 7 _ 35 (0, 0) HM.out
  have a8 : w2.cell? ⟨w.heap.size, 8, none⟩ = some (.bool m.ok) := cell_of_row w2 _ 8 _ 35 (0, 0) HM.out
  have a9 : w2.cell? ⟨w.heap.size, 9, none⟩ = some (.slice m.A m.n m.c) := cell_of_row w2 _ 9 _ 35 (0, 0) HM.out
  have a10 : w2.cell? ⟨w.heap.size, 10, none⟩ = some (.string m.snap) := cell_of_row w2 _ 10 _ 35 (0, 0) HM.out
  have z0 : w2.cell? ⟨w.heap.size + 1, 0, none⟩ = some (.int .i64 0) := cell_of_row w2 _ 0 _ 35 (0, 0) HZ.out
  have z1 : w2.cell? ⟨w.heap.size + 1, 1, none⟩ = some (.int .i64 0) := cell_of_row w2 _ 1 _ 35 (0, 0) HZ.out
  have z2 : w2.cell? ⟨w.heap.size + 1, 2, none⟩ = some (.int .i64 0) := cell_of_row w2 _ 2 _ 35 (0, 0) HZ.out
  have z3 : w2.cell? ⟨w.heap.size + 1, 3, none⟩ = some (.int .u64 0) := cell_of_row w2 _ 3 _ 35 (0, 0) HZ.out
  have z4 : w2.cell? ⟨w.heap.size + 1, 4, none⟩ = some (.int .u64 0) := cell_of_row w2 _ 4 _ 35 (0, 0) HZ.out
  have z5 : w2.cell? ⟨w.heap.size + 1, 5, none⟩ = some (.int .u64 0) := cell_of_row w2 _ 5 _ 35 (0, 0) HZ.out
  have z6 : w2.cell? ⟨w.heap.size + 1, 6, none⟩ = some (.int .u64 0) := cell_of_row w2 _ 6 _ 35 (0, 0) HZ.out
  have z7 : w2.cell? ⟨w.heap.size + 1, 7, none⟩ = some (.int .u64 0) := cell_of_row w2 _ 7 _ 35 (0, 0) HZ.out
  have z8 : w2.cell? ⟨w.heap.size + 1, 8, none⟩ = some (.bool false) := cell_of_row w2 _ 8 _ 35 (0, 0) HZ.out
  have z9 : w2.cell? ⟨w.heap.size + 1, 9, none⟩ = some (.slice none 0 0) := cell_of_row w2 _ 9 _ 35 (0, 0) HZ.out
  have z10 : w2.cell? ⟨w.heap.size + 1, 10, none⟩ = some (.string ⟨#[]⟩) := cell_of_row w2 _ 10 _ 35 (0, 0) HZ.out
  have fz : ∀ i, w2.frozen? ⟨w.heap.size + 1, i, none⟩ = false := fun i => Md.of HZ.out
  go_wp2
  obtain ⟨WF, hWF⟩ : ∃ WF, WF = wrm w2 (w.heap.size + 1) (⟨6, m.frm, m.dst, m.term, 0, 0, 0, m.mark, true, none, 0, 0, [], ⟨#[]⟩⟩ : Ms) := ⟨_, rfl⟩
  have hblk : WF.heap[w.heap.size + 1]? = some (.cells (mc (⟨6, m.frm, m.dst, m.term, 0, 0, 0, m.mark, true, none, 0, 0, [], ⟨#[]⟩⟩ : Ms)) 35 (0, 0)) := by rw [hWF]; exact store_allm (⟨6, m.frm, m.dst, m.term, 0, 0, 0, m.mark, true, none, 0, 0, [], ⟨#[]⟩⟩ : Ms) HZ.out
  have hbF : Below w.heap.size w WF := by rw [hWF]; exact below_allm (⟨6, m.frm, m.dst, m.term, 0, 0, 0, m.mark, true, none, 0, 0, [], ⟨#[]⟩⟩ : Ms) HB.out (by omega)
  have HEF : Hid (∀ A n es, Ents w.heap.size A n es w → Ents WF.heap.size A n es WF) := fun A n es h => (h.below hbF).mr hbF.size
  have HFB := Lib.hid hbF
  unfold wrm at hWF
  rw [← hWF]
  have HWF := Lib.hid hWF
  clear hWF
  have f0 : WF.cell? ⟨w.heap.size + 1, 0, none⟩ = some (.int .i64 6) := cell_of_row WF _ 0 _ 35 (0, 0) hblk
  have f1 : WF.cell? ⟨w.heap.size + 1, 1, none⟩ = some (.int .i64 m.frm) := cell_of_row WF _ 1 _ 35 (0, 0) hblk
  have f2 : WF.cell? ⟨w.heap.size + 1, 2, none⟩ = some (.int .i64 m.dst) := cell_of_row WF _ 2 _ 35 (0, 0) hblk
  have f3 : WF.cell? ⟨w.heap.size + 1, 3, none⟩ = some (.int .u64 m.term) := cell_of_row WF _ 3 _ 35 (0, 0) hblk
  have f4 : WF.cell? ⟨w.heap.size + 1, 4, none⟩ = some (.int .u64 0) := cell_of_row WF _ 4 _ 35 (0, 0) hblk
  have f5 : WF.cell? ⟨w.heap.size + 1, 5, none⟩ = some (.int .u64 0) := cell_of_row WF _ 5 _ 35 (0, 0) hblk
  have f6 : WF.cell? ⟨w.heap.size + 1, 6, none⟩ = some (.int .u64 0) := cell_of_row WF _ 6 _ 35 (0, 0) hblk
  have f7 : WF.cell? ⟨w.heap.size + 1, 7, none⟩ = some (.int .u64 m.mark) := cell_of_row WF _ 7 _ 35 (0, 0) hblk
  have f8 : WF.cell? ⟨w.heap.size + 1, 8, none⟩ = some (.bool true) := cell_of_row WF _ 8 _ 35 (0, 0) hblk
  have f9 : WF.cell? ⟨w.heap.size + 1, 9, none⟩ = some (.slice none 0 0) := cell_of_row WF _ 9 _ 35 (0, 0) hblk
  have f10 : WF.cell? ⟨w.heap.size + 1, 10, none⟩ = some (.string ⟨#[]⟩) := cell_of_row WF _ 10 _ 35 (0, 0) hblk
  exact bodyPost_ret (v := .tuple #[mv (⟨6, m.frm, m.dst, m.term, 0, 0, 0, m.mark, true, none, 0, 0, [], ⟨#[]⟩⟩ : Ms), .bool true]) (by simp [results, Try.results16, go_sem, f0, f1, f2, f3, f4, f5, f6, f7, f8, f9, f10]) rfl (shim_end (ents_nil _ _ _) (by rw [HMM.out]; exact like_refl _) HYES.out.symm HFB.out)
theorem mzz_wide : mzz.Wide := by
  constructor <;> first | decide | (intro e he; cases he)
end Go.Proofs.Ytpdbeijfchmlgaa
