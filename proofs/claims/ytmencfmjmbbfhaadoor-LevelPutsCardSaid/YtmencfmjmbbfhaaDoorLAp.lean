/-
  What an entry makes of a config: Apply.
  Conditions: the config is right; the entry's numbers are of their kinds, its texts below 2^47.
-/
import Derived.Test.YtmencfmjmbbfhaaDoorLMw
import Derived.Test.YtmencfmjmbbfhaaDoorLCm
import Derived.Test.YtmencfmjmbbfhaaDoorLMp
import Derived.Test.YtmencfmjmbbfhaaDoorLRd
import Derived.Laws.ResultCell
import Derived.Deep.CutRange
namespace Go.Proofs.YtmencfmjmbbfhaaDoor
open Go.RowKit
set_option linter.unusedVariables false
set_option linter.unusedSimpArgs false
theorem res10 (tmps : Array Value) (w : World) (p : Nat) (cs : Array Value) (hp : tmps.getD 4 undef = .pointer (some ⟨p, 0, none⟩)) (hg : w.heap[p]? = some (.cells cs 25 (0, 0))) (hs : cs.size = 4) :
    (results Tryd.f10 tmps).run Tryd.prog w = .ok (.tuple #[.agg cs, tmps.getD 5 undef]) w := by
  rw [results_cell_tmp Tryd.results10, hp]
  simp [asAddr, run_loadVar_row w p 25 25 cs (0, 0) _ hg Tryd.underlying25 rfl (by rw [hs]; exact cf25)]
/-- Apply's boxes, and the config's rows. -/
structure As (bm cm bh ch : Nat) (c : Cf) (e : En) (w W : World) : Prop where
  a : W.heap[w.heap.size]? = some (.cells (cvc bm cm bh ch c) 25 (0, 0))
  e : W.heap[w.heap.size + 1]? = some (.cells (ec e) 31 (0, 0))
  r : W.heap[w.heap.size + 2]? = some (.cells zc 25 (0, 0))
  m : Rw W bm cm c.m
  h : Rw W bh ch c.h
  be : Below w.heap.size w W
section
variable {bm cm bh ch : Nat} {c : Cf} {e : En} {w : World}
theorem As.below {W W' : World} (h : As bm cm bh ch c e w W) (hb : Below W.heap.size W W') : As bm cm bh ch c e w W' :=
  ⟨(hb.block _ (Array.getElem?_eq_some_iff.1 h.a).1).trans h.a, (hb.block _ (Array.getElem?_eq_some_iff.1 h.e).1).trans h.e, (hb.block _ (Array.getElem?_eq_some_iff.1 h.r).1).trans h.r, h.m.below hb h.m.lt, h.h.below hb h.h.lt, h.be.trans (hb.mono h.be.size)⟩
theorem As.drew {W : World} (h : As bm cm bh ch c e w W) : As bm cm bh ch c e w W.drew := ⟨h.a, h.e, h.r, h.m.at rfl, h.h.at rfl, h.be.drew⟩
theorem As.ca {W : World} (h : As bm cm bh ch c e w W) (i : Nat) : W.cell? ⟨w.heap.size, i, none⟩ = (cvc bm cm bh ch c)[i]? := cell_of_row W _ i _ 25 (0, 0) h.a
theorem As.ce {W : World} (h : As bm cm bh ch c e w W) (i : Nat) : W.cell? ⟨w.heap.size + 1, i, none⟩ = (ec e)[i]? := cell_of_row W _ i _ 31 (0, 0) h.e
theorem As.ces {W : World} (h : As bm cm bh ch c e w W) : W.cell? ⟨w.heap.size + 1, 0, none⟩ = some (.int .u64 e.term) ∧ W.cell? ⟨w.heap.size + 1, 1, none⟩ = some (.int .u64 e.index) ∧ W.cell? ⟨w.heap.size + 1, 2, none⟩ = some (.int .i64 e.kind) ∧ W.cell? ⟨w.heap.size + 1, 3, none⟩ = some (.int .u64 e.client) ∧ W.cell? ⟨w.heap.size + 1, 4, none⟩ = some (.int .u64 e.seq) ∧ W.cell? ⟨w.heap.size + 1, 5, none⟩ = some (.int .u64 e.block) ∧ W.cell? ⟨w.heap.size + 1, 6, none⟩ = some (.int .u64 e.many) ∧ W.cell? ⟨w.heap.size + 1, 7, none⟩ = some (.int .i64 e.node) ∧ W.cell? ⟨w.heap.size + 1, 8, none⟩ = some (.int .i64 e.level) ∧ W.cell? ⟨w.heap.size + 1, 9, none⟩ = some (.string e.data) ∧ W.cell? ⟨w.heap.size + 1, 10, none⟩ = some (.string e.old) := ⟨h.ce 0, h.ce 1, h.ce 2, h.ce 3, h.ce 4, h.ce 5, h.ce 6, h.ce 7, h.ce 8, h.ce 9, h.ce 10⟩
theorem As.lt {W : World} (h : As bm cm bh ch c e w W) : w.heap.size + 2 < W.heap.size := (Array.getElem?_eq_some_iff.1 h.r).1
theorem as_new (hm : Rw w bm cm c.m) (hh : Rw w bh ch c.h) (e : En) : As bm cm bh ch c e w (((w.alloc (.cells (cvc bm cm bh ch c) 25)).alloc (.cells (ec e) 31)).alloc (.cells zc 25)) := by
  have b1 := (Below.refl w.heap.size w).alloc (Nat.le_refl _) (.cells (cvc bm cm bh ch c) 25)
  have b2 := b1.alloc (by simp) (.cells (ec e) 31)
  have b3 := b2.alloc (by simp; omega) (.cells zc 25)
  refine ⟨?_, ?_, ?_, hm.below b3 hm.lt, hh.below b3 hh.lt, b3⟩
  · rw [Below.heap_alloc _ _ _ (by simp; omega), Below.heap_alloc _ _ _ (by simp)]
    exact heap_alloc_new w _
  · rw [Below.heap_alloc _ _ _ (by simp)]
    have h := heap_alloc_new (w.alloc (.cells (cvc bm cm bh ch c) 25)) (.cells (ec e) 31)
    rwa [World.size_alloc] at h
  · have h := heap_alloc_new ((w.alloc (.cells (cvc bm cm bh ch c) 25)).alloc (.cells (ec e) 31)) (.cells zc 25)
    rwa [World.size_alloc, World.size_alloc] at h
/-- Behind the clones: the config's rows are the call's own. -/
structure Az (bm cm bh ch : Nat) (c : Cf) (e : En) (w W : World) : Prop where
  x : Cx w.heap.size w.heap.size bm cm bh ch c W
  e : W.heap[w.heap.size + 1]? = some (.cells (ec e) 31 (0, 0))
  r : W.heap[w.heap.size + 2]? = some (.cells zc 25 (0, 0))
  be : Below w.heap.size w W
theorem As.az {W : World} {b1 c1 b2 c2 : Nat} (h : As bm cm bh ch c e w W) (h1 : Rw W b1 c1 c.m) (h2 : Rw W b2 c2 c.h) (l1 : w.heap.size + 2 < b1) (l2 : b1 < b2) :
    Az b1 c1 b2 c2 c e w ((W.setCell ⟨w.heap.size, 0, none⟩ (.slice (some ⟨b1, 0, none⟩) c.m.length c1)).setCell ⟨w.heap.size, 1, none⟩ (.slice (some ⟨b2, 0, none⟩) c.h.length c2)) := by
  have g1 : W.grownBy (W.setCell ⟨w.heap.size, 0, none⟩ (.slice (some ⟨b1, 0, none⟩) c.m.length c1)) (some w.heap.size) := grownBy_set _
  have g2 : (W.setCell ⟨w.heap.size, 0, none⟩ (.slice (some ⟨b1, 0, none⟩) c.m.length c1)).grownBy ((W.setCell ⟨w.heap.size, 0, none⟩ (.slice (some ⟨b1, 0, none⟩) c.m.length c1)).setCell ⟨w.heap.size, 1, none⟩ (.slice (some ⟨b2, 0, none⟩) c.h.length c2)) (some w.heap.size) := grownBy_set _
  have bl : ∀ k, k < W.heap.size → k ≠ w.heap.size → ((W.setCell ⟨w.heap.size, 0, none⟩ (.slice (some ⟨b1, 0, none⟩) c.m.length c1)).setCell ⟨w.heap.size, 1, none⟩ (.slice (some ⟨b2, 0, none⟩) c.h.length c2)).heap[k]? = W.heap[k]? := fun k hk hn =>
    (g2.block k (Nat.lt_of_lt_of_le hk g1.size) (fun e => hn (by cases e; rfl))).trans (g1.block k hk (fun e => hn (by cases e; rfl)))
  have hlt := h.lt
  refine ⟨⟨heap_setCell_row (heap_setCell_row h.a 0 _) 1 _, h1.at (bl _ h1.lt (by omega)), h2.at (bl _ h2.lt (by omega)), Nat.le_refl _, by omega, by omega, by omega⟩, (bl _ (by omega) (by omega)).trans h.e, (bl _ (by omega) (by omega)).trans h.r, (h.be.setCell (p := ⟨w.heap.size, 0, none⟩) (Nat.le_refl _) _).setCell (p := ⟨w.heap.size, 1, none⟩) (Nat.le_refl _) _⟩
theorem Az.at {b1 c1 b2 c2 : Nat} {W W' : World} (h : Az b1 c1 b2 c2 c e w W) (he : W'.heap = W.heap) (h1 : W'.os = W.os) (h2 : W'.tape = W.tape) (h3 : W'.output = W.output) : Az b1 c1 b2 c2 c e w W' :=
  ⟨h.x.at he, by rw [he]; exact h.e, by rw [he]; exact h.r, ⟨h1.trans h.be.os, h2.trans h.be.tape, h3.trans h.be.output, by rw [he]; exact h.be.size, fun k hk => by rw [he]; exact h.be.block k hk⟩⟩
theorem cl_m (hr : RightC c) (W : World) (h : As bm cm bh ch c e w W) : Calls Tryd.prog 24 #[.slice (some ⟨bm, 0, none⟩) c.m.length cm] W fun r W' => ∃ b1 c1, r = .returned (.slice (some ⟨b1, 0, none⟩) c.m.length c1) ∧ As bm cm bh ch c e w W' ∧ Rw W' b1 c1 c.m ∧ w.heap.size + 2 < b1 := by
  have hl := hr.len
  refine (clone_any bm cm c.m W h.m (by omega)).mono ?_
  rintro r W' ⟨b1, c1, rfl, h1, h2, hb⟩
  have := h.lt
  exact ⟨b1, c1, rfl, h.below hb, h2, by omega⟩
theorem cl_h (hr : RightC c) (b1 c1 : Nat) (W : World) (h : As bm cm bh ch c e w W) (h1 : Rw W b1 c1 c.m) (l1 : w.heap.size + 2 < b1) : Calls Tryd.prog 24 #[.slice (some ⟨bh, 0, none⟩) c.h.length ch] W fun r W' => ∃ b2 c2, r = .returned (.slice (some ⟨b2, 0, none⟩) c.h.length c2) ∧ As bm cm bh ch c e w W' ∧ Hid (Az b1 c1 b2 c2 c e w ((W'.setCell ⟨w.heap.size, 0, none⟩ (.slice (some ⟨b1, 0, none⟩) c.m.length c1)).setCell ⟨w.heap.size, 1, none⟩ (.slice (some ⟨b2, 0, none⟩) c.h.length c2))) := by
  have hl := hr.len
  have hn := hr.hn
  refine (clone_any bh ch c.h W h.h (by omega)).mono ?_
  rintro r W' ⟨b2, c2, rfl, h3, h4, hb⟩
  have := h1.lt
  have hA := h.below hb
  exact ⟨b2, c2, rfl, hA, hA.az (h1.below hb h1.lt) h4 l1 (by omega)⟩
/-- What is left to hand back. -/
structure Ay (bm cm bh ch : Nat) (c : Cf) (w W : World) : Prop where
  x : Cx w.heap.size w.heap.size bm cm bh ch c W
  r : W.heap[w.heap.size + 2]? = some (.cells zc 25 (0, 0))
  be : Below w.heap.size w W
theorem Ay.fin {W : World} {b1 c1 b2 c2 : Nat} {d : Cf} (h : Ay b1 c1 b2 c2 d w W) : (W.setRow (w.heap.size + 1 + 1) (cvc b1 c1 b2 c2 d)).heap[w.heap.size + 1 + 1]? = some (.cells (cvc b1 c1 b2 c2 d) 25 (0, 0)) ∧ Rw (W.setRow (w.heap.size + 1 + 1) (cvc b1 c1 b2 c2 d)) b1 c1 d.m ∧ Rw (W.setRow (w.heap.size + 1 + 1) (cvc b1 c1 b2 c2 d)) b2 c2 d.h ∧ w.heap.size ≤ b1 ∧ w.heap.size ≤ b2 ∧ b1 ≠ b2 ∧ Below w.heap.size w (W.setRow (w.heap.size + 1 + 1) (cvc b1 c1 b2 c2 d)) := by
  have nm : b1 ≠ w.heap.size + 1 + 1 := fun q => by
    obtain ⟨cur, h1, _⟩ := h.x.m.ex
    have h2 := h.r
    rw [q] at h1
    rw [show w.heap.size + 2 = w.heap.size + 1 + 1 from rfl, h1] at h2; cases h2
  have nh : b2 ≠ w.heap.size + 1 + 1 := fun q => by
    obtain ⟨cur, h1, _⟩ := h.x.h.ex
    have h2 := h.r
    rw [q] at h1
    rw [show w.heap.size + 2 = w.heap.size + 1 + 1 from rfl, h1] at h2; cases h2
  exact ⟨setRow_heap _ _ _ _ 25 (0, 0) h.r, h.x.m.at (setRow_other _ _ _ _ nm), h.x.h.at (setRow_other _ _ _ _ nh), h.x.lm, h.x.lh, h.x.ne, h.be.trans ⟨rfl, rfl, rfl, by simp, fun k hk => setRow_other _ _ _ _ (by omega)⟩⟩
theorem Az.below {W W' : World} {b1 c1 b2 c2 : Nat} (h : Az b1 c1 b2 c2 c e w W) (hb : Below W.heap.size W W') : Az b1 c1 b2 c2 c e w W' :=
  ⟨h.x.below hb, (hb.block _ (Array.getElem?_eq_some_iff.1 h.e).1).trans h.e, (hb.block _ (Array.getElem?_eq_some_iff.1 h.r).1).trans h.r, h.be.trans (hb.mono h.be.size)⟩
theorem Az.ay {W : World} {b1 c1 b2 c2 : Nat} (h : Az b1 c1 b2 c2 c e w W) : Ay b1 c1 b2 c2 c w W := ⟨h.x, h.r, h.be⟩
theorem Az.ce {W : World} {b1 c1 b2 c2 : Nat} (h : Az b1 c1 b2 c2 c e w W) (i : Nat) : W.cell? ⟨w.heap.size + 1, i, none⟩ = (ec e)[i]? := cell_of_row W _ i _ 31 (0, 0) h.e
theorem wpList_load_en {ops : Array Oper} {rest : List Oper} {op : Oper} {a : Act} {Q : Exit → Act → World → Prop} (hgd : op.guard = none) (x : Operand) (ho : op.op = .load 31 x)
    (w : World) (z : Nat) (e : En) (hx : a.eval x = .pointer (some ⟨z, 0, none⟩)) (hz : w.heap[z]? = some (.cells (ec e) 31 (0, 0)))
    (h : wpList Tryd.prog ops Q rest (a.put op.dst (.agg (ec e))) w) : wpList Tryd.prog ops Q (op :: rest) a w :=
  wpList_load_row hgd 31 x ho z hx 31 _ (0, 0) _ hz Tryd.underlying31 rfl (by kernel_rfl) h
set_option maxHeartbeats 4000000 in
set_option maxRecDepth 100000 in
theorem apply_no (hm : Rw w bm cm c.m) (hh : Rw w bh ch c.h) (hr : RightC c) (ok : e.Ok) (hR : rightB e = false) :
    Calls Tryd.prog 10 #[cvl bm cm bh ch c, ev e] w fun r w' => ∃ b1 c1 b2 c2, r = .returned (.tuple #[cvl b1 c1 b2 c2 c, .int .i64 1]) ∧ Rw w' b1 c1 (c).m ∧ Rw w' b2 c2 (c).h ∧ w.heap.size ≤ b1 ∧ w.heap.size ≤ b2 ∧ b1 ≠ b2 ∧ Below w.heap.size w w' := by
  have A0 := as_new hm hh e
  obtain ⟨W0, hW0⟩ : ∃ W0, W0 = ((w.alloc (.cells (cvc bm cm bh ch c) 25)).alloc (.cells (ec e) 31)).alloc (.cells zc 25) := ⟨_, rfl⟩
  rw [← hW0] at A0
  have hl := hr.len
  have hn := hr.hn
  have KR := Lib.hid ((lright_any bm cm bh ch c W0 A0.m A0.h (by omega) (by omega)).mono fun r W' ⟨h1, h2⟩ => (⟨h1, A0.below h2⟩ : _ ∧ As bm cm bh ch c e w W'))
  rw [(rightC_iff c).2 hr] at KR
  have KE : Hid (∀ W, As bm cm bh ch c e w W → Calls Tryd.prog 23 #[ev e] W fun r W' => r = .returned (.bool false) ∧ As bm cm bh ch c e w W') := Lib.hid fun W h => (right_any e W ok).mono fun r W' ⟨h1, h2⟩ => ⟨by rw [← hR]; exact h1, h.below h2⟩
  have KM : Hid (∀ W, As bm cm bh ch c e w W → Calls Tryd.prog 24 #[.slice (some ⟨bm, 0, none⟩) c.m.length cm] W fun r W' => ∃ b1 c1, r = .returned (.slice (some ⟨b1, 0, none⟩) c.m.length c1) ∧ As bm cm bh ch c e w W' ∧ Rw W' b1 c1 c.m ∧ w.heap.size + 2 < b1) := Lib.hid fun W h => cl_m hr W h
  have KH : Hid (∀ b1 c1 W, As bm cm bh ch c e w W → Rw W b1 c1 c.m → w.heap.size + 2 < b1 → Calls Tryd.prog 24 #[.slice (some ⟨bh, 0, none⟩) c.h.length ch] W fun r W' => ∃ b2 c2, r = .returned (.slice (some ⟨b2, 0, none⟩) c.h.length c2) ∧ As bm cm bh ch c e w W' ∧ Hid (Az b1 c1 b2 c2 c e w ((W'.setCell ⟨w.heap.size, 0, none⟩ (.slice (some ⟨b1, 0, none⟩) c.m.length c1)).setCell ⟨w.heap.size, 1, none⟩ (.slice (some ⟨b2, 0, none⟩) c.h.length c2)))) := Lib.hid fun b1 c1 W h h1 h2 => cl_h hr b1 c1 W h h1 h2
  have HA := Lib.hid A0
  have HW := Lib.hid hW0
  clear A0 hW0 hm hh hr ok hR hl hn
  go_enter Tryd.func10, Tryd.ntmps10
  go_upto_region 1 with fail
  refine wp_at (w := W0) HW.out.symm ?_
  have ha := HA.out.a
  have he := HA.out.e
  go_upto_region 2 with (first
    | (go_at_call 16; refine KR.out.mono ?_; rintro r w1 ⟨rfl, A1⟩; obtain ⟨c0, c1, c2, c3, c4, c5, c6, c7, c8, c9, c10⟩ := A1.ces; have H1 := Lib.hid A1; clear A1)
    | (go_at_call 23; refine (KE.out _ H1.out).mono ?_; rintro r w2 ⟨rfl, A2⟩; have H2 := Lib.hid A2; clear A2)
    | (refine wpList_load_cf rfl _ rfl _ w.heap.size (cvc bm cm bh ch c) rfl rfl ha ?_))
  clear c0 c1 c2 c3 c4 c5 c6 c7 c8 c9 c10 ha he
  have A2 := H2.out.drew
  have a0 : w2.cell? ⟨w.heap.size, 0, none⟩ = some (.slice (some ⟨bm, 0, none⟩) c.m.length cm) := A2.ca 0
  have a1 : w2.cell? ⟨w.heap.size, 1, none⟩ = some (.slice (some ⟨bh, 0, none⟩) c.h.length ch) := A2.ca 1
  go_cut [] from 10 to 23 (fun wx => ∃ b1 c1 b2 c2, Hid (Az b1 c1 b2 c2 c e w wx))
  case first =>
    go_region_with (first
      | (go_at_call 24; refine (KM.out _ A2).mono ?_; clear KM; rintro r w3 ⟨b1, c1, rfl, A3, R1, l1⟩; have a31 : w3.cell? ⟨w.heap.size, 1, none⟩ = some (.slice (some ⟨bh, 0, none⟩) c.h.length ch) := A3.ca 1)
      | (go_at_call 24; refine (KH.out _ _ _ A3 R1 l1).mono ?_; clear KH; rintro r w4 ⟨b2, c2, rfl, A4, HZ⟩; have a40 : w4.cell? ⟨w.heap.size, 0, none⟩ = some (.slice (some ⟨bm, 0, none⟩) c.m.length cm) := A4.ca 0; have a41 : w4.cell? ⟨w.heap.size, 1, none⟩ = some (.slice (some ⟨bh, 0, none⟩) c.h.length ch) := A4.ca 1; have f40 : w4.frozen? ⟨w.heap.size, 0, none⟩ = false := (by simp [World.frozen?, A4.a]); have f41 : w4.frozen? ⟨w.heap.size, 1, none⟩ = false := (by simp [World.frozen?, A4.a])))
    all_goals
      go_wp2_with fail
      go_meet
      exact ⟨_, _, _, _, HZ⟩
  case rest =>
    obtain ⟨b1, c1, b2, c2, HZ⟩ := hcut
    clear KM KH KR KE A2 a0 a1
    have hx := HZ.out.x.bx
    have hz := HZ.out.r
    go_wp2_with (first
      | (refine wpList_load_cf rfl _ rfl _ w.heap.size (cvc b1 c1 b2 c2 c) rfl rfl hx ?_)
      | (refine wpList_store_cf rfl _ _ rfl _ (w.heap.size + 1 + 1) (cvc b1 c1 b2 c2 c) zc rfl (by simp [Value.oneCell']) rfl rfl hz rfl ?_))
    obtain ⟨q1, q2, q3, q4, q5, q6, q7⟩ := HZ.out.ay.fin
    exact bodyPost_ret (v := .tuple #[.agg (cvc b1 c1 b2 c2 c), .int .i64 1]) (res10 _ _ (w.heap.size + 1 + 1) _ rfl q1 rfl) rfl ⟨_, _, _, _, rfl, q2, q3, q4, q5, q6, q7⟩
set_option maxHeartbeats 4000000 in
set_option maxRecDepth 100000 in
theorem apply_o (hm : Rw w bm cm c.m) (hh : Rw w bh ch c.h) (hr : RightC c) (ok : e.Ok) (hR : rightB e = true) (hk : e.kind < 5 ∨ 10 < e.kind) :
    Calls Tryd.prog 10 #[cvl bm cm bh ch c, ev e] w fun r w' => ∃ b1 c1 b2 c2, r = .returned (.tuple #[cvl b1 c1 b2 c2 c, .int .i64 0]) ∧ Rw w' b1 c1 (c).m ∧ Rw w' b2 c2 (c).h ∧ w.heap.size ≤ b1 ∧ w.heap.size ≤ b2 ∧ b1 ≠ b2 ∧ Below w.heap.size w w' := by
  have A0 := as_new hm hh e
  obtain ⟨W0, hW0⟩ : ∃ W0, W0 = ((w.alloc (.cells (cvc bm cm bh ch c) 25)).alloc (.cells (ec e) 31)).alloc (.cells zc 25) := ⟨_, rfl⟩
  rw [← hW0] at A0
  have hl := hr.len
  have hn := hr.hn
  have KR := Lib.hid ((lright_any bm cm bh ch c W0 A0.m A0.h (by omega) (by omega)).mono fun r W' ⟨h1, h2⟩ => (⟨h1, A0.below h2⟩ : _ ∧ As bm cm bh ch c e w W'))
  rw [(rightC_iff c).2 hr] at KR
  have KE : Hid (∀ W, As bm cm bh ch c e w W → Calls Tryd.prog 23 #[ev e] W fun r W' => r = .returned (.bool true) ∧ As bm cm bh ch c e w W') := Lib.hid fun W h => (right_any e W ok).mono fun r W' ⟨h1, h2⟩ => ⟨by rw [← hR]; exact h1, h.below h2⟩
  have KM : Hid (∀ W, As bm cm bh ch c e w W → Calls Tryd.prog 24 #[.slice (some ⟨bm, 0, none⟩) c.m.length cm] W fun r W' => ∃ b1 c1, r = .returned (.slice (some ⟨b1, 0, none⟩) c.m.length c1) ∧ As bm cm bh ch c e w W' ∧ Rw W' b1 c1 c.m ∧ w.heap.size + 2 < b1) := Lib.hid fun W h => cl_m hr W h
  have KH : Hid (∀ b1 c1 W, As bm cm bh ch c e w W → Rw W b1 c1 c.m → w.heap.size + 2 < b1 → Calls Tryd.prog 24 #[.slice (some ⟨bh, 0, none⟩) c.h.length ch] W fun r W' => ∃ b2 c2, r = .returned (.slice (some ⟨b2, 0, none⟩) c.h.length c2) ∧ As bm cm bh ch c e w W' ∧ Hid (Az b1 c1 b2 c2 c e w ((W'.setCell ⟨w.heap.size, 0, none⟩ (.slice (some ⟨b1, 0, none⟩) c.m.length c1)).setCell ⟨w.heap.size, 1, none⟩ (.slice (some ⟨b2, 0, none⟩) c.h.length c2)))) := Lib.hid fun b1 c1 W h h1 h2 => cl_h hr b1 c1 W h h1 h2
  have HKD := Lib.hid hk
  clear hk
  have HA := Lib.hid A0
  have HW := Lib.hid hW0
  clear A0 hW0 hm hh hr ok hR hl hn
  go_enter Tryd.func10, Tryd.ntmps10
  go_upto_region 1 with fail
  refine wp_at (w := W0) HW.out.symm ?_
  have ha := HA.out.a
  have he := HA.out.e
  go_upto_region 2 with (first
    | (go_at_call 16; refine KR.out.mono ?_; rintro r w1 ⟨rfl, A1⟩; obtain ⟨c0, c1, c2, c3, c4, c5, c6, c7, c8, c9, c10⟩ := A1.ces; have H1 := Lib.hid A1; clear A1)
    | (go_at_call 23; refine (KE.out _ H1.out).mono ?_; rintro r w2 ⟨rfl, A2⟩; have H2 := Lib.hid A2; clear A2)
    | (refine wpList_load_cf rfl _ rfl _ w.heap.size (cvc bm cm bh ch c) rfl rfl ha ?_))
  clear c0 c1 c2 c3 c4 c5 c6 c7 c8 c9 c10 ha he
  have A2 := H2.out.drew
  have a0 : w2.cell? ⟨w.heap.size, 0, none⟩ = some (.slice (some ⟨bm, 0, none⟩) c.m.length cm) := A2.ca 0
  have a1 : w2.cell? ⟨w.heap.size, 1, none⟩ = some (.slice (some ⟨bh, 0, none⟩) c.h.length ch) := A2.ca 1
  go_cut [] from 10 to 23 (fun wx => ∃ b1 c1 b2 c2, Hid (Az b1 c1 b2 c2 c e w wx))
  case first =>
    go_region_with (first
      | (go_at_call 24; refine (KM.out _ A2).mono ?_; clear KM; rintro r w3 ⟨b1, c1, rfl, A3, R1, l1⟩; have a31 : w3.cell? ⟨w.heap.size, 1, none⟩ = some (.slice (some ⟨bh, 0, none⟩) c.h.length ch) := A3.ca 1)
      | (go_at_call 24; refine (KH.out _ _ _ A3 R1 l1).mono ?_; clear KH; rintro r w4 ⟨b2, c2, rfl, A4, HZ⟩; have a40 : w4.cell? ⟨w.heap.size, 0, none⟩ = some (.slice (some ⟨bm, 0, none⟩) c.m.length cm) := A4.ca 0; have a41 : w4.cell? ⟨w.heap.size, 1, none⟩ = some (.slice (some ⟨bh, 0, none⟩) c.h.length ch) := A4.ca 1; have f40 : w4.frozen? ⟨w.heap.size, 0, none⟩ = false := (by simp [World.frozen?, A4.a]); have f41 : w4.frozen? ⟨w.heap.size, 1, none⟩ = false := (by simp [World.frozen?, A4.a])))
    all_goals
      go_wp2_with fail
      go_meet
      exact ⟨_, _, _, _, HZ⟩
  case rest =>
    obtain ⟨b1, c1, b2, c2, HZ⟩ := hcut
    clear KM KH KR KE A2 a0 a1
    have b2_ : w.heap.size + 1 < wc.heap.size := (Array.getElem?_eq_some_iff.1 HZ.out.e).1
    have k2 : wc.cell? ⟨w.heap.size + 1, 2, none⟩ = some (.int .i64 e.kind) := HZ.out.ce 2
    have KC : Hid (Calls Tryd.prog 25 #[] wc.drew fun r w' => ∃ m, r = .returned (.map (some m)) ∧ Hid (Az b1 c1 b2 c2 c e w w') ∧ (Instr.lookup 59 (.map (some m)) (.int .i64 e.kind) true).run Tryd.prog w' = .ok (.tuple #[.nilFunc, .bool false]) w' ∧ w'.cell? ⟨w.heap.size + 1, 2, none⟩ = some (.int .i64 e.kind)) := by
      have HD : Az b1 c1 b2 c2 c e w wc.drew := ⟨HZ.out.x.at rfl, HZ.out.e, HZ.out.r, HZ.out.be.drew⟩
      refine (changes_any wc.drew).mono ?_
      rintro r w' ⟨rfl, hm, hb⟩
      have HE := HD.below hb
      exact ⟨_, rfl, HE, look_none e.kind Tryd.underlying59 (Tryd.zeroValue57 ·) hm (six_n _ HKD.out), HE.ce 2⟩
    clear HZ
    go_upto_region 5 with fail
    go_region_with (go_at_call 25; refine KC.out.mono ?_; clear KC; rintro r w6 ⟨m, rfl, Z6, hlook, k6⟩)
    all_goals
      clear k2
      have hx := Z6.out.x.bx
      have hz := Z6.out.r
      go_wp2_with (first
        | (refine wpList_load_cf rfl _ rfl _ w.heap.size (cvc b1 c1 b2 c2 c) rfl rfl hx ?_)
        | (refine wpList_store_cf rfl _ _ rfl _ (w.heap.size + 1 + 1) (cvc b1 c1 b2 c2 c) zc rfl (by simp [Value.oneCell']) rfl rfl hz rfl ?_))
      obtain ⟨q1, q2, q3, q4, q5, q6, q7⟩ := Z6.out.ay.fin
      exact bodyPost_ret (v := .tuple #[.agg (cvc b1 c1 b2 c2 c), .int .i64 0]) (res10 _ _ (w.heap.size + 1 + 1) _ rfl q1 rfl) rfl ⟨_, _, _, _, rfl, q2, q3, q4, q5, q6, q7⟩
end
end Go.Proofs.YtmencfmjmbbfhaaDoor
