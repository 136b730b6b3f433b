/-
  Texts of the layer below and of this one: AH, AD, AZ.
  Conditions: named in each theorem.
-/
import Derived.Test.YtlmfnlaikdmphaaG10
import Derived.Test.YtlmfnlaikdmphaaG09
namespace Go.Proofs.Ytlmfnlaikdmphaa
open Go.RowKit Vi Dk
set_option linter.unusedVariables false
set_option linter.unusedSimpArgs false
theorem Try.sn30 : (Try.prog.info? 30).map (·.size) = some 3 := by kernel_rfl
theorem wpList_store_rn {ops : Array Oper} {rest : List Oper} {op : Oper} {a : Act} {Q : Exit → Act → World → Prop} (hgd : op.guard = none) (x y : Operand) (ho : op.op = .store 30 x y)
    (w : World) (z : Nat) (s t : Sn) (hx : a.eval x = .pointer (some ⟨z, 0, none⟩)) (hy : a.eval y = .agg s.c) (hz : w.heap[z]? = some (.cells t.c 30 (0, 0)))
    (h : wpList Try.prog ops Q rest (a.put op.dst undef) (w.setRow z s.c)) : wpList Try.prog ops Q (op :: rest) a w :=
  wpList_store_row hgd 30 x y ho z _ hx hy 30 _ hz Try.sn30 rfl (by simp [Value.oneCell']) h
theorem wpList_load_rn {ops : Array Oper} {rest : List Oper} {op : Oper} {a : Act} {Q : Exit → Act → World → Prop} (hgd : op.guard = none) (x : Operand) (ho : op.op = .load 30 x)
    (w : World) (z : Nat) (s : Sn) (hx : a.eval x = .pointer (some ⟨z, 0, none⟩)) (hz : w.heap[z]? = some (.cells s.c 30 (0, 0)))
    (h : wpList Try.prog ops Q rest (a.put op.dst (.agg s.c)) w) : wpList Try.prog ops Q (op :: rest) a w :=
  wpList_load_row hgd 30 x ho z hx 30 _ (0, 0) _ hz Try.underlying30 rfl Try.sn30 h
theorem res14 (tmps : Array Value) (w : World) (p : Nat) (s : Sn) (hp : tmps.getD 2 undef = .pointer (some ⟨p, 0, none⟩)) (hg : w.heap[p]? = some (.cells s.c 30 (0, 0))) :
    (results Try.f14 tmps).run Try.prog w = .ok (.tuple #[.agg s.c, tmps.getD 3 undef, tmps.getD 4 undef]) w := by
  simp only [results, Try.results14]
  have hp' : tmps[2]?.getD undef = .pointer (some ⟨p, 0, none⟩) := by simpa using hp
  simp [Sem.run_bind, Result.andThen, hp', asAddr, run_loadVar_row w p 30 30 s.c (0, 0) _ hg Try.underlying30 rfl Try.sn30]
/-- What is read so far: the result's block, the reader, the snap that is being made. -/
structure Gs (w : World) (R q : Nat) (u : ByteArray) (bad : Bool) (s : Sn) (W : World) : Prop where
  be : Below w.heap.size w W
  r0 : W.heap[w.heap.size]? = some (.cells sn0.c 30 (0, 0))
  rd : Rd 88 R u bad W
  sq : W.heap[q]? = some (.cells s.c 30 (0, 0))
  l1 : w.heap.size < R
  l2 : R < q
  sz : u.size ≤ 281474976710656
  sa : Sane u bad
theorem Gs.grown {w W W' : World} {R q : Nat} {u v : ByteArray} {b b' : Bool} {s : Sn} (h : Gs w R q u b s W) (hr : Rd 88 R v b' W') (hg : W.grownBy W' (some R)) (hv : v.size ≤ 281474976710656) (hs : Sane v b') : Gs w R q v b' s W' := by
  have l1 := h.l1
  have l2 := h.l2
  have lt := (Array.getElem?_eq_some_iff.1 h.sq).1
  have bl : ∀ k, k < W.heap.size → k ≠ R → W'.heap[k]? = W.heap[k]? := fun k hk hn => hg.block k hk (by simpa using hn)
  exact ⟨below_grownBy h.be hg h.be.size (by omega), (bl _ (by omega) (by omega)).trans h.r0, hr, (bl _ (by omega) (by omega)).trans h.sq, l1, l2, hv, hs⟩
theorem Gs.set {w W : World} {R q : Nat} {u : ByteArray} {b : Bool} {s t : Sn} (h : Gs w R q u b s W) (i : Nat) (v : Value) (ht : s.c.set! i v = t.c) : Gs w R q u b t (W.setCell ⟨q, i, none⟩ v) := by
  have l1 := h.l1
  have l2 := h.l2
  refine ⟨h.be.setCell (p := ⟨q, i, none⟩) (by show w.heap.size ≤ q; omega) _, (heap_setCell_other W ⟨q, i, none⟩ _ v (by show w.heap.size ≠ q; omega)).trans h.r0, (heap_setCell_other W ⟨q, i, none⟩ _ v (by show R ≠ q; omega)).trans h.rd, ?_, l1, l2, h.sz, h.sa⟩
  rw [← ht]
  exact heap_setCell_same W q i _ 30 v h.sq
theorem Gs.fz {w W : World} {R q : Nat} {u : ByteArray} {b : Bool} {s : Sn} (h : Gs w R q u b s W) (i : Nat) : W.frozen? ⟨q, i, none⟩ = false := Lib.frozen_of_heap h.sq i
set_option maxHeartbeats 4000000 in
set_option maxRecDepth 100000 in
theorem rget_v1 (b : ByteArray) (w : World) (hb : b.size ≤ 281474976710656) (h : nOk b = true) (hv : nV b = 1) :
    Calls Try.prog 14 #[.string b] w fun e w' => e = .returned (.tuple #[(gtS b).v, .int .i64 (gtV b), .bool (gtO b)]) ∧ Below w.heap.size w w' := by
  obtain ⟨W, hW⟩ : ∃ W, W = w.alloc (.cells sn0.c 30) := ⟨_, rfl⟩
  have hB : Below w.heap.size w W := by rw [hW]; exact (Below.refl _ w).alloc (Nat.le_refl _) _
  have hc : W.heap[w.heap.size]? = some (.cells sn0.c 30 (0, 0)) := by rw [hW]; exact heap_alloc_new w _
  have KN := Lib.hid (rnext_any b W hb)
  obtain ⟨n1, n2, n3⟩ := nx_yes h
  rw [h, n1, n2, n3, hv] at KN
  have hbz := Nat.le_trans (nBd_size b) hb
  obtain ⟨u0, hu0⟩ : ∃ u, u = nBd b := ⟨_, rfl⟩
  rw [← hu0] at KN hbz
  obtain ⟨NN, hNN⟩ : ∃ x : Int, x = (b.size : Int) - (nW b).size := ⟨_, rfl⟩
  rw [← hNN] at KN
  have HO : Hid (gtO b = ((hasF u0 8 && hasF (fixT u0 8) 8) && decide ((fixT (fixT u0 8) 8).size ≤ 16384))) := by
    show _ = _
    unfold gtO bDa bOk bF bT
    rw [h, hv, ← hu0]
    rfl
  have HS : Hid (gtS b = if gtO b then ⟨fixV u0 8, fixV (fixT u0 8) 8, fixT (fixT u0 8) 8⟩ else sn0) := by
    show _ = _
    unfold gtS bDa bI bT
    rw [hv, ← hu0]
    rfl
  have HV : Hid (gtV b = if gtO b then 1 else 0) := by
    show _ = _
    unfold gtV
    rw [hv]
  obtain ⟨OO, hOO⟩ : ∃ x, x = gtO b := ⟨_, rfl⟩
  obtain ⟨SS, hSS⟩ : ∃ x, x = gtS b := ⟨_, rfl⟩
  obtain ⟨VV, hVV⟩ : ∃ x, x = gtV b := ⟨_, rfl⟩
  rw [← hOO] at HO HS HV
  rw [← hSS] at HS
  rw [← hVV] at HV
  rw [← hOO, ← hSS, ← hVV]
  have hz1 : (fixT u0 8).size ≤ 281474976710656 := Nat.le_trans (fixT_size u0 8) hbz
  have hz2 : (fixT (fixT u0 8) 8).size ≤ 281474976710656 := Nat.le_trans (fixT_size (fixT u0 8) 8) hz1
  have HZ0 := Lib.hid hbz
  have KF := fun (R : Nat) (bad : Bool) (W : World) (h : Rd 88 R u0 bad W) (hs : Sane u0 bad) => rfixedr_any R u0 bad 8 W h hs hbz
  have KG := fun (R : Nat) (bad : Bool) (W : World) (h : Rd 88 R (fixT u0 8) bad W) (hs : Sane (fixT u0 8) bad) => rfixedr_any R (fixT u0 8) bad 8 W h hs hz1
  have ks0 : Sane u0 false := fun h => by cases h
  have ks1 : Sane (fixT u0 8) (false || !hasF u0 8) := sane_fix u0 false 8 ks0
  have ks2 : Sane (fixT (fixT u0 8) 8) (false || !hasF u0 8 || !hasF (fixT u0 8) 8) := sane_fix (fixT u0 8) _ 8 ks1
  obtain ⟨v0, hv0⟩ : ∃ x, x = fixV u0 8 := ⟨_, rfl⟩
  obtain ⟨f0, hf0⟩ : ∃ x, x = hasF u0 8 := ⟨_, rfl⟩
  obtain ⟨v1, hv1⟩ : ∃ x, x = fixV (fixT u0 8) 8 := ⟨_, rfl⟩
  obtain ⟨f1, hf1⟩ : ∃ x, x = hasF (fixT u0 8) 8 := ⟨_, rfl⟩
  obtain ⟨u2, hu2⟩ : ∃ x, x = fixT (fixT u0 8) 8 := ⟨_, rfl⟩
  rw [← hf0, ← hf1, ← hu2] at HO
  rw [← hv0, ← hv1, ← hu2] at HS
  rw [← hf0] at ks1
  rw [← hf0, ← hf1, ← hu2] at ks2
  simp only [← hv0, ← hf0] at KF
  simp only [← hv1, ← hf1, ← hu2] at KG
  rw [← hu2] at hz2
  obtain ⟨u1, hu1⟩ : ∃ x, x = fixT u0 8 := ⟨_, rfl⟩
  simp only [← hu1] at KF KG
  rw [← hu1] at hz1 ks1
  have HZ1 := Lib.hid hz1
  have HZ2 := Lib.hid hz2
  have KS0 := Lib.hid ks0
  have KS1 := Lib.hid ks1
  have KS2 := Lib.hid ks2
  have KF := Lib.hid KF
  have KG := Lib.hid KG
  have HB := Lib.hid hB
  have HC := Lib.hid hc
  have HW := Lib.hid hW
  unfold sn0 Sn.c at HW
  dsimp only at HW
  clear hB hc hW hbz hz1 hz2 hOO hSS hVV hv0 hv1 hf0 hf1 hu2 hu1 ks0 ks1 ks2 hb h n1 n2 n3 hu0 hv hNN
  unfold rdp at *
  go_enter Try.func14, Try.ntmps14
  go_upto_region 1 with fail
  refine wp_at (w := W) HW.out.symm ?_
  go_upto_region 2 with (go_at_call 45; (with_reducible refine KN.out.mono ?_); rintro q w1 ⟨rfl, b1⟩)
  have HC1 : Hid (w1.heap[w.heap.size]? = some (.cells sn0.c 30 (0, 0))) := (b1.block _ (Array.getElem?_eq_some_iff.1 HC.out).1).trans HC.out
  have HB1 : Hid (Below w.heap.size w w1) := HB.out.trans (b1.mono HB.out.size)
  clear b1 KN HB HC
  go_wp2_with fail
  refine (rnew_any _ _).mono ?_
  rintro e w2 ⟨rfl, hw2⟩
  obtain ⟨R, hR⟩ : ∃ R, R = w1.heap.size := ⟨_, rfl⟩
  have r2 : Rd 88 R u0 false w2 := by rw [hw2, hR]; exact Rd.new _ _ _ _
  have b2 : Below w1.heap.size w1 w2 := by rw [hw2]; exact (Below.refl _ _).alloc (Nat.le_refl _) _
  have hl1 : w.heap.size < R := by rw [hR]; exact (Array.getElem?_eq_some_iff.1 HC1.out).1
  have HC2 : Hid (w2.heap[w.heap.size]? = some (.cells sn0.c 30 (0, 0))) := (b2.block _ (by omega)).trans HC1.out
  have HB2 : Hid (Below w.heap.size w w2) := HB1.out.trans (b2.mono HB1.out.size)
  have HR2 := Lib.hid r2
  have HL1 := Lib.hid hl1
  unfold rdp
  rw [← hR]
  clear hw2 r2 b2 hl1 hR HB1 HC1
  obtain ⟨q, hq⟩ : ∃ q, q = w2.heap.size := ⟨_, rfl⟩
  obtain ⟨w3, hw3⟩ : ∃ w3, w3 = w2.alloc (.cells #[.int .u64 0, .int .u64 0, .string ⟨#[]⟩] 30) := ⟨_, rfl⟩
  have c3 : w3.heap[q]? = some (.cells sn0.c 30 (0, 0)) := by rw [hw3, hq]; exact heap_alloc_new w2 _
  have b3 : Below w2.heap.size w2 w3 := by rw [hw3]; exact (Below.refl _ _).alloc (Nat.le_refl _) _
  have G3 : Hid (Gs w R q u0 false sn0 w3) :=
    ⟨HB2.out.trans (b3.mono HB2.out.size), (b3.block _ (Array.getElem?_eq_some_iff.1 HC2.out).1).trans HC2.out, HR2.out.below b3 HR2.out.lt, c3, HL1.out, by rw [hq]; exact HR2.out.lt, HZ0.out, KS0.out⟩
  have HQ := Lib.hid hq
  have HW3 := Lib.hid hw3
  clear c3 b3 hq hw3 HR2 HC2 HB2
  go_upto_region 4 with fail
  rw [← HW3.out, ← HQ.out]
  clear HW3 HQ
  go_wp2_with fail
  refine (KF.out _ _ _ G3.out.rd G3.out.sa).mono ?_
  rintro e w4 ⟨rfl, r4, g4⟩
  have G4 : Hid (Gs w R q u1 (false || !f0) sn0 w4) := G3.out.grown r4 g4 HZ1.out KS1.out
  clear r4 g4 G3
  have x0 : w4.cell? ⟨q, 0, none⟩ = some (.int .u64 0) := (sn_cells G4.out.sq).1
  have y0 := G4.out.fz 0
  obtain ⟨w5, hw5⟩ : ∃ w5, w5 = w4.setCell ⟨q, 0, none⟩ (.int .u64 v0) := ⟨_, rfl⟩
  have G5 : Hid (Gs w R q u1 (false || !f0) ⟨v0, 0, ⟨#[]⟩⟩ w5) := by show Gs _ _ _ _ _ _ _; rw [hw5]; exact G4.out.set 0 _ rfl
  have HW5 := Lib.hid hw5
  clear hw5 G4
  go_wp2_with fail
  rw [← HW5.out]
  clear x0 y0 HW5
  refine (KG.out _ _ _ G5.out.rd G5.out.sa).mono ?_
  rintro e w6 ⟨rfl, r6, g6⟩
  have G6 : Hid (Gs w R q u2 (false || !f0 || !f1) ⟨v0, 0, ⟨#[]⟩⟩ w6) := G5.out.grown r6 g6 HZ2.out KS2.out
  clear r6 g6 G5
  have x1 : w6.cell? ⟨q, 1, none⟩ = some (.int .u64 ((0 : Nat) : Int)) := (sn_cells G6.out.sq).2.1
  have y1 := G6.out.fz 1
  obtain ⟨w7, hw7⟩ : ∃ w7, w7 = w6.setCell ⟨q, 1, none⟩ (.int .u64 v1) := ⟨_, rfl⟩
  have G7 : Hid (Gs w R q u2 (false || !f0 || !f1) ⟨v0, v1, ⟨#[]⟩⟩ w7) := by show Gs _ _ _ _ _ _ _; rw [hw7]; exact G6.out.set 1 _ rfl
  have HW7 := Lib.hid hw7
  clear hw7 G6
  go_upto_region 9 with fail
  rw [← HW7.out]
  clear x1 y1 HW7
  have x2 : w7.cell? ⟨q, 2, none⟩ = some (.string ⟨#[]⟩) := (sn_cells G7.out.sq).2.2
  have y2 := G7.out.fz 2
  have z0 := G7.out.rd.cell0
  obtain ⟨w8, hw8⟩ : ∃ w8, w8 = w7.setCell ⟨q, 2, none⟩ (.string u2) := ⟨_, rfl⟩
  have G8 : Hid (Gs w R q u2 (false || !f0 || !f1) ⟨v0, v1, u2⟩ w8) := by show Gs _ _ _ _ _ _ _; rw [hw8]; exact G7.out.set 2 _ rfl
  have HW8 := Lib.hid hw8
  clear hw8 G7
  go_upto_region 10 with fail
  rw [← HW8.out]
  clear x2 y2 z0 HW8 KF KG
  have hbo : (false || !f0 || !f1) = !(f0 && f1) := by cases f0 <;> cases f1 <;> rfl
  rw [hbo] at G8
  obtain ⟨ff, hff⟩ : ∃ x, x = (f0 && f1) := ⟨_, rfl⟩
  rw [← hff] at G8 HO
  clear hbo hff KS1 KS2 KS0
  have z1 := G8.out.rd.cell1
  have d2 : w8.cell? ⟨q, 2, none⟩ = some (.string u2) := (sn_cells (s := ⟨v0, v1, u2⟩) G8.out.sq).2.2
  have hres : ∀ (s : Sn) (W9 : World), W9 = w8.setRow w.heap.size s.c → Below w.heap.size w W9 ∧ W9.heap[w.heap.size]? = some (.cells s.c 30 (0, 0)) := fun s W9 h9 => by
    rw [h9]
    exact ⟨G8.out.be.trans ⟨rfl, rfl, rfl, by simp, fun k hk => setRow_other _ _ _ _ (by have := G8.out.be.size; omega)⟩, setRow_heap _ _ _ _ 30 (0, 0) G8.out.r0⟩
  have HZZ := Lib.hid hres
  have HC8 := Lib.hid G8.out.r0
  have HS8 := Lib.hid G8.out.sq
  clear hres
  unfold rdp at *
  cases ff with
  | false =>
    have hO : OO = false := HO.out
    subst hO
    obtain rfl : SS = sn0 := HS.out
    obtain rfl : VV = 0 := HV.out
    obtain ⟨W9, hW9⟩ : ∃ W9, W9 = w8.setRow w.heap.size sn0.c := ⟨_, rfl⟩
    have H9 := Lib.hid (HZZ.out sn0 W9 hW9)
    have HW9 := Lib.hid hW9
    clear hW9 HZZ HO HS HV
    go_wp2_with (refine wpList_store_rn rfl _ _ rfl _ _ sn0 sn0 rfl rfl HC8.out ?_; refine wpList_at HW9.out.symm ?_; go_frame)
    exact bodyPost_ret (v := _) (res14 _ _ w.heap.size sn0 rfl H9.out.2) rfl ⟨rfl, H9.out.1⟩
  | true =>
    by_cases hd : u2.size ≤ 16384
    · have hO : OO = true := by rw [HO.out, decide_eq_true hd]; rfl
      have hdn : ¬ (16384 : Int) < u2.size := by omega
      subst hO
      obtain rfl : SS = ⟨v0, v1, u2⟩ := HS.out
      obtain rfl : VV = 1 := HV.out
      obtain ⟨W9, hW9⟩ : ∃ W9, W9 = w8.setRow w.heap.size (Sn.c ⟨v0, v1, u2⟩) := ⟨_, rfl⟩
      have H9 := Lib.hid (HZZ.out ⟨v0, v1, u2⟩ W9 hW9)
      have HW9 := Lib.hid hW9
      clear hW9 HZZ HO HS HV hd
      go_wp2_with (first
        | (refine wpList_load_rn rfl _ rfl _ _ ⟨v0, v1, u2⟩ rfl HS8.out ?_; go_frame)
        | (refine wpList_store_rn rfl _ _ rfl _ _ ⟨v0, v1, u2⟩ sn0 rfl rfl HC8.out ?_; refine wpList_at HW9.out.symm ?_; go_frame))
      exact bodyPost_ret (v := _) (res14 _ _ w.heap.size ⟨v0, v1, u2⟩ rfl H9.out.2) rfl ⟨rfl, H9.out.1⟩
    · have hO : OO = false := by rw [HO.out, decide_eq_false hd]; rfl
      have hdn : (16384 : Int) < u2.size := by omega
      clear hd
      subst hO
      obtain rfl : SS = sn0 := HS.out
      obtain rfl : VV = 0 := HV.out
      obtain ⟨W9, hW9⟩ : ∃ W9, W9 = w8.setRow w.heap.size sn0.c := ⟨_, rfl⟩
      have H9 := Lib.hid (HZZ.out sn0 W9 hW9)
      have HW9 := Lib.hid hW9
      clear hW9 HZZ HO HS HV
      go_wp2_with (refine wpList_store_rn rfl _ _ rfl _ _ sn0 sn0 rfl rfl HC8.out ?_; refine wpList_at HW9.out.symm ?_; go_frame)
      exact bodyPost_ret (v := _) (res14 _ _ w.heap.size sn0 rfl H9.out.2) rfl ⟨rfl, H9.out.1⟩
set_option maxHeartbeats 4000000 in
set_option maxRecDepth 100000 in
theorem rget_o (b : ByteArray) (w : World) (hb : b.size ≤ 281474976710656) (hv : nOk b = true → nV b ≠ 1) :
    Calls Try.prog 14 #[.string b] w fun e w' => e = .returned (.tuple #[(gtS b).v, .int .i64 (gtV b), .bool (gtO b)]) ∧ Below w.heap.size w w' := by
  obtain ⟨W, hW⟩ : ∃ W, W = w.alloc (.cells sn0.c 30) := ⟨_, rfl⟩
  have hB : Below w.heap.size w W := by rw [hW]; exact (Below.refl _ w).alloc (Nat.le_refl _) _
  have hc : W.heap[w.heap.size]? = some (.cells sn0.c 30 (0, 0)) := by rw [hW]; exact heap_alloc_new w _
  have KN := Lib.hid (rnext_any b W hb)
  have hv2 : nOk b = true → nV b = 2 ∧ nxV b = 2 ∧ nxB b = nBd b := fun h => ⟨(nV_12 h).resolve_left (hv h), (nx_yes h).1.trans ((nV_12 h).resolve_left (hv h)), (nx_yes h).2.1⟩
  obtain ⟨u0, hu0⟩ : ∃ u, u = nxB b := ⟨_, rfl⟩
  have hbz : u0.size ≤ 281474976710656 := by
    rw [hu0]
    unfold nxB
    split
    · exact Nat.le_trans (nBd_size b) hb
    · exact Nat.zero_le _
  obtain ⟨V, hVd⟩ : ∃ v, v = nxV b := ⟨_, rfl⟩
  obtain ⟨NN, hNN⟩ : ∃ x, x = nxN b := ⟨_, rfl⟩
  obtain ⟨o, ho⟩ : ∃ o, o = nOk b := ⟨_, rfl⟩
  rw [← hu0, ← hVd, ← hNN, ← ho] at KN
  have HO : Hid (gtO b = (o && ((varO u0 && varO (varT u0)) && decide ((varT (varT u0)).size ≤ 16384)))) := by
    show _ = _
    cases hq : nOk b with
    | false => rw [gt_nx hq, ho, hq]; rfl
    | true =>
      obtain ⟨a1, a2, a3⟩ := hv2 hq
      have h21 : ¬ (2 : Int) = 1 := by decide
      unfold gtO bDa bOk bF bT
      rw [ho, hq, a1, hu0, a3]
      simp only [if_neg h21, Bool.true_and]
  have HS : Hid (gtS b = if gtO b then ⟨varV u0, varV (varT u0), varT (varT u0)⟩ else sn0) := by
    show _ = _
    cases hq : gtO b with
    | false => exact (gt_no hq).1
    | true =>
      have hk : nOk b = true := by unfold gtO at hq; rw [Bool.and_eq_true] at hq; exact hq.1
      obtain ⟨a1, a2, a3⟩ := hv2 hk
      have h21 : ¬ (2 : Int) = 1 := by decide
      rw [(gt_yes hq).1]
      unfold bDa bI bT
      rw [a1, hu0, a3]
      simp only [if_neg h21]
      exact (if_pos trivial).symm
  have HV : Hid (gtV b = if gtO b then V else 0) := by
    show _ = _
    cases hq : gtO b with
    | false => exact (gt_no hq).2
    | true =>
      have hk : nOk b = true := by unfold gtO at hq; rw [Bool.and_eq_true] at hq; exact hq.1
      obtain ⟨a1, a2, a3⟩ := hv2 hk
      rw [(gt_yes hq).2, hVd, a1, a2, if_pos rfl]
  have hV1 : (V == 1) = false := beqI (by
    rw [hVd]
    cases hk : nOk b with
    | false => rw [(nx_no hk).1]; decide
    | true => rw [(hv2 hk).2.1]; decide)
  obtain ⟨OO, hOO⟩ : ∃ x, x = gtO b := ⟨_, rfl⟩
  obtain ⟨SS, hSS⟩ : ∃ x, x = gtS b := ⟨_, rfl⟩
  obtain ⟨VV, hVV⟩ : ∃ x, x = gtV b := ⟨_, rfl⟩
  rw [← hOO] at HO HS HV
  rw [← hSS] at HS
  rw [← hVV] at HV
  rw [← hOO, ← hSS, ← hVV]
  have hz1 : (varT u0).size ≤ 281474976710656 := Nat.le_trans (varT_size u0) hbz
  have hz2 : (varT (varT u0)).size ≤ 281474976710656 := Nat.le_trans (varT_size (varT u0)) hz1
  have HZ0 := Lib.hid hbz
  have KF := fun (R : Nat) (bad : Bool) (W : World) (h : Rd 88 R u0 bad W) (hs : Sane u0 bad) => rvar_any R u0 bad W h hbz
  have KG := fun (R : Nat) (bad : Bool) (W : World) (h : Rd 88 R (varT u0) bad W) (hs : Sane (varT u0) bad) => rvar_any R (varT u0) bad W h hz1
  have ks0 : Sane u0 false := fun h => by cases h
  have ks1 : Sane (varT u0) (false || !varO u0) := sane_var u0 false ks0
  have ks2 : Sane (varT (varT u0)) (false || !varO u0 || !varO (varT u0)) := sane_var (varT u0) _ ks1
  obtain ⟨v0, hv0⟩ : ∃ x, x = varV u0 := ⟨_, rfl⟩
  obtain ⟨f0, hf0⟩ : ∃ x, x = varO u0 := ⟨_, rfl⟩
  obtain ⟨v1, hv1⟩ : ∃ x, x = varV (varT u0) := ⟨_, rfl⟩
  obtain ⟨f1, hf1⟩ : ∃ x, x = varO (varT u0) := ⟨_, rfl⟩
  obtain ⟨u2, hu2⟩ : ∃ x, x = varT (varT u0) := ⟨_, rfl⟩
  rw [← hf0, ← hf1, ← hu2] at HO
  rw [← hv0, ← hv1, ← hu2] at HS
  rw [← hf0] at ks1
  rw [← hf0, ← hf1, ← hu2] at ks2
  simp only [← hv0, ← hf0] at KF
  simp only [← hv1, ← hf1, ← hu2] at KG
  rw [← hu2] at hz2
  obtain ⟨u1, hu1⟩ : ∃ x, x = varT u0 := ⟨_, rfl⟩
  simp only [← hu1] at KF KG
  rw [← hu1] at hz1 ks1
  have HZ1 := Lib.hid hz1
  have HZ2 := Lib.hid hz2
  have KS0 := Lib.hid ks0
  have KS1 := Lib.hid ks1
  have KS2 := Lib.hid ks2
  have KF := Lib.hid KF
  have KG := Lib.hid KG
  have HB := Lib.hid hB
  have HC := Lib.hid hc
  have HW := Lib.hid hW
  unfold sn0 Sn.c at HW
  dsimp only at HW
  clear hB hc hW hbz hz1 hz2 hOO hSS hVV hv0 hv1 hf0 hf1 hu2 hu1 ks0 ks1 ks2 hb hu0 hv hv2 hNN ho hVd
  unfold rdp at *
  go_enter Try.func14, Try.ntmps14
  go_upto_region 1 with fail
  refine wp_at (w := W) HW.out.symm ?_
  go_upto_region 2 with (go_at_call 45; (with_reducible refine KN.out.mono ?_); rintro q w1 ⟨rfl, b1⟩)
  have HC1 : Hid (w1.heap[w.heap.size]? = some (.cells sn0.c 30 (0, 0))) := (b1.block _ (Array.getElem?_eq_some_iff.1 HC.out).1).trans HC.out
  have HB1 : Hid (Below w.heap.size w w1) := HB.out.trans (b1.mono HB.out.size)
  clear b1 KN HB HC
  go_wp2_with fail
  refine (rnew_any _ _).mono ?_
  rintro e w2 ⟨rfl, hw2⟩
  obtain ⟨R, hR⟩ : ∃ R, R = w1.heap.size := ⟨_, rfl⟩
  have r2 : Rd 88 R u0 false w2 := by rw [hw2, hR]; exact Rd.new _ _ _ _
  have b2 : Below w1.heap.size w1 w2 := by rw [hw2]; exact (Below.refl _ _).alloc (Nat.le_refl _) _
  have hl1 : w.heap.size < R := by rw [hR]; exact (Array.getElem?_eq_some_iff.1 HC1.out).1
  have HC2 : Hid (w2.heap[w.heap.size]? = some (.cells sn0.c 30 (0, 0))) := (b2.block _ (by omega)).trans HC1.out
  have HB2 : Hid (Below w.heap.size w w2) := HB1.out.trans (b2.mono HB1.out.size)
  have HR2 := Lib.hid r2
  have HL1 := Lib.hid hl1
  unfold rdp
  rw [← hR]
  clear hw2 r2 b2 hl1 hR HB1 HC1
  obtain ⟨q, hq⟩ : ∃ q, q = w2.heap.size := ⟨_, rfl⟩
  obtain ⟨w3, hw3⟩ : ∃ w3, w3 = w2.alloc (.cells #[.int .u64 0, .int .u64 0, .string ⟨#[]⟩] 30) := ⟨_, rfl⟩
  have c3 : w3.heap[q]? = some (.cells sn0.c 30 (0, 0)) := by rw [hw3, hq]; exact heap_alloc_new w2 _
  have b3 : Below w2.heap.size w2 w3 := by rw [hw3]; exact (Below.refl _ _).alloc (Nat.le_refl _) _
  have G3 : Hid (Gs w R q u0 false sn0 w3) :=
    ⟨HB2.out.trans (b3.mono HB2.out.size), (b3.block _ (Array.getElem?_eq_some_iff.1 HC2.out).1).trans HC2.out, HR2.out.below b3 HR2.out.lt, c3, HL1.out, by rw [hq]; exact HR2.out.lt, HZ0.out, KS0.out⟩
  have HQ := Lib.hid hq
  have HW3 := Lib.hid hw3
  clear c3 b3 hq hw3 HR2 HC2 HB2
  go_upto_region 4 with fail
  rw [← HW3.out, ← HQ.out]
  clear HW3 HQ
  go_wp2_with fail
  refine (KF.out _ _ _ G3.out.rd G3.out.sa).mono ?_
  rintro e w4 ⟨rfl, r4, g4⟩
  have G4 : Hid (Gs w R q u1 (false || !f0) sn0 w4) := G3.out.grown r4 g4 HZ1.out KS1.out
  clear r4 g4 G3
  have x0 : w4.cell? ⟨q, 0, none⟩ = some (.int .u64 0) := (sn_cells G4.out.sq).1
  have y0 := G4.out.fz 0
  obtain ⟨w5, hw5⟩ : ∃ w5, w5 = w4.setCell ⟨q, 0, none⟩ (.int .u64 v0) := ⟨_, rfl⟩
  have G5 : Hid (Gs w R q u1 (false || !f0) ⟨v0, 0, ⟨#[]⟩⟩ w5) := by show Gs _ _ _ _ _ _ _; rw [hw5]; exact G4.out.set 0 _ rfl
  have HW5 := Lib.hid hw5
  clear hw5 G4
  go_wp2_with fail
  rw [← HW5.out]
  clear x0 y0 HW5
  refine (KG.out _ _ _ G5.out.rd G5.out.sa).mono ?_
  rintro e w6 ⟨rfl, r6, g6⟩
  have G6 : Hid (Gs w R q u2 (false || !f0 || !f1) ⟨v0, 0, ⟨#[]⟩⟩ w6) := G5.out.grown r6 g6 HZ2.out KS2.out
  clear r6 g6 G5
  have x1 : w6.cell? ⟨q, 1, none⟩ = some (.int .u64 ((0 : Nat) : Int)) := (sn_cells G6.out.sq).2.1
  have y1 := G6.out.fz 1
  obtain ⟨w7, hw7⟩ : ∃ w7, w7 = w6.setCell ⟨q, 1, none⟩ (.int .u64 v1) := ⟨_, rfl⟩
  have G7 : Hid (Gs w R q u2 (false || !f0 || !f1) ⟨v0, v1, ⟨#[]⟩⟩ w7) := by show Gs _ _ _ _ _ _ _; rw [hw7]; exact G6.out.set 1 _ rfl
  have HW7 := Lib.hid hw7
  clear hw7 G6
  go_upto_region 9 with fail
  rw [← HW7.out]
  clear x1 y1 HW7
  have x2 : w7.cell? ⟨q, 2, none⟩ = some (.string ⟨#[]⟩) := (sn_cells G7.out.sq).2.2
  have y2 := G7.out.fz 2
  have z0 := G7.out.rd.cell0
  obtain ⟨w8, hw8⟩ : ∃ w8, w8 = w7.setCell ⟨q, 2, none⟩ (.string u2) := ⟨_, rfl⟩
  have G8 : Hid (Gs w R q u2 (false || !f0 || !f1) ⟨v0, v1, u2⟩ w8) := by show Gs _ _ _ _ _ _ _; rw [hw8]; exact G7.out.set 2 _ rfl
  have HW8 := Lib.hid hw8
  clear hw8 G7
  go_upto_region 10 with fail
  rw [← HW8.out]
  clear x2 y2 z0 HW8 KF KG
  have hbo : (false || !f0 || !f1) = !(f0 && f1) := by cases f0 <;> cases f1 <;> rfl
  rw [hbo] at G8
  obtain ⟨ff, hff⟩ : ∃ x, x = (f0 && f1) := ⟨_, rfl⟩
  rw [← hff] at G8 HO
  clear hbo hff KS1 KS2 KS0
  have z1 := G8.out.rd.cell1
  have d2 : w8.cell? ⟨q, 2, none⟩ = some (.string u2) := (sn_cells (s := ⟨v0, v1, u2⟩) G8.out.sq).2.2
  have hres : ∀ (s : Sn) (W9 : World), W9 = w8.setRow w.heap.size s.c → Below w.heap.size w W9 ∧ W9.heap[w.heap.size]? = some (.cells s.c 30 (0, 0)) := fun s W9 h9 => by
    rw [h9]
    exact ⟨G8.out.be.trans ⟨rfl, rfl, rfl, by simp, fun k hk => setRow_other _ _ _ _ (by have := G8.out.be.size; omega)⟩, setRow_heap _ _ _ _ 30 (0, 0) G8.out.r0⟩
  have HZZ := Lib.hid hres
  have HC8 := Lib.hid G8.out.r0
  have HS8 := Lib.hid G8.out.sq
  clear hres
  unfold rdp at *
  cases o with
  | false =>
    have hO : OO = false := HO.out
    subst hO
    obtain rfl : SS = sn0 := HS.out
    obtain rfl : VV = 0 := HV.out
    obtain ⟨W9, hW9⟩ : ∃ W9, W9 = w8.setRow w.heap.size sn0.c := ⟨_, rfl⟩
    have H9 := Lib.hid (HZZ.out sn0 W9 hW9)
    have HW9 := Lib.hid hW9
    clear hW9 HZZ HO HS HV
    go_wp2_with (refine wpList_store_rn rfl _ _ rfl _ _ sn0 sn0 rfl rfl HC8.out ?_; refine wpList_at HW9.out.symm ?_; go_frame)
    exact bodyPost_ret (v := _) (res14 _ _ w.heap.size sn0 rfl H9.out.2) rfl ⟨rfl, H9.out.1⟩
  | true =>
    rw [Bool.true_and] at HO
    cases ff with
    | false =>
      have hO : OO = false := HO.out
      subst hO
      obtain rfl : SS = sn0 := HS.out
      obtain rfl : VV = 0 := HV.out
      obtain ⟨W9, hW9⟩ : ∃ W9, W9 = w8.setRow w.heap.size sn0.c := ⟨_, rfl⟩
      have H9 := Lib.hid (HZZ.out sn0 W9 hW9)
      have HW9 := Lib.hid hW9
      clear hW9 HZZ HO HS HV
      go_wp2_with (refine wpList_store_rn rfl _ _ rfl _ _ sn0 sn0 rfl rfl HC8.out ?_; refine wpList_at HW9.out.symm ?_; go_frame)
      exact bodyPost_ret (v := _) (res14 _ _ w.heap.size sn0 rfl H9.out.2) rfl ⟨rfl, H9.out.1⟩
    | true =>
      by_cases hd : u2.size ≤ 16384
      · have hO : OO = true := by rw [HO.out, decide_eq_true hd]; rfl
        have hdn : ¬ (16384 : Int) < u2.size := by omega
        subst hO
        obtain rfl : SS = ⟨v0, v1, u2⟩ := HS.out
        obtain rfl : VV = V := HV.out
        obtain ⟨W9, hW9⟩ : ∃ W9, W9 = w8.setRow w.heap.size (Sn.c ⟨v0, v1, u2⟩) := ⟨_, rfl⟩
        have H9 := Lib.hid (HZZ.out ⟨v0, v1, u2⟩ W9 hW9)
        have HW9 := Lib.hid hW9
        clear hW9 HZZ HO HS HV hd
        go_wp2_with (first
          | (refine wpList_load_rn rfl _ rfl _ _ ⟨v0, v1, u2⟩ rfl HS8.out ?_; go_frame)
          | (refine wpList_store_rn rfl _ _ rfl _ _ ⟨v0, v1, u2⟩ sn0 rfl rfl HC8.out ?_; refine wpList_at HW9.out.symm ?_; go_frame))
        exact bodyPost_ret (v := _) (res14 _ _ w.heap.size ⟨v0, v1, u2⟩ rfl H9.out.2) rfl ⟨rfl, H9.out.1⟩
      · have hO : OO = false := by rw [HO.out, decide_eq_false hd]; rfl
        have hdn : (16384 : Int) < u2.size := by omega
        clear hd
        subst hO
        obtain rfl : SS = sn0 := HS.out
        obtain rfl : VV = 0 := HV.out
        obtain ⟨W9, hW9⟩ : ∃ W9, W9 = w8.setRow w.heap.size sn0.c := ⟨_, rfl⟩
        have H9 := Lib.hid (HZZ.out sn0 W9 hW9)
        have HW9 := Lib.hid hW9
        clear hW9 HZZ HO HS HV
        go_wp2_with (refine wpList_store_rn rfl _ _ rfl _ _ sn0 sn0 rfl rfl HC8.out ?_; refine wpList_at HW9.out.symm ?_; go_frame)
        exact bodyPost_ret (v := _) (res14 _ _ w.heap.size sn0 rfl H9.out.2) rfl ⟨rfl, H9.out.1⟩
theorem rget_any (b : ByteArray) (w : World) (hb : b.size ≤ 281474976710656) :
    Calls Try.prog 14 #[.string b] w fun e w' => e = .returned (.tuple #[(gtS b).v, .int .i64 (gtV b), .bool (gtO b)]) ∧ Below w.heap.size w w' := by
  by_cases h : nOk b = true ∧ nV b = 1
  · exact rget_v1 b w hb h.1 h.2
  · exact rget_o b w hb fun h1 h2 => h ⟨h1, h2⟩
end Go.Proofs.Ytlmfnlaikdmphaa
namespace Go.Proofs.Ytlmfnlaikdmphaa
open Go.RowKit Vi Dk
set_option linter.unusedVariables false
set_option linter.unusedSimpArgs false
/-- The bytes of sectors. -/
def rdB (d : St) (at_ m : Nat) : ByteArray := txt (catS (fun i => d.now (at_ + i)) m)
def arR (d : St) (at_ m : Int) : Sn × Int × Int :=
  if onA d.n at_ m then (if d.dead then (sn0, 0, 7) else (gtS (rdB d at_.toNat m.toNat), gtV (rdB d at_.toNat m.toNat), if gtO (rdB d at_.toNat m.toNat) then 0 else 2)) else (sn0, 0, 1)
theorem rdB_size (d : St) (ok : d.Ok) (at_ m : Nat) : (rdB d at_ m).size = m * 64 := by
  unfold rdB
  rw [txt_size, catS_len _ (fun i => ok.now _)]
set_option maxHeartbeats 2000000 in
set_option maxRecDepth 100000 in
/-- One sector is read. -/
theorem arcl_any (g : Nat) (L : List Nat) (d : St) (b2 b3 B b at_ k : Nat) (x : ByteArray) (w : World) (h : Dv w g L d) (h2 : w.heap[b2]? = some (.cells #[ptr g] 43 (0, 0))) (h3 : w.heap[b3]? = some (.cells #[.int .i64 at_] 3 (0, 0)))
    (hs : Sb B b x w) (hB : B ≤ w.heap.size) (hx : x.size ≤ 1099511627776) (hk : k ≤ 1048576) (ha : at_ ≤ 1048576) :
    Calls Try.prog 62 #[.int .i64 k, ptr b2, ptr b3, ptr b] w fun e w' => e = .returned (.int .i64 (d.refuses ((at_ + k : Nat) : Int))) ∧ Sb B b (x ++ txt (d.readS ((at_ + k : Nat) : Int))) w' ∧ Below B w w' := by
  have c2 : w.cell? ⟨b2, 0, none⟩ = some (ptr g) := cell_of_row w b2 0 _ 43 (0, 0) h2
  have c3 : w.cell? ⟨b3, 0, none⟩ = some (.int .i64 at_) := cell_of_row w b3 0 _ 3 (0, 0) h3
  have KR := Lib.hid (read_any g L d ((at_ + k : Nat) : Int) w h)
  have i1 : ((at_ + k : Nat) : Int) = (at_ : Int) + (k : Int) := by omega
  have hrs : (txt (d.readS ((at_ + k : Nat) : Int))).size ≤ 64 := by
    rw [txt_size]
    unfold St.readS
    split
    · rw [h.1.now]; omega
    · exact Nat.zero_le _
  rw [i1] at KR hrs ⊢
  obtain ⟨Z, hZ⟩ : ∃ Z, Z = d.refuses ((at_ : Int) + (k : Int)) := ⟨_, rfl⟩
  obtain ⟨T, hT⟩ : ∃ T, T = txt (d.readS ((at_ : Int) + (k : Int))) := ⟨_, rfl⟩
  rw [← hZ, ← hT] at KR ⊢
  rw [← hT] at hrs
  have KW := Lib.hid (fun (W : World) (hW : Sb B b x W) (hb : B ≤ W.heap.size) => wstr_any B b x T W hW (by omega) hb)
  have HS := Lib.hid hs
  clear hZ hT i1 hs h h2 h3
  unfold ptr at *
  go_enter Try.func62, Try.ntmps62
  go_upto_region 2 with (go_at_call 32; (with_reducible refine KR.out.mono ?_); rintro q w1 ⟨rfl, b1⟩)
  have HS1 := Lib.hid (HS.out.below b1)
  have HB1 : Hid (Below B w w1) := (Below.refl B w).trans (b1.mono hB)
  clear b1
  go_wp2_with (go_at_call 63; (with_reducible refine (KW.out _ HS1.out (Nat.le_trans hB HB1.out.size)).mono ?_); rintro q w2 ⟨rfl, hs2, b2⟩)
  go_ret
  exact ⟨rfl, hs2, HB1.out.trans b2⟩
theorem refuses_in {d : St} {a M k : Nat} (h : a + M ≤ d.n) (hk : k < M) : d.refuses ((a + k : Nat) : Int) = if d.dead then 7 else 0 := by
  unfold St.refuses
  split
  · rfl
  · rw [if_neg (by omega)]
theorem readS_in {d : St} {a M k : Nat} (h : a + M ≤ d.n) (hk : k < M) (hd : d.dead = false) : d.readS ((a + k : Nat) : Int) = d.now (a + k) := by
  unfold St.readS
  rw [refuses_in h hk, hd, if_pos (by decide), Int.toNat_natCast]
theorem catS_snoc (d : St) (a k : Nat) : txt (catS (fun i => d.now (a + i)) k) ++ txt (d.now (a + k)) = txt (catS (fun i => d.now (a + i)) (k + 1)) := by
  apply ByteArray.ext
  apply Array.toList_inj.1
  rw [ByteArray.data_append, Array.toList_append, txt_list, txt_list, txt_list, catS]
theorem aeachr_any (g : Nat) (L : List Nat) (d : St) (b2 b3 a M : Nat) (W1 : World) (hD : Dv W1 g L d) (h2 : W1.heap[b2]? = some (.cells #[ptr g] 43 (0, 0))) (h3 : W1.heap[b3]? = some (.cells #[.int .i64 a] 3 (0, 0)))
    (hn : a + M ≤ d.n) (hM : 1 ≤ M) :
    Calls Try.prog 53 #[.int .i64 M, .func (.func 62) #[] #[ptr b2, ptr b3, ptr W1.heap.size]] (W1.alloc (.cells #[.pointer none, .slice none 0 0] 112)) fun e w' => e = .returned (.int .i64 (if d.dead then 7 else 0)) ∧ (d.dead = false → Sb W1.heap.size W1.heap.size (rdB d a M) w') ∧ Below W1.heap.size W1 w' := by
  obtain ⟨b, hb⟩ : ∃ b, b = W1.heap.size := ⟨_, rfl⟩
  rw [← hb]
  have n2 := hD.1.n2
  have hbl : Below b W1 (W1.alloc (.cells #[.pointer none, .slice none 0 0] 112)) := (Below.refl b W1).alloc (by omega) _
  have hs0 : Sb b b ⟨#[]⟩ (W1.alloc (.cells #[.pointer none, .slice none 0 0] 112)) := by rw [hb]; exact Lib.fresh_isBuilder 112 5 W1
  refine (aeach_any 62 (.inr rfl) (ptr b2) (ptr b3) (ptr b) M
    (fun k w1 => (d.dead = true → k = 0) ∧ Sb b b (txt (catS (fun i => d.now (a + i)) k)) w1 ∧ Below b W1 w1) (fun z w1 => z = 7 ∧ d.dead = true ∧ Below b W1 w1) _ (by omega) ⟨fun _ => rfl, hs0, hbl⟩ ?_).mono ?_
  · rintro k w1 hk ⟨hdk, hsb, hbw⟩
    have hw1 : b ≤ w1.heap.size := by have := hbw.size; omega
    have hD2 : Dv w1 g L d := hD.below (hb ▸ hbw)
    have hx : (txt (catS (fun i => d.now (a + i)) k)).size ≤ 1099511627776 := by
      rw [txt_size, catS_len _ (fun i => hD.1.now _)]
      omega
    refine (arcl_any g L d b2 b3 b b a k _ w1 hD2 ((hbw.block _ (by have := (Array.getElem?_eq_some_iff.1 h2).1; omega)).trans h2) ((hbw.block _ (by have := (Array.getElem?_eq_some_iff.1 h3).1; omega)).trans h3) hsb hw1 hx (by omega) (by omega)).mono ?_
    rintro e w2 ⟨rfl, hs2, hb2⟩
    rw [refuses_in hn hk]
    refine ⟨_, rfl, fun hz => ?_, fun hz => ?_⟩
    · have hdd : d.dead = false := by
        cases hd : d.dead with
        | false => rfl
        | true => rw [hd] at hz; simp at hz
      refine ⟨fun h => absurd (hdd.symm.trans h) (by decide), ?_, hbw.trans hb2⟩
      rw [readS_in hn hk hdd, catS_snoc] at hs2
      exact hs2
    · have hdd : d.dead = true := by
        cases hd : d.dead with
        | false => rw [hd] at hz; simp at hz
        | true => rfl
      exact ⟨by rw [hdd]; rfl, hdd, hbw.trans hb2⟩
  · rintro e w1 ⟨z, rfl, hz0, hz1⟩
    by_cases hz : z = 0
    · obtain ⟨h1, h2, h3⟩ := hz0 hz
      have hdd : d.dead = false := by
        cases hd : d.dead with
        | false => rfl
        | true => have := h1 hd; omega
      refine ⟨by rw [hz, hdd]; rfl, fun _ => h2, h3⟩
    · obtain ⟨h1, h2, h3⟩ := hz1 hz
      exact ⟨by rw [h1, h2]; rfl, fun h => absurd (h2.symm.trans h) (by decide), h3⟩
theorem res27 (tmps : Array Value) (w : World) (p : Nat) (s : Sn) (hp : tmps.getD 6 undef = .pointer (some ⟨p, 0, none⟩)) (hg : w.heap[p]? = some (.cells s.c 24 (0, 0))) :
    (results Try.f27 tmps).run Try.prog w = .ok (.tuple #[.agg s.c, tmps.getD 7 undef, tmps.getD 8 undef]) w := by
  simp only [results, Try.results27]
  have hp' : tmps[6]?.getD undef = .pointer (some ⟨p, 0, none⟩) := by simpa using hp
  simp [Sem.run_bind, Result.andThen, hp', asAddr, run_loadVar_row w p 24 24 s.c (0, 0) _ hg Try.underlying24 rfl Try.sn24]
set_option maxHeartbeats 4000000 in
set_option maxRecDepth 100000 in
theorem aread_any (g : Nat) (L : List Nat) (d : St) (at_ m : Int) (w : World) (h : Dv w g L d) (ha : at_ ≤ 9223372036854775807) :
    Calls Try.prog 27 #[ptr g, .int .i64 at_, .int .i64 m] w fun e w' => e = .returned (.tuple #[(arR d at_ m).1.v, .int .i64 (arR d at_ m).2.1, .int .i64 (arR d at_ m).2.2]) ∧ Below w.heap.size w w' := by
  obtain ⟨W, hW⟩ : ∃ W, W = ((w.alloc (.cells #[ptr g] 43)).alloc (.cells #[.int .i64 at_] 3)).alloc (.cells #[.int .u64 0, .int .u64 0, .string ⟨#[]⟩] 24) := ⟨_, rfl⟩
  have hB : Below w.heap.size w W := by
    rw [hW]
    exact (((Below.refl _ w).alloc (Nat.le_refl _) _).alloc (by simp) _).alloc (by simp; omega) _
  have z5 : W.heap[w.heap.size]? = some (.cells #[ptr g] 43 (0, 0)) := by
    rw [hW, Lib.alloc_old _ _ _ (by simp; omega), Lib.alloc_old _ _ _ (by simp)]
    exact heap_alloc_new w _
  have z6 : W.heap[w.heap.size + 1]? = some (.cells #[.int .i64 at_] 3 (0, 0)) := by
    rw [hW, Lib.alloc_old _ _ _ (by simp)]
    have := heap_alloc_new (w.alloc (.cells #[ptr g] 43)) (.cells #[.int .i64 at_] 3)
    rwa [World.size_alloc] at this
  have z9 : W.heap[w.heap.size + 2]? = some (.cells sn0.c 24 (0, 0)) := by
    rw [hW]
    have := heap_alloc_new ((w.alloc (.cells #[ptr g] 43)).alloc (.cells #[.int .i64 at_] 3)) (.cells sn0.c 24)
    rwa [World.size_alloc, World.size_alloc] at this
  have hsz : W.heap.size = w.heap.size + 3 := by rw [hW]; simp
  obtain ⟨p, hp⟩ : ∃ p, p = w.heap.size + 2 := ⟨_, rfl⟩
  have HPW : Hid (w.heap.size ≤ p) := by show _ ≤ _; omega
  rw [← hp] at z9
  have c5 : W.cell? ⟨w.heap.size, 0, none⟩ = some (ptr g) := cell_of_row _ _ 0 _ 43 (0, 0) z5
  have c6 : W.cell? ⟨w.heap.size + 1, 0, none⟩ = some (.int .i64 at_) := cell_of_row _ _ 0 _ 3 (0, 0) z6
  have HB := Lib.hid hB
  have HW := Lib.hid hW
  have HP := Lib.hid hp
  have Z9 := Lib.hid z9
  have HDW := h.below hB
  have KO := Lib.hid (aon_any g L d at_ m W HDW ha)
  obtain ⟨X, hX⟩ : ∃ X, X = arR d at_ m := ⟨_, rfl⟩
  rw [← hX]
  have HX := Lib.hid hX
  have hset : ∀ (W' W9 : World) (s s' : Sn), Below w.heap.size w W' → W'.heap[p]? = some (.cells s.c 24 (0, 0)) → W9 = W'.setRow p s'.c → Below w.heap.size w W9 ∧ W9.heap[p]? = some (.cells s'.c 24 (0, 0)) := fun W' W9 s s' hb hp9 h9 => by
    rw [h9]
    exact ⟨hb.trans ⟨rfl, rfl, rfl, by simp, fun k hk => setRow_other _ _ _ _ (by have := HPW.out; omega)⟩, setRow_heap _ _ _ _ 24 (0, 0) hp9⟩
  have HSET := Lib.hid hset
  clear hset hW hp z9 hX
  cases hon : onA d.n at_ m with
  | false =>
    obtain rfl : X = (sn0, 0, 1) := by rw [HX.out]; unfold arR; rw [hon]; rfl
    rw [hon] at KO
    obtain ⟨W9, hW9⟩ : ∃ W9, W9 = W.setRow p sn0.c := ⟨_, rfl⟩
    have H9 := Lib.hid (HSET.out W W9 sn0 sn0 HB.out Z9.out hW9)
    have HW9 := Lib.hid hW9
    clear hon hW9 HSET HX h HDW hB z5 z6 hsz
    unfold ptr at *
    go_enter Try.func27, Try.ntmps27
    go_upto_region 1 with fail
    refine wp_at (w := W) HW.out.symm ?_
    rw [← HP.out]
    go_wp2_with (first | (go_at_call 51; (with_reducible refine KO.out.mono ?_); rintro q w1 ⟨rfl, rfl⟩) | (refine wpList_store_sn rfl _ _ rfl _ _ sn0 sn0 rfl rfl Z9.out ?_; refine wpList_at HW9.out.symm ?_; go_frame))
    exact bodyPost_ret (v := _) (res27 _ _ p sn0 rfl H9.out.2) rfl ⟨rfl, H9.out.1⟩
  | true =>
    obtain ⟨h0, h1, h2⟩ := onA_iff.1 hon
    rw [hon] at KO
    obtain ⟨a, rfl⟩ := Int.eq_ofNat_of_zero_le h0
    obtain ⟨M, rfl⟩ := Int.eq_ofNat_of_zero_le (show 0 ≤ m by omega)
    have hn : a + M ≤ d.n := by omega
    have KE := Lib.hid (aeachr_any g L d w.heap.size (w.heap.size + 1) a M W HDW z5 z6 hn (by omega))
    have hX : X = if d.dead then (sn0, 0, 7) else (gtS (rdB d a M), gtV (rdB d a M), if gtO (rdB d a M) then 0 else 2) := by
      rw [HX.out]; unfold arR; rw [hon, if_pos rfl, Int.toNat_natCast, Int.toNat_natCast]
    have hbs : (rdB d a M).size ≤ 281474976710656 := by rw [rdB_size d HDW.1]; have := HDW.1.n2; omega
    have KG := Lib.hid (fun (W : World) => aget_any (rdB d a M) W hbs)
    obtain ⟨S, hS⟩ : ∃ S, S = rdB d a M := ⟨_, rfl⟩
    have KS := Lib.hid (fun (W' : World) (h : Sb W.heap.size W.heap.size S W') (hb : W.heap.size ≤ W'.heap.size) => bstr_any W.heap.size W.heap.size S W' h hb)
    rw [← hS] at KE KG hX
    have HX2 := Lib.hid hX
    have HP3 : Hid (p < W.heap.size) := (Array.getElem?_eq_some_iff.1 Z9.out).1
    obtain ⟨bb, hbb⟩ : ∃ bb, bb = W.heap.size := ⟨_, rfl⟩
    rw [← hbb] at KE KS HP3
    have HBB := Lib.hid hbb
    clear hon h HDW hB z5 z6 hsz HX hX h0 h1 h2 hn hbs hS hbb
    unfold ptr at *
    obtain ⟨gO, hgO⟩ : ∃ x, x = gtO S := ⟨_, rfl⟩
    obtain ⟨gS, hgS⟩ : ∃ x, x = gtS S := ⟨_, rfl⟩
    obtain ⟨gV, hgV⟩ : ∃ x, x = gtV S := ⟨_, rfl⟩
    rw [← hgO, ← hgS, ← hgV] at KG HX2
    have HGN : Hid (gO = false → gS = sn0 ∧ gV = 0) := fun h => by rw [hgS, hgV]; exact gt_no (hgO ▸ h)
    clear hgO hgS hgV
    cases hdd : d.dead with
    | true =>
      rw [hdd] at KE HX2
      obtain rfl : X = (sn0, 0, 7) := HX2.out
      go_enter Try.func27, Try.ntmps27
      go_upto_region 1 with fail
      refine wp_at (w := W) HW.out.symm ?_
      rw [← HP.out]
      obtain ⟨W9, hW9⟩ : ∃ W9, W9 = W := ⟨_, rfl⟩
      clear hW9
      go_upto_region 4 with (go_at_call 51; (with_reducible refine KO.out.mono ?_); rintro q w1 ⟨rfl, rfl⟩)
      rw [← HBB.out]
      go_upto_region 6 with (go_at_call 53; (with_reducible refine KE.out.mono ?_); rintro q w2 ⟨rfl, _, b2⟩)
      have HB2 : Hid (Below w.heap.size w w2) := HB.out.trans (b2.mono (by have := HB.out.size; have := HBB.out; omega))
      have Z2 : Hid (w2.heap[p]? = some (.cells sn0.c 24 (0, 0))) := (b2.block _ HP3.out).trans Z9.out
      obtain ⟨W9, hW9⟩ : ∃ W9, W9 = w2.setRow p sn0.c := ⟨_, rfl⟩
      have H9 := Lib.hid (HSET.out w2 W9 sn0 sn0 HB2.out Z2.out hW9)
      have HW9 := Lib.hid hW9
      clear hW9 b2
      go_wp2_with (refine wpList_store_sn rfl _ _ rfl _ _ sn0 sn0 rfl rfl Z2.out ?_; refine wpList_at HW9.out.symm ?_; go_frame)
      exact bodyPost_ret (v := _) (res27 _ _ p sn0 rfl H9.out.2) rfl ⟨rfl, H9.out.1⟩
    | false =>
      rw [hdd] at KE HX2
      have hX : X = (gS, gV, if gO then 0 else 2) := HX2.out
      have HXX := Lib.hid hX
      clear hX HX2
      go_enter Try.func27, Try.ntmps27
      go_upto_region 1 with fail
      refine wp_at (w := W) HW.out.symm ?_
      rw [← HP.out]
      go_upto_region 4 with (go_at_call 51; (with_reducible refine KO.out.mono ?_); rintro q w1 ⟨rfl, rfl⟩)
      rw [← HBB.out]
      go_upto_region 7 with (go_at_call 53; (with_reducible refine KE.out.mono ?_); rintro q w2 ⟨rfl, hs2, b2⟩)
      have HS2 : Hid (Sb bb bb S w2) := hs2 trivial
      have HL2 : Hid (bb ≤ w2.heap.size) := by show _ ≤ _; have := b2.size; have := HBB.out; omega
      have HB2 : Hid (Below w.heap.size w w2) := HB.out.trans (b2.mono (by have := HB.out.size; have := HBB.out; omega))
      have Z2 : Hid (w2.heap[p]? = some (.cells sn0.c 24 (0, 0))) := (b2.block _ HP3.out).trans Z9.out
      clear hs2 b2 c5 c6
      go_wp2_with fail
      refine (KS.out _ HS2.out HL2.out).mono ?_
      rintro q w3 ⟨rfl, b3⟩
      have HB3 : Hid (Below w.heap.size w w3) := HB2.out.trans (b3.mono (by have := HB.out.size; have := HBB.out; omega))
      have Z3 : Hid (w3.heap[p]? = some (.cells sn0.c 24 (0, 0))) := (b3.block _ HP3.out).trans Z2.out
      have HL3 : Hid (bb ≤ w3.heap.size) := by show _ ≤ _; have := b3.size; have := HL2.out; omega
      clear b3
      go_wp2_with fail
      refine (KG.out _).mono ?_
      rintro q w4 ⟨rfl, b4⟩
      have HB4 : Hid (Below w.heap.size w w4) := HB3.out.trans (b4.mono HB3.out.size)
      have Z4 : Hid (w4.heap[p]? = some (.cells sn0.c 24 (0, 0))) := (b4.block _ (by have := HP3.out; have := HL3.out; omega)).trans Z3.out
      obtain ⟨W5, hW5⟩ : ∃ W5, W5 = w4.setRow p gS.c := ⟨_, rfl⟩
      have H5 := Lib.hid (HSET.out w4 W5 sn0 gS HB4.out Z4.out hW5)
      have HW5 := Lib.hid hW5
      clear hW5 b4
      go_upto_region 8 with (refine wpList_store_sn rfl _ _ rfl _ _ gS sn0 rfl rfl Z4.out ?_; refine wpList_at HW5.out.symm ?_; go_frame)
      cases gO with
      | false =>
        obtain ⟨hg1, hg2⟩ := HGN.out rfl
        have hX : X = (sn0, 0, 2) := by rw [HXX.out, hg1, hg2]; rfl
        subst hX
        obtain ⟨W9, hW9⟩ : ∃ W9, W9 = W5.setRow p sn0.c := ⟨_, rfl⟩
        have H9 := Lib.hid (HSET.out W5 W9 gS sn0 H5.out.1 H5.out.2 hW9)
        have HW9 := Lib.hid hW9
        clear hW9 hg1 hg2
        go_wp2_with (refine wpList_store_sn rfl _ _ rfl _ _ sn0 gS rfl rfl H5.out.2 ?_; refine wpList_at HW9.out.symm ?_; go_frame)
        exact bodyPost_ret (v := _) (res27 _ _ p sn0 rfl H9.out.2) rfl ⟨rfl, H9.out.1⟩
      | true =>
        have hX : X = (gS, gV, 0) := by rw [HXX.out]; rfl
        subst hX
        obtain ⟨W9, hW9⟩ : ∃ W9, W9 = W5.setRow p gS.c := ⟨_, rfl⟩
        have H9 := Lib.hid (HSET.out W5 W9 gS gS H5.out.1 H5.out.2 hW9)
        have HW9 := Lib.hid hW9
        clear hW9
        go_wp2_with (first
          | (refine wpList_load_sn rfl _ rfl _ _ gS rfl H5.out.2 ?_; go_frame)
          | (refine wpList_store_sn rfl _ _ rfl _ _ gS gS rfl rfl H5.out.2 ?_; refine wpList_at HW9.out.symm ?_; go_frame))
        exact bodyPost_ret (v := _) (res27 _ _ p gS rfl H9.out.2) rfl ⟨rfl, H9.out.1⟩
end Go.Proofs.Ytlmfnlaikdmphaa
namespace Go.Proofs.Ytlmfnlaikdmphaa
open Go.RowKit Vi Dk
set_option linter.unusedVariables false
set_option linter.unusedSimpArgs false
theorem res28 (tmps : Array Value) (w : World) (p : Nat) (s : Sn) (hp : tmps.getD 6 undef = .pointer (some ⟨p, 0, none⟩)) (hg : w.heap[p]? = some (.cells s.c 30 (0, 0))) :
    (results Try.f28 tmps).run Try.prog w = .ok (.tuple #[.agg s.c, tmps.getD 7 undef, tmps.getD 8 undef]) w := by
  simp only [results, Try.results28]
  have hp' : tmps[6]?.getD undef = .pointer (some ⟨p, 0, none⟩) := by simpa using hp
  simp [Sem.run_bind, Result.andThen, hp', asAddr, run_loadVar_row w p 30 30 s.c (0, 0) _ hg Try.underlying30 rfl Try.sn30]
set_option maxHeartbeats 4000000 in
set_option maxRecDepth 100000 in
theorem rread_sn (B gr : Nat) (L : List Nat) (d : St) (at_ m : Int) (w : World) (h : Rf w B gr L d) (ha : at_ ≤ 9223372036854775807) :
    Calls Try.prog 28 #[ptr gr, .int .i64 at_, .int .i64 m] w fun e w' => e = .returned (.tuple #[(arR d at_ m).1.v, .int .i64 (arR d at_ m).2.1, .int .i64 (arR d at_ m).2.2]) ∧ Below w.heap.size w w' := by
  obtain ⟨W, hW⟩ : ∃ W, W = w.alloc (.cells #[.int .u64 0, .int .u64 0, .string ⟨#[]⟩] 30) := ⟨_, rfl⟩
  obtain ⟨p, hp⟩ : ∃ p, p = w.heap.size := ⟨_, rfl⟩
  have hB : Below w.heap.size w W := by rw [hW]; exact (Below.refl _ w).alloc (Nat.le_refl _) _
  have z9 : W.heap[p]? = some (.cells sn0.c 30 (0, 0)) := by rw [hW, hp]; exact heap_alloc_new w _
  have HB := Lib.hid hB
  have HW := Lib.hid hW
  have HP := Lib.hid hp
  have Z9 := Lib.hid z9
  have HR := Lib.hid (h.below hB)
  have HOK := Lib.hid h.1
  have HPW : Hid (w.heap.size ≤ p) := by show _ ≤ _; omega
  have KO := Lib.hid (rright_any B gr L d at_ m W HR.out ha)
  obtain ⟨X, hX⟩ : ∃ X, X = arR d at_ m := ⟨_, rfl⟩
  rw [← hX]
  have HX := Lib.hid hX
  have hset : ∀ (W' W9 : World) (s s' : Sn), Below w.heap.size w W' → W'.heap[p]? = some (.cells s.c 30 (0, 0)) → W9 = W'.setRow p s'.c → Below w.heap.size w W9 ∧ W9.heap[p]? = some (.cells s'.c 30 (0, 0)) := fun W' W9 s s' hb hp9 h9 => by
    rw [h9]
    exact ⟨hb.trans ⟨rfl, rfl, rfl, by simp, fun k hk => setRow_other _ _ _ _ (by have := HPW.out; omega)⟩, setRow_heap _ _ _ _ 30 (0, 0) hp9⟩
  have HSET := Lib.hid hset
  clear hset hW hp z9 hX hB h
  cases hon : onA d.n at_ m with
  | false =>
    obtain rfl : X = (sn0, 0, 1) := by rw [HX.out]; unfold arR; rw [hon]; rfl
    rw [hon] at KO
    obtain ⟨W9, hW9⟩ : ∃ W9, W9 = W.setRow p sn0.c := ⟨_, rfl⟩
    have H9 := Lib.hid (HSET.out W W9 sn0 sn0 HB.out Z9.out hW9)
    have HW9 := Lib.hid hW9
    clear hon hW9 HSET HX
    unfold ptr at *
    go_enter Try.func28, Try.ntmps28
    go_upto_region 1 with fail
    refine wp_at (w := W) HW.out.symm ?_
    rw [← HP.out]
    go_wp2_with (first | (go_at_call 55; (with_reducible refine KO.out.mono ?_); rintro q w1 ⟨rfl, rfl⟩) | (refine wpList_store_rn rfl _ _ rfl _ _ sn0 sn0 rfl rfl Z9.out ?_; refine wpList_at HW9.out.symm ?_; go_frame))
    exact bodyPost_ret (v := _) (res28 _ _ p sn0 rfl H9.out.2) rfl ⟨rfl, H9.out.1⟩
  | true =>
    obtain ⟨h0, h1, h2⟩ := onA_iff.1 hon
    rw [hon] at KO
    obtain ⟨a, rfl⟩ := Int.eq_ofNat_of_zero_le h0
    obtain ⟨M, rfl⟩ := Int.eq_ofNat_of_zero_le (show 0 ≤ m by omega)
    have hn : a + M ≤ d.n := by omega
    have n2 := HOK.out.n2
    have hX : X = if d.dead then (sn0, 0, 7) else (gtS (rdB d a M), gtV (rdB d a M), if gtO (rdB d a M) then 0 else 2) := by
      rw [HX.out]; unfold arR; rw [hon, if_pos rfl, Int.toNat_natCast, Int.toNat_natCast]
    have hbs : (rdB d a M).size ≤ 281474976710656 := by rw [rdB_size d HOK.out]; omega
    have KG := Lib.hid (fun (W : World) => rget_any (rdB d a M) W hbs)
    have HRD : Hid (rdB d a M = txt (catS (fun i => d.now (a + i)) M)) := rfl
    obtain ⟨S, hS⟩ : ∃ S, S = rdB d a M := ⟨_, rfl⟩
    rw [← hS] at KG hX HRD
    have HX2 := Lib.hid hX
    have HN := Lib.hid hn
    have HBD : Hid (a ≤ 4096 ∧ M ≤ 4096) := ⟨by omega, by omega⟩
    have HM1 : Hid (1 ≤ M) := by show _ ≤ _; omega
    obtain ⟨gO, hgO⟩ : ∃ x, x = gtO S := ⟨_, rfl⟩
    obtain ⟨gS, hgS⟩ : ∃ x, x = gtS S := ⟨_, rfl⟩
    obtain ⟨gV, hgV⟩ : ∃ x, x = gtV S := ⟨_, rfl⟩
    rw [← hgO, ← hgS, ← hgV] at KG HX2
    have HGN : Hid (gO = false → gS = sn0 ∧ gV = 0) := fun h => by rw [hgS, hgV]; exact gt_no (hgO ▸ h)
    clear hgO hgS hgV hon HX hX h0 h1 h2 hn n2 hbs hS
    unfold ptr at *
    go_enter Try.func28, Try.ntmps28
    go_upto_region 1 with fail
    refine wp_at (w := W) HW.out.symm ?_
    rw [← HP.out]
    go_upto_region 5 with (go_at_call 55; (with_reducible refine KO.out.mono ?_); rintro q w1 ⟨rfl, rfl⟩)
    go_wp2_with fail
    go_loopw [10, 11] (fun s i wr => ∃ k : Nat, i = .int .i64 k ∧ k ≤ M ∧ s = .string (txt (catS (fun i => d.now (a + i)) k)) ∧ Hid (d.dead = true → k = 0) ∧ Hid (wr = W)) (fun _ i _ => M - (Go.RowKit.intOf i).toNat)
    case atStart => exact ⟨0, rfl, Nat.zero_le _, rfl, fun _ => rfl, rfl⟩
    case round =>
      obtain ⟨k, rfl, hk, rfl, hdk, hwr⟩ := hrel
      obtain rfl : wr = W := hwr.out
      by_cases hlt : k < M
      · have t1 : decide ((k : Int) < (M : Int)) = true := decide_eq_true (by omega)
        have KR := Lib.hid (rread_any B gr L d ((a + k : Nat) : Int) wr HR.out)
        obtain ⟨ham1, ham2⟩ := HBD.out
        rw [refuses_in HN.out hlt] at KR
        cases hdd : d.dead with
        | true =>
          rw [hdd, if_pos rfl] at KR
          rw [hdd, if_pos rfl] at HX2
          obtain rfl : X = (sn0, 0, 7) := HX2.out
          obtain ⟨RS, hRS⟩ : ∃ x, x = txt (d.readS ((a + k : Nat) : Int)) := ⟨_, rfl⟩
          rw [← hRS] at KR
          rw [show ((a + k : Nat) : Int) = (a : Int) + k by omega] at KR
          obtain ⟨cs, hcs⟩ : ∃ x, x = txt (catS (fun i => d.now (a + i)) k) := ⟨_, rfl⟩
          rw [← hcs]
          obtain ⟨W9, hW9⟩ : ∃ W9, W9 = wr.setRow p sn0.c := ⟨_, rfl⟩
          have H9 := Lib.hid (HSET.out wr W9 sn0 sn0 HB.out Z9.out hW9)
          have HW9 := Lib.hid hW9
          clear hW9 hRS hcs hdk HX2 hdd HRD
          unfold ptr at *
          go_wp2_with (first | (go_at_call 65; (with_reducible refine KR.out.mono ?_); rintro q w5 ⟨rfl, rfl⟩) | (refine wpList_store_rn rfl _ _ rfl _ _ sn0 sn0 rfl rfl Z9.out ?_; refine wpList_at HW9.out.symm ?_; go_frame))
          exact bodyPost_ret (v := _) (res28 _ _ p sn0 rfl H9.out.2) rfl ⟨rfl, H9.out.1⟩
        | false =>
          rw [hdd, if_neg (by decide), readS_in HN.out hlt hdd] at KR
          have hcat := catS_snoc d a k
          have hsz1 : (txt (catS (fun i => d.now (a + i)) k)).size = k * 64 := by rw [txt_size, catS_len _ (fun i => HOK.out.now _)]
          have hsz2 : (txt (d.now (a + k))).size = 64 := by rw [txt_size, HOK.out.now]
          obtain ⟨cs, hcs⟩ : ∃ x, x = txt (catS (fun i => d.now (a + i)) k) := ⟨_, rfl⟩
          obtain ⟨sk, hsk⟩ : ∃ x, x = txt (d.now (a + k)) := ⟨_, rfl⟩
          rw [← hcs, ← hsk] at hcat
          rw [← hcs] at hsz1 ⊢
          rw [← hsk] at hsz2 KR
          rw [show ((a + k : Nat) : Int) = (a : Int) + k by omega] at KR
          have hadd : ¬ 9223372036854775807 < cs.size + sk.size := by omega
          have HCAT := Lib.hid hcat
          clear hcat hcs hsk hsz1 hsz2 HX2 HRD hdk
          unfold ptr at *
          go_wp2_with (go_at_call 65; (with_reducible refine KR.out.mono ?_); rintro q w5 ⟨rfl, rfl⟩)
          go_roundw
          case rel => exact ⟨k + 1, by go_num, by omega, by rw [HCAT.out], (fun h => by first | cases h | (rw [hdd] at h; cases h)), (by first | exact Lib.hid rfl | exact Lib.hid trivial)⟩
          case measure => simp [Go.RowKit.intOf]; omega
      · have hkm : k = M := by omega
        subst hkm
        have t1 : decide ((k : Int) < (k : Int)) = false := decide_eq_false (by omega)
        rw [← HRD.out]
        cases hdd : d.dead with
        | true =>
          exfalso
          have h0 := hdk.out hdd
          have h1 := HM1.out
          omega
        | false =>
          have hXX : X = (gS, gV, if gO then 0 else 2) := by rw [HX2.out, hdd]; rfl
          have HXX := Lib.hid hXX
          clear hXX HX2 hdk hdd
          go_wp2_with fail
          refine (KG.out _).mono ?_
          rintro q w4 ⟨rfl, b4⟩
          have HB4 : Hid (Below w.heap.size w w4) := HB.out.trans (b4.mono HB.out.size)
          have Z4 : Hid (w4.heap[p]? = some (.cells sn0.c 30 (0, 0))) := (b4.block _ (Array.getElem?_eq_some_iff.1 Z9.out).1).trans Z9.out
          obtain ⟨W5, hW5⟩ : ∃ W5, W5 = w4.alloc (.cells gS.c 30) := ⟨_, rfl⟩
          have HB5 : Hid (Below w.heap.size w W5) := by rw [hW5]; exact HB4.out.alloc HB4.out.size _
          have Z5 : Hid (W5.heap[p]? = some (.cells sn0.c 30 (0, 0))) := by show _ = _; rw [hW5]; exact (Lib.alloc_old _ _ _ (Array.getElem?_eq_some_iff.1 Z4.out).1).trans Z4.out
          obtain ⟨q5, hq5⟩ : ∃ q, q = w4.heap.size := ⟨_, rfl⟩
          have Q5 : Hid (W5.heap[q5]? = some (.cells gS.c 30 (0, 0))) := by show _ = _; rw [hW5, hq5]; exact heap_alloc_new w4 _
          have HW5 := Lib.hid hW5
          have HQ5 := Lib.hid hq5
          clear b4 hW5 hq5
          obtain ⟨gi, gt, gd⟩ := gS
          unfold Sn.c Sn.v at *
          dsimp only at *
          go_upto_region 13 with fail
          rw [← HW5.out, ← HQ5.out]
          clear HW5 HQ5
          cases gO with
          | false =>
            obtain ⟨hg1, hg2⟩ := HGN.out rfl
            have hX : X = (sn0, 0, 2) := by rw [HXX.out, hg1, hg2]; rfl
            subst hX
            obtain ⟨W9, hW9⟩ : ∃ W9, W9 = W5.setRow p sn0.c := ⟨_, rfl⟩
            have H9 := Lib.hid (HSET.out W5 W9 sn0 sn0 HB5.out Z5.out hW9)
            have HW9 := Lib.hid hW9
            clear hW9 hg1 hg2
            go_wp2_with (refine wpList_store_rn rfl _ _ rfl _ _ sn0 sn0 rfl rfl Z5.out ?_; refine wpList_at HW9.out.symm ?_; go_frame)
            exact bodyPost_ret (v := _) (res28 _ _ p sn0 rfl H9.out.2) rfl ⟨rfl, H9.out.1⟩
          | true =>
            have hX : X = (⟨gi, gt, gd⟩, gV, 0) := by rw [HXX.out]; rfl
            subst hX
            obtain ⟨W9, hW9⟩ : ∃ W9, W9 = W5.setRow p (Sn.c ⟨gi, gt, gd⟩) := ⟨_, rfl⟩
            have H9 := Lib.hid (HSET.out W5 W9 sn0 ⟨gi, gt, gd⟩ HB5.out Z5.out hW9)
            have HW9 := Lib.hid hW9
            clear hW9
            go_wp2_with (first
              | (refine wpList_load_rn rfl _ rfl _ _ ⟨gi, gt, gd⟩ rfl Q5.out ?_; go_frame)
              | (refine wpList_store_rn rfl _ _ rfl _ _ ⟨gi, gt, gd⟩ sn0 rfl rfl Z5.out ?_; refine wpList_at HW9.out.symm ?_; go_frame))
            exact bodyPost_ret (v := _) (res28 _ _ p ⟨gi, gt, gd⟩ rfl H9.out.2) rfl ⟨rfl, H9.out.1⟩
end Go.Proofs.Ytlmfnlaikdmphaa
