/-
  The package's GetHard.
  Conditions: a text of at most 2^48 bytes.
-/
import Derived.Test.YtdoombcihobejaaL5
namespace Go.Proofs.Ytdoombcihobejaa
open Go.RowKit Vi Sl
set_option linter.unusedVariables false
set_option linter.unusedSimpArgs false
theorem Try.hd3 : (Try.prog.info? 26).map (·.size) = some 3 := by kernel_rfl
theorem wpList_store_hd {ops : Array Oper} {rest : List Oper} {op : Oper} {a : Act} {Q : Exit → Act → World → Prop} (hgd : op.guard = none) (x y : Operand) (ho : op.op = .store 26 x y)
    (w : World) (z : Nat) (s t : Hd) (hx : a.eval x = .pointer (some ⟨z, 0, none⟩)) (hy : a.eval y = .agg s.c) (hz : w.heap[z]? = some (.cells t.c 26 (0, 0)))
    (h : wpList Try.prog ops Q rest (a.put op.dst undef) (w.setRow z s.c)) : wpList Try.prog ops Q (op :: rest) a w :=
  wpList_store_row hgd 26 x y ho z _ hx hy 26 _ hz Try.hd3 rfl (by simp [Hd.c, Value.oneCell']) h
theorem wpList_load_hd {ops : Array Oper} {rest : List Oper} {op : Oper} {a : Act} {Q : Exit → Act → World → Prop} (hgd : op.guard = none) (x : Operand) (ho : op.op = .load 26 x)
    (w : World) (z : Nat) (s : Hd) (hx : a.eval x = .pointer (some ⟨z, 0, none⟩)) (hz : w.heap[z]? = some (.cells s.c 26 (0, 0)))
    (h : wpList Try.prog ops Q rest (a.put op.dst (.agg s.c)) w) : wpList Try.prog ops Q (op :: rest) a w :=
  wpList_load_row hgd 26 x ho z hx 26 _ (0, 0) _ hz Try.underlying26 rfl Try.hd3 h
theorem results_cell_tmp2 {fn : Func} {p u v : Tmp} {ty : TypeId} (h : fn.results = #[.cell p ty, .tmp u, .tmp v]) (tmps : Array Value) (P : Program) (w : World) :
    (results fn tmps).run P w =
      ((asAddr (tmps.getD p undef)).run P w).andThen fun a w₁ => ((loadVar ty a).run P w₁).andThen fun x w₂ => .ok (.tuple #[x, tmps.getD u undef, tmps.getD v undef]) w₂ := by
  simp only [results, h]
  simp [Sem.run_bind, Result.andThen]
theorem res19 (tmps : Array Value) (w : World) (p : Nat) (s : Hd) (hp : tmps.getD 2 undef = .pointer (some ⟨p, 0, none⟩)) (hg : w.heap[p]? = some (.cells s.c 26 (0, 0))) :
    (results Try.f19 tmps).run Try.prog w = .ok (.tuple #[.agg s.c, tmps.getD 3 undef, tmps.getD 4 undef]) w := by
  rw [results_cell_tmp2 Try.results19, hp]
  simp [asAddr, run_loadVar_row w p 26 26 s.c (0, 0) _ hg Try.underlying26 rfl Try.hd3]
/-- What is read so far: the result's block, the reader. -/
structure Gh (w : World) (h : Hd) (R : Nat) (u : ByteArray) (W : World) : Prop where
  be : Below w.heap.size w W
  r0 : W.heap[w.heap.size]? = some (.cells h.c 26 (0, 0))
  rd : ∃ bad, Rd 109 R u bad W
  l1 : w.heap.size < R
  sz : u.size ≤ 281474976710656
theorem Gh.grown {w W W' : World} {h : Hd} {R : Nat} {u v : ByteArray} (k : Gh w h R u W) (hr : ∃ bad, Rd 109 R v bad W') (hg : W.grownBy W' (some R)) (hv : v.size ≤ 281474976710656) : Gh w h R v W' := by
  have l1 := k.l1
  have lt := (Array.getElem?_eq_some_iff.1 k.r0).1
  exact ⟨below_grownBy k.be hg k.be.size (by omega), (hg.block _ lt (by simp; omega)).trans k.r0, hr, l1, hv⟩
theorem Gh.below {w W W' : World} {h : Hd} {R : Nat} {u : ByteArray} (k : Gh w h R u W) (hb : Below W.heap.size W W') : Gh w h R u W' :=
  k.grown (k.rd.elim fun b hr => ⟨b, hr.below hb hr.lt⟩) (grownBy_below hb _) k.sz
theorem Gh.put {w W : World} {h h' : Hd} {R : Nat} {u : ByteArray} (k : Gh w h R u W) : Gh w h' R u (W.setRow w.heap.size h'.c) :=
  ⟨k.be.trans ⟨rfl, rfl, rfl, by simp, fun j hj => setRow_other _ _ _ _ (by omega)⟩, setRow_heap _ _ _ _ 26 (0, 0) k.r0, k.rd.elim fun b hr => ⟨b, (setRow_other _ _ _ _ (by have := k.l1; omega)).trans hr⟩, k.l1, k.sz⟩

theorem ght18_any {w : World} {h : Hd} {R : Nat} {u : ByteArray} (W : World) (g : Gh w h R u W) :
    Calls Try.prog 39 #[.pointer (some ⟨R, 0, none⟩), .int .i64 8] W fun e w' => e = .returned (.int .u64 (takV 1 u 8)) ∧ Gh w h R (takT 1 u 8) w' :=
  (tk1_any R u 8 W g.rd g.sz).mono fun e w' ⟨h1, h2, h3⟩ => ⟨h1, g.grown h2 h3 (takT_le g.sz)⟩
theorem ght11_any {w : World} {h : Hd} {R : Nat} {u : ByteArray} (W : World) (g : Gh w h R u W) :
    Calls Try.prog 39 #[.pointer (some ⟨R, 0, none⟩), .int .i64 1] W fun e w' => e = .returned (.int .u64 (takV 1 u 1)) ∧ Gh w h R (takT 1 u 1) w' :=
  (tk1_any R u 1 W g.rd g.sz).mono fun e w' ⟨h1, h2, h3⟩ => ⟨h1, g.grown h2 h3 (takT_le g.sz)⟩
theorem ght28_any {w : World} {h : Hd} {R : Nat} {u : ByteArray} (W : World) (g : Gh w h R u W) :
    Calls Try.prog 58 #[.pointer (some ⟨R, 0, none⟩), .int .i64 8] W fun e w' => e = .returned (.int .u64 (takV 2 u 8)) ∧ Gh w h R (takT 2 u 8) w' :=
  (tk2_any R u 8 W g.rd g.sz).mono fun e w' ⟨h1, h2, h3⟩ => ⟨h1, g.grown h2 h3 (takT_le g.sz)⟩
theorem ght21_any {w : World} {h : Hd} {R : Nat} {u : ByteArray} (W : World) (g : Gh w h R u W) :
    Calls Try.prog 58 #[.pointer (some ⟨R, 0, none⟩), .int .i64 1] W fun e w' => e = .returned (.int .u64 (takV 2 u 1)) ∧ Gh w h R (takT 2 u 1) w' :=
  (tk2_any R u 1 W g.rd g.sz).mono fun e w' ⟨h1, h2, h3⟩ => ⟨h1, g.grown h2 h3 (takT_le g.sz)⟩
theorem Gh.set3 {w W : World} {h : Hd} {R : Nat} {u : ByteArray} (k : Gh w h R u W) (h' : Hd) (a b c : Value) (ha : a = .int .u64 h'.tm) (hb : b = .int .i64 h'.vo) (hc : c = .int .u64 h'.cm) :
    Gh w h' R u (((W.setCell ⟨w.heap.size, 0, none⟩ a).setCell ⟨w.heap.size, 1, none⟩ b).setCell ⟨w.heap.size, 2, none⟩ c) := by
  subst ha hb hc
  have k1 := heap_setCell_same W w.heap.size 0 _ 26 (.int .u64 h'.tm) k.r0
  have k2 := heap_setCell_same _ w.heap.size 1 _ 26 (.int .i64 h'.vo) k1
  have k3 := heap_setCell_same _ w.heap.size 2 _ 26 (.int .u64 h'.cm) k2
  refine ⟨((k.be.setCell (p := ⟨w.heap.size, 0, none⟩) (Nat.le_refl _) _).setCell (p := ⟨w.heap.size, 1, none⟩) (Nat.le_refl _) _).setCell (p := ⟨w.heap.size, 2, none⟩) (Nat.le_refl _) _, k3, ?_, k.l1, k.sz⟩
  have l1 := k.l1
  obtain ⟨b, hr⟩ := k.rd
  refine ⟨b, ?_⟩
  unfold Rd at hr ⊢
  rw [heap_setCell_other _ ⟨w.heap.size, 2, none⟩ R _ (by simp; omega), heap_setCell_other _ ⟨w.heap.size, 1, none⟩ R _ (by simp; omega), heap_setCell_other _ ⟨w.heap.size, 0, none⟩ R _ (by simp; omega)]
  exact hr
set_option maxHeartbeats 800000 in
set_option maxRecDepth 100000 in
theorem getHard_none (b : ByteArray) (w : World) (hb : b.size ≤ 281474976710656) (h1 : hv b ≠ 1) (h2 : hv b ≠ 2) : Calls Try.prog 19 #[.string b] w fun e w' => e = .returned (.tuple #[hd0.val, .int .i64 0, .bool false]) ∧ Below w.heap.size w w' := by
  obtain ⟨W0, hW0⟩ : ∃ W0, W0 = w.alloc (.cells hd0.c 26) := ⟨_, rfl⟩
  have b0 : Below w.heap.size w W0 := by rw [hW0]; exact (Below.refl _ _).alloc (Nat.le_refl _) _
  have k0 : W0.heap[w.heap.size]? = some (.cells hd0.c 26 (0, 0)) := by rw [hW0]; exact heap_alloc_new w _
  have s0 : W0.heap.size = w.heap.size + 1 := by rw [hW0]; simp
  have KN := Lib.hid (new_any b W0)
  have HB0 := Lib.hid b0
  have HK0 := Lib.hid k0
  have HS0 := Lib.hid s0
  have HW0 := Lib.hid hW0
  have HBZ := Lib.hid hb
  obtain ⟨n, hn⟩ : ∃ n, n = fixV b 1 := ⟨_, rfl⟩
  have HV : Hid (((n : Nat) : Int) - 16 ≠ 1 ∧ ((n : Nat) : Int) - 16 ≠ 2) := by rw [hn]; exact ⟨h1, h2⟩
  have hn1 := fixV_lt1 b
  rw [← hn] at hn1
  have hwr : IntKind.i64.wrap (n : Int) = (n : Int) := IntWalk.i64_in _ (by omega)
  have hwr2 : IntKind.i64.wrap ((n : Int) - 16) = (n : Int) - 16 := IntWalk.i64_in _ (by omega)
  have hni : (n : Int) ≤ 255 := by omega
  have HN := Lib.hid hn
  clear b0 k0 s0 hW0 h1 h2 hb hn1 hn
  unfold rdp at *
  go_enter Try.func19, Try.ntmps19
  go_wp2_with fail
  have hz0 : (w.alloc (.cells hd0.c 26)) = w.alloc (.cells #[.int .u64 0, .int .i64 0, .int .u64 0] 26) := rfl
  rw [hz0] at HW0
  clear hz0
  rw [← HW0.out]
  refine KN.out.mono ?_
  rintro e w1 ⟨rfl, hw1⟩
  obtain ⟨R, hR⟩ : ∃ R, R = W0.heap.size := ⟨_, rfl⟩
  have r1 : Rd 109 R b false w1 := by rw [hw1, hR]; exact Rd.new _ _ _ _
  have b1 : Below W0.heap.size W0 w1 := by rw [hw1]; exact (Below.refl _ _).alloc (Nat.le_refl _) _
  have G1 : Hid (Gh w hd0 R b w1) := ⟨HB0.out.trans (b1.mono HB0.out.size), (b1.block _ (by have := HS0.out; omega)).trans HK0.out, ⟨_, r1⟩, by have := HS0.out; omega, HBZ.out⟩
  have HRR := Lib.hid hR
  clear hw1 r1 b1 hR
  rw [← HRR.out]
  have KF : Hid (Calls Try.prog 39 #[.pointer (some ⟨R, 0, none⟩), .int .i64 1] w1 fun e w' => e = .returned (.int .u64 (fixV b 1)) ∧ Gh w hd0 R (fixT b 1) w') := by
    obtain ⟨bad, hr⟩ := G1.out.rd
    exact (fixedr_any R b bad 1 w1 hr HBZ.out).mono fun e w' ⟨h1, h2, h3⟩ => ⟨h1, G1.out.grown ⟨_, h2⟩ h3 (Nat.le_trans (fixT_size b 1) HBZ.out)⟩
  unfold rdp at *
  go_wp2_with fail
  refine KF.out.mono ?_
  rintro e w3 ⟨rfl, g3⟩
  have G3 := Lib.hid g3
  clear g3 KF KN G1 HK0 HB0 HS0 HW0 HRR
  rw [← HN.out]
  go_wp2_with fail
  refine (takes_any _).mono ?_
  rintro e w4 ⟨rfl, m4, b4, s4⟩
  have hl := look_none (T := 89) ((n : Int) - 16) Try.underlying89 zero87 m4 (two_n _ _ _ HV.out.1 HV.out.2)
  have g4 := G3.out.below b4
  have K4 := Lib.hid g4.r0
  have g5 : Gh w hd0 R _ (w4.setRow w.heap.size hd0.c) := g4.put
  obtain ⟨W5, hW5⟩ : ∃ W5, W5 = w4.setRow w.heap.size hd0.c := ⟨_, rfl⟩
  rw [← hW5] at g5
  have HB5 := Lib.hid g5.be
  have HK5 := Lib.hid g5.r0
  have HW5 := Lib.hid hW5
  clear m4 b4 s4 hW5 g4 g5
  go_wp2_with (refine wpList_store_hd rfl _ _ rfl _ _ hd0 hd0 rfl rfl K4.out ?_; refine wpList_at HW5.out.symm ?_; go_frame)
  exact bodyPost_ret (v := _) (res19 _ _ w.heap.size hd0 rfl HK5.out) rfl ⟨rfl, HB5.out⟩
set_option maxHeartbeats 800000 in
set_option maxRecDepth 100000 in
theorem getHardV1_any (b : ByteArray) (w : World) (hb : b.size ≤ 281474976710656) (hvv : hv b = 1) : Calls Try.prog 19 #[.string b] w fun e w' => e = .returned (.tuple #[(jH b).val, .int .i64 (jV b), .bool (jO b)]) ∧ Below w.heap.size w w' := by
  obtain ⟨W0, hW0⟩ : ∃ W0, W0 = w.alloc (.cells hd0.c 26) := ⟨_, rfl⟩
  have b0 : Below w.heap.size w W0 := by rw [hW0]; exact (Below.refl _ _).alloc (Nat.le_refl _) _
  have k0 : W0.heap[w.heap.size]? = some (.cells hd0.c 26 (0, 0)) := by rw [hW0]; exact heap_alloc_new w _
  have s0 : W0.heap.size = w.heap.size + 1 := by rw [hW0]; simp
  have KN := Lib.hid (new_any b W0)
  have HB0 := Lib.hid b0
  have HK0 := Lib.hid k0
  have HS0 := Lib.hid s0
  have HW0 := Lib.hid hW0
  have HBZ := Lib.hid hb
  have HV : Hid (fixV b 1 = 17) := by show _ = _; unfold hv at hvv; omega
  have hrs : rh b = rdH 1 (fixT b 1) := by unfold rh; rw [hvv]
  have hok := rh_ok b
  rw [hrs] at hok
  obtain ⟨u, hu0⟩ : ∃ u, u = fixT b 1 := ⟨_, rfl⟩
  rw [← hu0] at hrs hok
  obtain ⟨T, hT⟩ : ∃ T, T = rdH 1 u := ⟨_, rfl⟩
  rw [← hT] at hrs hok
  have KP := Lib.hid (fun (W : World) => putHard_any 1 T W hok)
  obtain ⟨r, hr⟩ : ∃ r, r = hO 1 T := ⟨_, rfl⟩
  obtain ⟨p, hp⟩ : ∃ p, p = hS 1 T := ⟨_, rfl⟩
  rw [← hr, ← hp] at KP
  obtain ⟨te, hte⟩ : ∃ te, te = (p.toList == b.toList) := ⟨_, rfl⟩
  have HG : Hid (jO b = (r && te)) := by
    show _ = _
    unfold jO; rw [hvv, hrs, ← hr, hte, hp]
    cases hrr : r with
    | false => rfl
    | true => unfold hS; rw [← hr, hrr, if_pos rfl]
  have HS : Hid (jH b = if (r && te) = true then T else hd0) := by show _ = _; unfold jH; rw [HG.out, hrs]
  have HJ : Hid (jV b = if (r && te) = true then 1 else 0) := by show _ = _; unfold jV; rw [HG.out, hvv]
  have HTE := Lib.hid hte.symm
  have HU0 := Lib.hid hu0
  have HT : Hid (T.c = #[.int .u64 (rdH 1 u).tm, .int .i64 (rdH 1 u).vo, .int .u64 (rdH 1 u).cm]) := by show _ = _; rw [hT, Hd.c]
  have hwe : w64 (takV 1 (takT 1 u 8) 1) = wrap64 ((takV 1 (takT 1 u 8) 1 : Nat) : Int) := wrapEq _
  have HA1 : Hid (Value.int .u64 (takV 1 u 8 : Nat) = .int .u64 T.tm) := by show _ = _; rw [hT]; unfold rdH k2 k1; dsimp only
  have HA2 : Hid (Value.int .i64 (wrap64 ((takV 1 (takT 1 u 8) 1 : Nat) : Int)) = .int .i64 T.vo) := by show _ = _; rw [hT, ← hwe]; unfold rdH k2 k1; dsimp only
  have HA3 : Hid (Value.int .u64 (takV 1 (takT 1 (takT 1 u 8) 1) 8 : Nat) = .int .u64 T.cm) := by show _ = _; rw [hT]; unfold rdH k2 k1; dsimp only
  unfold rdH k2 k1 at HT
  dsimp only at HT
  rw [hwe] at HT
  unfold Hd.val at KP
  have HX : Hid (T.c = _) := HT.out
  have HXA : Hid (Value.agg _ = Value.agg T.c) := congrArg Value.agg HX.out.symm
  clear b0 k0 s0 hW0 hvv hb hrs hu0 hr hp hte hT HT hok hwe
  unfold rdp at *
  go_enter Try.func19, Try.ntmps19
  go_wp2_with fail
  have hz0 : (w.alloc (.cells hd0.c 26)) = w.alloc (.cells #[.int .u64 0, .int .i64 0, .int .u64 0] 26) := rfl
  rw [hz0] at HW0
  clear hz0
  rw [← HW0.out]
  refine KN.out.mono ?_
  rintro e w1 ⟨rfl, hw1⟩
  obtain ⟨R, hR⟩ : ∃ R, R = W0.heap.size := ⟨_, rfl⟩
  have r1 : Rd 109 R b false w1 := by rw [hw1, hR]; exact Rd.new _ _ _ _
  have b1 : Below W0.heap.size W0 w1 := by rw [hw1]; exact (Below.refl _ _).alloc (Nat.le_refl _) _
  have G1 : Hid (Gh w hd0 R b w1) := ⟨HB0.out.trans (b1.mono HB0.out.size), (b1.block _ (by have := HS0.out; omega)).trans HK0.out, ⟨_, r1⟩, by have := HS0.out; omega, HBZ.out⟩
  have HRR := Lib.hid hR
  clear hw1 r1 b1 hR
  rw [← HRR.out]
  have KF : Hid (Calls Try.prog 39 #[.pointer (some ⟨R, 0, none⟩), .int .i64 1] w1 fun e w' => e = .returned (.int .u64 (fixV b 1)) ∧ Gh w hd0 R (fixT b 1) w') := by
    obtain ⟨bad, hr⟩ := G1.out.rd
    exact (fixedr_any R b bad 1 w1 hr HBZ.out).mono fun e w' ⟨h1, h2, h3⟩ => ⟨h1, G1.out.grown ⟨_, h2⟩ h3 (Nat.le_trans (fixT_size b 1) HBZ.out)⟩
  unfold rdp at *
  go_wp2_with fail
  refine KF.out.mono ?_
  rintro e w3 ⟨rfl, g3⟩
  have G3 := Lib.hid g3
  clear g3 KF KN G1 HK0 HB0 HS0 HW0 HRR
  rw [← HU0.out] at G3
  rw [HV.out]
  go_wp2_with fail
  refine (takes_any _).mono ?_
  rintro e w4 ⟨rfl, m4, b4, s4⟩
  have hl := look_step (T := 89) 1 (fv 39) Try.underlying89 m4 (two_1 _ _)
  have G4 : Hid (Gh w hd0 R u w4) := G3.out.below b4
  clear m4 b4 s4 G3
  have KG := Lib.hid (ght18_any _ G4.out)
  go_wp2_with fail
  refine KG.out.mono ?_
  rintro e y1 ⟨rfl, g1⟩
  have G5 := Lib.hid g1
  clear KG g1 G4
  clear hl
  have KG := Lib.hid (ght11_any _ G5.out)
  go_wp2_with fail
  refine KG.out.mono ?_
  rintro e y2 ⟨rfl, g2⟩
  have G6 := Lib.hid g2
  clear KG g2 G5
  have KG := Lib.hid (ght18_any _ G6.out)
  go_wp2_with fail
  refine KG.out.mono ?_
  rintro e y3 ⟨rfl, g3⟩
  have G7 := Lib.hid g3
  clear KG g3 G6
  obtain ⟨x0, x1, x2⟩ := hd_cells G7.out.r0
  have fz : ∀ i, y3.frozen? ⟨w.heap.size, i, none⟩ = false := fun i => Lib.frozen_of_heap G7.out.r0 i
  have f0 := fz 0
  have f1 := fz 1
  have f2 := fz 2
  dsimp only [hd0] at x0 x1 x2
  obtain ⟨u9, GV0⟩ : ∃ u9, Gh w T R u9 (((y3.setCell ⟨w.heap.size, 0, none⟩ (.int .u64 (takV 1 u 8 : Nat))).setCell ⟨w.heap.size, 1, none⟩ (.int .i64 (wrap64 ((takV 1 (takT 1 u 8) 1 : Nat) : Int)))).setCell ⟨w.heap.size, 2, none⟩ (.int .u64 (takV 1 (takT 1 (takT 1 u 8) 1) 8 : Nat))) :=
    ⟨_, G7.out.set3 T _ _ _ HA1.out HA2.out HA3.out⟩
  obtain ⟨V, hV⟩ : ∃ V, V = (((y3.setCell ⟨w.heap.size, 0, none⟩ (.int .u64 (takV 1 u 8 : Nat))).setCell ⟨w.heap.size, 1, none⟩ (.int .i64 (wrap64 ((takV 1 (takT 1 u 8) 1 : Nat) : Int)))).setCell ⟨w.heap.size, 2, none⟩ (.int .u64 (takV 1 (takT 1 (takT 1 u 8) 1) 8 : Nat))) := ⟨_, rfl⟩
  rw [← hV] at GV0
  have GV := Lib.hid GV0
  have HVV := Lib.hid hV
  clear hV G7 GV0 fz
  go_wp2_with fail
  rw [← HVV.out]
  rw [← HX.out]
  clear x0 x1 x2 f0 f1 f2
  refine (KP.out _).mono ?_
  rintro e z ⟨rfl, bz⟩
  have Gz := GV.out.below bz
  have hb := Gz.be
  have KZ : Hid (z.heap[w.heap.size]? = some (.cells T.c 26 (0, 0))) := Gz.r0
  clear Gz GV HVV HA1 HA2 HA3 HX HXA KP bz HU0
  obtain ⟨Z0, hZ0⟩ : ∃ Z, Z = z.setRow w.heap.size hd0.c := ⟨_, rfl⟩
  obtain ⟨Z1, hZ1⟩ : ∃ Z, Z = z.setRow w.heap.size T.c := ⟨_, rfl⟩
  have B0 : Hid (Below w.heap.size w Z0) := by rw [hZ0]; exact hb.trans ⟨rfl, rfl, rfl, by simp, fun k hk => setRow_other _ _ _ _ (by omega)⟩
  have B1 : Hid (Below w.heap.size w Z1) := by rw [hZ1]; exact hb.trans ⟨rfl, rfl, rfl, by simp, fun k hk => setRow_other _ _ _ _ (by omega)⟩
  have K0 : Hid (Z0.heap[w.heap.size]? = some (.cells hd0.c 26 (0, 0))) := by show _ = _; rw [hZ0]; exact setRow_heap _ _ _ _ 26 (0, 0) KZ.out
  have K1 : Hid (Z1.heap[w.heap.size]? = some (.cells T.c 26 (0, 0))) := by show _ = _; rw [hZ1]; exact setRow_heap _ _ _ _ 26 (0, 0) KZ.out
  have HZ0 := Lib.hid hZ0
  have HZ1 := Lib.hid hZ1
  clear hZ0 hZ1 hb
  cases r with
  | false =>
    clear HTE
    go_wp2_with (refine wpList_store_hd rfl _ _ rfl _ _ hd0 T rfl rfl KZ.out ?_; refine wpList_at HZ0.out.symm ?_; go_frame)
    exact bodyPost_ret (v := _) (res19 _ _ w.heap.size hd0 rfl K0.out) rfl ⟨by rw [HS.out, HG.out, HJ.out]; rfl, B0.out⟩
  | true =>
    cases te with
    | false =>
      have hne := HTE.out
      clear HTE
      go_wp2_with (refine wpList_store_hd rfl _ _ rfl _ _ hd0 T rfl rfl KZ.out ?_; refine wpList_at HZ0.out.symm ?_; go_frame)
      exact bodyPost_ret (v := _) (res19 _ _ w.heap.size hd0 rfl K0.out) rfl ⟨by rw [HS.out, HG.out, HJ.out]; rfl, B0.out⟩
    | true =>
      have hne := HTE.out
      clear HTE
      go_wp2_with (first | (refine wpList_load_hd rfl _ rfl _ _ T rfl KZ.out ?_; go_frame) | (refine wpList_store_hd rfl _ _ rfl _ _ T T rfl rfl KZ.out ?_; refine wpList_at HZ1.out.symm ?_; go_frame))
      exact bodyPost_ret (v := _) (res19 _ _ w.heap.size T rfl K1.out) rfl ⟨by rw [HS.out, HG.out, HJ.out]; rfl, B1.out⟩
set_option maxHeartbeats 800000 in
set_option maxRecDepth 100000 in
theorem getHardV2_any (b : ByteArray) (w : World) (hb : b.size ≤ 281474976710656) (hvv : hv b = 2) : Calls Try.prog 19 #[.string b] w fun e w' => e = .returned (.tuple #[(jH b).val, .int .i64 (jV b), .bool (jO b)]) ∧ Below w.heap.size w w' := by
  obtain ⟨W0, hW0⟩ : ∃ W0, W0 = w.alloc (.cells hd0.c 26) := ⟨_, rfl⟩
  have b0 : Below w.heap.size w W0 := by rw [hW0]; exact (Below.refl _ _).alloc (Nat.le_refl _) _
  have k0 : W0.heap[w.heap.size]? = some (.cells hd0.c 26 (0, 0)) := by rw [hW0]; exact heap_alloc_new w _
  have s0 : W0.heap.size = w.heap.size + 1 := by rw [hW0]; simp
  have KN := Lib.hid (new_any b W0)
  have HB0 := Lib.hid b0
  have HK0 := Lib.hid k0
  have HS0 := Lib.hid s0
  have HW0 := Lib.hid hW0
  have HBZ := Lib.hid hb
  have HV : Hid (fixV b 1 = 18) := by show _ = _; unfold hv at hvv; omega
  have hrs : rh b = rdH 2 (fixT b 1) := by unfold rh; rw [hvv]
  have hok := rh_ok b
  rw [hrs] at hok
  obtain ⟨u, hu0⟩ : ∃ u, u = fixT b 1 := ⟨_, rfl⟩
  rw [← hu0] at hrs hok
  obtain ⟨T, hT⟩ : ∃ T, T = rdH 2 u := ⟨_, rfl⟩
  rw [← hT] at hrs hok
  have KP := Lib.hid (fun (W : World) => putHard_any 2 T W hok)
  obtain ⟨r, hr⟩ : ∃ r, r = hO 2 T := ⟨_, rfl⟩
  obtain ⟨p, hp⟩ : ∃ p, p = hS 2 T := ⟨_, rfl⟩
  rw [← hr, ← hp] at KP
  obtain ⟨te, hte⟩ : ∃ te, te = (p.toList == b.toList) := ⟨_, rfl⟩
  have HG : Hid (jO b = (r && te)) := by
    show _ = _
    unfold jO; rw [hvv, hrs, ← hr, hte, hp]
    cases hrr : r with
    | false => rfl
    | true => unfold hS; rw [← hr, hrr, if_pos rfl]
  have HS : Hid (jH b = if (r && te) = true then T else hd0) := by show _ = _; unfold jH; rw [HG.out, hrs]
  have HJ : Hid (jV b = if (r && te) = true then 2 else 0) := by show _ = _; unfold jV; rw [HG.out, hvv]
  have HTE := Lib.hid hte.symm
  have HU0 := Lib.hid hu0
  have HT : Hid (T.c = #[.int .u64 (rdH 2 u).tm, .int .i64 (rdH 2 u).vo, .int .u64 (rdH 2 u).cm]) := by show _ = _; rw [hT, Hd.c]
  have hwe : w64 (takV 2 (takT 2 u 8) 1) = wrap64 ((takV 2 (takT 2 u 8) 1 : Nat) : Int) := wrapEq _
  have HA1 : Hid (Value.int .u64 (takV 2 u 8 : Nat) = .int .u64 T.tm) := by show _ = _; rw [hT]; unfold rdH k2 k1; dsimp only
  have HA2 : Hid (Value.int .i64 (wrap64 ((takV 2 (takT 2 u 8) 1 : Nat) : Int)) = .int .i64 T.vo) := by show _ = _; rw [hT, ← hwe]; unfold rdH k2 k1; dsimp only
  have HA3 : Hid (Value.int .u64 (takV 2 (takT 2 (takT 2 u 8) 1) 8 : Nat) = .int .u64 T.cm) := by show _ = _; rw [hT]; unfold rdH k2 k1; dsimp only
  unfold rdH k2 k1 at HT
  dsimp only at HT
  rw [hwe] at HT
  unfold Hd.val at KP
  have HX : Hid (T.c = _) := HT.out
  have HXA : Hid (Value.agg _ = Value.agg T.c) := congrArg Value.agg HX.out.symm
  clear b0 k0 s0 hW0 hvv hb hrs hu0 hr hp hte hT HT hok hwe
  unfold rdp at *
  go_enter Try.func19, Try.ntmps19
  go_wp2_with fail
  have hz0 : (w.alloc (.cells hd0.c 26)) = w.alloc (.cells #[.int .u64 0, .int .i64 0, .int .u64 0] 26) := rfl
  rw [hz0] at HW0
  clear hz0
  rw [← HW0.out]
  refine KN.out.mono ?_
  rintro e w1 ⟨rfl, hw1⟩
  obtain ⟨R, hR⟩ : ∃ R, R = W0.heap.size := ⟨_, rfl⟩
  have r1 : Rd 109 R b false w1 := by rw [hw1, hR]; exact Rd.new _ _ _ _
  have b1 : Below W0.heap.size W0 w1 := by rw [hw1]; exact (Below.refl _ _).alloc (Nat.le_refl _) _
  have G1 : Hid (Gh w hd0 R b w1) := ⟨HB0.out.trans (b1.mono HB0.out.size), (b1.block _ (by have := HS0.out; omega)).trans HK0.out, ⟨_, r1⟩, by have := HS0.out; omega, HBZ.out⟩
  have HRR := Lib.hid hR
  clear hw1 r1 b1 hR
  rw [← HRR.out]
  have KF : Hid (Calls Try.prog 39 #[.pointer (some ⟨R, 0, none⟩), .int .i64 1] w1 fun e w' => e = .returned (.int .u64 (fixV b 1)) ∧ Gh w hd0 R (fixT b 1) w') := by
    obtain ⟨bad, hr⟩ := G1.out.rd
    exact (fixedr_any R b bad 1 w1 hr HBZ.out).mono fun e w' ⟨h1, h2, h3⟩ => ⟨h1, G1.out.grown ⟨_, h2⟩ h3 (Nat.le_trans (fixT_size b 1) HBZ.out)⟩
  unfold rdp at *
  go_wp2_with fail
  refine KF.out.mono ?_
  rintro e w3 ⟨rfl, g3⟩
  have G3 := Lib.hid g3
  clear g3 KF KN G1 HK0 HB0 HS0 HW0 HRR
  rw [← HU0.out] at G3
  rw [HV.out]
  go_wp2_with fail
  refine (takes_any _).mono ?_
  rintro e w4 ⟨rfl, m4, b4, s4⟩
  have hl := look_step (T := 89) 2 (fv 58) Try.underlying89 m4 (two_2 _ _)
  have G4 : Hid (Gh w hd0 R u w4) := G3.out.below b4
  clear m4 b4 s4 G3
  have KG := Lib.hid (ght28_any _ G4.out)
  go_wp2_with fail
  refine KG.out.mono ?_
  rintro e y1 ⟨rfl, g1⟩
  have G5 := Lib.hid g1
  clear KG g1 G4
  clear hl
  have KG := Lib.hid (ght21_any _ G5.out)
  go_wp2_with fail
  refine KG.out.mono ?_
  rintro e y2 ⟨rfl, g2⟩
  have G6 := Lib.hid g2
  clear KG g2 G5
  have KG := Lib.hid (ght28_any _ G6.out)
  go_wp2_with fail
  refine KG.out.mono ?_
  rintro e y3 ⟨rfl, g3⟩
  have G7 := Lib.hid g3
  clear KG g3 G6
  obtain ⟨x0, x1, x2⟩ := hd_cells G7.out.r0
  have fz : ∀ i, y3.frozen? ⟨w.heap.size, i, none⟩ = false := fun i => Lib.frozen_of_heap G7.out.r0 i
  have f0 := fz 0
  have f1 := fz 1
  have f2 := fz 2
  dsimp only [hd0] at x0 x1 x2
  obtain ⟨u9, GV0⟩ : ∃ u9, Gh w T R u9 (((y3.setCell ⟨w.heap.size, 0, none⟩ (.int .u64 (takV 2 u 8 : Nat))).setCell ⟨w.heap.size, 1, none⟩ (.int .i64 (wrap64 ((takV 2 (takT 2 u 8) 1 : Nat) : Int)))).setCell ⟨w.heap.size, 2, none⟩ (.int .u64 (takV 2 (takT 2 (takT 2 u 8) 1) 8 : Nat))) :=
    ⟨_, G7.out.set3 T _ _ _ HA1.out HA2.out HA3.out⟩
  obtain ⟨V, hV⟩ : ∃ V, V = (((y3.setCell ⟨w.heap.size, 0, none⟩ (.int .u64 (takV 2 u 8 : Nat))).setCell ⟨w.heap.size, 1, none⟩ (.int .i64 (wrap64 ((takV 2 (takT 2 u 8) 1 : Nat) : Int)))).setCell ⟨w.heap.size, 2, none⟩ (.int .u64 (takV 2 (takT 2 (takT 2 u 8) 1) 8 : Nat))) := ⟨_, rfl⟩
  rw [← hV] at GV0
  have GV := Lib.hid GV0
  have HVV := Lib.hid hV
  clear hV G7 GV0 fz
  go_wp2_with fail
  rw [← HVV.out]
  rw [← HX.out]
  clear x0 x1 x2 f0 f1 f2
  refine (KP.out _).mono ?_
  rintro e z ⟨rfl, bz⟩
  have Gz := GV.out.below bz
  have hb := Gz.be
  have KZ : Hid (z.heap[w.heap.size]? = some (.cells T.c 26 (0, 0))) := Gz.r0
  clear Gz GV HVV HA1 HA2 HA3 HX HXA KP bz HU0
  obtain ⟨Z0, hZ0⟩ : ∃ Z, Z = z.setRow w.heap.size hd0.c := ⟨_, rfl⟩
  obtain ⟨Z1, hZ1⟩ : ∃ Z, Z = z.setRow w.heap.size T.c := ⟨_, rfl⟩
  have B0 : Hid (Below w.heap.size w Z0) := by rw [hZ0]; exact hb.trans ⟨rfl, rfl, rfl, by simp, fun k hk => setRow_other _ _ _ _ (by omega)⟩
  have B1 : Hid (Below w.heap.size w Z1) := by rw [hZ1]; exact hb.trans ⟨rfl, rfl, rfl, by simp, fun k hk => setRow_other _ _ _ _ (by omega)⟩
  have K0 : Hid (Z0.heap[w.heap.size]? = some (.cells hd0.c 26 (0, 0))) := by show _ = _; rw [hZ0]; exact setRow_heap _ _ _ _ 26 (0, 0) KZ.out
  have K1 : Hid (Z1.heap[w.heap.size]? = some (.cells T.c 26 (0, 0))) := by show _ = _; rw [hZ1]; exact setRow_heap _ _ _ _ 26 (0, 0) KZ.out
  have HZ0 := Lib.hid hZ0
  have HZ1 := Lib.hid hZ1
  clear hZ0 hZ1 hb
  cases r with
  | false =>
    clear HTE
    go_wp2_with (refine wpList_store_hd rfl _ _ rfl _ _ hd0 T rfl rfl KZ.out ?_; refine wpList_at HZ0.out.symm ?_; go_frame)
    exact bodyPost_ret (v := _) (res19 _ _ w.heap.size hd0 rfl K0.out) rfl ⟨by rw [HS.out, HG.out, HJ.out]; rfl, B0.out⟩
  | true =>
    cases te with
    | false =>
      have hne := HTE.out
      clear HTE
      go_wp2_with (refine wpList_store_hd rfl _ _ rfl _ _ hd0 T rfl rfl KZ.out ?_; refine wpList_at HZ0.out.symm ?_; go_frame)
      exact bodyPost_ret (v := _) (res19 _ _ w.heap.size hd0 rfl K0.out) rfl ⟨by rw [HS.out, HG.out, HJ.out]; rfl, B0.out⟩
    | true =>
      have hne := HTE.out
      clear HTE
      go_wp2_with (first | (refine wpList_load_hd rfl _ rfl _ _ T rfl KZ.out ?_; go_frame) | (refine wpList_store_hd rfl _ _ rfl _ _ T T rfl rfl KZ.out ?_; refine wpList_at HZ1.out.symm ?_; go_frame))
      exact bodyPost_ret (v := _) (res19 _ _ w.heap.size T rfl K1.out) rfl ⟨by rw [HS.out, HG.out, HJ.out]; rfl, B1.out⟩
theorem getHard_any (b : ByteArray) (w : World) (hb : b.size ≤ 281474976710656) : Calls Try.prog 19 #[.string b] w fun e w' => e = .returned (.tuple #[(jH b).val, .int .i64 (jV b), .bool (jO b)]) ∧ Below w.heap.size w w' := by
  by_cases h1 : hv b = 1
  · exact getHardV1_any b w hb h1
  · by_cases h2 : hv b = 2
    · exact getHardV2_any b w hb h2
    · have hg : jO b = false := by
        unfold jO
        have : hO (hv b) (rh b) = false := by
          rw [← Bool.not_eq_true, hO_iff]
          intro h
          have := h.1
          omega
        rw [this]; rfl
      have hs : jH b = hd0 := by unfold jH; rw [hg]; rfl
      have hj : jV b = 0 := by unfold jV; rw [hg]; rfl
      rw [hg, hs, hj]
      exact getHard_none b w hb h1 h2
end Go.Proofs.Ytdoombcihobejaa