/-
  The document's own GetSuper and GetHard.
  Conditions: a text of at most 2^48 bytes.
-/
import Derived.Test.YtdoombcihobejaaR2
namespace Go.Proofs.Ytdoombcihobejaa
open Go.RowKit Vi Sl
set_option linter.unusedVariables false
set_option linter.unusedSimpArgs false
theorem wpList_store_ru {ops : Array Oper} {rest : List Oper} {op : Oper} {a : Act} {Q : Exit → Act → World → Prop} (hgd : op.guard = none) (x y : Operand) (ho : op.op = .store 32 x y)
    (w : World) (z : Nat) (s t : Su) (hx : a.eval x = .pointer (some ⟨z, 0, none⟩)) (hy : a.eval y = .agg s.c) (hz : w.heap[z]? = some (.cells t.c 32 (0, 0)))
    (h : wpList Try.prog ops Q rest (a.put op.dst undef) (w.setRow z s.c)) : wpList Try.prog ops Q (op :: rest) a w :=
  wpList_store_row hgd 32 x y ho z _ hx hy 32 _ hz Try.ru7 rfl (by simp [Su.c, Value.oneCell']) h
theorem wpList_load_ru {ops : Array Oper} {rest : List Oper} {op : Oper} {a : Act} {Q : Exit → Act → World → Prop} (hgd : op.guard = none) (x : Operand) (ho : op.op = .load 32 x)
    (w : World) (z : Nat) (s : Su) (hx : a.eval x = .pointer (some ⟨z, 0, none⟩)) (hz : w.heap[z]? = some (.cells s.c 32 (0, 0)))
    (h : wpList Try.prog ops Q rest (a.put op.dst (.agg s.c)) w) : wpList Try.prog ops Q (op :: rest) a w :=
  wpList_load_row hgd 32 x ho z hx 32 _ (0, 0) _ hz Try.underlying32 rfl Try.ru7 h
theorem wpList_store_rh {ops : Array Oper} {rest : List Oper} {op : Oper} {a : Act} {Q : Exit → Act → World → Prop} (hgd : op.guard = none) (x y : Operand) (ho : op.op = .store 36 x y)
    (w : World) (z : Nat) (s t : Hd) (hx : a.eval x = .pointer (some ⟨z, 0, none⟩)) (hy : a.eval y = .agg s.c) (hz : w.heap[z]? = some (.cells t.c 36 (0, 0)))
    (h : wpList Try.prog ops Q rest (a.put op.dst undef) (w.setRow z s.c)) : wpList Try.prog ops Q (op :: rest) a w :=
  wpList_store_row hgd 36 x y ho z _ hx hy 36 _ hz Try.rd3 rfl (by simp [Hd.c, Value.oneCell']) h
theorem wpList_load_rh {ops : Array Oper} {rest : List Oper} {op : Oper} {a : Act} {Q : Exit → Act → World → Prop} (hgd : op.guard = none) (x : Operand) (ho : op.op = .load 36 x)
    (w : World) (z : Nat) (s : Hd) (hx : a.eval x = .pointer (some ⟨z, 0, none⟩)) (hz : w.heap[z]? = some (.cells s.c 36 (0, 0)))
    (h : wpList Try.prog ops Q rest (a.put op.dst (.agg s.c)) w) : wpList Try.prog ops Q (op :: rest) a w :=
  wpList_load_row hgd 36 x ho z hx 36 _ (0, 0) _ hz Try.underlying36 rfl Try.rd3 h
theorem res18 (tmps : Array Value) (w : World) (p : Nat) (s : Su) (hp : tmps.getD 2 undef = .pointer (some ⟨p, 0, none⟩)) (hg : w.heap[p]? = some (.cells s.c 32 (0, 0))) :
    (results Try.f18 tmps).run Try.prog w = .ok (.tuple #[.agg s.c, tmps.getD 3 undef]) w := by
  rw [results_cell_tmp Try.results18, hp]
  simp [asAddr, run_loadVar_row w p 32 32 s.c (0, 0) _ hg Try.underlying32 rfl Try.ru7]
theorem res20 (tmps : Array Value) (w : World) (p : Nat) (s : Hd) (hp : tmps.getD 2 undef = .pointer (some ⟨p, 0, none⟩)) (hg : w.heap[p]? = some (.cells s.c 36 (0, 0))) :
    (results Try.f20 tmps).run Try.prog w = .ok (.tuple #[.agg s.c, tmps.getD 3 undef, tmps.getD 4 undef]) w := by
  rw [results_cell_tmp2 Try.results20, hp]
  simp [asAddr, run_loadVar_row w p 36 36 s.c (0, 0) _ hg Try.underlying36 rfl Try.rd3]
/-- What is read so far: the result's block, the reader. -/
structure Gk (w : World) (o : Obj) (R : Nat) (u : ByteArray) (W : World) : Prop where
  be : Below w.heap.size w W
  r0 : W.heap[w.heap.size]? = some o
  rd : ∃ bad, Rd 113 R u bad W ∧ Sane u bad
  l1 : w.heap.size < R
  sz : u.size ≤ 281474976710656
theorem Gk.grown {w W W' : World} {o : Obj} {R : Nat} {u v : ByteArray} (k : Gk w o R u W) (hr : ∃ bad, Rd 113 R v bad W' ∧ Sane v bad) (hg : W.grownBy W' (some R)) (hv : v.size ≤ 281474976710656) : Gk w o R v W' := by
  have l1 := k.l1
  have lt := (Array.getElem?_eq_some_iff.1 k.r0).1
  exact ⟨below_grownBy k.be hg k.be.size (by omega), (hg.block _ lt (by simp; omega)).trans k.r0, hr, l1, hv⟩
theorem Gk.below {w W W' : World} {o : Obj} {R : Nat} {u : ByteArray} (k : Gk w o R u W) (hb : Below W.heap.size W W') : Gk w o R u W' :=
  k.grown (k.rd.elim fun b hr => ⟨b, hr.1.below hb hr.1.lt, hr.2⟩) (grownBy_below hb _) k.sz
theorem gk_take {w : World} {o : Obj} {R : Nat} {u : ByteArray} (v : Int) (k : Nat) (W : World) (g : Gk w o R u W) :
    Calls Try.prog 45 #[.pointer (some ⟨R, 0, none⟩), .int .i64 v, .int .i64 k] W fun e w' => e = .returned (.int .u64 (takV v u k)) ∧ Gk w o R (takT v u k) w' :=
  (take_ref v R u k W g.rd g.sz).mono fun e w' ⟨h1, h2, h3⟩ => ⟨h1, g.grown h2 h3 (takT_le g.sz)⟩
theorem gk_take1 {w : World} {o : Obj} {R : Nat} {u : ByteArray} (v : Int) (W : World) (g : Gk w o R u W) :
    Calls Try.prog 45 #[.pointer (some ⟨R, 0, none⟩), .int .i64 v, .int .i64 1] W fun e w' => e = .returned (.int .u64 (takV v u 1)) ∧ Gk w o R (takT v u 1) w' := gk_take v 1 W g
theorem gk_take2 {w : World} {o : Obj} {R : Nat} {u : ByteArray} (v : Int) (W : World) (g : Gk w o R u W) :
    Calls Try.prog 45 #[.pointer (some ⟨R, 0, none⟩), .int .i64 v, .int .i64 2] W fun e w' => e = .returned (.int .u64 (takV v u 2)) ∧ Gk w o R (takT v u 2) w' := gk_take v 2 W g
theorem gk_take8 {w : World} {o : Obj} {R : Nat} {u : ByteArray} (v : Int) (W : World) (g : Gk w o R u W) :
    Calls Try.prog 45 #[.pointer (some ⟨R, 0, none⟩), .int .i64 v, .int .i64 8] W fun e w' => e = .returned (.int .u64 (takV v u 8)) ∧ Gk w o R (takT v u 8) w' := gk_take v 8 W g

set_option maxHeartbeats 1000000 in
set_option maxRecDepth 100000 in
theorem rgetSuper_any (b : ByteArray) (w : World) (hb : b.size ≤ 281474976710656) : Calls Try.prog 18 #[.string b] w fun e w' => e = .returned (.tuple #[(gS b).val, .bool (gO b)]) ∧ Below w.heap.size w w' := by
  obtain ⟨W0, hW0⟩ : ∃ W0, W0 = w.alloc (.cells su0.c 32) := ⟨_, rfl⟩
  have b0 : Below w.heap.size w W0 := by rw [hW0]; exact (Below.refl _ _).alloc (Nat.le_refl _) _
  have k0 : W0.heap[w.heap.size]? = some (.cells su0.c 32 (0, 0)) := by rw [hW0]; exact heap_alloc_new w _
  have s0 : W0.heap.size = w.heap.size + 1 := by rw [hW0]; simp
  have KN := Lib.hid (rnew_any b W0)
  have HB0 := Lib.hid b0
  have HK0 := Lib.hid k0
  have HS0 := Lib.hid s0
  have HBZ := Lib.hid hb
  obtain ⟨n, hn⟩ : ∃ n, n = fixV b 1 := ⟨_, rfl⟩
  obtain ⟨u, hu⟩ : ∃ u, u = fixT b 1 := ⟨_, rfl⟩
  have hn1 := fixV_lt1 b
  rw [← hn] at hn1
  have hwr : IntKind.i64.wrap (n : Int) = (n : Int) := IntWalk.i64_in _ (by omega)
  have hrs : rs2 b = rdS2 n u := by unfold rs2 rv; rw [← hn, ← hu]
  obtain ⟨m1, hm1⟩ : ∃ m, m = takV n u 2 % 9999 := ⟨_, rfl⟩
  have hq1 : ((takV n u 2 : Nat) : Int) % 9999 = (m1 : Int) := by rw [hm1]; omega
  have hl1 : (m1 : Int) ≤ 9999 := by rw [hm1]; omega
  obtain ⟨m2, hm2⟩ : ∃ m, m = takV n (takT n u 2) 2 % 9999 := ⟨_, rfl⟩
  have hq2 : ((takV n (takT n u 2) 2 : Nat) : Int) % 9999 = (m2 : Int) := by rw [hm2]; omega
  have hl2 : (m2 : Int) ≤ 9999 := by rw [hm2]; omega
  obtain ⟨m3, hm3⟩ : ∃ m, m = takV n (takT n (takT n u 2) 2) 1 % 99 := ⟨_, rfl⟩
  have hq3 : ((takV n (takT n (takT n u 2) 2) 1 : Nat) : Int) % 99 = (m3 : Int) := by rw [hm3]; omega
  have hl3 : (m3 : Int) ≤ 9999 := by rw [hm3]; omega
  obtain ⟨m4, hm4⟩ : ∃ m, m = takV n (takT n (takT n (takT n u 2) 2) 1) 1 % 99 := ⟨_, rfl⟩
  have hq4 : ((takV n (takT n (takT n (takT n u 2) 2) 1) 1 : Nat) : Int) % 99 = (m4 : Int) := by rw [hm4]; omega
  have hl4 : (m4 : Int) ≤ 9999 := by rw [hm4]; omega
  obtain ⟨m5, hm5⟩ : ∃ m, m = takV n (takT n (takT n (takT n (takT n u 2) 2) 1) 1) 1 % 99 := ⟨_, rfl⟩
  have hq5 : ((takV n (takT n (takT n (takT n (takT n u 2) 2) 1) 1) 1 : Nat) : Int) % 99 = (m5 : Int) := by rw [hm5]; omega
  have hl5 : (m5 : Int) ≤ 9999 := by rw [hm5]; omega
  obtain ⟨m6, hm6⟩ : ∃ m, m = takV n (takT n (takT n (takT n (takT n (takT n u 2) 2) 1) 1) 1) 1 % 99 := ⟨_, rfl⟩
  have hq6 : ((takV n (takT n (takT n (takT n (takT n (takT n u 2) 2) 1) 1) 1) 1 : Nat) : Int) % 99 = (m6 : Int) := by rw [hm6]; omega
  have hl6 : (m6 : Int) ≤ 9999 := by rw [hm6]; omega
  obtain ⟨T, hT⟩ : ∃ T : Su, T = ⟨n, m1, m2, m3, m4, m5, m6⟩ := ⟨_, rfl⟩
  have hrT : rs2 b = T := by
    rw [hrs, hT]; unfold rdS2 u5 u4 u3 u2 u1
    rw [← hm1, ← hm2, ← hm3, ← hm4, ← hm5, ← hm6]
  have KP := Lib.hid (fun (W : World) => rputSuper_any T W)
  obtain ⟨r, hr⟩ : ∃ r, r = rgt T := ⟨_, rfl⟩
  obtain ⟨p, hp⟩ : ∃ p, p = supS T := ⟨_, rfl⟩
  rw [← hr, ← hp] at KP
  obtain ⟨te, hte⟩ : ∃ te, te = (p.toList == b.toList) := ⟨_, rfl⟩
  have hg2 : gO2 b = (r && te) := by
    unfold gO2; rw [hrT, ← hr, hte, hp]
    cases hrr : r with
    | false => rfl
    | true => unfold supS; rw [← hr, hrr, if_pos rfl]
  have HG : Hid (gO b = (r && te)) := by show _ = _; rw [← gO2_eq, hg2]
  have HS : Hid (gS b = if (r && te) = true then T else su0) := by
    show _ = _
    unfold gS
    rw [HG.out]
    cases hx : (r && te) with
    | false => rfl
    | true => rw [if_pos rfl, if_pos rfl, ← rs2_eq (by rw [HG.out, hx]), hrT]
  have HTE := Lib.hid hte.symm
  have HU := Lib.hid hu
  have HN := Lib.hid hn
  have HT : Hid (T.c = #[.int .i64 n, .int .i64 m1, .int .i64 m2, .int .i64 m3, .int .i64 m4, .int .i64 m5, .int .i64 m6]) := by show _ = _; rw [hT]; rfl
  have HX : Hid (T.c = _) := HT.out
  unfold Su.val at KP
  clear b0 k0 s0 hb hn hu hn1 hrs hrT hr hp hte hT HT hg2 hm1 hm2 hm3 hm4 hm5 hm6
  unfold rdp at *
  have hz0 : (w.alloc (.cells su0.c 32)) = w.alloc (.cells #[.int .i64 0, .int .i64 0, .int .i64 0, .int .i64 0, .int .i64 0, .int .i64 0, .int .i64 0] 32) := rfl
  rw [hz0] at hW0
  clear hz0
  have HW0 := Lib.hid hW0
  clear hW0
  go_enter Try.func18, Try.ntmps18
  go_wp2_with fail
  rw [← HW0.out]
  refine KN.out.mono ?_
  rintro e w1 ⟨rfl, hw1⟩
  obtain ⟨R, hR⟩ : ∃ R, R = W0.heap.size := ⟨_, rfl⟩
  have r1 : Rd 113 R b false w1 := by rw [hw1, hR]; exact Rd.new _ _ _ _
  have b1 : Below W0.heap.size W0 w1 := by rw [hw1]; exact (Below.refl _ _).alloc (Nat.le_refl _) _
  have G1 : Hid (Gk w (.cells su0.c 32 (0, 0)) R b w1) := ⟨HB0.out.trans (b1.mono HB0.out.size), (b1.block _ (by have := HS0.out; omega)).trans HK0.out, ⟨_, r1, fun h => by cases h⟩, by have := HS0.out; omega, HBZ.out⟩
  have HRR := Lib.hid hR
  clear hw1 r1 b1 hR
  rw [← HRR.out]
  have KF : Hid (Calls Try.prog 44 #[.pointer (some ⟨R, 0, none⟩), .int .i64 1] w1 fun e w' => e = .returned (.int .u64 (fixV b 1)) ∧ Gk w (.cells su0.c 32 (0, 0)) R (fixT b 1) w') := by
    obtain ⟨bad, hr, hs⟩ := G1.out.rd
    exact (rfixedr_any R b bad 1 w1 hr hs HBZ.out).mono fun e w' ⟨h1, h2, h3⟩ => ⟨h1, G1.out.grown ⟨_, h2, sane_fix b bad 1 hs⟩ h3 (Nat.le_trans (fixT_size b 1) HBZ.out)⟩
  unfold rdp at *
  go_wp2_with fail
  refine KF.out.mono ?_
  rintro e w3 ⟨rfl, g3⟩
  have G3 := Lib.hid g3
  clear g3 KF KN G1 HK0 HB0 HS0 HW0 HRR
  rw [← HU.out] at G3
  rw [← HN.out]
  have KG := Lib.hid (gk_take2 n _ G3.out)
  go_wp2_with fail
  refine KG.out.mono ?_
  rintro e y1 ⟨rfl, g1⟩
  have G4 := Lib.hid g1
  clear KG g1 G3
  have KG := Lib.hid (gk_take2 n _ G4.out)
  go_wp2_with fail
  refine KG.out.mono ?_
  rintro e y2 ⟨rfl, g2⟩
  have G5 := Lib.hid g2
  clear KG g2 G4
  have KG := Lib.hid (gk_take1 n _ G5.out)
  go_wp2_with fail
  refine KG.out.mono ?_
  rintro e y3 ⟨rfl, g3⟩
  have G6 := Lib.hid g3
  clear KG g3 G5
  have KG := Lib.hid (gk_take1 n _ G6.out)
  go_wp2_with fail
  refine KG.out.mono ?_
  rintro e y4 ⟨rfl, g4⟩
  have G7 := Lib.hid g4
  clear KG g4 G6
  have KG := Lib.hid (gk_take1 n _ G7.out)
  go_wp2_with fail
  refine KG.out.mono ?_
  rintro e y5 ⟨rfl, g5⟩
  have G8 := Lib.hid g5
  clear KG g5 G7
  have KG := Lib.hid (gk_take1 n _ G8.out)
  go_wp2_with fail
  refine KG.out.mono ?_
  rintro e y6 ⟨rfl, g6⟩
  have G9 := Lib.hid g6
  clear KG g6 G8
  obtain ⟨V, hV⟩ : ∃ V, V = y6.alloc (.cells T.c 32) := ⟨_, rfl⟩
  have bV : Below y6.heap.size y6 V := by rw [hV]; exact (Below.refl _ _).alloc (Nat.le_refl _) _
  obtain ⟨u9, GV0⟩ : ∃ u9, Gk w (.cells su0.c 32 (0, 0)) R u9 V := ⟨_, G9.out.below bV⟩
  have GV := Lib.hid GV0
  have HVT : Hid (V.heap[y6.heap.size]? = some (.cells T.c 32 (0, 0))) := by show _ = _; rw [hV]; exact heap_alloc_new y6 _
  rw [HX.out] at hV
  have HVV := Lib.hid hV
  clear hV bV G9 GV0
  go_wp2_with fail
  rw [← HVV.out, ← HX.out]
  refine (KP.out _).mono ?_
  rintro e z ⟨rfl, bz⟩
  have Gz := GV.out.below bz
  have hb := Gz.be
  have KZ : Hid (z.heap[w.heap.size]? = some (.cells su0.c 32 (0, 0))) := Gz.r0
  have TZ : Hid (z.heap[y6.heap.size]? = some (.cells T.c 32 (0, 0))) := (bz.block _ (Array.getElem?_eq_some_iff.1 HVT.out).1).trans HVT.out
  clear Gz GV HVT HVV HX KP bz
  obtain ⟨Z0, hZ0⟩ : ∃ Z, Z = z.setRow w.heap.size su0.c := ⟨_, rfl⟩
  obtain ⟨Z1, hZ1⟩ : ∃ Z, Z = z.setRow w.heap.size T.c := ⟨_, rfl⟩
  have B0 : Hid (Below w.heap.size w Z0) := by rw [hZ0]; exact hb.trans ⟨rfl, rfl, rfl, by simp, fun k hk => setRow_other _ _ _ _ (by omega)⟩
  have B1 : Hid (Below w.heap.size w Z1) := by rw [hZ1]; exact hb.trans ⟨rfl, rfl, rfl, by simp, fun k hk => setRow_other _ _ _ _ (by omega)⟩
  have K0 : Hid (Z0.heap[w.heap.size]? = some (.cells su0.c 32 (0, 0))) := by show _ = _; rw [hZ0]; exact setRow_heap _ _ _ _ 32 (0, 0) KZ.out
  have K1 : Hid (Z1.heap[w.heap.size]? = some (.cells T.c 32 (0, 0))) := by show _ = _; rw [hZ1]; exact setRow_heap _ _ _ _ 32 (0, 0) KZ.out
  have HZ0 := Lib.hid hZ0
  have HZ1 := Lib.hid hZ1
  clear hZ0 hZ1 hb
  cases r with
  | false =>
    clear HTE
    go_wp2_with (refine wpList_store_ru rfl _ _ rfl _ _ su0 su0 rfl rfl KZ.out ?_; refine wpList_at HZ0.out.symm ?_; go_frame)
    exact bodyPost_ret (v := _) (res18 _ _ w.heap.size su0 rfl K0.out) rfl ⟨by rw [HS.out, HG.out]; rfl, B0.out⟩
  | true =>
    cases te with
    | false =>
      have hne := HTE.out
      clear HTE
      go_wp2_with (refine wpList_store_ru rfl _ _ rfl _ _ su0 su0 rfl rfl KZ.out ?_; refine wpList_at HZ0.out.symm ?_; go_frame)
      exact bodyPost_ret (v := _) (res18 _ _ w.heap.size su0 rfl K0.out) rfl ⟨by rw [HS.out, HG.out]; rfl, B0.out⟩
    | true =>
      have hne := HTE.out
      clear HTE
      go_wp2_with (first | (refine wpList_load_ru rfl _ rfl _ _ T rfl TZ.out ?_; go_frame) | (refine wpList_store_ru rfl _ _ rfl _ _ T su0 rfl rfl KZ.out ?_; refine wpList_at HZ1.out.symm ?_; go_frame))
      exact bodyPost_ret (v := _) (res18 _ _ w.heap.size T rfl K1.out) rfl ⟨by rw [HS.out, HG.out]; rfl, B1.out⟩
set_option maxHeartbeats 1000000 in
set_option maxRecDepth 100000 in
theorem rgetHard_any (b : ByteArray) (w : World) (hb : b.size ≤ 281474976710656) : Calls Try.prog 20 #[.string b] w fun e w' => e = .returned (.tuple #[(jH b).val, .int .i64 (jV b), .bool (jO b)]) ∧ Below w.heap.size w w' := by
  obtain ⟨W0, hW0⟩ : ∃ W0, W0 = w.alloc (.cells hd0.c 36) := ⟨_, rfl⟩
  have b0 : Below w.heap.size w W0 := by rw [hW0]; exact (Below.refl _ _).alloc (Nat.le_refl _) _
  have k0 : W0.heap[w.heap.size]? = some (.cells hd0.c 36 (0, 0)) := by rw [hW0]; exact heap_alloc_new w _
  have s0 : W0.heap.size = w.heap.size + 1 := by rw [hW0]; simp
  have KN := Lib.hid (rnew_any b W0)
  have HB0 := Lib.hid b0
  have HK0 := Lib.hid k0
  have HS0 := Lib.hid s0
  have HBZ := Lib.hid hb
  obtain ⟨n, hn⟩ : ∃ n, n = fixV b 1 := ⟨_, rfl⟩
  obtain ⟨u, hu⟩ : ∃ u, u = fixT b 1 := ⟨_, rfl⟩
  have hn1 := fixV_lt1 b
  rw [← hn] at hn1
  have hwr : IntKind.i64.wrap (n : Int) = (n : Int) := IntWalk.i64_in _ (by omega)
  have hni : (n : Int) ≤ 255 := by omega
  obtain ⟨v, hv0⟩ : ∃ v : Int, v = (n : Int) - 16 := ⟨_, rfl⟩
  have hwr2 : IntKind.i64.wrap ((n : Int) - 16) = v := by rw [hv0]; exact IntWalk.i64_in _ (by omega)
  have hvv : hv b = v := by unfold hv; rw [← hn, hv0]
  have hrs : rh2 b = rdH2 v u := by unfold rh2; rw [hvv, ← hu]
  have hok := rh2_ok b
  obtain ⟨m, hm⟩ : ∃ m, m = takV v (takT v u 8) 1 % 99 := ⟨_, rfl⟩
  have hq : ((takV v (takT v u 8) 1 : Nat) : Int) % 99 = (m : Int) := by rw [hm]; omega
  have hl1 : (m : Int) ≤ 99 := by rw [hm]; omega
  obtain ⟨T, hT⟩ : ∃ T : Hd, T = ⟨takV v u 8, m, takV v (takT v (takT v u 8) 1) 8⟩ := ⟨_, rfl⟩
  have hrT : rh2 b = T := by
    rw [hrs, hT]; unfold rdH2 k2 k1
    rw [← hm]
  rw [hrT] at hok
  have KP := Lib.hid (fun (W : World) => rputHard_any v T W hok)
  obtain ⟨r, hr⟩ : ∃ r, r = hO v T := ⟨_, rfl⟩
  obtain ⟨p, hp⟩ : ∃ p, p = hS v T := ⟨_, rfl⟩
  rw [← hr, ← hp] at KP
  obtain ⟨te, hte⟩ : ∃ te, te = (p.toList == b.toList) := ⟨_, rfl⟩
  have hg2 : jO2 b = (r && te) := by
    unfold jO2; rw [hvv, hrT, ← hr, hte, hp]
    cases hrr : r with
    | false => rfl
    | true => unfold hS; rw [← hr, hrr, if_pos rfl]
  have HG : Hid (jO b = (r && te)) := by show _ = _; rw [← jO2_eq, hg2]
  have HS : Hid (jH b = if (r && te) = true then T else hd0) := by
    show _ = _
    unfold jH
    rw [HG.out]
    cases hx : (r && te) with
    | false => rfl
    | true => rw [if_pos rfl, if_pos rfl, ← rh2_eq (by rw [HG.out, hx]), hrT]
  have HJ : Hid (jV b = if (r && te) = true then v else 0) := by show _ = _; unfold jV; rw [HG.out, hvv]
  have HTE := Lib.hid hte.symm
  have HU := Lib.hid hu
  have HN := Lib.hid hn
  have HT : Hid (T.c = #[.int .u64 (takV v u 8 : Nat), .int .i64 m, .int .u64 (takV v (takT v (takT v u 8) 1) 8 : Nat)]) := by show _ = _; rw [hT, Hd.c]
  have HX : Hid (T.c = _) := HT.out
  unfold Hd.val at KP
  have HV0 := Lib.hid hv0
  clear b0 k0 s0 hb hn hu hn1 hrs hrT hr hp hte hT HT hg2 hm hvv hok hv0
  unfold rdp at *
  have hz0 : (w.alloc (.cells hd0.c 36)) = w.alloc (.cells #[.int .u64 0, .int .i64 0, .int .u64 0] 36) := rfl
  rw [hz0] at hW0
  clear hz0
  have HW0 := Lib.hid hW0
  clear hW0
  go_enter Try.func20, Try.ntmps20
  go_wp2_with fail
  rw [← HW0.out]
  refine KN.out.mono ?_
  rintro e w1 ⟨rfl, hw1⟩
  obtain ⟨R, hR⟩ : ∃ R, R = W0.heap.size := ⟨_, rfl⟩
  have r1 : Rd 113 R b false w1 := by rw [hw1, hR]; exact Rd.new _ _ _ _
  have b1 : Below W0.heap.size W0 w1 := by rw [hw1]; exact (Below.refl _ _).alloc (Nat.le_refl _) _
  have G1 : Hid (Gk w (.cells hd0.c 36 (0, 0)) R b w1) := ⟨HB0.out.trans (b1.mono HB0.out.size), (b1.block _ (by have := HS0.out; omega)).trans HK0.out, ⟨_, r1, fun h => by cases h⟩, by have := HS0.out; omega, HBZ.out⟩
  have HRR := Lib.hid hR
  clear hw1 r1 b1 hR
  rw [← HRR.out]
  have KF : Hid (Calls Try.prog 44 #[.pointer (some ⟨R, 0, none⟩), .int .i64 1] w1 fun e w' => e = .returned (.int .u64 (fixV b 1)) ∧ Gk w (.cells hd0.c 36 (0, 0)) R (fixT b 1) w') := by
    obtain ⟨bad, hr, hs⟩ := G1.out.rd
    exact (rfixedr_any R b bad 1 w1 hr hs HBZ.out).mono fun e w' ⟨h1, h2, h3⟩ => ⟨h1, G1.out.grown ⟨_, h2, sane_fix b bad 1 hs⟩ h3 (Nat.le_trans (fixT_size b 1) HBZ.out)⟩
  unfold rdp at *
  go_wp2_with fail
  refine KF.out.mono ?_
  rintro e w3 ⟨rfl, g3⟩
  have G3 := Lib.hid g3
  clear g3 KF KN G1 HK0 HB0 HS0 HW0 HRR
  rw [← HU.out] at G3
  rw [← HN.out]
  have KG := Lib.hid (gk_take8 v _ G3.out)
  go_wp2_with fail
  refine KG.out.mono ?_
  rintro e y1 ⟨rfl, g1⟩
  have G4 := Lib.hid g1
  clear KG g1 G3
  have KG := Lib.hid (gk_take1 v _ G4.out)
  go_wp2_with fail
  refine KG.out.mono ?_
  rintro e y2 ⟨rfl, g2⟩
  have G5 := Lib.hid g2
  clear KG g2 G4
  have KG := Lib.hid (gk_take8 v _ G5.out)
  go_wp2_with fail
  refine KG.out.mono ?_
  rintro e y3 ⟨rfl, g3⟩
  have G6 := Lib.hid g3
  clear KG g3 G5
  obtain ⟨V, hV⟩ : ∃ V, V = y3.alloc (.cells T.c 36) := ⟨_, rfl⟩
  have bV : Below y3.heap.size y3 V := by rw [hV]; exact (Below.refl _ _).alloc (Nat.le_refl _) _
  obtain ⟨u9, GV0⟩ : ∃ u9, Gk w (.cells hd0.c 36 (0, 0)) R u9 V := ⟨_, G6.out.below bV⟩
  have GV := Lib.hid GV0
  have HVT : Hid (V.heap[y3.heap.size]? = some (.cells T.c 36 (0, 0))) := by show _ = _; rw [hV]; exact heap_alloc_new y3 _
  rw [HX.out] at hV
  have HVV := Lib.hid hV
  clear hV bV G6 GV0
  go_wp2_with fail
  rw [← HVV.out, ← HX.out]
  refine (KP.out _).mono ?_
  rintro e z ⟨rfl, bz⟩
  have Gz := GV.out.below bz
  have hb := Gz.be
  have KZ : Hid (z.heap[w.heap.size]? = some (.cells hd0.c 36 (0, 0))) := Gz.r0
  have TZ : Hid (z.heap[y3.heap.size]? = some (.cells T.c 36 (0, 0))) := (bz.block _ (Array.getElem?_eq_some_iff.1 HVT.out).1).trans HVT.out
  clear Gz GV HVT HVV HX KP bz
  obtain ⟨Z0, hZ0⟩ : ∃ Z, Z = z.setRow w.heap.size hd0.c := ⟨_, rfl⟩
  obtain ⟨Z1, hZ1⟩ : ∃ Z, Z = z.setRow w.heap.size T.c := ⟨_, rfl⟩
  have B0 : Hid (Below w.heap.size w Z0) := by rw [hZ0]; exact hb.trans ⟨rfl, rfl, rfl, by simp, fun k hk => setRow_other _ _ _ _ (by omega)⟩
  have B1 : Hid (Below w.heap.size w Z1) := by rw [hZ1]; exact hb.trans ⟨rfl, rfl, rfl, by simp, fun k hk => setRow_other _ _ _ _ (by omega)⟩
  have K0 : Hid (Z0.heap[w.heap.size]? = some (.cells hd0.c 36 (0, 0))) := by show _ = _; rw [hZ0]; exact setRow_heap _ _ _ _ 36 (0, 0) KZ.out
  have K1 : Hid (Z1.heap[w.heap.size]? = some (.cells T.c 36 (0, 0))) := by show _ = _; rw [hZ1]; exact setRow_heap _ _ _ _ 36 (0, 0) KZ.out
  have HZ0 := Lib.hid hZ0
  have HZ1 := Lib.hid hZ1
  clear hZ0 hZ1 hb
  cases r with
  | false =>
    clear HTE
    go_wp2_with (refine wpList_store_rh rfl _ _ rfl _ _ hd0 hd0 rfl rfl KZ.out ?_; refine wpList_at HZ0.out.symm ?_; go_frame)
    exact bodyPost_ret (v := _) (res20 _ _ w.heap.size hd0 rfl K0.out) rfl ⟨by rw [HS.out, HG.out, HJ.out]; rfl, B0.out⟩
  | true =>
    cases te with
    | false =>
      have hne := HTE.out
      clear HTE
      go_wp2_with (refine wpList_store_rh rfl _ _ rfl _ _ hd0 hd0 rfl rfl KZ.out ?_; refine wpList_at HZ0.out.symm ?_; go_frame)
      exact bodyPost_ret (v := _) (res20 _ _ w.heap.size hd0 rfl K0.out) rfl ⟨by rw [HS.out, HG.out, HJ.out]; rfl, B0.out⟩
    | true =>
      have hne := HTE.out
      clear HTE
      go_wp2_with (first | (refine wpList_load_rh rfl _ rfl _ _ T rfl TZ.out ?_; go_frame) | (refine wpList_store_rh rfl _ _ rfl _ _ T hd0 rfl rfl KZ.out ?_; refine wpList_at HZ1.out.symm ?_; go_frame))
      exact bodyPost_ret (v := _) (res20 _ _ w.heap.size T rfl K1.out) rfl ⟨by rw [HS.out, HG.out, HJ.out]; rfl, B1.out⟩
end Go.Proofs.Ytdoombcihobejaa