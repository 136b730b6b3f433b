/-
  The package's GetSuper.
  Conditions: a text of at most 2^48 bytes.
-/
import Derived.Test.YtdoombcihobejaaL4
import Derived.Test.YtdoombcihobejaaNw
import Derived.Laws.ResultCell
import Derived.Deep.WholeRow
import Derived.Carry
namespace Go.Proofs.Ytdoombcihobejaa
open Go.RowKit Vi Sl
set_option linter.unusedVariables false
set_option linter.unusedSimpArgs false
theorem wrapEq (x : Int) : IntKind.i64.wrap x = wrap64 x := by rw [IntKind.wrap_i64]; unfold wrap64; omega
theorem Try.su7 : (Try.prog.info? 23).map (·.size) = some 7 := by kernel_rfl
theorem wpList_store_su {ops : Array Oper} {rest : List Oper} {op : Oper} {a : Act} {Q : Exit → Act → World → Prop} (hgd : op.guard = none) (x y : Operand) (ho : op.op = .store 23 x y)
    (w : World) (z : Nat) (s t : Su) (hx : a.eval x = .pointer (some ⟨z, 0, none⟩)) (hy : a.eval y = .agg s.c) (hz : w.heap[z]? = some (.cells t.c 23 (0, 0)))
    (h : wpList Try.prog ops Q rest (a.put op.dst undef) (w.setRow z s.c)) : wpList Try.prog ops Q (op :: rest) a w :=
  wpList_store_row hgd 23 x y ho z _ hx hy 23 _ hz Try.su7 rfl (by simp [Su.c, Value.oneCell']) h
theorem wpList_load_su {ops : Array Oper} {rest : List Oper} {op : Oper} {a : Act} {Q : Exit → Act → World → Prop} (hgd : op.guard = none) (x : Operand) (ho : op.op = .load 23 x)
    (w : World) (z : Nat) (s : Su) (hx : a.eval x = .pointer (some ⟨z, 0, none⟩)) (hz : w.heap[z]? = some (.cells s.c 23 (0, 0)))
    (h : wpList Try.prog ops Q rest (a.put op.dst (.agg s.c)) w) : wpList Try.prog ops Q (op :: rest) a w :=
  wpList_load_row hgd 23 x ho z hx 23 _ (0, 0) _ hz Try.underlying23 rfl Try.su7 h
theorem res17 (tmps : Array Value) (w : World) (p : Nat) (s : Su) (hp : tmps.getD 2 undef = .pointer (some ⟨p, 0, none⟩)) (hg : w.heap[p]? = some (.cells s.c 23 (0, 0))) :
    (results Try.f17 tmps).run Try.prog w = .ok (.tuple #[.agg s.c, tmps.getD 3 undef]) w := by
  rw [results_cell_tmp Try.results17, hp]
  simp [asAddr, run_loadVar_row w p 23 23 s.c (0, 0) _ hg Try.underlying23 rfl Try.su7]
theorem zero87 (w : World) : (zeroValue 87).run Try.prog w = .ok .nilFunc w := Try.zeroValue87 w
/-- What is read so far: the result's block, the reader, the cells that hold the reader and how its numbers are taken. -/
structure Gr (w : World) (R t c fn : Nat) (u : ByteArray) (W : World) : Prop where
  be : Below w.heap.size w W
  r0 : W.heap[w.heap.size]? = some (.cells su0.c 23 (0, 0))
  rd : ∃ bad, Rd 109 R u bad W
  ct : W.heap[t]? = some (.cells #[.pointer (some ⟨R, 0, none⟩)] 84 (0, 0))
  cf : W.heap[c]? = some (.cells #[fv fn] 87 (0, 0))
  l1 : w.heap.size < R
  l2 : R < t
  l3 : t < c
  sz : u.size ≤ 281474976710656
theorem Gr.lt {w W : World} {R t c fn : Nat} {u : ByteArray} (h : Gr w R t c fn u W) : c < W.heap.size := (Array.getElem?_eq_some_iff.1 h.cf).1
theorem Gr.grown {w W W' : World} {R t c fn : Nat} {u v : ByteArray} (h : Gr w R t c fn u W) (hr : ∃ bad, Rd 109 R v bad W') (hg : W.grownBy W' (some R)) (hv : v.size ≤ 281474976710656) : Gr w R t c fn v W' := by
  have l1 := h.l1
  have l2 := h.l2
  have l3 := h.l3
  have lt := h.lt
  have bl : ∀ k, k < W.heap.size → k ≠ R → W'.heap[k]? = W.heap[k]? := fun k hk hn => hg.block k hk (by simpa using hn)
  exact ⟨below_grownBy h.be hg h.be.size (by omega), (bl _ (by omega) (by omega)).trans h.r0, hr, (bl _ (by omega) (by omega)).trans h.ct, (bl _ (by omega) (by omega)).trans h.cf, l1, l2, l3, hv⟩
theorem Gr.below {w W W' : World} {R t c fn : Nat} {u : ByteArray} (h : Gr w R t c fn u W) (hb : Below W.heap.size W W') : Gr w R t c fn u W' :=
  h.grown (h.rd.elim fun b hr => ⟨b, hr.below hb hr.lt⟩) (grownBy_below hb _) h.sz
theorem takT_le {v : Int} {u : ByteArray} {k : Nat} (h : u.size ≤ 281474976710656) : (takT v u k).size ≤ 281474976710656 := Nat.le_trans (takT_size v u k) h

theorem tk1_any (R : Nat) (u : ByteArray) (k : Nat) (W : World) (h : ∃ bad, Rd 109 R u bad W) (hu : u.size ≤ 281474976710656) :
    Calls Try.prog 39 #[.pointer (some ⟨R, 0, none⟩), .int .i64 k] W fun e w' => e = .returned (.int .u64 (takV 1 u k)) ∧ (∃ bad, Rd 109 R (takT 1 u k) bad w') ∧ W.grownBy w' (some R) := by
  obtain ⟨bad, h⟩ := h
  exact (fixedr_any R u bad k W h hu).mono fun e w' ⟨h1, h2, h3⟩ => ⟨h1, ⟨_, h2⟩, h3⟩
set_option maxHeartbeats 1000000 in
theorem gcl12_any {w : World} {R t c : Nat} {u : ByteArray} (W : World) (h : Gr w R t c 39 u W) :
    Calls Try.prog 41 #[.pointer (some ⟨c, 0, none⟩), .pointer (some ⟨t, 0, none⟩)] W fun e w' => e = .returned (.int .i64 (w64 (takV 1 u 2))) ∧ Gr w R t c 39 (takT 1 u 2) w' := by
  have c0 : W.cell? ⟨c, 0, none⟩ = some (fv 39) := cell_of_row W c 0 _ 87 (0, 0) h.cf
  have c1 : W.cell? ⟨t, 0, none⟩ = some (.pointer (some ⟨R, 0, none⟩)) := cell_of_row W t 0 _ 84 (0, 0) h.ct
  have K := Lib.hid ((tk1_any R u 2 W h.rd h.sz).mono fun e w' ⟨h1, h2, h3⟩ => (⟨h1, h.grown h2 h3 (takT_le h.sz)⟩ : _ ∧ Gr w R t c 39 (takT 1 u 2) w'))
  have HE : Hid (w64 (takV 1 u 2) = wrap64 ((takV 1 u 2 : Nat) : Int)) := wrapEq _
  clear h
  go_enter Try.func41, Try.ntmps41
  go_wp2_with fail
  refine K.out.mono ?_
  rintro e w1 ⟨rfl, h1⟩
  have H1 := Lib.hid h1
  clear h1
  go_wp2
  go_ret
  exact ⟨by rw [HE.out]; rfl, H1.out⟩
set_option maxHeartbeats 1000000 in
theorem gcl11_any {w : World} {R t c : Nat} {u : ByteArray} (W : World) (h : Gr w R t c 39 u W) :
    Calls Try.prog 42 #[.pointer (some ⟨c, 0, none⟩), .pointer (some ⟨t, 0, none⟩)] W fun e w' => e = .returned (.int .i64 (w64 (takV 1 u 1))) ∧ Gr w R t c 39 (takT 1 u 1) w' := by
  have c0 : W.cell? ⟨c, 0, none⟩ = some (fv 39) := cell_of_row W c 0 _ 87 (0, 0) h.cf
  have c1 : W.cell? ⟨t, 0, none⟩ = some (.pointer (some ⟨R, 0, none⟩)) := cell_of_row W t 0 _ 84 (0, 0) h.ct
  have K := Lib.hid ((tk1_any R u 1 W h.rd h.sz).mono fun e w' ⟨h1, h2, h3⟩ => (⟨h1, h.grown h2 h3 (takT_le h.sz)⟩ : _ ∧ Gr w R t c 39 (takT 1 u 1) w'))
  have HE : Hid (w64 (takV 1 u 1) = wrap64 ((takV 1 u 1 : Nat) : Int)) := wrapEq _
  clear h
  go_enter Try.func42, Try.ntmps42
  go_wp2_with fail
  refine K.out.mono ?_
  rintro e w1 ⟨rfl, h1⟩
  have H1 := Lib.hid h1
  clear h1
  go_wp2
  go_ret
  exact ⟨by rw [HE.out]; rfl, H1.out⟩
theorem tk2_any (R : Nat) (u : ByteArray) (k : Nat) (W : World) (h : ∃ bad, Rd 109 R u bad W) (hu : u.size ≤ 281474976710656) :
    Calls Try.prog 58 #[.pointer (some ⟨R, 0, none⟩), .int .i64 k] W fun e w' => e = .returned (.int .u64 (takV 2 u k)) ∧ (∃ bad, Rd 109 R (takT 2 u k) bad w') ∧ W.grownBy w' (some R) := by
  obtain ⟨bad, h⟩ := h
  have K := Lib.hid (var_any R u bad W h hu)
  clear h hu
  unfold rdp at *
  go_enter Try.func58, Try.ntmps58
  go_wp2_with fail
  refine K.out.mono ?_
  rintro e w1 ⟨rfl, h1, h2⟩
  go_wp2
  go_ret
  exact ⟨rfl, ⟨_, h1⟩, h2⟩
set_option maxHeartbeats 1000000 in
theorem gcl22_any {w : World} {R t c : Nat} {u : ByteArray} (W : World) (h : Gr w R t c 58 u W) :
    Calls Try.prog 41 #[.pointer (some ⟨c, 0, none⟩), .pointer (some ⟨t, 0, none⟩)] W fun e w' => e = .returned (.int .i64 (w64 (takV 2 u 2))) ∧ Gr w R t c 58 (takT 2 u 2) w' := by
  have c0 : W.cell? ⟨c, 0, none⟩ = some (fv 58) := cell_of_row W c 0 _ 87 (0, 0) h.cf
  have c1 : W.cell? ⟨t, 0, none⟩ = some (.pointer (some ⟨R, 0, none⟩)) := cell_of_row W t 0 _ 84 (0, 0) h.ct
  have K := Lib.hid ((tk2_any R u 2 W h.rd h.sz).mono fun e w' ⟨h1, h2, h3⟩ => (⟨h1, h.grown h2 h3 (takT_le h.sz)⟩ : _ ∧ Gr w R t c 58 (takT 2 u 2) w'))
  have HE : Hid (w64 (takV 2 u 2) = wrap64 ((takV 2 u 2 : Nat) : Int)) := wrapEq _
  clear h
  go_enter Try.func41, Try.ntmps41
  go_wp2_with fail
  refine K.out.mono ?_
  rintro e w1 ⟨rfl, h1⟩
  have H1 := Lib.hid h1
  clear h1
  go_wp2
  go_ret
  exact ⟨by rw [HE.out]; rfl, H1.out⟩
set_option maxHeartbeats 1000000 in
theorem gcl21_any {w : World} {R t c : Nat} {u : ByteArray} (W : World) (h : Gr w R t c 58 u W) :
    Calls Try.prog 42 #[.pointer (some ⟨c, 0, none⟩), .pointer (some ⟨t, 0, none⟩)] W fun e w' => e = .returned (.int .i64 (w64 (takV 2 u 1))) ∧ Gr w R t c 58 (takT 2 u 1) w' := by
  have c0 : W.cell? ⟨c, 0, none⟩ = some (fv 58) := cell_of_row W c 0 _ 87 (0, 0) h.cf
  have c1 : W.cell? ⟨t, 0, none⟩ = some (.pointer (some ⟨R, 0, none⟩)) := cell_of_row W t 0 _ 84 (0, 0) h.ct
  have K := Lib.hid ((tk2_any R u 1 W h.rd h.sz).mono fun e w' ⟨h1, h2, h3⟩ => (⟨h1, h.grown h2 h3 (takT_le h.sz)⟩ : _ ∧ Gr w R t c 58 (takT 2 u 1) w'))
  have HE : Hid (w64 (takV 2 u 1) = wrap64 ((takV 2 u 1 : Nat) : Int)) := wrapEq _
  clear h
  go_enter Try.func42, Try.ntmps42
  go_wp2_with fail
  refine K.out.mono ?_
  rintro e w1 ⟨rfl, h1⟩
  have H1 := Lib.hid h1
  clear h1
  go_wp2
  go_ret
  exact ⟨by rw [HE.out]; rfl, H1.out⟩
set_option maxHeartbeats 4000000 in
set_option maxRecDepth 100000 in
theorem getSuper_none (b : ByteArray) (w : World) (hb : b.size ≤ 281474976710656) (h1 : rv b ≠ 1) (h2 : rv b ≠ 2) : Calls Try.prog 17 #[.string b] w fun e w' => e = .returned (.tuple #[su0.val, .bool false]) ∧ Below w.heap.size w w' := by
  obtain ⟨W0, hW0⟩ : ∃ W0, W0 = w.alloc (.cells su0.c 23) := ⟨_, rfl⟩
  have b0 : Below w.heap.size w W0 := by rw [hW0]; exact (Below.refl _ _).alloc (Nat.le_refl _) _
  have k0 : W0.heap[w.heap.size]? = some (.cells su0.c 23 (0, 0)) := by rw [hW0]; exact heap_alloc_new w _
  have s0 : W0.heap.size = w.heap.size + 1 := by rw [hW0]; simp
  have KN := Lib.hid (new_any b W0)
  have HB0 := Lib.hid b0
  have HK0 := Lib.hid k0
  have HS0 := Lib.hid s0
  have HW0 := Lib.hid hW0
  have HBZ := Lib.hid hb
  have HV : Hid (((fixV b 1 : Nat) : Int) ≠ 1 ∧ ((fixV b 1 : Nat) : Int) ≠ 2) := ⟨h1, h2⟩
  have HV1 := Lib.hid (fixV_lt1 b)
  clear b0 k0 s0 hW0 h1 h2 hb
  unfold rdp su0 Su.c at *
  dsimp only at *
  go_enter Try.func17, Try.ntmps17
  go_wp2_with fail
  rw [← HW0.out]
  refine KN.out.mono ?_
  rintro e w1 ⟨rfl, hw1⟩
  obtain ⟨R, hR⟩ : ∃ R, R = W0.heap.size := ⟨_, rfl⟩
  have r1 : Rd 109 R b false w1 := by rw [hw1, hR]; exact Rd.new _ _ _ _
  have b1 : Below W0.heap.size W0 w1 := by rw [hw1]; exact (Below.refl _ _).alloc (Nat.le_refl _) _
  have s1 : w1.heap.size = R + 1 := by rw [hw1, hR]; simp
  have HRR := Lib.hid hR
  have HB1 : Hid (Below w.heap.size w w1) := HB0.out.trans (b1.mono HB0.out.size)
  have HK1 : Hid (w1.heap[w.heap.size]? = some (.cells su0.c 23 (0, 0))) := (b1.block _ (by have := HS0.out; omega)).trans HK0.out
  have HR1 := Lib.hid r1
  have HS1 := Lib.hid s1
  clear hw1 r1 b1 s1 hR
  rw [← HRR.out]
  obtain ⟨W2, hW2⟩ : ∃ W2, W2 = w1.alloc (.cells #[.pointer (some ⟨R, 0, none⟩)] 84) := ⟨_, rfl⟩
  have b2 : Below w1.heap.size w1 W2 := by rw [hW2]; exact (Below.refl _ _).alloc (Nat.le_refl _) _
  have KF := Lib.hid (fixedr_any R b false 1 W2 (HR1.out.below b2 HR1.out.lt) HBZ.out)
  have HB2 : Hid (Below w.heap.size w W2) := HB1.out.trans (b2.mono HB1.out.size)
  have HK2 : Hid (W2.heap[w.heap.size]? = some (.cells su0.c 23 (0, 0))) := (b2.block _ (by have := HS1.out; have := HS0.out; have := HRR.out; omega)).trans HK1.out
  have HW2 := Lib.hid hW2
  clear b2 hW2
  unfold rdp at *
  go_wp2_with fail
  rw [← HW2.out]
  refine KF.out.mono ?_
  rintro e w3 ⟨rfl, r3, g3⟩
  have HB3 : Hid (Below w.heap.size w w3) := below_grownBy HB2.out g3 HB2.out.size (by have := HS0.out; have := HRR.out; omega)
  have HK3 : Hid (w3.heap[w.heap.size]? = some (.cells su0.c 23 (0, 0))) := (g3.block _ (Array.getElem?_eq_some_iff.1 HK2.out).1 (by have := HS0.out; have := HRR.out; simp; omega)).trans HK2.out
  clear r3 g3
  obtain ⟨n, hn⟩ : ∃ n, n = fixV b 1 := ⟨_, rfl⟩
  rw [← hn] at HV HV1 ⊢
  have hwr : IntKind.i64.wrap (n : Int) = (n : Int) := IntWalk.i64_in _ (by have := HV1.out; omega)
  clear hn
  go_wp2_with fail
  refine (takes_any _).mono ?_
  rintro e w4 ⟨rfl, m4, b4, s4⟩
  have HB4 : Hid (Below w.heap.size w w4) := HB3.out.trans (b4.mono HB3.out.size)
  have HK4 : Hid (w4.heap[w.heap.size]? = some (.cells su0.c 23 (0, 0))) := (b4.block _ (Array.getElem?_eq_some_iff.1 HK3.out).1).trans HK3.out
  have hl := look_none (T := 89) (n : Int) Try.underlying89 zero87 m4 (two_n _ _ _ HV.out.1 HV.out.2)
  have k5 : (w4.alloc (.cells #[.nilFunc] 87)).heap[w.heap.size]? = some (.cells su0.c 23 (0, 0)) := (Lib.alloc_old _ _ _ (Array.getElem?_eq_some_iff.1 HK4.out).1).trans HK4.out
  obtain ⟨W5, hW5⟩ : ∃ W5, W5 = (w4.alloc (.cells #[.nilFunc] 87)).setRow w.heap.size su0.c := ⟨_, rfl⟩
  have HB5 : Hid (Below w.heap.size w W5) := by rw [hW5]; exact (HB4.out.alloc HB4.out.size _).trans ⟨rfl, rfl, rfl, by simp, fun k hk => setRow_other _ _ _ _ (by have := HB4.out.size; omega)⟩
  have HK5 : Hid (W5.heap[w.heap.size]? = some (.cells su0.c 23 (0, 0))) := by show _ = _; rw [hW5]; exact setRow_heap _ _ _ _ 23 (0, 0) k5
  have HW5 := Lib.hid hW5
  have K5 := Lib.hid k5
  clear m4 b4 s4 hW5 k5
  go_wp2_with (refine wpList_store_su rfl _ _ rfl _ _ su0 su0 rfl rfl K5.out ?_; refine wpList_at HW5.out.symm ?_; go_frame)
  exact bodyPost_ret (v := _) (res17 _ _ w.heap.size su0 rfl HK5.out) rfl ⟨rfl, HB5.out⟩
set_option maxHeartbeats 4000000 in
set_option maxRecDepth 100000 in
theorem getSuperV1_any (b : ByteArray) (w : World) (hb : b.size ≤ 281474976710656) (hv : rv b = 1) : Calls Try.prog 17 #[.string b] w fun e w' => e = .returned (.tuple #[(gS b).val, .bool (gO b)]) ∧ Below w.heap.size w w' := by
  obtain ⟨W0, hW0⟩ : ∃ W0, W0 = w.alloc (.cells su0.c 23) := ⟨_, rfl⟩
  have b0 : Below w.heap.size w W0 := by rw [hW0]; exact (Below.refl _ _).alloc (Nat.le_refl _) _
  have k0 : W0.heap[w.heap.size]? = some (.cells su0.c 23 (0, 0)) := by rw [hW0]; exact heap_alloc_new w _
  have s0 : W0.heap.size = w.heap.size + 1 := by rw [hW0]; simp
  have KN := Lib.hid (new_any b W0)
  have HB0 := Lib.hid b0
  have HK0 := Lib.hid k0
  have HS0 := Lib.hid s0
  have HW0 := Lib.hid hW0
  have HBZ := Lib.hid hb
  have HV : Hid (((fixV b 1 : Nat) : Int) = 1) := hv
  have hrs : rs b = rdS 1 (fixT b 1) := by unfold rs; rw [hv]
  have hu : (fixT b 1).size ≤ 281474976710656 := Nat.le_trans (fixT_size b 1) hb
  obtain ⟨u, hu0⟩ : ∃ u, u = fixT b 1 := ⟨_, rfl⟩
  rw [← hu0] at hrs hu
  have KP := Lib.hid (fun (W : World) => putSuper_any (rdS 1 u) W)
  obtain ⟨r, hr⟩ : ∃ r, r = rgt (rdS 1 u) := ⟨_, rfl⟩
  obtain ⟨p, hp⟩ : ∃ p, p = supS (rdS 1 u) := ⟨_, rfl⟩
  rw [← hr, ← hp] at KP
  obtain ⟨te, hte⟩ : ∃ te, te = (p.toList == b.toList) := ⟨_, rfl⟩
  have HG : Hid (gO b = (r && te)) := by
    show _ = _
    unfold gO; rw [hrs, ← hr, hte, hp]
    cases hrr : r with
    | false => rfl
    | true => unfold supS; rw [← hr, hrr, if_pos rfl]
  have HS : Hid (gS b = if (r && te) = true then rdS 1 u else su0) := by show _ = _; unfold gS; rw [HG.out, hrs]
  have HTE := Lib.hid hte.symm
  have HU := Lib.hid hu
  have HU0 := Lib.hid hu0
  obtain ⟨T, hT⟩ : ∃ T, T = rdS 1 u := ⟨_, rfl⟩
  have HT : Hid (T.c = #[.int .i64 (rdS 1 u).v, .int .i64 (rdS 1 u).sn, .int .i64 (rdS 1 u).lg, .int .i64 (rdS 1 u).ar, .int .i64 (rdS 1 u).hf, .int .i64 (rdS 1 u).gl, .int .i64 (rdS 1 u).sp]) := by show _ = _; rw [hT]; rfl
  rw [← hT] at HS
  unfold rdS u5 u4 u3 u2 u1 at KP HT
  unfold Su.val Su.c at KP
  dsimp only at KP HT
  have HX : Hid (T.c = _) := HT.out
  clear b0 k0 s0 hW0 hv hb hrs hu hu0 hr hp hte hT HT
  unfold rdp at *
  go_enter Try.func17, Try.ntmps17
  go_wp2_with fail
  have hz0 : (w.alloc (.cells su0.c 23)) = w.alloc (.cells #[.int .i64 0, .int .i64 0, .int .i64 0, .int .i64 0, .int .i64 0, .int .i64 0, .int .i64 0] 23) := rfl
  rw [hz0] at HW0
  clear hz0
  rw [← HW0.out]
  refine KN.out.mono ?_
  rintro e w1 ⟨rfl, hw1⟩
  obtain ⟨R, hR⟩ : ∃ R, R = W0.heap.size := ⟨_, rfl⟩
  have r1 : Rd 109 R b false w1 := by rw [hw1, hR]; exact Rd.new _ _ _ _
  have b1 : Below W0.heap.size W0 w1 := by rw [hw1]; exact (Below.refl _ _).alloc (Nat.le_refl _) _
  have s1 : w1.heap.size = R + 1 := by rw [hw1, hR]; simp
  have HRR := Lib.hid hR
  have HB1 : Hid (Below w.heap.size w w1) := HB0.out.trans (b1.mono HB0.out.size)
  have HK1 : Hid (w1.heap[w.heap.size]? = some (.cells su0.c 23 (0, 0))) := (b1.block _ (by have := HS0.out; omega)).trans HK0.out
  have HR1 := Lib.hid r1
  have HS1 := Lib.hid s1
  clear hw1 r1 b1 s1 hR
  rw [← HRR.out]
  obtain ⟨W2, hW2⟩ : ∃ W2, W2 = w1.alloc (.cells #[.pointer (some ⟨R, 0, none⟩)] 84) := ⟨_, rfl⟩
  have b2 : Below w1.heap.size w1 W2 := by rw [hW2]; exact (Below.refl _ _).alloc (Nat.le_refl _) _
  have KF := Lib.hid (fixedr_any R b false 1 W2 (HR1.out.below b2 HR1.out.lt) HBZ.out)
  have HB2 : Hid (Below w.heap.size w W2) := HB1.out.trans (b2.mono HB1.out.size)
  have HK2 : Hid (W2.heap[w.heap.size]? = some (.cells su0.c 23 (0, 0))) := (b2.block _ (by have := HS1.out; have := HS0.out; have := HRR.out; omega)).trans HK1.out
  have HT2 : Hid (W2.heap[w1.heap.size]? = some (.cells #[.pointer (some ⟨R, 0, none⟩)] 84 (0, 0))) := by show _ = _; rw [hW2]; exact heap_alloc_new w1 _
  have HW2 := Lib.hid hW2
  clear b2 hW2
  unfold rdp at *
  go_wp2_with fail
  rw [← HW2.out]
  refine KF.out.mono ?_
  rintro e w3 ⟨rfl, r3, g3⟩
  have HB3 : Hid (Below w.heap.size w w3) := below_grownBy HB2.out g3 HB2.out.size (by have := HS0.out; have := HRR.out; omega)
  have HK3 : Hid (w3.heap[w.heap.size]? = some (.cells su0.c 23 (0, 0))) := (g3.block _ (Array.getElem?_eq_some_iff.1 HK2.out).1 (by have := HS0.out; have := HRR.out; simp; omega)).trans HK2.out
  have HT3 : Hid (w3.heap[w1.heap.size]? = some (.cells #[.pointer (some ⟨R, 0, none⟩)] 84 (0, 0))) := (g3.block _ (Array.getElem?_eq_some_iff.1 HT2.out).1 (by have := HS1.out; simp; omega)).trans HT2.out
  rw [← HU0.out] at r3
  have HR3 := Lib.hid r3
  clear r3 g3 KF KN
  rw [HV.out]
  go_wp2_with fail
  refine (takes_any _).mono ?_
  rintro e w4 ⟨rfl, m4, b4, s4⟩
  have hl := look_step (T := 89) 1 (fv 39) Try.underlying89 m4 (two_1 _ _)
  have t3 := (Array.getElem?_eq_some_iff.1 HT3.out).1
  have HB4 : Hid (Below w.heap.size w w4) := HB3.out.trans (b4.mono HB3.out.size)
  have HK4 : Hid (w4.heap[w.heap.size]? = some (.cells su0.c 23 (0, 0))) := (b4.block _ (Array.getElem?_eq_some_iff.1 HK3.out).1).trans HK3.out
  have HT4 : Hid (w4.heap[w1.heap.size]? = some (.cells #[.pointer (some ⟨R, 0, none⟩)] 84 (0, 0))) := (b4.block _ t3).trans HT3.out
  have HR4 : Hid (Rd 109 R u (false || !hasF b 1) w4) := HR3.out.below b4 HR3.out.lt
  have t4 := (Array.getElem?_eq_some_iff.1 HT4.out).1
  obtain ⟨W5, hW5⟩ : ∃ W5, W5 = w4.alloc (.cells #[fv 39] 87) := ⟨_, rfl⟩
  have b5 : Below w4.heap.size w4 W5 := by rw [hW5]; exact (Below.refl _ _).alloc (Nat.le_refl _) _
  have G0 : Hid (Gr w R w1.heap.size w4.heap.size 39 u W5) :=
    ⟨HB4.out.trans (b5.mono HB4.out.size), (b5.block _ (Array.getElem?_eq_some_iff.1 HK4.out).1).trans HK4.out, ⟨_, HR4.out.below b5 HR4.out.lt⟩, (b5.block _ t4).trans HT4.out, by rw [hW5]; exact heap_alloc_new w4 _, by have := HS0.out; have := HRR.out; omega, by have := HS1.out; omega, t4, HU.out⟩
  have HW5 := Lib.hid hW5
  clear m4 b4 s4 hW5 b5 t3 t4 HR1 HR3 HR4 HT2 HT3 HT4 HB0 HB1 HB2 HB3 HB4 HK0 HK1 HK2 HK3 HK4 HW2 HW0 HS1 HS0 HRR
  generalize hw1s : w1.heap.size = t at *
  generalize hw4s : w4.heap.size = c at *
  have HC1 := Lib.hid hw1s
  have HC4 := Lib.hid hw4s
  clear hw1s hw4s
  have KG := Lib.hid (gcl12_any _ G0.out)
  go_wp2_with fail
  rw [← HW5.out, HC4.out]
  refine KG.out.mono ?_
  rintro e y1 ⟨rfl, g1⟩
  have G1 := Lib.hid g1
  clear KG g1 G0
  clear hl HW5
  have KG := Lib.hid (gcl12_any _ G1.out)
  go_wp2_with fail
  refine KG.out.mono ?_
  rintro e y2 ⟨rfl, g2⟩
  have G2 := Lib.hid g2
  clear KG g2 G1
  have KG := Lib.hid (gcl11_any _ G2.out)
  go_wp2_with fail
  refine KG.out.mono ?_
  rintro e y3 ⟨rfl, g3⟩
  have G3 := Lib.hid g3
  clear KG g3 G2
  have KG := Lib.hid (gcl11_any _ G3.out)
  go_wp2_with fail
  refine KG.out.mono ?_
  rintro e y4 ⟨rfl, g4⟩
  have G4 := Lib.hid g4
  clear KG g4 G3
  have KG := Lib.hid (gcl11_any _ G4.out)
  go_wp2_with fail
  refine KG.out.mono ?_
  rintro e y5 ⟨rfl, g5⟩
  have G5 := Lib.hid g5
  clear KG g5 G4
  have KG := Lib.hid (gcl11_any _ G5.out)
  go_wp2_with fail
  refine KG.out.mono ?_
  rintro e y6 ⟨rfl, g6⟩
  have G6 := Lib.hid g6
  clear KG g6 G5
  have q0 := Array.getElem?_eq_some_iff.1 G6.out.r0
  obtain ⟨V, hV⟩ : ∃ V, V = y6.alloc (.cells T.c 23) := ⟨_, rfl⟩
  have bV : Below y6.heap.size y6 V := by rw [hV]; exact (Below.refl _ _).alloc (Nat.le_refl _) _
  have GV : Hid (Gr w R t c 39 _ V) := G6.out.below bV
  have HVT : Hid (V.heap[y6.heap.size]? = some (.cells T.c 23 (0, 0))) := by show _ = _; rw [hV]; exact heap_alloc_new y6 _
  rw [HX.out] at hV
  have HVV := Lib.hid hV
  clear hV bV q0 G6
  go_wp2_with fail
  rw [← HVV.out, ← HX.out]
  rw [← HX.out] at KP
  refine (KP.out _).mono ?_
  rintro e z ⟨rfl, bz⟩
  have Gz := GV.out.below bz
  have hb := Gz.be
  have KZ : Hid (z.heap[w.heap.size]? = some (.cells su0.c 23 (0, 0))) := Gz.r0
  have TZ : Hid (z.heap[y6.heap.size]? = some (.cells T.c 23 (0, 0))) := (bz.block _ (Array.getElem?_eq_some_iff.1 HVT.out).1).trans HVT.out
  clear Gz GV HVT HVV HX KP bz HC1 HC4 HU HU0
  obtain ⟨Z0, hZ0⟩ : ∃ Z, Z = z.setRow w.heap.size su0.c := ⟨_, rfl⟩
  obtain ⟨Z1, hZ1⟩ : ∃ Z, Z = z.setRow w.heap.size T.c := ⟨_, rfl⟩
  have B0 : Hid (Below w.heap.size w Z0) := by rw [hZ0]; exact hb.trans ⟨rfl, rfl, rfl, by simp, fun k hk => setRow_other _ _ _ _ (by omega)⟩
  have B1 : Hid (Below w.heap.size w Z1) := by rw [hZ1]; exact hb.trans ⟨rfl, rfl, rfl, by simp, fun k hk => setRow_other _ _ _ _ (by omega)⟩
  have K0 : Hid (Z0.heap[w.heap.size]? = some (.cells su0.c 23 (0, 0))) := by show _ = _; rw [hZ0]; exact setRow_heap _ _ _ _ 23 (0, 0) KZ.out
  have K1 : Hid (Z1.heap[w.heap.size]? = some (.cells T.c 23 (0, 0))) := by show _ = _; rw [hZ1]; exact setRow_heap _ _ _ _ 23 (0, 0) KZ.out
  have HZ0 := Lib.hid hZ0
  have HZ1 := Lib.hid hZ1
  clear hZ0 hZ1 hb
  cases r with
  | false =>
    clear HTE
    go_wp2_with (refine wpList_store_su rfl _ _ rfl _ _ su0 su0 rfl rfl KZ.out ?_; refine wpList_at HZ0.out.symm ?_; go_frame)
    exact bodyPost_ret (v := _) (res17 _ _ w.heap.size su0 rfl K0.out) rfl ⟨by rw [HS.out, HG.out]; rfl, B0.out⟩
  | true =>
    cases te with
    | false =>
      have hne := HTE.out
      clear HTE
      go_wp2_with (refine wpList_store_su rfl _ _ rfl _ _ su0 su0 rfl rfl KZ.out ?_; refine wpList_at HZ0.out.symm ?_; go_frame)
      exact bodyPost_ret (v := _) (res17 _ _ w.heap.size su0 rfl K0.out) rfl ⟨by rw [HS.out, HG.out]; rfl, B0.out⟩
    | true =>
      have hne := HTE.out
      clear HTE
      go_wp2_with (first | (refine wpList_load_su rfl _ rfl _ _ T rfl TZ.out ?_; go_frame) | (refine wpList_store_su rfl _ _ rfl _ _ T su0 rfl rfl KZ.out ?_; refine wpList_at HZ1.out.symm ?_; go_frame))
      exact bodyPost_ret (v := _) (res17 _ _ w.heap.size T rfl K1.out) rfl ⟨by rw [HS.out, HG.out]; rfl, B1.out⟩
set_option maxHeartbeats 4000000 in
set_option maxRecDepth 100000 in
theorem getSuperV2_any (b : ByteArray) (w : World) (hb : b.size ≤ 281474976710656) (hv : rv b = 2) : Calls Try.prog 17 #[.string b] w fun e w' => e = .returned (.tuple #[(gS b).val, .bool (gO b)]) ∧ Below w.heap.size w w' := by
  obtain ⟨W0, hW0⟩ : ∃ W0, W0 = w.alloc (.cells su0.c 23) := ⟨_, rfl⟩
  have b0 : Below w.heap.size w W0 := by rw [hW0]; exact (Below.refl _ _).alloc (Nat.le_refl _) _
  have k0 : W0.heap[w.heap.size]? = some (.cells su0.c 23 (0, 0)) := by rw [hW0]; exact heap_alloc_new w _
  have s0 : W0.heap.size = w.heap.size + 1 := by rw [hW0]; simp
  have KN := Lib.hid (new_any b W0)
  have HB0 := Lib.hid b0
  have HK0 := Lib.hid k0
  have HS0 := Lib.hid s0
  have HW0 := Lib.hid hW0
  have HBZ := Lib.hid hb
  have HV : Hid (((fixV b 1 : Nat) : Int) = 2) := hv
  have hrs : rs b = rdS 2 (fixT b 1) := by unfold rs; rw [hv]
  have hu : (fixT b 1).size ≤ 281474976710656 := Nat.le_trans (fixT_size b 1) hb
  obtain ⟨u, hu0⟩ : ∃ u, u = fixT b 1 := ⟨_, rfl⟩
  rw [← hu0] at hrs hu
  have KP := Lib.hid (fun (W : World) => putSuper_any (rdS 2 u) W)
  obtain ⟨r, hr⟩ : ∃ r, r = rgt (rdS 2 u) := ⟨_, rfl⟩
  obtain ⟨p, hp⟩ : ∃ p, p = supS (rdS 2 u) := ⟨_, rfl⟩
  rw [← hr, ← hp] at KP
  obtain ⟨te, hte⟩ : ∃ te, te = (p.toList == b.toList) := ⟨_, rfl⟩
  have HG : Hid (gO b = (r && te)) := by
    show _ = _
    unfold gO; rw [hrs, ← hr, hte, hp]
    cases hrr : r with
    | false => rfl
    | true => unfold supS; rw [← hr, hrr, if_pos rfl]
  have HS : Hid (gS b = if (r && te) = true then rdS 2 u else su0) := by show _ = _; unfold gS; rw [HG.out, hrs]
  have HTE := Lib.hid hte.symm
  have HU := Lib.hid hu
  have HU0 := Lib.hid hu0
  obtain ⟨T, hT⟩ : ∃ T, T = rdS 2 u := ⟨_, rfl⟩
  have HT : Hid (T.c = #[.int .i64 (rdS 2 u).v, .int .i64 (rdS 2 u).sn, .int .i64 (rdS 2 u).lg, .int .i64 (rdS 2 u).ar, .int .i64 (rdS 2 u).hf, .int .i64 (rdS 2 u).gl, .int .i64 (rdS 2 u).sp]) := by show _ = _; rw [hT]; rfl
  rw [← hT] at HS
  unfold rdS u5 u4 u3 u2 u1 at KP HT
  unfold Su.val Su.c at KP
  dsimp only at KP HT
  have HX : Hid (T.c = _) := HT.out
  clear b0 k0 s0 hW0 hv hb hrs hu hu0 hr hp hte hT HT
  unfold rdp at *
  go_enter Try.func17, Try.ntmps17
  go_wp2_with fail
  have hz0 : (w.alloc (.cells su0.c 23)) = w.alloc (.cells #[.int .i64 0, .int .i64 0, .int .i64 0, .int .i64 0, .int .i64 0, .int .i64 0, .int .i64 0] 23) := rfl
  rw [hz0] at HW0
  clear hz0
  rw [← HW0.out]
  refine KN.out.mono ?_
  rintro e w1 ⟨rfl, hw1⟩
  obtain ⟨R, hR⟩ : ∃ R, R = W0.heap.size := ⟨_, rfl⟩
  have r1 : Rd 109 R b false w1 := by rw [hw1, hR]; exact Rd.new _ _ _ _
  have b1 : Below W0.heap.size W0 w1 := by rw [hw1]; exact (Below.refl _ _).alloc (Nat.le_refl _) _
  have s1 : w1.heap.size = R + 1 := by rw [hw1, hR]; simp
  have HRR := Lib.hid hR
  have HB1 : Hid (Below w.heap.size w w1) := HB0.out.trans (b1.mono HB0.out.size)
  have HK1 : Hid (w1.heap[w.heap.size]? = some (.cells su0.c 23 (0, 0))) := (b1.block _ (by have := HS0.out; omega)).trans HK0.out
  have HR1 := Lib.hid r1
  have HS1 := Lib.hid s1
  clear hw1 r1 b1 s1 hR
  rw [← HRR.out]
  obtain ⟨W2, hW2⟩ : ∃ W2, W2 = w1.alloc (.cells #[.pointer (some ⟨R, 0, none⟩)] 84) := ⟨_, rfl⟩
  have b2 : Below w1.heap.size w1 W2 := by rw [hW2]; exact (Below.refl _ _).alloc (Nat.le_refl _) _
  have KF := Lib.hid (fixedr_any R b false 1 W2 (HR1.out.below b2 HR1.out.lt) HBZ.out)
  have HB2 : Hid (Below w.heap.size w W2) := HB1.out.trans (b2.mono HB1.out.size)
  have HK2 : Hid (W2.heap[w.heap.size]? = some (.cells su0.c 23 (0, 0))) := (b2.block _ (by have := HS1.out; have := HS0.out; have := HRR.out; omega)).trans HK1.out
  have HT2 : Hid (W2.heap[w1.heap.size]? = some (.cells #[.pointer (some ⟨R, 0, none⟩)] 84 (0, 0))) := by show _ = _; rw [hW2]; exact heap_alloc_new w1 _
  have HW2 := Lib.hid hW2
  clear b2 hW2
  unfold rdp at *
  go_wp2_with fail
  rw [← HW2.out]
  refine KF.out.mono ?_
  rintro e w3 ⟨rfl, r3, g3⟩
  have HB3 : Hid (Below w.heap.size w w3) := below_grownBy HB2.out g3 HB2.out.size (by have := HS0.out; have := HRR.out; omega)
  have HK3 : Hid (w3.heap[w.heap.size]? = some (.cells su0.c 23 (0, 0))) := (g3.block _ (Array.getElem?_eq_some_iff.1 HK2.out).1 (by have := HS0.out; have := HRR.out; simp; omega)).trans HK2.out
  have HT3 : Hid (w3.heap[w1.heap.size]? = some (.cells #[.pointer (some ⟨R, 0, none⟩)] 84 (0, 0))) := (g3.block _ (Array.getElem?_eq_some_iff.1 HT2.out).1 (by have := HS1.out; simp; omega)).trans HT2.out
  rw [← HU0.out] at r3
  have HR3 := Lib.hid r3
  clear r3 g3 KF KN
  rw [HV.out]
  go_wp2_with fail
  refine (takes_any _).mono ?_
  rintro e w4 ⟨rfl, m4, b4, s4⟩
  have hl := look_step (T := 89) 2 (fv 58) Try.underlying89 m4 (two_2 _ _)
  have t3 := (Array.getElem?_eq_some_iff.1 HT3.out).1
  have HB4 : Hid (Below w.heap.size w w4) := HB3.out.trans (b4.mono HB3.out.size)
  have HK4 : Hid (w4.heap[w.heap.size]? = some (.cells su0.c 23 (0, 0))) := (b4.block _ (Array.getElem?_eq_some_iff.1 HK3.out).1).trans HK3.out
  have HT4 : Hid (w4.heap[w1.heap.size]? = some (.cells #[.pointer (some ⟨R, 0, none⟩)] 84 (0, 0))) := (b4.block _ t3).trans HT3.out
  have HR4 : Hid (Rd 109 R u (false || !hasF b 1) w4) := HR3.out.below b4 HR3.out.lt
  have t4 := (Array.getElem?_eq_some_iff.1 HT4.out).1
  obtain ⟨W5, hW5⟩ : ∃ W5, W5 = w4.alloc (.cells #[fv 58] 87) := ⟨_, rfl⟩
  have b5 : Below w4.heap.size w4 W5 := by rw [hW5]; exact (Below.refl _ _).alloc (Nat.le_refl _) _
  have G0 : Hid (Gr w R w1.heap.size w4.heap.size 58 u W5) :=
    ⟨HB4.out.trans (b5.mono HB4.out.size), (b5.block _ (Array.getElem?_eq_some_iff.1 HK4.out).1).trans HK4.out, ⟨_, HR4.out.below b5 HR4.out.lt⟩, (b5.block _ t4).trans HT4.out, by rw [hW5]; exact heap_alloc_new w4 _, by have := HS0.out; have := HRR.out; omega, by have := HS1.out; omega, t4, HU.out⟩
  have HW5 := Lib.hid hW5
  clear m4 b4 s4 hW5 b5 t3 t4 HR1 HR3 HR4 HT2 HT3 HT4 HB0 HB1 HB2 HB3 HB4 HK0 HK1 HK2 HK3 HK4 HW2 HW0 HS1 HS0 HRR
  generalize hw1s : w1.heap.size = t at *
  generalize hw4s : w4.heap.size = c at *
  have HC1 := Lib.hid hw1s
  have HC4 := Lib.hid hw4s
  clear hw1s hw4s
  have KG := Lib.hid (gcl22_any _ G0.out)
  go_wp2_with fail
  rw [← HW5.out, HC4.out]
  refine KG.out.mono ?_
  rintro e y1 ⟨rfl, g1⟩
  have G1 := Lib.hid g1
  clear KG g1 G0
  clear hl HW5
  have KG := Lib.hid (gcl22_any _ G1.out)
  go_wp2_with fail
  refine KG.out.mono ?_
  rintro e y2 ⟨rfl, g2⟩
  have G2 := Lib.hid g2
  clear KG g2 G1
  have KG := Lib.hid (gcl21_any _ G2.out)
  go_wp2_with fail
  refine KG.out.mono ?_
  rintro e y3 ⟨rfl, g3⟩
  have G3 := Lib.hid g3
  clear KG g3 G2
  have KG := Lib.hid (gcl21_any _ G3.out)
  go_wp2_with fail
  refine KG.out.mono ?_
  rintro e y4 ⟨rfl, g4⟩
  have G4 := Lib.hid g4
  clear KG g4 G3
  have KG := Lib.hid (gcl21_any _ G4.out)
  go_wp2_with fail
  refine KG.out.mono ?_
  rintro e y5 ⟨rfl, g5⟩
  have G5 := Lib.hid g5
  clear KG g5 G4
  have KG := Lib.hid (gcl21_any _ G5.out)
  go_wp2_with fail
  refine KG.out.mono ?_
  rintro e y6 ⟨rfl, g6⟩
  have G6 := Lib.hid g6
  clear KG g6 G5
  have q0 := Array.getElem?_eq_some_iff.1 G6.out.r0
  obtain ⟨V, hV⟩ : ∃ V, V = y6.alloc (.cells T.c 23) := ⟨_, rfl⟩
  have bV : Below y6.heap.size y6 V := by rw [hV]; exact (Below.refl _ _).alloc (Nat.le_refl _) _
  have GV : Hid (Gr w R t c 58 _ V) := G6.out.below bV
  have HVT : Hid (V.heap[y6.heap.size]? = some (.cells T.c 23 (0, 0))) := by show _ = _; rw [hV]; exact heap_alloc_new y6 _
  rw [HX.out] at hV
  have HVV := Lib.hid hV
  clear hV bV q0 G6
  go_wp2_with fail
  rw [← HVV.out, ← HX.out]
  rw [← HX.out] at KP
  refine (KP.out _).mono ?_
  rintro e z ⟨rfl, bz⟩
  have Gz := GV.out.below bz
  have hb := Gz.be
  have KZ : Hid (z.heap[w.heap.size]? = some (.cells su0.c 23 (0, 0))) := Gz.r0
  have TZ : Hid (z.heap[y6.heap.size]? = some (.cells T.c 23 (0, 0))) := (bz.block _ (Array.getElem?_eq_some_iff.1 HVT.out).1).trans HVT.out
  clear Gz GV HVT HVV HX KP bz HC1 HC4 HU HU0
  obtain ⟨Z0, hZ0⟩ : ∃ Z, Z = z.setRow w.heap.size su0.c := ⟨_, rfl⟩
  obtain ⟨Z1, hZ1⟩ : ∃ Z, Z = z.setRow w.heap.size T.c := ⟨_, rfl⟩
  have B0 : Hid (Below w.heap.size w Z0) := by rw [hZ0]; exact hb.trans ⟨rfl, rfl, rfl, by simp, fun k hk => setRow_other _ _ _ _ (by omega)⟩
  have B1 : Hid (Below w.heap.size w Z1) := by rw [hZ1]; exact hb.trans ⟨rfl, rfl, rfl, by simp, fun k hk => setRow_other _ _ _ _ (by omega)⟩
  have K0 : Hid (Z0.heap[w.heap.size]? = some (.cells su0.c 23 (0, 0))) := by show _ = _; rw [hZ0]; exact setRow_heap _ _ _ _ 23 (0, 0) KZ.out
  have K1 : Hid (Z1.heap[w.heap.size]? = some (.cells T.c 23 (0, 0))) := by show _ = _; rw [hZ1]; exact setRow_heap _ _ _ _ 23 (0, 0) KZ.out
  have HZ0 := Lib.hid hZ0
  have HZ1 := Lib.hid hZ1
  clear hZ0 hZ1 hb
  cases r with
  | false =>
    clear HTE
    go_wp2_with (refine wpList_store_su rfl _ _ rfl _ _ su0 su0 rfl rfl KZ.out ?_; refine wpList_at HZ0.out.symm ?_; go_frame)
    exact bodyPost_ret (v := _) (res17 _ _ w.heap.size su0 rfl K0.out) rfl ⟨by rw [HS.out, HG.out]; rfl, B0.out⟩
  | true =>
    cases te with
    | false =>
      have hne := HTE.out
      clear HTE
      go_wp2_with (refine wpList_store_su rfl _ _ rfl _ _ su0 su0 rfl rfl KZ.out ?_; refine wpList_at HZ0.out.symm ?_; go_frame)
      exact bodyPost_ret (v := _) (res17 _ _ w.heap.size su0 rfl K0.out) rfl ⟨by rw [HS.out, HG.out]; rfl, B0.out⟩
    | true =>
      have hne := HTE.out
      clear HTE
      go_wp2_with (first | (refine wpList_load_su rfl _ rfl _ _ T rfl TZ.out ?_; go_frame) | (refine wpList_store_su rfl _ _ rfl _ _ T su0 rfl rfl KZ.out ?_; refine wpList_at HZ1.out.symm ?_; go_frame))
      exact bodyPost_ret (v := _) (res17 _ _ w.heap.size T rfl K1.out) rfl ⟨by rw [HS.out, HG.out]; rfl, B1.out⟩
theorem getSuper_any (b : ByteArray) (w : World) (hb : b.size ≤ 281474976710656) : Calls Try.prog 17 #[.string b] w fun e w' => e = .returned (.tuple #[(gS b).val, .bool (gO b)]) ∧ Below w.heap.size w w' := by
  by_cases h1 : rv b = 1
  · exact getSuperV1_any b w hb h1
  · by_cases h2 : rv b = 2
    · exact getSuperV2_any b w hb h2
    · have hg : gO b = false := by
        unfold gO
        have : rgt (rs b) = false := by
          rw [← Bool.not_eq_true, rgt_iff]
          intro h
          have := h.1
          have e : (rs b).v = rv b := rfl
          omega
        rw [this]; rfl
      have hs : gS b = su0 := by unfold gS; rw [hg]; rfl
      rw [hg, hs]
      exact getSuper_none b w hb h1 h2
end Go.Proofs.Ytdoombcihobejaa