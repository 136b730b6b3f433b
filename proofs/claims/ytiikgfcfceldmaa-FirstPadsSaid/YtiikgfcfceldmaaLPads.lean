/-
  FirstPads, walked: true for every input.
  Conditions: what came in is as its types say.
-/
import Derived.Test.YtiikgfcfceldmaaLEntries
import Derived.Test.YtiikgfcfceldmaaPad
import Derived.Test.YtiikgfcfceldmaaNMath
namespace Go.Proofs.Ytiikgfcfceldmaa
open Go.RowKit
open Vi
set_option linter.unusedVariables false
set_option linter.unusedSimpArgs false

theorem BRow.block {g n : Nat} {x : Nat → Nat} {w w' : World} (h : BRow g n x w) (hb : w'.heap[g]? = w.heap[g]?) : BRow g n x w' := fun j hj => by
  rw [World.cell?_of_block (a := ⟨g, j, none⟩) hb, World.frozen?_of_block (a := ⟨g, j, none⟩) hb]
  exact h j hj
theorem byteAt_nums (s : ByteArray) (j : Nat) : (nums s).getD j 0 = Crc.byteAt s j := by
  unfold nums Crc.byteAt
  rw [List.getD_eq_getElem?_getD, List.getD_eq_getElem?_getD, List.getElem?_map]
  cases s.data.toList[j]? <;> rfl
theorem set_getD (l : List Nat) (k v j : Nat) (hj : j < l.length) : (l.set k v).getD j 0 = if j = k then v else l.getD j 0 := by
  rw [List.getD_eq_getElem?_getD, List.getD_eq_getElem?_getD]
  by_cases e : j = k
  · subst e
    rw [if_pos rfl, List.getElem?_set_self hj]; rfl
  · rw [if_neg e, List.getElem?_set_ne (fun h => e h.symm)]
theorem lvl_cases (k : Int) : lvl k = 1 ∨ lvl k = 2 := by
  unfold lvl
  split
  · exact .inr rfl
  · exact .inl rfl

set_option maxHeartbeats 16000000 in
set_option maxRecDepth 100000 in
theorem lpads_any (e : En) (o : Bool) (at_ by_ : Nat) (w : World) (ok : e.Ok) (hat : at_ < 256) (hby : by_ < 256) :
    Calls Try.prog 7 #[mdv e o, .int .u8 at_, .int .u8 by_] w fun r w' => r = .returned (.bool true) ∧ Below w.heap.size w w' := by
  obtain ⟨X, hX⟩ : ∃ X, X = mk e := ⟨_, rfl⟩
  have hf := mk_facts e ok
  rw [← hX] at hf
  have hXok : X.Ok := hf.1
  have hXr : rightB X = true := hf.2.1
  have KE := Lib.hid (fun (W : World) => examples_any W)
  have KX := Lib.hid (fun (W : World) => (made_yes e W ok).mono fun r w' ⟨h1, h2⟩ => And.intro (show r = Ending.returned (ev X) by rw [h1, hX]) h2)
  obtain ⟨P, hP⟩ : ∃ P, P = putS X := ⟨_, rfl⟩
  obtain ⟨mb, hmb⟩ : ∃ mb, mb = mayB X := ⟨_, rfl⟩
  have KP := Lib.hid (fun (W : World) => (put_any X W hXok).mono fun r w' ⟨h1, h2⟩ => And.intro (show r = Ending.returned (.tuple #[.string P, .bool mb]) by rw [h1, hP, hmb]) h2)
  have KL := Lib.hid (fun (W : World) => level_any X W)
  obtain ⟨W0, hW0⟩ : ∃ W0, W0 = w.alloc (Obj.cells (mdc e o) 26) := ⟨_, rfl⟩
  have k0 : W0.heap[w.heap.size]? = some (.cells (mdc e o) 26 (0, 0)) := by rw [hW0]; exact heap_alloc_new w _
  have b0 : Below w.heap.size w W0 := by rw [hW0]; exact (Below.refl _ _).alloc (Nat.le_refl _) _
  have HW0 := Lib.hid hW0
  have HK0 := Lib.hid k0
  have HB0 := Lib.hid b0
  have HM := Lib.hid hmb
  have HP := Lib.hid hP
  have HXO := Lib.hid hXok
  have HXR := Lib.hid hXr
  clear hW0 k0 b0 hX hf hXok hXr hP hmb ok
  go_enter Try.func7, Try.ntmps7
  go_upto_region 5 with (first
    | (go_at_call 8; rw [← HW0.out]; (with_reducible refine (KE.out _).mono ?_); rintro r w1 ⟨rfl, b1⟩; have HK1 : Hid (w1.heap[w.heap.size]? = some (.cells (mdc e o) 26 (0, 0))) := (b1.block _ (Array.getElem?_eq_some_iff.1 HK0.out).1).trans HK0.out; have HB1 : Hid (Below w.heap.size w w1) := HB0.out.trans (b1.mono HB0.out.size); have a11 : w1.cell? ⟨w.heap.size, 11, none⟩ = some (.bool o) := cell_of_row w1 _ 11 _ 26 (0, 0) HK1.out; have fz : w1.frozen? ⟨w.heap.size, 11, none⟩ = false := Md.of HK1.out; clear b1))
  obtain ⟨W2, hW2⟩ : ∃ W2, W2 = w1.setCell ⟨w.heap.size, 11, none⟩ (.bool true) := ⟨_, rfl⟩
  rw [← hW2]
  have HK2 : Hid (W2.heap[w.heap.size]? = some (.cells (mdc e true) 26 (0, 0))) := by
    show _ = _
    rw [hW2]
    exact (set_blk HK1.out 11 (.bool true)).trans (by simp)
  have HB2 : Hid (Below w.heap.size w W2) := by rw [hW2]; exact HB1.out.setCell (p := ⟨w.heap.size, 11, none⟩) (Nat.le_refl _) _
  clear hW2 HK1 HB1 a11 fz HK0 HB0 HW0 KE
  have a0 : W2.cell? ⟨w.heap.size, 0, none⟩ = some (.int .u64 e.term) := cell_of_row W2 _ 0 _ 26 (0, 0) HK2.out
  have a1 : W2.cell? ⟨w.heap.size, 1, none⟩ = some (.int .u64 e.index) := cell_of_row W2 _ 1 _ 26 (0, 0) HK2.out
  have a2 : W2.cell? ⟨w.heap.size, 2, none⟩ = some (.int .i64 e.kind) := cell_of_row W2 _ 2 _ 26 (0, 0) HK2.out
  have a3 : W2.cell? ⟨w.heap.size, 3, none⟩ = some (.int .u64 e.client) := cell_of_row W2 _ 3 _ 26 (0, 0) HK2.out
  have a4 : W2.cell? ⟨w.heap.size, 4, none⟩ = some (.int .u64 e.seq) := cell_of_row W2 _ 4 _ 26 (0, 0) HK2.out
  have a5 : W2.cell? ⟨w.heap.size, 5, none⟩ = some (.int .u64 e.block) := cell_of_row W2 _ 5 _ 26 (0, 0) HK2.out
  have a6 : W2.cell? ⟨w.heap.size, 6, none⟩ = some (.int .u64 e.many) := cell_of_row W2 _ 6 _ 26 (0, 0) HK2.out
  have a7 : W2.cell? ⟨w.heap.size, 7, none⟩ = some (.int .i64 e.node) := cell_of_row W2 _ 7 _ 26 (0, 0) HK2.out
  have a8 : W2.cell? ⟨w.heap.size, 8, none⟩ = some (.int .i64 e.level) := cell_of_row W2 _ 8 _ 26 (0, 0) HK2.out
  have a9 : W2.cell? ⟨w.heap.size, 9, none⟩ = some (.string e.data) := cell_of_row W2 _ 9 _ 26 (0, 0) HK2.out
  have a10 : W2.cell? ⟨w.heap.size, 10, none⟩ = some (.string e.old) := cell_of_row W2 _ 10 _ 26 (0, 0) HK2.out
  have a11 : W2.cell? ⟨w.heap.size, 11, none⟩ = some (.bool true) := cell_of_row W2 _ 11 _ 26 (0, 0) HK2.out
  go_upto_region 7 with (first
    | (go_at_call 10; (with_reducible refine (KX.out _).mono ?_); rintro r w3 ⟨rfl, b3⟩; have HB3 : Hid (Below w.heap.size w w3) := HB2.out.trans (b3.mono HB2.out.size); clear b3)
    | (go_at_call 9; (with_reducible refine (KP.out _).mono ?_); rintro r w4 ⟨rfl, b4⟩; have HX4 : Hid (w4.heap[w3.heap.size]? = some (.cells (ec X) 24 (0, 0))) := (b4.block _ (by simp)).trans (heap_alloc_new w3 _); have HB4 : Hid (Below w.heap.size w w4) := (HB3.out.alloc HB3.out.size _).trans (b4.mono (HB3.out.alloc HB3.out.size _).size); have x0 : w4.cell? ⟨w3.heap.size, 0, none⟩ = some (.int .u64 X.term) := cell_of_row _ _ 0 _ 24 (0, 0) HX4.out; have x1 : w4.cell? ⟨w3.heap.size, 1, none⟩ = some (.int .u64 X.index) := cell_of_row _ _ 1 _ 24 (0, 0) HX4.out; have x2 : w4.cell? ⟨w3.heap.size, 2, none⟩ = some (.int .i64 X.kind) := cell_of_row _ _ 2 _ 24 (0, 0) HX4.out; have x3 : w4.cell? ⟨w3.heap.size, 3, none⟩ = some (.int .u64 X.client) := cell_of_row _ _ 3 _ 24 (0, 0) HX4.out; have x4 : w4.cell? ⟨w3.heap.size, 4, none⟩ = some (.int .u64 X.seq) := cell_of_row _ _ 4 _ 24 (0, 0) HX4.out; have x5 : w4.cell? ⟨w3.heap.size, 5, none⟩ = some (.int .u64 X.block) := cell_of_row _ _ 5 _ 24 (0, 0) HX4.out; have x6 : w4.cell? ⟨w3.heap.size, 6, none⟩ = some (.int .u64 X.many) := cell_of_row _ _ 6 _ 24 (0, 0) HX4.out; have x7 : w4.cell? ⟨w3.heap.size, 7, none⟩ = some (.int .i64 X.node) := cell_of_row _ _ 7 _ 24 (0, 0) HX4.out; have x8 : w4.cell? ⟨w3.heap.size, 8, none⟩ = some (.int .i64 X.level) := cell_of_row _ _ 8 _ 24 (0, 0) HX4.out; have x9 : w4.cell? ⟨w3.heap.size, 9, none⟩ = some (.string X.data) := cell_of_row _ _ 9 _ 24 (0, 0) HX4.out; have x10 : w4.cell? ⟨w3.heap.size, 10, none⟩ = some (.string X.old) := cell_of_row _ _ 10 _ 24 (0, 0) HX4.out; clear b4))
  clear a0 a1 a2 a3 a4 a5 a6 a7 a8 a9 a10 a11 HK2 HB2 KX KP
  cases mb with
  | false =>
    have hl : lvl X.kind = 2 := by
      rcases lvl_cases X.kind with hh | hh
      · have h1 := HM.out
        unfold mayB at h1
        rw [HXR.out, hh] at h1
        cases h1
      · exact hh
    rw [hl] at KL
    go_wp2_with (go_at_call 25; (with_reducible refine (KL.out _).mono ?_); rintro r w5 ⟨rfl, b5⟩; have HB5 : Hid (Below w.heap.size w w5) := HB4.out.trans (b5.mono HB4.out.size); clear b5)
    go_ret
    exact ⟨rfl, HB5.out⟩
  | true =>
    have hmay : mayB X = true := HM.out.symm
    obtain ⟨f1, f2, f3, f4, f5⟩ := put_facts HXO.out hmay
    have hPb : P = pb X := by rw [HP.out]; unfold putS; rw [if_pos hmay]
    have hPs : P.size = 110 := by rw [hPb, ← nums_length, f4]
    obtain ⟨n, hn⟩ : ∃ n, n = X.data.size := ⟨_, rfl⟩
    obtain ⟨m, hm⟩ : ∃ m, m = 66 - n := ⟨_, rfl⟩
    have hmp : 0 < m := by omega
    obtain ⟨p, hp⟩ : ∃ p, p = at_ % m := ⟨_, rfl⟩
    have hpm : p < m := by rw [hp]; exact Nat.mod_lt _ hmp
    have hi2 : (at_ : Int) % (m : Int) = (p : Int) := by rw [hp, Int.natCast_emod]
    have HI2 := Lib.hid hi2
    clear hp hi2
    obtain ⟨k, hk⟩ : ∃ k, k = 44 + n + p := ⟨_, rfl⟩
    have hk110 : k < 110 := by omega
    obtain ⟨v, hv⟩ : ∃ v, v = 65 + by_ % 190 := ⟨_, rfl⟩
    have hv1 : 65 ≤ v := by omega
    have hv2 : v < 256 := by omega
    have HV := Lib.hid hv
    clear hv
    obtain ⟨L1, hL1⟩ : ∃ L, L = (nums P).set k by_ := ⟨_, rfl⟩
    obtain ⟨L2, hL2⟩ : ∃ L, L = ((nums P).set k 0).set 43 v := ⟨_, rfl⟩
    have g1 := pads_one HXO.out hmay p by_ (by omega) hby
    have g2 := pads_two HXO.out hmay p v (by omega) hv1 hv2
    rw [← hn, ← hk, ← hPb] at g1 g2
    rw [← hL1] at g1
    rw [← hL2] at g2
    have HG1 := Lib.hid g1
    have HG2 := Lib.hid g2
    have hsz1 : (Vi.str L1).size ≤ 281474976710656 := by rw [str_size, hL1, List.length_set, nums_length]; omega
    have hsz2 : (Vi.str L2).size ≤ 281474976710656 := by rw [str_size, hL2, List.length_set, List.length_set, nums_length]; omega
    have KG1 := Lib.hid (fun (g : Nat) (W : World) (h : Rd 73 g (Vi.str L1) false W) => get2 g _ W h hsz1)
    have KG2 := Lib.hid (fun (g : Nat) (W : World) (h : Rd 73 g (Vi.str L2) false W) => get2 g _ W h hsz2)
    have KN1 := Lib.hid (fun (W : World) => new2 (Vi.str L1) W)
    have KN2 := Lib.hid (fun (W : World) => new2 (Vi.str L2) W)
    have hcv := fun (W : World) (t : ByteArray) => Lib.run_convert_string_bytes (P := Try.prog) W 9 59 5 t Try.underlying9 Try.underlying59 Try.underlying5
    have hi1 : IntKind.i64.wrap ((66 : Int) - (X.data.size : Int)) = (m : Int) := (IntWalk.i64_in _ (by omega)).trans (by omega)
    have hi2 := HI2.out
    have hi3 : IntKind.i64.wrap (at_ : Int) = (at_ : Int) := IntWalk.i64_in _ (by omega)
    have hi4 : (44 : Int) + (X.data.size : Int) + (p : Int) = (k : Int) := by omega
    have hi5 : IntKind.i64.wrap (k : Int) = (k : Int) := IntWalk.i64_in _ (by omega)
    have hi6 : IntKind.i64.wrap (44 + (X.data.size : Int)) = 44 + (X.data.size : Int) := IntWalk.i64_in _ (by omega)
    have hmz : ¬ (m : Int) = 0 := by omega
    have hmz2 : (0 : Int) < (m : Int) := by omega
    have hm66 : (m : Int) ≤ 66 := by omega
    have hk2 : (k : Int) < 110 := by omega
    have hkge : (44 : Int) ≤ (k : Int) := by omega
    have hn64 : (X.data.size : Int) ≤ 64 := by omega
    have HL1 := Lib.hid hL1
    have HL2 := Lib.hid hL2
    have HPb := Lib.hid hPb
    have HKN := Lib.hid hk110
    clear KL hn hm hk hL1 hL2 hPb f1 f2 f3 f4 f5 g1 g2 hsz1 hsz2 hmay hmp hpm hk110 HM HP HXR hat
    go_upto_region 12 with fail
    go_quiet (fail)
    go_upto_region 13 with fail
    obtain ⟨w5, hw5⟩ : ∃ w5, w5 = w4.drewN nq := ⟨_, rfl⟩
    rw [← hw5]
    have HB5 : Hid (Below w.heap.size w w5) := by rw [hw5]; exact drewN_on nq HB4.out
    have HX5 : Hid (w5.heap[w3.heap.size]? = some (.cells (ec X) 24 (0, 0))) := by rw [hw5]; exact HX4.out
    have HPS := Lib.hid hPs
    have hkP : (k : Int) < (P.size : Int) := by rw [hPs]; exact hk2
    have h43P : (43 : Int) < (P.size : Int) := by rw [hPs]; omega
    clear hw5 HX4 HB4 x0 x1 x2 x3 x4 x5 x6 x7 x8 x9 x10 hi1 hi3 hi4 hi5 hi6 hmz hmz2 hm66 hn64 hPs hi2 HI2
    go_upto_region 14 with fail
    have hI := BRow.conv w5 P
    have hB : Below w.heap.size w (Lib.bytesWorld w5 5 P) := HB5.out.trans ((below_conv w5 P).mono HB5.out.size)
    have hXw : (Lib.bytesWorld w5 5 P).heap[w3.heap.size]? = some (.cells (ec X) 24 (0, 0)) := ((below_conv w5 P).block _ (Array.getElem?_eq_some_iff.1 HX5.out).1).trans HX5.out
    have hgs : w5.heap.size < (Lib.bytesWorld w5 5 P).heap.size := by
      have hp0 : 0 < P.size := by rw [HPS.out]; omega
      have h := hI.cell 0 hp0
      exact World.block_lt_of_cell? _ _ h
    have HGX : Hid (w3.heap.size < w5.heap.size) := (Array.getElem?_eq_some_iff.1 HX5.out).1
    clear hcv
    obtain ⟨g, hg⟩ : ∃ g, g = w5.heap.size := ⟨_, rfl⟩
    generalize grownCap w5 P.size 0 5 = cap at *
    generalize Lib.bytesWorld w5 5 P = w6 at *
    rw [← hg] at hI hgs HGX ⊢
    have HGB : Hid (w.heap.size ≤ g) := by show w.heap.size ≤ g; rw [hg]; exact HB5.out.size
    have hkl : k < P.size := by omega
    have hc := hI.cell k hkl
    have hf := hI.free k hkl
    have HI := Lib.hid hI
    have HB6 := Lib.hid hB
    have HX6 := Lib.hid hXw
    have HG6 := Lib.hid hgs
    have HKL := Lib.hid hkl
    clear hg hI hB hXw hgs hkl HB5 HX5
    go_upto_region 15 with fail
    obtain ⟨w7, hw7⟩ : ∃ w7, w7 = w6.setCell ⟨g, k, none⟩ (.int .u8 by_) := ⟨_, rfl⟩
    rw [← hw7]
    have hI7 : BRow g P.size (fun j => L1.getD j 0) w7 := by
      rw [hw7]
      refine HI.out.set k by_ fun j hj => ?_
      show L1.getD j 0 = _
      rw [HL1.out, set_getD _ _ _ _ (by rw [nums_length]; exact hj), byteAt_nums]
    have HB7 : Hid (Below w.heap.size w w7) := by rw [hw7]; exact HB6.out.setCell (p := ⟨g, k, none⟩) HGB.out _
    have HX7 : Hid (w7.heap[w3.heap.size]? = some (.cells (ec X) 24 (0, 0))) := by
      show _ = _
      rw [hw7, Below.heap_setCell _ _ _ _ (by have := HGX.out; simp; omega)]
      exact HX6.out
    have HG7 : Hid (g < w7.heap.size) := by rw [hw7]; show g < _; simp; exact HG6.out
    have hL1s : L1.length = P.size := by rw [HL1.out, List.length_set, nums_length]
    have hstr := hI7.str cap
    rw [← hL1s, crc_str, hL1s] at hstr
    have HI7 := Lib.hid hI7
    clear hw7 hI7 hc hf HI HB6 HX6 HG6
    go_upto_region 19 with (first
      | (go_at_call 13; (with_reducible refine (KN1.out _).mono ?_); rintro r w8 ⟨rfl, R8, b8, z8⟩; have HR8 := Lib.hid R8; have HB8 : Hid (Below w.heap.size w w8) := HB7.out.trans (b8.mono HB7.out.size); have HX8 : Hid (w8.heap[w3.heap.size]? = some (.cells (ec X) 24 (0, 0))) := (b8.block _ (Array.getElem?_eq_some_iff.1 HX7.out).1).trans HX7.out; have HI8 := Lib.hid (HI7.out.block (b8.block g HG7.out)); have HZ8 := Lib.hid z8; clear R8 b8 z8)
      | (go_at_call 15; (with_reducible refine (KG1.out _ _ HR8.out).mono ?_); rintro r w9 ⟨rfl, R9, g9⟩; have HR9 := Lib.hid R9; have HB9 : Hid (Below w.heap.size w w9) := below_grownBy HB8.out g9 HB8.out.size HB7.out.size; have HX9 : Hid (w9.heap[w3.heap.size]? = some (.cells (ec X) 24 (0, 0))) := (g9.block _ (Array.getElem?_eq_some_iff.1 HX8.out).1 (by have := (Array.getElem?_eq_some_iff.1 HX7.out).1; (simp; try omega))).trans HX8.out; have HI9 := Lib.hid (HI8.out.block (g9.block g (by have := HG7.out; have := HZ8.out; omega) (by have := HG7.out; (simp; try omega)))); have HG9 : Hid (g < w9.heap.size) := Nat.lt_of_lt_of_le (by have := HG7.out; have := HZ8.out; omega) g9.size; clear R9 g9))
    obtain ⟨E1, hE1⟩ : ∃ E, E = getE (Vi.str L1) := ⟨_, rfl⟩
    obtain ⟨T1, hT1⟩ : ∃ T, T = getT (Vi.str L1) := ⟨_, rfl⟩
    obtain ⟨f1, hf1⟩ : ∃ f, f = !getO (Vi.str L1) := ⟨_, rfl⟩
    have hr9 := HR9.out
    rw [← hT1, ← hf1] at hr9
    rw [← hE1]
    obtain ⟨w10, hw10⟩ : ∃ w10, w10 = w9.alloc (Obj.cells (ec E1) 24) := ⟨_, rfl⟩
    rw [← hw10]
    have b10 : Below w9.heap.size w9 w10 := by rw [hw10]; exact (Below.refl _ _).alloc (Nat.le_refl _) _
    have HI10 := Lib.hid (HI9.out.block (b10.block g HG9.out))
    have HX10 : Hid (w10.heap[w3.heap.size]? = some (.cells (ec X) 24 (0, 0))) := (b10.block _ (Array.getElem?_eq_some_iff.1 HX9.out).1).trans HX9.out
    have HY10 : Hid (w10.heap[w9.heap.size]? = some (.cells (ec E1) 24 (0, 0))) := by show _ = _; rw [hw10]; exact heap_alloc_new w9 _
    have HR10 := Lib.hid (hr9.below b10 hr9.lt)
    have HB10 : Hid (Below w.heap.size w w10) := HB9.out.trans (b10.mono HB9.out.size)
    have HG10 : Hid (g < w10.heap.size) := Nat.lt_of_lt_of_le HG9.out b10.size
    have HGR : Hid (w7.heap.size ≠ g) := by have := HG7.out; show _ ≠ _; omega
    have HGY : Hid (w9.heap.size ≠ g) := by have := HG9.out; show _ ≠ _; omega
    have HGX2 : Hid (w3.heap.size ≠ g) := by have := HGX.out; show _ ≠ _; omega
    have HE1 := Lib.hid hE1
    have HF1 := Lib.hid hf1
    have hc := HI10.out.cell k HKL.out
    have hf := HI10.out.free k HKL.out
    clear hE1 hT1 hf1 hr9 hw10 b10 HI9 HX9 HR9 HB9 HG9 HI8 HX8 HR8 HB8 HZ8 HI7 HX7 HB7 HG7 hstr hL1s KG1 KN1
    go_upto_region 20 with fail
    obtain ⟨w11, hw11⟩ : ∃ w11, w11 = w10.setCell ⟨g, k, none⟩ (.int .u8 0) := ⟨_, rfl⟩
    rw [← hw11]
    have HI11 : Hid (BRow g P.size (fun j => ((nums P).set k 0).getD j 0) w11) := by
      show BRow _ _ _ _
      rw [hw11]
      refine HI10.out.set k 0 fun j hj => ?_
      show ((nums P).set k 0).getD j 0 = if j = k then 0 else L1.getD j 0
      rw [HL1.out, set_getD _ _ _ _ (by rw [nums_length]; exact hj), set_getD _ _ _ _ (by rw [nums_length]; exact hj)]
      by_cases e : j = k
      · rw [if_pos e, if_pos e]
      · rw [if_neg e, if_neg e, if_neg e]
    have HX11 : Hid (w11.heap[w3.heap.size]? = some (.cells (ec X) 24 (0, 0))) := by show _ = _; rw [hw11, Below.heap_setCell _ _ _ _ HGX2.out]; exact HX10.out
    have HY11 : Hid (w11.heap[w9.heap.size]? = some (.cells (ec E1) 24 (0, 0))) := by show _ = _; rw [hw11, Below.heap_setCell _ _ _ _ HGY.out]; exact HY10.out
    have HR11 : Hid (Rd 73 w7.heap.size T1 f1 w11) := by rw [hw11]; exact rd_set HR10.out (fun e => HGR.out e.symm)
    have HB11 : Hid (Below w.heap.size w w11) := by rw [hw11]; exact HB10.out.setCell (p := ⟨g, k, none⟩) HGB.out _
    have HG11 : Hid (g < w11.heap.size) := by rw [hw11]; show g < _; simp; exact HG10.out
    clear hw11 hc hf HI10 HX10 HY10 HR10 HB10 HG10
    have h43l : 43 < P.size := by omega
    have hc := HI11.out.cell 43 h43l
    have hf := HI11.out.free 43 h43l
    have hv3 : (65 : Int) + (by_ : Int) % 190 = (v : Int) := by rw [HV.out]; omega
    have hv4 : IntKind.u8.wrap (v : Int) = (v : Int) := IntWalk.u8_in _ (by omega)
    have hv5 : IntKind.u8.wrap ((65 : Int) + (by_ : Int) % 190) = (v : Int) := by rw [hv3]; exact hv4
    have hv6 : ((65 : Int) + (by_ : Int) % 190) % 256 = (v : Int) := by rw [hv3]; omega
    have HKL43 := Lib.hid h43l
    clear h43l
    go_upto_region 21 with fail
    obtain ⟨w12, hw12⟩ : ∃ w12, w12 = w11.setCell ⟨g, 43, none⟩ (.int .u8 v) := ⟨_, rfl⟩
    rw [← hw12]
    have hI12 : BRow g P.size (fun j => L2.getD j 0) w12 := by
      rw [hw12]
      refine HI11.out.set 43 v fun j hj => ?_
      show L2.getD j 0 = _
      rw [HL2.out, set_getD _ _ _ _ (by rw [List.length_set, nums_length]; exact hj)]
    have HX12 : Hid (w12.heap[w3.heap.size]? = some (.cells (ec X) 24 (0, 0))) := by show _ = _; rw [hw12, Below.heap_setCell _ _ _ _ HGX2.out]; exact HX11.out
    have HY12 : Hid (w12.heap[w9.heap.size]? = some (.cells (ec E1) 24 (0, 0))) := by show _ = _; rw [hw12, Below.heap_setCell _ _ _ _ HGY.out]; exact HY11.out
    have HR12 : Hid (Rd 73 w7.heap.size T1 f1 w12) := by rw [hw12]; exact rd_set HR11.out (fun e => HGR.out e.symm)
    have HB12 : Hid (Below w.heap.size w w12) := by rw [hw12]; exact HB11.out.setCell (p := ⟨g, 43, none⟩) HGB.out _
    have hL2s : L2.length = P.size := by rw [HL2.out, List.length_set, List.length_set, nums_length]
    have hstr := hI12.str cap
    rw [← hL2s, crc_str, hL2s] at hstr
    clear hw12 hI12 hc hf HI11 HX11 HY11 HR11 HB11 HG11 hv3 hv4 hv5 hv6 hL2s HKL43
    go_upto_region 25 with (first
      | (go_at_call 13; (with_reducible refine (KN2.out _).mono ?_); rintro r w13 ⟨rfl, R13, b13, z13⟩; have HQ13 := Lib.hid R13; have HB13 : Hid (Below w.heap.size w w13) := HB12.out.trans (b13.mono HB12.out.size); have HX13 : Hid (w13.heap[w3.heap.size]? = some (.cells (ec X) 24 (0, 0))) := (b13.block _ (Array.getElem?_eq_some_iff.1 HX12.out).1).trans HX12.out; have HY13 : Hid (w13.heap[w9.heap.size]? = some (.cells (ec E1) 24 (0, 0))) := (b13.block _ (Array.getElem?_eq_some_iff.1 HY12.out).1).trans HY12.out; have HR13 := Lib.hid (HR12.out.below b13 HR12.out.lt); clear R13 b13 z13)
      | (go_at_call 15; (with_reducible refine (KG2.out _ _ HQ13.out).mono ?_); rintro r w14 ⟨rfl, R14, g14⟩; have HQ14 := Lib.hid R14; have HB14 : Hid (Below w.heap.size w w14) := below_grownBy HB13.out g14 HB13.out.size HB12.out.size; have HX14 : Hid (w14.heap[w3.heap.size]? = some (.cells (ec X) 24 (0, 0))) := (g14.block _ (Array.getElem?_eq_some_iff.1 HX13.out).1 (by have := (Array.getElem?_eq_some_iff.1 HX12.out).1; (simp; try omega))).trans HX13.out; have HY14 : Hid (w14.heap[w9.heap.size]? = some (.cells (ec E1) 24 (0, 0))) := (g14.block _ (Array.getElem?_eq_some_iff.1 HY13.out).1 (by have := (Array.getElem?_eq_some_iff.1 HY12.out).1; (simp; try omega))).trans HY13.out; have HR14 : Hid (Rd 73 w7.heap.size T1 f1 w14) := HR13.out.grown g14 (by have := HR12.out.lt; (simp; try omega)); clear R14 g14))
    have hq14 := HQ14.out
    rw [HG2.out] at hq14
    have KO1 := Lib.hid (ok2 _ T1 f1 w14 HR14.out)
    have KO2 := Lib.hid (ok2 _ _ _ w14 hq14)
    have HNE : Hid (w12.heap.size ≠ w7.heap.size) := by have := HR12.out.lt; show _ ≠ _; omega
    clear hstr hq14 KN2 KG2 HQ13 HB13 HX13 HY13 HR13 HB12 HX12 HY12 HR12 HQ14
    by_cases hb0 : by_ = 0
    · subst hb0
      have e1 : f1 = false := by rw [HF1.out, HG1.out.1]; rfl
      have e2 : E1 = X := by rw [HE1.out]; exact HG1.out.2 rfl
      rw [e2] at HY14
      rw [e1] at KO1
      have x0 : w14.cell? ⟨w3.heap.size, 0, none⟩ = some (.int .u64 X.term) := cell_of_row w14 _ 0 _ 24 (0, 0) HX14.out
      have x1 : w14.cell? ⟨w3.heap.size, 1, none⟩ = some (.int .u64 X.index) := cell_of_row w14 _ 1 _ 24 (0, 0) HX14.out
      have x2 : w14.cell? ⟨w3.heap.size, 2, none⟩ = some (.int .i64 X.kind) := cell_of_row w14 _ 2 _ 24 (0, 0) HX14.out
      have x3 : w14.cell? ⟨w3.heap.size, 3, none⟩ = some (.int .u64 X.client) := cell_of_row w14 _ 3 _ 24 (0, 0) HX14.out
      have x4 : w14.cell? ⟨w3.heap.size, 4, none⟩ = some (.int .u64 X.seq) := cell_of_row w14 _ 4 _ 24 (0, 0) HX14.out
      have x5 : w14.cell? ⟨w3.heap.size, 5, none⟩ = some (.int .u64 X.block) := cell_of_row w14 _ 5 _ 24 (0, 0) HX14.out
      have x6 : w14.cell? ⟨w3.heap.size, 6, none⟩ = some (.int .u64 X.many) := cell_of_row w14 _ 6 _ 24 (0, 0) HX14.out
      have x7 : w14.cell? ⟨w3.heap.size, 7, none⟩ = some (.int .i64 X.node) := cell_of_row w14 _ 7 _ 24 (0, 0) HX14.out
      have x8 : w14.cell? ⟨w3.heap.size, 8, none⟩ = some (.int .i64 X.level) := cell_of_row w14 _ 8 _ 24 (0, 0) HX14.out
      have x9 : w14.cell? ⟨w3.heap.size, 9, none⟩ = some (.string X.data) := cell_of_row w14 _ 9 _ 24 (0, 0) HX14.out
      have x10 : w14.cell? ⟨w3.heap.size, 10, none⟩ = some (.string X.old) := cell_of_row w14 _ 10 _ 24 (0, 0) HX14.out
      have y0 : w14.cell? ⟨w9.heap.size, 0, none⟩ = some (.int .u64 X.term) := cell_of_row w14 _ 0 _ 24 (0, 0) HY14.out
      have y1 : w14.cell? ⟨w9.heap.size, 1, none⟩ = some (.int .u64 X.index) := cell_of_row w14 _ 1 _ 24 (0, 0) HY14.out
      have y2 : w14.cell? ⟨w9.heap.size, 2, none⟩ = some (.int .i64 X.kind) := cell_of_row w14 _ 2 _ 24 (0, 0) HY14.out
      have y3 : w14.cell? ⟨w9.heap.size, 3, none⟩ = some (.int .u64 X.client) := cell_of_row w14 _ 3 _ 24 (0, 0) HY14.out
      have y4 : w14.cell? ⟨w9.heap.size, 4, none⟩ = some (.int .u64 X.seq) := cell_of_row w14 _ 4 _ 24 (0, 0) HY14.out
      have y5 : w14.cell? ⟨w9.heap.size, 5, none⟩ = some (.int .u64 X.block) := cell_of_row w14 _ 5 _ 24 (0, 0) HY14.out
      have y6 : w14.cell? ⟨w9.heap.size, 6, none⟩ = some (.int .u64 X.many) := cell_of_row w14 _ 6 _ 24 (0, 0) HY14.out
      have y7 : w14.cell? ⟨w9.heap.size, 7, none⟩ = some (.int .i64 X.node) := cell_of_row w14 _ 7 _ 24 (0, 0) HY14.out
      have y8 : w14.cell? ⟨w9.heap.size, 8, none⟩ = some (.int .i64 X.level) := cell_of_row w14 _ 8 _ 24 (0, 0) HY14.out
      have y9 : w14.cell? ⟨w9.heap.size, 9, none⟩ = some (.string X.data) := cell_of_row w14 _ 9 _ 24 (0, 0) HY14.out
      have y10 : w14.cell? ⟨w9.heap.size, 10, none⟩ = some (.string X.old) := cell_of_row w14 _ 10 _ 24 (0, 0) HY14.out
      have hee : ∀ V, (binOp .eql 24 (ev X) (ev X)).run Try.prog V = .ok (.bool true) V := fun V => by rw [eql_entry, (sameB_iff X X).2 rfl]
      go_wp2_with (first
        | (go_at_call 17; (with_reducible refine KO1.out.mono ?_); rintro r w15 ⟨rfl, rfl⟩)
        | (go_at_call 17; (with_reducible refine KO2.out.mono ?_); rintro r w15 ⟨rfl, rfl⟩))
      go_ret
      exact ⟨rfl, HB14.out⟩
    · have e1 : f1 = true := by rw [HF1.out, HG1.out.1]; simpa using hb0
      rw [e1] at KO1
      have hbf : ((by_ : Int) == 0) = false := by simp; omega
      have hbz : ¬ (by_ : Int) = 0 := by omega
      clear hb0
      go_wp2_with (first
        | (go_at_call 17; (with_reducible refine KO1.out.mono ?_); rintro r w15 ⟨rfl, rfl⟩)
        | (go_at_call 17; (with_reducible refine KO2.out.mono ?_); rintro r w15 ⟨rfl, rfl⟩))
      go_ret
      exact ⟨rfl, HB14.out⟩
end Go.Proofs.Ytiikgfcfceldmaa
