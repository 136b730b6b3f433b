/-
  Texts of the layer below and of this one: FN, FR, AM.
  Conditions: named in each theorem.
-/
import Derived.Test.YtlmfnlaikdmphaaG05
import Derived.Laws.EntriesVeiled
import Derived.Deep.CutRange
namespace Go.Proofs.Ytlmfnlaikdmphaa
open Go.RowKit
open Vi
set_option linter.unusedVariables false
set_option linter.unusedSimpArgs false
theorem nx_no {s : ByteArray} (h : nOk s = false) : nxV s = 0 ∧ nxB s = ⟨#[]⟩ ∧ nxN s = 0 := by
  unfold nxV nxB nxN
  rw [h]
  exact ⟨rfl, rfl, rfl⟩
theorem nx_yes {s : ByteArray} (h : nOk s = true) : nxV s = nV s ∧ nxB s = nBd s ∧ nxN s = (s.size : Int) - (nW s).size := by
  unfold nxV nxB nxN
  rw [h]
  exact ⟨rfl, rfl, rfl⟩
theorem fixV_lt4 (s : ByteArray) : fixV s 4 < 18446744073709551616 := by
  unfold fixV
  split
  · have h := be_take_lt (nums s) (nums_getD_lt s) 4
    have h2 : be (List.take 4 (nums s)) < 256 ^ 4 := h
    have h3 : (256 : Nat) ^ 4 = 4294967296 := by decide
    rw [h3] at h2
    show be (List.take 4 (nums s)) < _
    omega
  · omega
theorem nM_lt (s : ByteArray) : nM s < 18446744073709551616 := by
  unfold nM
  split
  · exact fixV_lt4 _
  · exact varV_lt _
theorem nx_ret_no {s : ByteArray} (h : nOk s = false) : Ending.returned (.tuple #[.int .i64 0, .string ⟨#[]⟩, .int .i64 0, .bool false]) = Ending.returned (.tuple #[.int .i64 (nxV s), .string (nxB s), .int .i64 (nxN s), .bool (nOk s)]) := by
  obtain ⟨e1, e2, e3⟩ := nx_no h
  rw [e1, e2, e3, h]
theorem nx_ret_yes {s b : ByteArray} {v n : Int} (h : nOk s = true) (hv : nV s = v) (hb : nBd s = b) (hn : (s.size : Int) - (nW s).size = n) : Ending.returned (.tuple #[.int .i64 v, .string b, .int .i64 n, .bool true]) = Ending.returned (.tuple #[.int .i64 (nxV s), .string (nxB s), .int .i64 (nxN s), .bool (nOk s)]) := by
  obtain ⟨e1, e2, e3⟩ := nx_yes h
  rw [e1, e2, e3, h, hv, hb, hn]
theorem bytV_size (s : ByteArray) (k : Int) : (bytV s k).size ≤ s.size := by
  unfold bytV
  split
  · rw [ByteArray.size_extract]; omega
  · exact Nat.zero_le _
theorem nHd_size (s : ByteArray) : (nHd s).size ≤ s.size := by unfold nHd; rw [ByteArray.size_extract]; omega
set_option maxHeartbeats 1000000 in
set_option maxRecDepth 100000 in
theorem reads_any (g : Nat) (w : World) :
    Calls Try.prog 80 #[rdp g] w fun r w' => r = .returned (.map (some (w.heap.size + 1))) ∧ w'.heap[w.heap.size]? = some (.cells #[.func (.func 79) #[rdp g] #[]] 86 (0, 0)) ∧ w'.heap[w.heap.size + 1]? = some (.map (two (.func (.func 101) #[] #[.pointer (some ⟨w.heap.size, 0, none⟩)]) (.func (.func 82) #[rdp g] #[])) 2) ∧ Below w.heap.size w w' := by
  have hmm := @run_makeMap Try.prog
  have hmf : ∀ (fn : Fn) (first cap : Array Value) (w : World), (Instr.makeFunc fn first cap).run Try.prog w = .ok (.func fn first cap) w := fun _ _ _ _ => rfl
  obtain ⟨W, hW⟩ : ∃ W, W = w.alloc (Obj.cells #[.func (.func 79) #[rdp g] #[]] 86) := ⟨_, rfl⟩
  have hz : W.heap.size = w.heap.size + 1 := by rw [hW]; simp
  have hB : Below w.heap.size w W := by rw [hW]; exact (Below.refl _ _).alloc (Nat.le_refl _) _
  have hK : W.heap[w.heap.size]? = some (.cells #[.func (.func 79) #[rdp g] #[]] 86 (0, 0)) := by rw [hW]; exact heap_alloc_new w _
  obtain ⟨w1, e1, h1, b1, o1, s1⟩ := ins_step (T := 81) 1 (.func (.func 101) #[] #[.pointer (some ⟨w.heap.size, 0, none⟩)]) Try.underlying81 (heap_alloc_new W (.map #[] 0)) rfl ((Below.refl _ _).alloc (Nat.le_refl _) _) (Nat.le_refl _)
  obtain ⟨w2, e2, h2, b2, o2, s2⟩ := ins_step (T := 81) 2 (.func (.func 82) #[rdp g] #[]) Try.underlying81 h1 rfl b1 (Nat.le_refl _)
  have H2 : Hid (w2.heap[w.heap.size + 1]? = some (.map (two (.func (.func 101) #[] #[.pointer (some ⟨w.heap.size, 0, none⟩)]) (.func (.func 82) #[rdp g] #[])) 2)) := by rw [← hz]; exact h2
  have B2 : Hid (Below w.heap.size w w2) := hB.trans (b2.mono hB.size)
  have K2 : Hid (w2.heap[w.heap.size]? = some (.cells #[.func (.func 79) #[rdp g] #[]] 86 (0, 0))) := (b2.block _ (by omega)).trans hK
  have HW := Lib.hid hW
  have HZ := Lib.hid hz
  clear h1 h2 b1 b2 o1 o2 s1 s2 hB hK hW hz
  unfold rdp at *
  go_enter Try.func80, Try.ntmps80
  go_upto_region 2 with fail
  rw [← HW.out]
  go_wp2
  go_ret
  rw [HZ.out]
  exact ⟨rfl, K2.out, H2.out, B2.out⟩
set_option maxHeartbeats 1000000 in
set_option maxRecDepth 100000 in
theorem rd1_any (A g : Nat) (s : ByteArray) (bad : Bool) (w : World) (hA : w.heap[A]? = some (.cells #[.func (.func 79) #[rdp g] #[]] 86 (0, 0))) (h : Rd 130 g s bad w) (hm : s.size ≤ 281474976710656) :
    Calls Try.prog 101 #[.pointer (some ⟨A, 0, none⟩)] w fun e w' => e = .returned (.int .u64 (fixV s 4)) ∧ Rd 130 g (fixT s 4) (bad || !hasF s 4) w' ∧ w.grownBy w' (some g) := by
  have c0 : w.cell? ⟨A, 0, none⟩ = some (.func (.func 79) #[rdp g] #[]) := cell_of_row w A 0 _ 86 (0, 0) hA
  have K := Lib.hid (fixedr_any g s bad 4 w h hm)
  unfold rdp at *
  clear h hA
  go_enter Try.func101, Try.ntmps101
  go_wp2_with fail
  refine K.out.mono ?_
  rintro e w1 ⟨rfl, R1, g1⟩
  go_wp2
  go_ret
  exact ⟨rfl, R1, g1⟩
set_option maxHeartbeats 4000000 in
set_option maxRecDepth 100000 in
theorem next1_any (s : ByteArray) (w : World) (hs : s.size ≤ 281474976710656) (hF : fixV s 1 = 161) :
    Calls Try.prog 39 #[.string s] w fun e w' => e = .returned (.tuple #[.int .i64 (nxV s), .string (nxB s), .int .i64 (nxN s), .bool (nOk s)]) ∧ Below w.heap.size w w' := by
  have hv : nV s = 1 := by unfold nV; rw [hF]; rfl
  have KN := Lib.hid (fun (W : World) => new_any s W)
  have KR := Lib.hid (fun (g : Nat) (W : World) => reads_any g W)
  have HF : Hid (fixV s 1 = 161) := hF
  have HS := Lib.hid hs
  have HS1 : Hid ((fixT s 1).size ≤ 281474976710656) := Nat.le_trans (fixT_size s 1) hs
  have HM : Hid ((fixV (fixT s 1) 4 : Nat) = nM s) := by show _ = _; unfold nM; rw [hv]; rfl
  have HT : Hid (fixT (fixT s 1) 4 = nT s) := by show _ = _; unfold nT; rw [hv]; rfl
  have HO2 : Hid ((false || !hasF s ((1 : Nat) : Int) || !hasF (fixT s 1) 4) = !nO2 s) := by show _ = _; unfold nO2; rw [hv]; show _ = !(hasF s 1 && hasF (fixT s 1) 4); show (false || !hasF s 1 || !hasF (fixT s 1) 4) = _; cases hasF s 1 <;> cases hasF (fixT s 1) 4 <;> rfl
  have HTS : Hid ((nT s).size ≤ s.size) := by show _ ≤ _; rw [← HT.out]; exact Nat.le_trans (fixT_size _ 4) (fixT_size s 1)
  have HU : Hid ((nU s).size ≤ (nT s).size) := bytT_size _ _
  have HW : Hid ((nW s).size ≤ (nU s).size) := bytT_size _ _
  have HR : Hid ((!nO2 s || !hasB (nT s) 4 || !hasB (nU s) (nM s)) = !nR s) := by show _ = _; unfold nR; cases nO2 s <;> cases hasB (nT s) 4 <;> cases hasB (nU s) (nM s) <;> rfl
  have HHD : Hid (s.extract 0 (s.size - (nT s).size) = nHd s) := rfl
  have HQ : Hid (nOk s = (decide (nM s ≤ 1048576) && (nR s && ((nS s).toList == (sealB (nHd s) (nBd s)).toList)))) := by show _ = _; unfold nOk; rw [hv]; rfl
  have HVV : Hid (nV s = 1) := hv
  obtain ⟨M, hM⟩ : ∃ M, M = nM s := ⟨_, rfl⟩
  obtain ⟨T, hT⟩ : ∃ T, T = nT s := ⟨_, rfl⟩
  obtain ⟨r, hr⟩ : ∃ r, r = nR s := ⟨_, rfl⟩
  have HNM := Lib.hid hM
  have HNT := Lib.hid hT
  have HNR := Lib.hid hr
  rw [← hM] at HM HQ HR
  rw [← hT] at HT HTS HU HR HHD
  rw [← hr] at HQ HR
  have HML : Hid (M < 18446744073709551616) := by show _ < _; rw [hM]; exact nM_lt s
  have HS4 : Hid (bytV T 4 = nS s) := by show _ = _; rw [hT]; rfl
  have HU4 : Hid (bytT T 4 = nU s) := by show _ = _; rw [hT]; rfl
  have HB4 : Hid (bytV (nU s) M = nBd s) := by show _ = _; rw [hM]; rfl
  have HW4 : Hid (bytT (nU s) M = nW s) := by show _ = _; rw [hM]; rfl
  have HUS : Hid ((nU s).size ≤ 281474976710656) := Nat.le_trans HU.out (Nat.le_trans HTS.out hs)
  clear hF hs hv hM hT hr
  go_enter Try.func39, Try.ntmps39
  go_wp2_with fail
  refine (KN.out _).mono ?_
  rintro e w1 ⟨rfl, hw1⟩
  have R1 : Hid (Rd 130 w.heap.size s false w1) := by show Rd _ _ _ _ _; rw [hw1]; exact Rd.new w 130 s false
  have B1 : Hid (Below w.heap.size w w1) := by show Below _ _ _; rw [hw1]; exact (Below.refl _ _).alloc (Nat.le_refl _) _
  have Z1 : Hid (w1.heap.size = w.heap.size + 1) := by show _ = _; rw [hw1]; simp
  clear hw1
  go_wp2_with fail
  refine (fixedr_any _ _ _ 1 _ R1.out HS.out).mono ?_
  rintro e w2 ⟨rfl, r2, g2⟩
  rw [HF.out]
  have R2 := Lib.hid r2
  have B2 : Hid (Below w.heap.size w w2) := below_grownBy B1.out g2 B1.out.size (Nat.le_refl _)
  have Z2 : Hid (w.heap.size < w2.heap.size) := r2.lt
  clear r2 g2
  go_wp2_with fail
  refine (KR.out _ _).mono ?_
  rintro e w3 ⟨rfl, a3, m3, b3⟩
  have hl := look_step (T := 81) 1 (.func (.func 101) #[] #[.pointer (some ⟨w2.heap.size, 0, none⟩)]) Try.underlying81 m3 (two_1 _ _)
  have R2 : Hid (Rd 130 w.heap.size (fixT s 1) (false || !hasF s ((1 : Nat) : Int)) w3) := R2.out.below b3 Z2.out
  have A2 := Lib.hid a3
  have B3 : Hid (Below w.heap.size w w3) := B2.out.trans (b3.mono B2.out.size)
  clear m3 b3 a3
  unfold rdp at *
  go_wp2_with fail
  refine (rd1_any _ _ _ _ _ A2.out R2.out HS1.out).mono ?_
  rintro e w4 ⟨rfl, r4, g4⟩
  rw [HM.out]
  rw [HT.out, HO2.out] at r4
  have R4 := Lib.hid r4
  have B4 : Hid (Below w.heap.size w w4) := below_grownBy B3.out g4 B3.out.size (Nat.le_refl _)
  clear r4 g4 hl
  by_cases hgt : (1048576 : Int) < (M : Int)
  · have hno : nOk s = false := by rw [HQ.out, decide_eq_false (by omega)]; rfl
    go_wp2
    refine bodyPost_ret (v := _) (by simp [results, Try.results39, go_sem]) rfl ⟨nx_ret_no hno, B4.out⟩
  have hms := HTS.out
  have hss := HS.out
  have hsub : wrap64 ((s.size : Int) - (T.size : Int)) = ((s.size - T.size : Nat) : Int) := by unfold wrap64; omega
  have hsz : s.size - T.size ≤ s.size := by omega
  have hMw : IntKind.i64.wrap (M : Int) = M := IntWalk.i64_in _ (by omega)
  have hgt2 : ¬ ((1048576 : Int) < (M : Int)) := hgt
  go_wp2_with fail
  refine (left_any _ _ _ _ R4.out).mono ?_
  rintro e w5 ⟨rfl, rfl⟩
  go_wp2_with fail
  refine (bytes_any _ _ _ 4 _ R4.out (Nat.le_trans hms hss)).mono ?_
  rintro e w6 ⟨rfl, r6, g6⟩
  rw [HS4.out, HHD.out]
  rw [HU4.out] at r6
  have R6 := Lib.hid r6
  have B6 : Hid (Below w.heap.size w w6) := below_grownBy B4.out g6 B4.out.size (Nat.le_refl _)
  clear r6 g6
  go_wp2_with fail
  refine (bytes_any _ _ _ (M : Int) _ R6.out HUS.out).mono ?_
  rintro e w7 ⟨rfl, r7, g7⟩
  rw [HB4.out]
  rw [HW4.out, HR.out] at r7
  have R7 := Lib.hid r7
  have B7 : Hid (Below w.heap.size w w7) := below_grownBy B6.out g7 B6.out.size (Nat.le_refl _)
  clear r7 g7
  cases r with
  | false =>
    have hno : nOk s = false := by rw [HQ.out, decide_eq_true (by omega)]; rfl
    have HNO := Lib.hid hno
    clear hno
    go_wp2_with fail
    refine (ok_any _ _ _ _ R7.out).mono ?_
    rintro e w8 ⟨rfl, rfl⟩
    go_wp2
    refine bodyPost_ret (v := _) (by simp [results, Try.results39, go_sem]) rfl ⟨nx_ret_no HNO.out, B7.out⟩
  | true =>
    obtain ⟨q, hq⟩ : ∃ q, ((nS s).toList == (sealB (nHd s) (nBd s)).toList) = q := ⟨_, rfl⟩
    have HQ2 : Hid (nOk s = q) := by show _ = _; rw [HQ.out, decide_eq_true (by omega), hq]; rfl
    have HHZ := Lib.hid (nHd_size s)
    have HBZ : Hid ((nBd s).size ≤ 281474976710656) := Nat.le_trans (bytV_size _ _) HUS.out
    cases q with
    | false =>
      go_wp2_with fail
      refine (ok_any _ _ _ _ R7.out).mono ?_
      rintro e w8 ⟨rfl, rfl⟩
      go_wp2_with fail
      refine (seal_any _ _ _ (Nat.le_trans HHZ.out hss) HBZ.out).mono ?_
      rintro e w9 ⟨rfl, b9⟩
      have B9 : Hid (Below w.heap.size w w9) := B7.out.trans (b9.mono B7.out.size)
      clear b9
      go_wp2
      refine bodyPost_ret (v := _) (by simp [results, Try.results39, go_sem]) rfl ⟨nx_ret_no HQ2.out, B9.out⟩
    | true =>
      have hw4 : (nW s).size ≤ s.size := Nat.le_trans HW.out (Nat.le_trans HU.out hms)
      have hsub2 : wrap64 ((s.size : Int) - ((nW s).size : Int)) = (s.size : Int) - ((nW s).size : Int) := by unfold wrap64; omega
      go_wp2_with fail
      refine (ok_any _ _ _ _ R7.out).mono ?_
      rintro e w8 ⟨rfl, rfl⟩
      go_wp2_with fail
      refine (seal_any _ _ _ (Nat.le_trans HHZ.out hss) HBZ.out).mono ?_
      rintro e w9 ⟨rfl, b9⟩
      have B9 : Hid (Below w.heap.size w w9) := B7.out.trans (b9.mono B7.out.size)
      have R9 := Lib.hid (R7.out.below b9 R7.out.lt)
      clear b9
      go_wp2_with fail
      refine (left_any _ _ _ _ R9.out).mono ?_
      rintro e w10 ⟨rfl, rfl⟩
      go_wp2
      refine bodyPost_ret (v := _) (by simp [results, Try.results39, go_sem]) rfl ⟨nx_ret_yes HQ2.out HVV.out rfl rfl, B9.out⟩
set_option maxHeartbeats 4000000 in
set_option maxRecDepth 100000 in
theorem next2_any (s : ByteArray) (w : World) (hs : s.size ≤ 281474976710656) (hF : fixV s 1 = 162) :
    Calls Try.prog 39 #[.string s] w fun e w' => e = .returned (.tuple #[.int .i64 (nxV s), .string (nxB s), .int .i64 (nxN s), .bool (nOk s)]) ∧ Below w.heap.size w w' := by
  have hv : nV s = 2 := by unfold nV; rw [hF]; rfl
  have KN := Lib.hid (fun (W : World) => new_any s W)
  have KR := Lib.hid (fun (g : Nat) (W : World) => reads_any g W)
  have HF : Hid (fixV s 1 = 162) := hF
  have HS := Lib.hid hs
  have HS1 : Hid ((fixT s 1).size ≤ 281474976710656) := Nat.le_trans (fixT_size s 1) hs
  have HM : Hid ((varV (fixT s 1) : Nat) = nM s) := by show _ = _; unfold nM; rw [hv]; rfl
  have HT : Hid (varT (fixT s 1) = nT s) := by show _ = _; unfold nT; rw [hv]; rfl
  have HO2 : Hid ((false || !hasF s ((1 : Nat) : Int) || !varO (fixT s 1)) = !nO2 s) := by show _ = _; unfold nO2; rw [hv]; show _ = !(hasF s 1 && varO (fixT s 1)); show (false || !hasF s 1 || !varO (fixT s 1)) = _; cases hasF s 1 <;> cases varO (fixT s 1) <;> rfl
  have HTS : Hid ((nT s).size ≤ s.size) := by show _ ≤ _; rw [← HT.out]; exact Nat.le_trans (varT_size _) (fixT_size s 1)
  have HU : Hid ((nU s).size ≤ (nT s).size) := bytT_size _ _
  have HW : Hid ((nW s).size ≤ (nU s).size) := bytT_size _ _
  have HR : Hid ((!nO2 s || !hasB (nT s) 4 || !hasB (nU s) (nM s)) = !nR s) := by show _ = _; unfold nR; cases nO2 s <;> cases hasB (nT s) 4 <;> cases hasB (nU s) (nM s) <;> rfl
  have HHD : Hid (s.extract 0 (s.size - (nT s).size) = nHd s) := rfl
  have HQ : Hid (nOk s = (decide (nM s ≤ 1048576) && (nR s && ((nS s).toList == (sealB (nHd s) (nBd s)).toList)))) := by show _ = _; unfold nOk; rw [hv]; rfl
  have HVV : Hid (nV s = 2) := hv
  obtain ⟨M, hM⟩ : ∃ M, M = nM s := ⟨_, rfl⟩
  obtain ⟨T, hT⟩ : ∃ T, T = nT s := ⟨_, rfl⟩
  obtain ⟨r, hr⟩ : ∃ r, r = nR s := ⟨_, rfl⟩
  have HNM := Lib.hid hM
  have HNT := Lib.hid hT
  have HNR := Lib.hid hr
  rw [← hM] at HM HQ HR
  rw [← hT] at HT HTS HU HR HHD
  rw [← hr] at HQ HR
  have HML : Hid (M < 18446744073709551616) := by show _ < _; rw [hM]; exact nM_lt s
  have HS4 : Hid (bytV T 4 = nS s) := by show _ = _; rw [hT]; rfl
  have HU4 : Hid (bytT T 4 = nU s) := by show _ = _; rw [hT]; rfl
  have HB4 : Hid (bytV (nU s) M = nBd s) := by show _ = _; rw [hM]; rfl
  have HW4 : Hid (bytT (nU s) M = nW s) := by show _ = _; rw [hM]; rfl
  have HUS : Hid ((nU s).size ≤ 281474976710656) := Nat.le_trans HU.out (Nat.le_trans HTS.out hs)
  clear hF hs hv hM hT hr
  go_enter Try.func39, Try.ntmps39
  go_wp2_with fail
  refine (KN.out _).mono ?_
  rintro e w1 ⟨rfl, hw1⟩
  have R1 : Hid (Rd 130 w.heap.size s false w1) := by show Rd _ _ _ _ _; rw [hw1]; exact Rd.new w 130 s false
  have B1 : Hid (Below w.heap.size w w1) := by show Below _ _ _; rw [hw1]; exact (Below.refl _ _).alloc (Nat.le_refl _) _
  have Z1 : Hid (w1.heap.size = w.heap.size + 1) := by show _ = _; rw [hw1]; simp
  clear hw1
  go_wp2_with fail
  refine (fixedr_any _ _ _ 1 _ R1.out HS.out).mono ?_
  rintro e w2 ⟨rfl, r2, g2⟩
  rw [HF.out]
  have R2 := Lib.hid r2
  have B2 : Hid (Below w.heap.size w w2) := below_grownBy B1.out g2 B1.out.size (Nat.le_refl _)
  have Z2 : Hid (w.heap.size < w2.heap.size) := r2.lt
  clear r2 g2
  go_wp2_with fail
  refine (KR.out _ _).mono ?_
  rintro e w3 ⟨rfl, a3, m3, b3⟩
  have hl := look_step (T := 81) 2 (.func (.func 82) #[rdp w.heap.size] #[]) Try.underlying81 m3 (two_2 _ _)
  have R2 : Hid (Rd 130 w.heap.size (fixT s 1) (false || !hasF s ((1 : Nat) : Int)) w3) := R2.out.below b3 Z2.out
  have A2 := Lib.hid a3
  have B3 : Hid (Below w.heap.size w w3) := B2.out.trans (b3.mono B2.out.size)
  clear m3 b3 a3
  unfold rdp at *
  go_wp2_with fail
  refine (var_any _ _ _ _ R2.out HS1.out).mono ?_
  rintro e w4 ⟨rfl, r4, g4⟩
  rw [HM.out]
  rw [HT.out, HO2.out] at r4
  have R4 := Lib.hid r4
  have B4 : Hid (Below w.heap.size w w4) := below_grownBy B3.out g4 B3.out.size (Nat.le_refl _)
  clear r4 g4 hl
  by_cases hgt : (1048576 : Int) < (M : Int)
  · have hno : nOk s = false := by rw [HQ.out, decide_eq_false (by omega)]; rfl
    go_wp2
    refine bodyPost_ret (v := _) (by simp [results, Try.results39, go_sem]) rfl ⟨nx_ret_no hno, B4.out⟩
  have hms := HTS.out
  have hss := HS.out
  have hsub : wrap64 ((s.size : Int) - (T.size : Int)) = ((s.size - T.size : Nat) : Int) := by unfold wrap64; omega
  have hsz : s.size - T.size ≤ s.size := by omega
  have hMw : IntKind.i64.wrap (M : Int) = M := IntWalk.i64_in _ (by omega)
  have hgt2 : ¬ ((1048576 : Int) < (M : Int)) := hgt
  go_wp2_with fail
  refine (left_any _ _ _ _ R4.out).mono ?_
  rintro e w5 ⟨rfl, rfl⟩
  go_wp2_with fail
  refine (bytes_any _ _ _ 4 _ R4.out (Nat.le_trans hms hss)).mono ?_
  rintro e w6 ⟨rfl, r6, g6⟩
  rw [HS4.out, HHD.out]
  rw [HU4.out] at r6
  have R6 := Lib.hid r6
  have B6 : Hid (Below w.heap.size w w6) := below_grownBy B4.out g6 B4.out.size (Nat.le_refl _)
  clear r6 g6
  go_wp2_with fail
  refine (bytes_any _ _ _ (M : Int) _ R6.out HUS.out).mono ?_
  rintro e w7 ⟨rfl, r7, g7⟩
  rw [HB4.out]
  rw [HW4.out, HR.out] at r7
  have R7 := Lib.hid r7
  have B7 : Hid (Below w.heap.size w w7) := below_grownBy B6.out g7 B6.out.size (Nat.le_refl _)
  clear r7 g7
  cases r with
  | false =>
    have hno : nOk s = false := by rw [HQ.out, decide_eq_true (by omega)]; rfl
    have HNO := Lib.hid hno
    clear hno
    go_wp2_with fail
    refine (ok_any _ _ _ _ R7.out).mono ?_
    rintro e w8 ⟨rfl, rfl⟩
    go_wp2
    refine bodyPost_ret (v := _) (by simp [results, Try.results39, go_sem]) rfl ⟨nx_ret_no HNO.out, B7.out⟩
  | true =>
    obtain ⟨q, hq⟩ : ∃ q, ((nS s).toList == (sealB (nHd s) (nBd s)).toList) = q := ⟨_, rfl⟩
    have HQ2 : Hid (nOk s = q) := by show _ = _; rw [HQ.out, decide_eq_true (by omega), hq]; rfl
    have HHZ := Lib.hid (nHd_size s)
    have HBZ : Hid ((nBd s).size ≤ 281474976710656) := Nat.le_trans (bytV_size _ _) HUS.out
    cases q with
    | false =>
      go_wp2_with fail
      refine (ok_any _ _ _ _ R7.out).mono ?_
      rintro e w8 ⟨rfl, rfl⟩
      go_wp2_with fail
      refine (seal_any _ _ _ (Nat.le_trans HHZ.out hss) HBZ.out).mono ?_
      rintro e w9 ⟨rfl, b9⟩
      have B9 : Hid (Below w.heap.size w w9) := B7.out.trans (b9.mono B7.out.size)
      clear b9
      go_wp2
      refine bodyPost_ret (v := _) (by simp [results, Try.results39, go_sem]) rfl ⟨nx_ret_no HQ2.out, B9.out⟩
    | true =>
      have hw4 : (nW s).size ≤ s.size := Nat.le_trans HW.out (Nat.le_trans HU.out hms)
      have hsub2 : wrap64 ((s.size : Int) - ((nW s).size : Int)) = (s.size : Int) - ((nW s).size : Int) := by unfold wrap64; omega
      go_wp2_with fail
      refine (ok_any _ _ _ _ R7.out).mono ?_
      rintro e w8 ⟨rfl, rfl⟩
      go_wp2_with fail
      refine (seal_any _ _ _ (Nat.le_trans HHZ.out hss) HBZ.out).mono ?_
      rintro e w9 ⟨rfl, b9⟩
      have B9 : Hid (Below w.heap.size w w9) := B7.out.trans (b9.mono B7.out.size)
      have R9 := Lib.hid (R7.out.below b9 R7.out.lt)
      clear b9
      go_wp2_with fail
      refine (left_any _ _ _ _ R9.out).mono ?_
      rintro e w10 ⟨rfl, rfl⟩
      go_wp2
      refine bodyPost_ret (v := _) (by simp [results, Try.results39, go_sem]) rfl ⟨nx_ret_yes HQ2.out HVV.out rfl rfl, B9.out⟩
set_option maxHeartbeats 4000000 in
set_option maxRecDepth 100000 in
theorem nextN_any (s : ByteArray) (w : World) (hs : s.size ≤ 281474976710656) (h1 : nV s ≠ 1) (h2 : nV s ≠ 2) :
    Calls Try.prog 39 #[.string s] w fun e w' => e = .returned (.tuple #[.int .i64 (nxV s), .string (nxB s), .int .i64 (nxN s), .bool (nOk s)]) ∧ Below w.heap.size w w' := by
  have hno : nOk s = false := by unfold nOk; rw [decide_eq_false h1, decide_eq_false h2]; rfl
  have HNO := Lib.hid hno
  have KN := Lib.hid (fun (W : World) => new_any s W)
  have KR := Lib.hid (fun (g : Nat) (W : World) => reads_any g W)
  have HS := Lib.hid hs
  obtain ⟨v, hv⟩ : ∃ v, v = nV s := ⟨_, rfl⟩
  obtain ⟨F, hF⟩ : ∃ F, F = fixV s 1 := ⟨_, rfl⟩
  have hlt : F < 256 := by rw [hF]; exact fixV_lt1 s
  have hvF : (F : Int) - 160 = v := by rw [hv, hF]; rfl
  have hw1 : IntKind.i64.wrap (F : Int) = F := IntWalk.i64_in _ (by omega)
  have hw2 : wrap64 ((F : Int) - 160) = v := by rw [← hvF]; unfold wrap64; omega
  have HF : Hid (fixV s 1 = F) := hF.symm
  rw [← hv] at h1 h2
  have KL := Lib.hid (fun (g : Nat) (a b : Value) (W : World) (m : W.heap[g]? = some (.map (two a b) 2)) => look_none (T := 81) v Try.underlying81 Try.zeroValue80 m (two_n a b v h1 h2))
  clear hF hs hv hno h1 h2 hlt hvF
  go_enter Try.func39, Try.ntmps39
  go_wp2_with fail
  refine (KN.out _).mono ?_
  rintro e w1 ⟨rfl, hw1⟩
  have R1 : Hid (Rd 130 w.heap.size s false w1) := by show Rd _ _ _ _ _; rw [hw1]; exact Rd.new w 130 s false
  have B1 : Hid (Below w.heap.size w w1) := by show Below _ _ _; rw [hw1]; exact (Below.refl _ _).alloc (Nat.le_refl _) _
  clear hw1
  go_wp2_with fail
  refine (fixedr_any _ _ _ 1 _ R1.out HS.out).mono ?_
  rintro e w2 ⟨rfl, r2, g2⟩
  rw [HF.out]
  have R2 := Lib.hid r2
  have B2 : Hid (Below w.heap.size w w2) := below_grownBy B1.out g2 B1.out.size (Nat.le_refl _)
  clear r2 g2
  go_wp2_with fail
  refine (KR.out _ _).mono ?_
  rintro e w3 ⟨rfl, a3, m3, b3⟩
  have hl := KL.out _ _ _ _ m3
  have B3 : Hid (Below w.heap.size w w3) := B2.out.trans (b3.mono B2.out.size)
  clear m3 b3 a3
  go_wp2
  refine bodyPost_ret (v := _) (by simp [results, Try.results39, go_sem]) rfl ⟨nx_ret_no HNO.out, B3.out⟩
theorem next_any (s : ByteArray) (w : World) (hs : s.size ≤ 281474976710656) :
    Calls Try.prog 39 #[.string s] w fun e w' => e = .returned (.tuple #[.int .i64 (nxV s), .string (nxB s), .int .i64 (nxN s), .bool (nOk s)]) ∧ Below w.heap.size w w' := by
  by_cases h1 : nV s = 1
  · exact next1_any s w hs (by unfold nV at h1; omega)
  · by_cases h2 : nV s = 2
    · exact next2_any s w hs (by unfold nV at h2; omega)
    · exact nextN_any s w hs h1 h2
end Go.Proofs.Ytlmfnlaikdmphaa
namespace Go.Proofs.Ytlmfnlaikdmphaa
open Go.RowKit
open Vi
set_option linter.unusedVariables false
set_option linter.unusedSimpArgs false
set_option maxHeartbeats 4000000 in
set_option maxRecDepth 100000 in
theorem rnext1_any (s : ByteArray) (w : World) (hs : s.size ≤ 281474976710656) (h1 : nV s = 1) :
    Calls Try.prog 45 #[.string s] w fun e w' => e = .returned (.tuple #[.int .i64 (nxV s), .string (nxB s), .int .i64 (nxN s), .bool (nOk s)]) ∧ Below w.heap.size w w' := by
  have KN := Lib.hid (fun (W : World) => rnew_any s W)
  have HS := Lib.hid hs
  have HS1 : Hid ((fixT s 1).size ≤ 281474976710656) := Nat.le_trans (fixT_size s 1) hs
  have HM : Hid ((fixV (fixT s 1) 4 : Nat) = nM s) := by show _ = _; unfold nM; rw [if_pos h1]
  have HT : Hid (fixT (fixT s 1) 4 = nT s) := by show _ = _; unfold nT; rw [if_pos h1]
  have HO2 : Hid ((false || !hasF s 1 || !hasF (fixT s 1) 4) = !nO2 s) := by show _ = _; unfold nO2; rw [if_pos h1]; show (false || !hasF s 1 || !hasF (fixT s 1) 4) = !(hasF s 1 && hasF (fixT s 1) 4); cases hasF s 1 <;> cases hasF (fixT s 1) 4 <;> rfl
  have HTS : Hid ((nT s).size ≤ s.size) := by show _ ≤ _; rw [← HT.out]; exact Nat.le_trans (fixT_size _ 4) (fixT_size s 1)
  have HU : Hid ((nU s).size ≤ (nT s).size) := bytT_size _ _
  have HR : Hid ((!nO2 s || !hasF (nT s) 4 || !hasB (nU s) (nM s)) = !nR s) := by show _ = _; rw [show hasF (nT s) 4 = hasB (nT s) 4 from hasFB _ 4 (by omega)]; unfold nR; cases nO2 s <;> cases hasB (nT s) 4 <;> cases hasB (nU s) (nM s) <;> rfl
  have HQ : Hid (nOk s = (decide (nM s ≤ (nU s).size) && (nR s && (pkO (nV s) (nBd s) && (decide ((pack (nV s) (nBd s)).size ≤ s.size) && ((s.extract 0 (pack (nV s) (nBd s)).size).toList == (pack (nV s) (nBd s)).toList)))))) := (rOkF_eq s).symm
  have HPS : Hid (pkO (nV s) (nBd s) = true → pkS (nV s) (nBd s) = pack (nV s) (nBd s)) := fun h => by unfold pkS; rw [if_pos h]
  have HPZ := Lib.hid (pkS_size (nV s) (nBd s))
  have HUS : Hid ((nU s).size ≤ 281474976710656) := Nat.le_trans HU.out (Nat.le_trans HTS.out hs)
  have HU4 : Hid (fixT (nT s) 4 = nU s) := fixBT _ 4 (by omega)
  have HNN : Hid (nOk s = true → (s.size : Int) - (nW s).size = (pack (nV s) (nBd s)).size) := fun h => nxN_eq h
  have KP := Lib.hid (fun (W : World) => rpack_any (nV s) (nBd s) W)
  have hsane0 : Sane s false := fun h => by cases h
  have SA1 := Lib.hid (sane_fix s false 1 hsane0)
  have SA2 : Hid (Sane (nT s) (!nO2 s)) := by
    have h := sane_fix _ _ 4 (sane_fix s false 1 hsane0)
    have e1 := HO2.out
    have e2 := HT.out
    show Sane _ _
    rw [← e1, ← e2]
    exact h
  have SA3 := Lib.hid (sane_fix _ _ 4 SA2.out)
  obtain ⟨v, hv⟩ : ∃ v, v = nV s := ⟨_, rfl⟩
  obtain ⟨F, hF⟩ : ∃ F, F = fixV s 1 := ⟨_, rfl⟩
  have hlt : F < 256 := by rw [hF]; exact fixV_lt1 s
  have hvF : (F : Int) - 160 = v := by rw [hv, hF]; rfl
  have hw1 : IntKind.i64.wrap (F : Int) = F := IntWalk.i64_in _ (by omega)
  have hw2 : wrap64 ((F : Int) - 160) = v := by rw [← hvF]; unfold wrap64; omega
  have HF : Hid (fixV s 1 = F) := hF.symm
  have HVV : Hid (nV s = v) := hv.symm
  rw [← hv] at h1 HQ HPS KP HNN
  obtain ⟨M, hM⟩ : ∃ M, M = nM s := ⟨_, rfl⟩
  obtain ⟨T, hT⟩ : ∃ T, T = nT s := ⟨_, rfl⟩
  obtain ⟨U, hU⟩ : ∃ U, U = nU s := ⟨_, rfl⟩
  obtain ⟨r, hr⟩ : ∃ r, r = nR s := ⟨_, rfl⟩
  have HB4 : Hid (bytV U M = nBd s) := by show _ = _; rw [hM, hU]; rfl
  have HW4 : Hid (bytT U M = nW s) := by show _ = _; rw [hM, hU]; rfl
  rw [← hM, ← hU, ← hr] at HQ
  rw [← hr, ← hT, ← hU, ← hM] at HR
  rw [← hT] at HT HTS HU HU4 SA2 SA3
  rw [← hU] at HUS HU HU4
  rw [← hM] at HM
  rw [HU4.out] at SA3
  have HML : Hid (M < 18446744073709551616) := by show _ < _; rw [hM]; exact nM_lt s
  obtain ⟨B, hB⟩ : ∃ B, B = nBd s := ⟨_, rfl⟩
  have HBB : Hid (nBd s = B) := hB.symm
  rw [← hB] at HQ HPS HPZ HNN KP HB4
  obtain ⟨P, hP⟩ : ∃ P, P = pkS v B := ⟨_, rfl⟩
  obtain ⟨po, hpo⟩ : ∃ po, po = pkO v B := ⟨_, rfl⟩
  rw [← hP, ← hpo] at KP
  rw [HVV.out, ← hP] at HPZ
  rw [← hpo] at HPS HQ
  rw [← hP] at HPS
  obtain ⟨PK, hPK⟩ : ∃ PK, PK = pack v B := ⟨_, rfl⟩
  rw [← hPK] at HPS HQ HNN
  have hUw : IntKind.u64.wrap (U.size : Int) = U.size := by have := HUS.out; rw [IntKind.wrap_u64]; omega
  subst h1
  clear hs hM hT hU hr hF hv hlt hvF hB hP hpo hPK hsane0
  go_enter Try.func45, Try.ntmps45
  go_wp2_with fail
  refine (KN.out _).mono ?_
  rintro e w1 ⟨rfl, hw1'⟩
  have R1 : Hid (Rd 88 w.heap.size s false w1) := by show Rd _ _ _ _ _; rw [hw1']; exact Rd.new w 88 s false
  have B1 : Hid (Below w.heap.size w w1) := by show Below _ _ _; rw [hw1']; exact (Below.refl _ _).alloc (Nat.le_refl _) _
  clear hw1'
  go_wp2_with fail
  refine (rfixedr_any _ _ _ 1 _ R1.out (fun h => by cases h) HS.out).mono ?_
  rintro e w2 ⟨rfl, r2, g2⟩
  rw [HF.out]
  have R2 := Lib.hid r2
  have B2 : Hid (Below w.heap.size w w2) := below_grownBy B1.out g2 B1.out.size (Nat.le_refl _)
  clear r2 g2
  unfold rdp at *
  go_wp2_with fail
  refine (rfixedr_any _ _ _ 4 _ R2.out SA1.out HS1.out).mono ?_
  rintro e w4 ⟨rfl, r4, g4⟩
  rw [HM.out]
  rw [HT.out, HO2.out] at r4
  have R4 := Lib.hid r4
  have B4 : Hid (Below w.heap.size w w4) := below_grownBy B2.out g4 B2.out.size (Nat.le_refl _)
  clear r4 g4
  go_wp2_with fail
  refine (rfixedr_any _ _ _ 4 _ R4.out SA2.out (Nat.le_trans HTS.out HS.out)).mono ?_
  rintro e w5 ⟨rfl, r5, g5⟩
  rw [HU4.out] at r5
  have R5 := Lib.hid r5
  have B5 : Hid (Below w.heap.size w w5) := below_grownBy B4.out g5 B4.out.size (Nat.le_refl _)
  have c0 := r5.cell0
  clear r5 g5
  by_cases hgt : (U.size : Int) < (M : Int)
  · have hno : nOk s = false := by rw [HQ.out, decide_eq_false (by omega)]; rfl
    have HNO := Lib.hid hno
    clear hno
    go_wp2
    refine bodyPost_ret (v := _) (by simp [results, Try.results45, go_sem]) rfl ⟨nx_ret_no HNO.out, B5.out⟩
  have hus := HUS.out
  have hMw : IntKind.i64.wrap (M : Int) = M := IntWalk.i64_in _ (by omega)
  have hgt2 : ¬ ((U.size : Int) < (M : Int)) := hgt
  have HGT : Hid (decide (M ≤ U.size) = true) := decide_eq_true (by omega)
  go_wp2_with fail
  refine (rbytes_any _ _ _ (M : Int) _ R5.out SA3.out HUS.out).mono ?_
  rintro e w6 ⟨rfl, r6, g6⟩
  rw [HB4.out]
  have e6 : (!nO2 s || !hasF T 4 || !hasB U (M : Int)) = !r := HR.out
  rw [HW4.out, e6] at r6
  have R6 := Lib.hid r6
  have B6 : Hid (Below w.heap.size w w6) := below_grownBy B5.out g6 B5.out.size (Nat.le_refl _)
  clear r6 g6 c0 hgt hgt2 hMw hUw e6
  go_wp2_with fail
  refine (KP.out _).mono ?_
  rintro e w7 ⟨rfl, b7⟩
  have B7 : Hid (Below w.heap.size w w7) := B6.out.trans (b7.mono B6.out.size)
  have R7 := Lib.hid (R6.out.below b7 R6.out.lt)
  have c1 := R7.out.cell1
  clear b7
  rw [HGT.out, Bool.true_and] at HQ
  cases r with
  | false =>
    have HNO : Hid (nOk s = false) := HQ.out
    go_wp2
    refine bodyPost_ret (v := _) (by simp [results, Try.results45, go_sem]) rfl ⟨nx_ret_no HNO.out, B7.out⟩
  | true =>
    cases po with
    | false =>
      have HNO : Hid (nOk s = false) := HQ.out
      go_wp2
      refine bodyPost_ret (v := _) (by simp [results, Try.results45, go_sem]) rfl ⟨nx_ret_no HNO.out, B7.out⟩
    | true =>
      have hpk := HPS.out rfl
      subst hpk
      by_cases hlen : (s.size : Int) < (P.size : Int)
      · have HNO : Hid (nOk s = false) := by show _ = _; rw [HQ.out, decide_eq_false (show ¬ P.size ≤ s.size by omega)]; rfl
        go_wp2
        refine bodyPost_ret (v := _) (by simp [results, Try.results45, go_sem]) rfl ⟨nx_ret_no HNO.out, B7.out⟩
      · have hle : P.size ≤ s.size := by omega
        obtain ⟨q, hq⟩ : ∃ q, ((s.extract 0 P.size).toList == P.toList) = q := ⟨_, rfl⟩
        have HQ2 : Hid (nOk s = q) := by show _ = _; rw [HQ.out, decide_eq_true hle, hq]; rfl
        cases q with
        | false =>
          go_wp2
          refine bodyPost_ret (v := _) (by simp [results, Try.results45, go_sem]) rfl ⟨nx_ret_no HQ2.out, B7.out⟩
        | true =>
          go_wp2
          refine bodyPost_ret (v := .tuple #[.int .i64 1, .string B, .int .i64 P.size, .bool true]) (by simp [results, Try.results45, go_sem, hw2]) rfl ⟨nx_ret_yes HQ2.out HVV.out HBB.out (HNN.out HQ2.out), B7.out⟩
set_option maxHeartbeats 4000000 in
set_option maxRecDepth 100000 in
theorem rnextO_any (s : ByteArray) (w : World) (hs : s.size ≤ 281474976710656) (h1 : nV s ≠ 1) :
    Calls Try.prog 45 #[.string s] w fun e w' => e = .returned (.tuple #[.int .i64 (nxV s), .string (nxB s), .int .i64 (nxN s), .bool (nOk s)]) ∧ Below w.heap.size w w' := by
  have KN := Lib.hid (fun (W : World) => rnew_any s W)
  have HS := Lib.hid hs
  have HS1 : Hid ((fixT s 1).size ≤ 281474976710656) := Nat.le_trans (fixT_size s 1) hs
  have HM : Hid ((varV (fixT s 1) : Nat) = nM s) := by show _ = _; unfold nM; rw [if_neg h1]
  have HT : Hid (varT (fixT s 1) = nT s) := by show _ = _; unfold nT; rw [if_neg h1]
  have HO2 : Hid ((false || !hasF s 1 || !varO (fixT s 1)) = !nO2 s) := by show _ = _; unfold nO2; rw [if_neg h1]; show (false || !hasF s 1 || !varO (fixT s 1)) = !(hasF s 1 && varO (fixT s 1)); cases hasF s 1 <;> cases varO (fixT s 1) <;> rfl
  have HTS : Hid ((nT s).size ≤ s.size) := by show _ ≤ _; rw [← HT.out]; exact Nat.le_trans (varT_size _) (fixT_size s 1)
  have HU : Hid ((nU s).size ≤ (nT s).size) := bytT_size _ _
  have HR : Hid ((!nO2 s || !hasF (nT s) 4 || !hasB (nU s) (nM s)) = !nR s) := by show _ = _; rw [show hasF (nT s) 4 = hasB (nT s) 4 from hasFB _ 4 (by omega)]; unfold nR; cases nO2 s <;> cases hasB (nT s) 4 <;> cases hasB (nU s) (nM s) <;> rfl
  have HQ : Hid (nOk s = (decide (nM s ≤ (nU s).size) && (nR s && (pkO (nV s) (nBd s) && (decide ((pack (nV s) (nBd s)).size ≤ s.size) && ((s.extract 0 (pack (nV s) (nBd s)).size).toList == (pack (nV s) (nBd s)).toList)))))) := (rOkF_eq s).symm
  have HPS : Hid (pkO (nV s) (nBd s) = true → pkS (nV s) (nBd s) = pack (nV s) (nBd s)) := fun h => by unfold pkS; rw [if_pos h]
  have HPZ := Lib.hid (pkS_size (nV s) (nBd s))
  have HUS : Hid ((nU s).size ≤ 281474976710656) := Nat.le_trans HU.out (Nat.le_trans HTS.out hs)
  have HU4 : Hid (fixT (nT s) 4 = nU s) := fixBT _ 4 (by omega)
  have HNN : Hid (nOk s = true → (s.size : Int) - (nW s).size = (pack (nV s) (nBd s)).size) := fun h => nxN_eq h
  have KP := Lib.hid (fun (W : World) => rpack_any (nV s) (nBd s) W)
  have hsane0 : Sane s false := fun h => by cases h
  have SA1 := Lib.hid (sane_fix s false 1 hsane0)
  have SA2 : Hid (Sane (nT s) (!nO2 s)) := by
    have h := sane_var _ _ (sane_fix s false 1 hsane0)
    have e1 := HO2.out
    have e2 := HT.out
    show Sane _ _
    rw [← e1, ← e2]
    exact h
  have SA3 := Lib.hid (sane_fix _ _ 4 SA2.out)
  obtain ⟨v, hv⟩ : ∃ v, v = nV s := ⟨_, rfl⟩
  obtain ⟨F, hF⟩ : ∃ F, F = fixV s 1 := ⟨_, rfl⟩
  have hlt : F < 256 := by rw [hF]; exact fixV_lt1 s
  have hvF : (F : Int) - 160 = v := by rw [hv, hF]; rfl
  have hw1 : IntKind.i64.wrap (F : Int) = F := IntWalk.i64_in _ (by omega)
  have hw2 : wrap64 ((F : Int) - 160) = v := by rw [← hvF]; unfold wrap64; omega
  have HF : Hid (fixV s 1 = F) := hF.symm
  have HVV : Hid (nV s = v) := hv.symm
  rw [← hv] at h1 HQ HPS KP HNN
  obtain ⟨M, hM⟩ : ∃ M, M = nM s := ⟨_, rfl⟩
  obtain ⟨T, hT⟩ : ∃ T, T = nT s := ⟨_, rfl⟩
  obtain ⟨U, hU⟩ : ∃ U, U = nU s := ⟨_, rfl⟩
  obtain ⟨r, hr⟩ : ∃ r, r = nR s := ⟨_, rfl⟩
  have HB4 : Hid (bytV U M = nBd s) := by show _ = _; rw [hM, hU]; rfl
  have HW4 : Hid (bytT U M = nW s) := by show _ = _; rw [hM, hU]; rfl
  rw [← hM, ← hU, ← hr] at HQ
  rw [← hr, ← hT, ← hU, ← hM] at HR
  rw [← hT] at HT HTS HU HU4 SA2 SA3
  rw [← hU] at HUS HU HU4
  rw [← hM] at HM
  rw [HU4.out] at SA3
  have HML : Hid (M < 18446744073709551616) := by show _ < _; rw [hM]; exact nM_lt s
  obtain ⟨B, hB⟩ : ∃ B, B = nBd s := ⟨_, rfl⟩
  have HBB : Hid (nBd s = B) := hB.symm
  rw [← hB] at HQ HPS HPZ HNN KP HB4
  obtain ⟨P, hP⟩ : ∃ P, P = pkS v B := ⟨_, rfl⟩
  obtain ⟨po, hpo⟩ : ∃ po, po = pkO v B := ⟨_, rfl⟩
  rw [← hP, ← hpo] at KP
  rw [HVV.out, ← hP] at HPZ
  rw [← hpo] at HPS HQ
  rw [← hP] at HPS
  obtain ⟨PK, hPK⟩ : ∃ PK, PK = pack v B := ⟨_, rfl⟩
  rw [← hPK] at HPS HQ HNN
  have hUw : IntKind.u64.wrap (U.size : Int) = U.size := by have := HUS.out; rw [IntKind.wrap_u64]; omega
  clear hs hM hT hU hr hF hv hlt hvF hB hP hpo hPK hsane0
  go_enter Try.func45, Try.ntmps45
  go_wp2_with fail
  refine (KN.out _).mono ?_
  rintro e w1 ⟨rfl, hw1'⟩
  have R1 : Hid (Rd 88 w.heap.size s false w1) := by show Rd _ _ _ _ _; rw [hw1']; exact Rd.new w 88 s false
  have B1 : Hid (Below w.heap.size w w1) := by show Below _ _ _; rw [hw1']; exact (Below.refl _ _).alloc (Nat.le_refl _) _
  clear hw1'
  go_wp2_with fail
  refine (rfixedr_any _ _ _ 1 _ R1.out (fun h => by cases h) HS.out).mono ?_
  rintro e w2 ⟨rfl, r2, g2⟩
  rw [HF.out]
  have R2 := Lib.hid r2
  have B2 : Hid (Below w.heap.size w w2) := below_grownBy B1.out g2 B1.out.size (Nat.le_refl _)
  clear r2 g2
  unfold rdp at *
  go_wp2_with fail
  refine (rvar_any _ _ _ _ R2.out HS1.out).mono ?_
  rintro e w4 ⟨rfl, r4, g4⟩
  rw [HM.out]
  rw [HT.out, HO2.out] at r4
  have R4 := Lib.hid r4
  have B4 : Hid (Below w.heap.size w w4) := below_grownBy B2.out g4 B2.out.size (Nat.le_refl _)
  clear r4 g4
  go_wp2_with fail
  refine (rfixedr_any _ _ _ 4 _ R4.out SA2.out (Nat.le_trans HTS.out HS.out)).mono ?_
  rintro e w5 ⟨rfl, r5, g5⟩
  rw [HU4.out] at r5
  have R5 := Lib.hid r5
  have B5 : Hid (Below w.heap.size w w5) := below_grownBy B4.out g5 B4.out.size (Nat.le_refl _)
  have c0 := r5.cell0
  clear r5 g5
  by_cases hgt : (U.size : Int) < (M : Int)
  · have hno : nOk s = false := by rw [HQ.out, decide_eq_false (by omega)]; rfl
    have HNO := Lib.hid hno
    clear hno
    go_wp2
    refine bodyPost_ret (v := _) (by simp [results, Try.results45, go_sem]) rfl ⟨nx_ret_no HNO.out, B5.out⟩
  have hus := HUS.out
  have hMw : IntKind.i64.wrap (M : Int) = M := IntWalk.i64_in _ (by omega)
  have hgt2 : ¬ ((U.size : Int) < (M : Int)) := hgt
  have HGT : Hid (decide (M ≤ U.size) = true) := decide_eq_true (by omega)
  go_wp2_with fail
  refine (rbytes_any _ _ _ (M : Int) _ R5.out SA3.out HUS.out).mono ?_
  rintro e w6 ⟨rfl, r6, g6⟩
  rw [HB4.out]
  have e6 : (!nO2 s || !hasF T 4 || !hasB U (M : Int)) = !r := HR.out
  rw [HW4.out, e6] at r6
  have R6 := Lib.hid r6
  have B6 : Hid (Below w.heap.size w w6) := below_grownBy B5.out g6 B5.out.size (Nat.le_refl _)
  clear r6 g6 c0 hgt hgt2 hMw hUw e6
  go_wp2_with fail
  refine (KP.out _).mono ?_
  rintro e w7 ⟨rfl, b7⟩
  have B7 : Hid (Below w.heap.size w w7) := B6.out.trans (b7.mono B6.out.size)
  have R7 := Lib.hid (R6.out.below b7 R6.out.lt)
  have c1 := R7.out.cell1
  clear b7
  rw [HGT.out, Bool.true_and] at HQ
  cases r with
  | false =>
    have HNO : Hid (nOk s = false) := HQ.out
    go_wp2
    refine bodyPost_ret (v := _) (by simp [results, Try.results45, go_sem]) rfl ⟨nx_ret_no HNO.out, B7.out⟩
  | true =>
    cases po with
    | false =>
      have HNO : Hid (nOk s = false) := HQ.out
      go_wp2
      refine bodyPost_ret (v := _) (by simp [results, Try.results45, go_sem]) rfl ⟨nx_ret_no HNO.out, B7.out⟩
    | true =>
      have hpk := HPS.out rfl
      subst hpk
      by_cases hlen : (s.size : Int) < (P.size : Int)
      · have HNO : Hid (nOk s = false) := by show _ = _; rw [HQ.out, decide_eq_false (show ¬ P.size ≤ s.size by omega)]; rfl
        go_wp2
        refine bodyPost_ret (v := _) (by simp [results, Try.results45, go_sem]) rfl ⟨nx_ret_no HNO.out, B7.out⟩
      · have hle : P.size ≤ s.size := by omega
        obtain ⟨q, hq⟩ : ∃ q, ((s.extract 0 P.size).toList == P.toList) = q := ⟨_, rfl⟩
        have HQ2 : Hid (nOk s = q) := by show _ = _; rw [HQ.out, decide_eq_true hle, hq]; rfl
        cases q with
        | false =>
          go_wp2
          refine bodyPost_ret (v := _) (by simp [results, Try.results45, go_sem]) rfl ⟨nx_ret_no HQ2.out, B7.out⟩
        | true =>
          go_wp2
          refine bodyPost_ret (v := .tuple #[.int .i64 v, .string B, .int .i64 P.size, .bool true]) (by simp [results, Try.results45, go_sem, hw2]) rfl ⟨nx_ret_yes HQ2.out HVV.out HBB.out (HNN.out HQ2.out), B7.out⟩
theorem rnext_any (s : ByteArray) (w : World) (hs : s.size ≤ 281474976710656) :
    Calls Try.prog 45 #[.string s] w fun e w' => e = .returned (.tuple #[.int .i64 (nxV s), .string (nxB s), .int .i64 (nxN s), .bool (nOk s)]) ∧ Below w.heap.size w w' := by
  by_cases h1 : nV s = 1
  · exact rnext1_any s w hs h1
  · exact rnextO_any s w hs h1
end Go.Proofs.Ytlmfnlaikdmphaa
namespace Go.Proofs.Ytlmfnlaikdmphaa
open Go.RowKit Vi
set_option linter.unusedVariables false
set_option linter.unusedSimpArgs false
/-- A snap. -/
structure Sn where
  ix : Nat
  tm : Nat
  da : ByteArray
structure Sn.Ok (s : Sn) : Prop where
  i : s.ix < 18446744073709551616
  t : s.tm < 18446744073709551616
  d : s.da.size ≤ 140737488355328
abbrev Sn.v (s : Sn) : Value := .agg #[.int .u64 s.ix, .int .u64 s.tm, .string s.da]
abbrev Sn.c (s : Sn) : Array Value := #[.int .u64 s.ix, .int .u64 s.tm, .string s.da]
def snB (v : Int) (s : Sn) : ByteArray := if v = 1 then fxB s.ix 8 ++ fxB s.tm 8 ++ s.da else putB s.ix ++ putB s.tm ++ s.da
def snO (v : Int) (s : Sn) : Bool := (decide (v = 1) || decide (v = 2)) && decide (s.da.size ≤ 16384)
def snS (v : Int) (s : Sn) : ByteArray := if snO v s then pack v (snB v s) else ⟨#[]⟩
theorem putB_10 (n : Nat) (h : n < 18446744073709551616) : (putB n).size ≤ 10 := by
  unfold putB
  rw [str_size]
  exact put_length_le n 9 (by omega)
theorem snB_size (v : Int) (s : Sn) (h : s.Ok) : (snB v s).size ≤ s.da.size + 20 := by
  have h1 := putB_10 _ h.i
  have h2 := putB_10 _ h.t
  have h3 : (fxB s.ix 8).size = 8 := fxB_size s.ix 8 (by omega)
  have h4 : (fxB s.tm 8).size = 8 := fxB_size s.tm 8 (by omega)
  unfold snB
  split <;> simp only [ByteArray.size_append] <;> omega
theorem snO_iff {v : Int} {s : Sn} : snO v s = true ↔ (v = 1 ∨ v = 2) ∧ s.da.size ≤ 16384 := by
  unfold snO
  simp
theorem snO_pk {v : Int} {s : Sn} (ok : s.Ok) (h : snO v s = true) : pkO v (snB v s) = true := by
  obtain ⟨h1, h2⟩ := snO_iff.1 h
  have h3 := snB_size v s ok
  unfold pkO
  simp only [Bool.and_eq_true, Bool.or_eq_true, decide_eq_true_eq]
  exact ⟨h1, by omega⟩
theorem snS_size (v : Int) (s : Sn) (ok : s.Ok) : (snS v s).size ≤ 16420 := by
  unfold snS
  split
  · rename_i h
    obtain ⟨h1, h2⟩ := snO_iff.1 h
    have h3 := snB_size v s ok
    unfold pack
    have h4 := hdF_size v (snB v s).size (by omega)
    rw [ByteArray.size_append, ByteArray.size_append, seal_size]
    omega
  · exact Nat.zero_le _
def bI (v : Int) (b : ByteArray) : Nat := if v = 1 then fixV b 8 else varV b
def bT (v : Int) (b : ByteArray) : ByteArray := if v = 1 then fixT b 8 else varT b
def bF (v : Int) (b : ByteArray) : Bool := if v = 1 then hasF b 8 else varO b
def bOk (v : Int) (b : ByteArray) : Bool := bF v b && bF v (bT v b)
def bDa (v : Int) (b : ByteArray) : ByteArray := bT v (bT v b)
def gtO (s : ByteArray) : Bool := nOk s && (bOk (nV s) (nBd s) && decide ((bDa (nV s) (nBd s)).size ≤ 16384))
def gtS (s : ByteArray) : Sn := if gtO s then ⟨bI (nV s) (nBd s), bI (nV s) (bT (nV s) (nBd s)), bDa (nV s) (nBd s)⟩ else ⟨0, 0, ⟨#[]⟩⟩
def gtV (s : ByteArray) : Int := if gtO s then nV s else 0
theorem app3 (a b c : ByteArray) : a ++ b ++ c = a ++ (b ++ c) := append_assoc3 a b c
theorem bI_put (v : Int) (n : Nat) (hn : n < 18446744073709551616) (t : ByteArray) :
    bI v ((if v = 1 then fxB n 8 else putB n) ++ t) = n ∧ bT v ((if v = 1 then fxB n 8 else putB n) ++ t) = t ∧ bF v ((if v = 1 then fxB n 8 else putB n) ++ t) = true := by
  unfold bI bT bF
  by_cases h : v = 1
  · simp only [if_pos h]
    obtain ⟨h1, h2, h3⟩ := fix_put n 8 (by omega) t
    exact ⟨h1.trans (Nat.mod_eq_of_lt hn), h2, h3⟩
  · simp only [if_neg h]
    exact var_put n hn t
theorem snB_eq (v : Int) (s : Sn) : snB v s = (if v = 1 then fxB s.ix 8 else putB s.ix) ++ ((if v = 1 then fxB s.tm 8 else putB s.tm) ++ s.da) := by
  unfold snB
  split <;> exact app3 _ _ _
/-- What was put is got, whatever stands behind it. -/
theorem gt_put {v : Int} {s : Sn} (ok : s.Ok) (h : snO v s = true) (t : ByteArray) : gtO (snS v s ++ t) = true ∧ gtS (snS v s ++ t) = s ∧ gtV (snS v s ++ t) = v := by
  have hp := snO_pk ok h
  obtain ⟨h1, h2⟩ := snO_iff.1 h
  have e : snS v s = pack v (snB v s) := by unfold snS; rw [if_pos h]
  obtain ⟨k1, k2, k3, k4⟩ := nOk_pack hp t
  rw [e]
  obtain ⟨X, hX⟩ : ∃ X, X = pack v (snB v s) ++ t := ⟨_, rfl⟩
  rw [← hX] at k1 k2 k3 ⊢
  obtain ⟨a1, a2, a3⟩ := bI_put v s.ix ok.i ((if v = 1 then fxB s.tm 8 else putB s.tm) ++ s.da)
  obtain ⟨b1, b2, b3⟩ := bI_put v s.tm ok.t s.da
  rw [← snB_eq] at a1 a2 a3
  have o1 : bOk v (snB v s) = true := by unfold bOk; rw [a3, a2, b3]; rfl
  have o2 : bDa v (snB v s) = s.da := by unfold bDa; rw [a2, b2]
  have o3 : gtO X = true := by unfold gtO; rw [k1, k2, k3, o1, o2, decide_eq_true h2]; rfl
  refine ⟨o3, ?_, ?_⟩
  · unfold gtS; rw [if_pos o3, k2, k3, o2, a1, a2, b1]
  · unfold gtV; rw [if_pos o3, k2]
theorem gt_no {s : ByteArray} (h : gtO s = false) : gtS s = ⟨0, 0, ⟨#[]⟩⟩ ∧ gtV s = 0 := by
  unfold gtS gtV
  rw [h]
  exact ⟨rfl, rfl⟩
theorem gt_yes {s : ByteArray} (h : gtO s = true) : gtS s = ⟨bI (nV s) (nBd s), bI (nV s) (bT (nV s) (nBd s)), bDa (nV s) (nBd s)⟩ ∧ gtV s = nV s := by
  unfold gtS gtV
  rw [if_pos h, if_pos h]
  exact ⟨rfl, rfl⟩
/-- Have so many sectors room for it? -/
def rmB (v m : Int) (s : Sn) : Bool := snO v s && decide (((((snS v s).size + 63) / 64 : Nat) : Int) ≤ m)
end Go.Proofs.Ytlmfnlaikdmphaa
