/-
  Next and Unpack, the document's own: what they return.
  Conditions: texts of at most 2^48 bytes.
-/
import Derived.Test.YtpdbeijfchmlgaaFN
namespace Go.Proofs.Ytpdbeijfchmlgaa
open Go.RowKit
open Vi
set_option linter.unusedVariables false
set_option linter.unusedSimpArgs false

set_option maxHeartbeats 4000000 in
set_option maxRecDepth 100000 in
theorem rnext1_any (s : ByteArray) (w : World) (hs : s.size ≤ 281474976710656) (h1 : nV s = 1) :
    Calls Try.prog 13 #[.string s] w fun e w' => e = .returned (.tuple #[.int .i64 (nxV s), .string (nxB s), .int .i64 (nxN s), .bool (nOk s)]) ∧ Below w.heap.size w w' := by
  have KN := Lib.hid (fun (W : World) => rnew_any s W)
  have HS := Lib.hid hs
  have HS1 : Hid ((fixT s 1).size ≤ 281474976710656) := Nat.le_trans (fixT_size s 1) hs
  have HM : Hid ((fixV (fixT s 1) 4 : Nat) = nM s) := by show _ = _; unfold nM; rw [if_pos h1]
  have HT : Hid (fixT (fixT s 1) 4 = nT s) := by show _ = _; unfold nT; rw [if_pos h1]
  have HO2 : Hid ((false || !hasF s 1 || !hasF (fixT s 1) 4) = !nO2 s) := by show _ = _; unfold nO2; rw [if_pos h1]; show (false || !hasF s 1 || !hasF (fixT s 1) 4) = !(hasF s 1 && hasF (fixT s 1) 4); cases hasF s 1 <;> cases hasF (fixT s 1) 4 <;> rfl
  have HTS : Hid ((nT s).size ≤ s.size) := by show _ ≤ _; rw [← HT.out]; exact Nat.le_trans (fixT_size _ 4) (fixT_size s 1)
  have HU : Hid ((nU s).size ≤ (nT s).size) := bytT_size _ _
  have HR : Hid ((!nO2 s || !hasF (nT s) 4 || !hasB (nU s) (nM s)) = !nR s) := by show _ = _; rw [show hasF (nT s) 4 = hasB (nT s) 4 from hasFB _ 4 (by omega)]; unfold nR; cases nO2 s <;> cases hasB (nT s) 4 <;> cases hasB (nU s) (nM s) <;> rfl
  have HQ : Hid (nOk s = (decide (nM s ≤ (nU s).size) && (nR s && (pkO (nV s) (nBd s) && (decide ((pack (nV s) (nBd s)).size ≤ s.size) && ((s.extract 0 (pack (nV s) (nBd s)).size).toList == (pack (nV s) (nBd s)).toList)))))) := (rOkF_eq s).symm
  have HPS : Hid (pkO (nV s) (nBd s) = true → pkS (nV s) (nBd s) = pack (nV s) (nBd s)) := fun h => by unfold pkS; rw [if_pos h]
  have HPZ := Lib.hid (pkS_size (nV s) (nBd s))
  have HUS : Hid ((nU s).size ≤ 281474976710656) := Nat.le_trans HU.out (Nat.le_trans HTS.out hs)
  have HU4 : Hid (fixT (nT s) 4 = nU s) := fixBT _ 4 (by omega)
  have HNN : Hid (nOk s = true → (s.size : Int) - (nW s).size = (pack (nV s) (nBd s)).size) := fun h => nxN_eq h
  have KP := Lib.hid (fun (W : World) => rpack_any (nV s) (nBd s) W)
  have hsane0 : Sane s false := fun h => by cases h
  have SA1 := Lib.hid (sane_fix s false 1 hsane0)
  have SA2 : Hid (Sane (nT s) (!nO2 s)) := by
    have h := sane_fix _ _ 4 (sane_fix s false 1 hsane0)
    have e1 := HO2.out
    have e2 := HT.out
    show Sane _ _
    rw [← e1, ← e2]
    exact h
  have SA3 := Lib.hid (sane_fix _ _ 4 SA2.out)
  obtain ⟨v, hv⟩ : ∃ v, v = nV s := ⟨_, rfl⟩
  obtain ⟨F, hF⟩ : ∃ F, F = fixV s 1 := ⟨_, rfl⟩
  have hlt : F < 256 := by rw [hF]; exact fixV_lt1 s
  have hvF : (F : Int) - 160 = v := by rw [hv, hF]; rfl
  have hw1 : IntKind.i64.wrap (F : Int) = F := IntWalk.i64_in _ (by omega)
  have hw2 : wrap64 ((F : Int) - 160) = v := by rw [← hvF]; unfold wrap64; omega
  have HF : Hid (fixV s 1 = F) := hF.symm
  have HVV : Hid (nV s = v) := hv.symm
  rw [← hv] at h1 HQ HPS KP HNN
  obtain ⟨M, hM⟩ : ∃ M, M = nM s := ⟨_, rfl⟩
  obtain ⟨T, hT⟩ : ∃ T, T = nT s := ⟨_, rfl⟩
  obtain ⟨U, hU⟩ : ∃ U, U = nU s := ⟨_, rfl⟩
  obtain ⟨r, hr⟩ : ∃ r, r = nR s := ⟨_, rfl⟩
  have HB4 : Hid (bytV U M = nBd s) := by show _ = _; rw [hM, hU]; rfl
  have HW4 : Hid (bytT U M = nW s) := by show _ = _; rw [hM, hU]; rfl
  rw [← hM, ← hU, ← hr] at HQ
  rw [← hr, ← hT, ← hU, ← hM] at HR
  rw [← hT] at HT HTS HU HU4 SA2 SA3
  rw [← hU] at HUS HU HU4
  rw [← hM] at HM
  rw [HU4.out] at SA3
  have HML : Hid (M < 18446744073709551616) := by show _ < _; rw [hM]; exact nM_lt s
  obtain ⟨B, hB⟩ : ∃ B, B = nBd s := ⟨_, rfl⟩
  have HBB : Hid (nBd s = B) := hB.symm
  rw [← hB] at HQ HPS HPZ HNN KP HB4
  obtain ⟨P, hP⟩ : ∃ P, P = pkS v B := ⟨_, rfl⟩
  obtain ⟨po, hpo⟩ : ∃ po, po = pkO v B := ⟨_, rfl⟩
  rw [← hP, ← hpo] at KP
  rw [HVV.out, ← hP] at HPZ
  rw [← hpo] at HPS HQ
  rw [← hP] at HPS
  obtain ⟨PK, hPK⟩ : ∃ PK, PK = pack v B := ⟨_, rfl⟩
  rw [← hPK] at HPS HQ HNN
  have hUw : IntKind.u64.wrap (U.size : Int) = U.size := by have := HUS.out; rw [IntKind.wrap_u64]; omega
  subst h1
  clear hs hM hT hU hr hF hv hlt hvF hB hP hpo hPK hsane0
  go_enter Try.func13, Try.ntmps13
  go_wp2_with fail
  refine (KN.out _).mono ?_
  rintro e w1 ⟨rfl, hw1'⟩
  have R1 : Hid (Rd 70 w.heap.size s false w1) := by show Rd _ _ _ _ _; rw [hw1']; exact Rd.new w 70 s false
  have B1 : Hid (Below w.heap.size w w1) := by show Below _ _ _; rw [hw1']; exact (Below.refl _ _).alloc (Nat.le_refl _) _
  clear hw1'
  go_wp2_with fail
  refine (rfixedr_any _ _ _ 1 _ R1.out (fun h => by cases h) HS.out).mono ?_
  rintro e w2 ⟨rfl, r2, g2⟩
  rw [HF.out]
  have R2 := Lib.hid r2
  have B2 : Hid (Below w.heap.size w w2) := below_grownBy B1.out g2 B1.out.size (Nat.le_refl _)
  clear r2 g2
  unfold rdp at *
  go_wp2_with fail
  refine (rfixedr_any _ _ _ 4 _ R2.out SA1.out HS1.out).mono ?_
  rintro e w4 ⟨rfl, r4, g4⟩
  rw [HM.out]
  rw [HT.out, HO2.out] at r4
  have R4 := Lib.hid r4
  have B4 : Hid (Below w.heap.size w w4) := below_grownBy B2.out g4 B2.out.size (Nat.le_refl _)
  clear r4 g4
  go_wp2_with fail
  refine (rfixedr_any _ _ _ 4 _ R4.out SA2.out (Nat.le_trans HTS.out HS.out)).mono ?_
  rintro e w5 ⟨rfl, r5, g5⟩
  rw [HU4.out] at r5
  have R5 := Lib.hid r5
  have B5 : Hid (Below w.heap.size w w5) := below_grownBy B4.out g5 B4.out.size (Nat.le_refl _)
  have c0 := r5.cell0
  clear r5 g5
  by_cases hgt : (U.size : Int) < (M : Int)
  · have hno : nOk s = false := by rw [HQ.out, decide_eq_false (by omega)]; rfl
    have HNO := Lib.hid hno
    clear hno
    go_wp2
    refine bodyPost_ret (v := _) (by simp [results, Try.results13, go_sem]) rfl ⟨nx_ret_no HNO.out, B5.out⟩
  have hus := HUS.out
  have hMw : IntKind.i64.wrap (M : Int) = M := IntWalk.i64_in _ (by omega)
  have hgt2 : ¬ ((U.size : Int) < (M : Int)) := hgt
  have HGT : Hid (decide (M ≤ U.size) = true) := decide_eq_true (by omega)
  go_wp2_with fail
  refine (rbytes_any _ _ _ (M : Int) _ R5.out SA3.out HUS.out).mono ?_
  rintro e w6 ⟨rfl, r6, g6⟩
  rw [HB4.out]
  have e6 : (!nO2 s || !hasF T 4 || !hasB U (M : Int)) = !r := HR.out
  rw [HW4.out, e6] at r6
  have R6 := Lib.hid r6
  have B6 : Hid (Below w.heap.size w w6) := below_grownBy B5.out g6 B5.out.size (Nat.le_refl _)
  clear r6 g6 c0 hgt hgt2 hMw hUw e6
  go_wp2_with fail
  refine (KP.out _).mono ?_
  rintro e w7 ⟨rfl, b7⟩
  have B7 : Hid (Below w.heap.size w w7) := B6.out.trans (b7.mono B6.out.size)
  have R7 := Lib.hid (R6.out.below b7 R6.out.lt)
  have c1 := R7.out.cell1
  clear b7
  rw [HGT.out, Bool.true_and] at HQ
  cases r with
  | false =>
    have HNO : Hid (nOk s = false) := HQ.out
    go_wp2
    refine bodyPost_ret (v := _) (by simp [results, Try.results13, go_sem]) rfl ⟨nx_ret_no HNO.out, B7.out⟩
  | true =>
    cases po with
    | false =>
      have HNO : Hid (nOk s = false) := HQ.out
      go_wp2
      refine bodyPost_ret (v := _) (by simp [results, Try.results13, go_sem]) rfl ⟨nx_ret_no HNO.out, B7.out⟩
    | true =>
      have hpk := HPS.out rfl
      subst hpk
      by_cases hlen : (s.size : Int) < (P.size : Int)
      · have HNO : Hid (nOk s = false) := by show _ = _; rw [HQ.out, decide_eq_false (show ¬ P.size ≤ s.size by omega)]; rfl
        go_wp2
        refine bodyPost_ret (v := _) (by simp [results, Try.results13, go_sem]) rfl ⟨nx_ret_no HNO.out, B7.out⟩
      · have hle : P.size ≤ s.size := by omega
        obtain ⟨q, hq⟩ : ∃ q, ((s.extract 0 P.size).toList == P.toList) = q := ⟨_, rfl⟩
        have HQ2 : Hid (nOk s = q) := by show _ = _; rw [HQ.out, decide_eq_true hle, hq]; rfl
        cases q with
        | false =>
          go_wp2
          refine bodyPost_ret (v := _) (by simp [results, Try.results13, go_sem]) rfl ⟨nx_ret_no HQ2.out, B7.out⟩
        | true =>
          go_wp2
          refine bodyPost_ret (v := .tuple #[.int .i64 1, .string B, .int .i64 P.size, .bool true]) (by simp [results, Try.results13, go_sem, hw2]) rfl ⟨nx_ret_yes HQ2.out HVV.out HBB.out (HNN.out HQ2.out), B7.out⟩

set_option maxHeartbeats 4000000 in
set_option maxRecDepth 100000 in
theorem rnextO_any (s : ByteArray) (w : World) (hs : s.size ≤ 281474976710656) (h1 : nV s ≠ 1) :
    Calls Try.prog 13 #[.string s] w fun e w' => e = .returned (.tuple #[.int .i64 (nxV s), .string (nxB s), .int .i64 (nxN s), .bool (nOk s)]) ∧ Below w.heap.size w w' := by
  have KN := Lib.hid (fun (W : World) => rnew_any s W)
  have HS := Lib.hid hs
  have HS1 : Hid ((fixT s 1).size ≤ 281474976710656) := Nat.le_trans (fixT_size s 1) hs
  have HM : Hid ((varV (fixT s 1) : Nat) = nM s) := by show _ = _; unfold nM; rw [if_neg h1]
  have HT : Hid (varT (fixT s 1) = nT s) := by show _ = _; unfold nT; rw [if_neg h1]
  have HO2 : Hid ((false || !hasF s 1 || !varO (fixT s 1)) = !nO2 s) := by show _ = _; unfold nO2; rw [if_neg h1]; show (false || !hasF s 1 || !varO (fixT s 1)) = !(hasF s 1 && varO (fixT s 1)); cases hasF s 1 <;> cases varO (fixT s 1) <;> rfl
  have HTS : Hid ((nT s).size ≤ s.size) := by show _ ≤ _; rw [← HT.out]; exact Nat.le_trans (varT_size _) (fixT_size s 1)
  have HU : Hid ((nU s).size ≤ (nT s).size) := bytT_size _ _
  have HR : Hid ((!nO2 s || !hasF (nT s) 4 || !hasB (nU s) (nM s)) = !nR s) := by show _ = _; rw [show hasF (nT s) 4 = hasB (nT s) 4 from hasFB _ 4 (by omega)]; unfold nR; cases nO2 s <;> cases hasB (nT s) 4 <;> cases hasB (nU s) (nM s) <;> rfl
  have HQ : Hid (nOk s = (decide (nM s ≤ (nU s).size) && (nR s && (pkO (nV s) (nBd s) && (decide ((pack (nV s) (nBd s)).size ≤ s.size) && ((s.extract 0 (pack (nV s) (nBd s)).size).toList == (pack (nV s) (nBd s)).toList)))))) := (rOkF_eq s).symm
  have HPS : Hid (pkO (nV s) (nBd s) = true → pkS (nV s) (nBd s) = pack (nV s) (nBd s)) := fun h => by unfold pkS; rw [if_pos h]
  have HPZ := Lib.hid (pkS_size (nV s) (nBd s))
  have HUS : Hid ((nU s).size ≤ 281474976710656) := Nat.le_trans HU.out (Nat.le_trans HTS.out hs)
  have HU4 : Hid (fixT (nT s) 4 = nU s) := fixBT _ 4 (by omega)
  have HNN : Hid (nOk s = true → (s.size : Int) - (nW s).size = (pack (nV s) (nBd s)).size) := fun h => nxN_eq h
  have KP := Lib.hid (fun (W : World) => rpack_any (nV s) (nBd s) W)
  have hsane0 : Sane s false := fun h => by cases h
  have SA1 := Lib.hid (sane_fix s false 1 hsane0)
  have SA2 : Hid (Sane (nT s) (!nO2 s)) := by
    have h := sane_var _ _ (sane_fix s false 1 hsane0)
    have e1 := HO2.out
    have e2 := HT.out
    show Sane _ _
    rw [← e1, ← e2]
    exact h
  have SA3 := Lib.hid (sane_fix _ _ 4 SA2.out)
  obtain ⟨v, hv⟩ : ∃ v, v = nV s := ⟨_, rfl⟩
  obtain ⟨F, hF⟩ : ∃ F, F = fixV s 1 := ⟨_, rfl⟩
  have hlt : F < 256 := by rw [hF]; exact fixV_lt1 s
  have hvF : (F : Int) - 160 = v := by rw [hv, hF]; rfl
  have hw1 : IntKind.i64.wrap (F : Int) = F := IntWalk.i64_in _ (by omega)
  have hw2 : wrap64 ((F : Int) - 160) = v := by rw [← hvF]; unfold wrap64; omega
  have HF : Hid (fixV s 1 = F) := hF.symm
  have HVV : Hid (nV s = v) := hv.symm
  rw [← hv] at h1 HQ HPS KP HNN
  obtain ⟨M, hM⟩ : ∃ M, M = nM s := ⟨_, rfl⟩
  obtain ⟨T, hT⟩ : ∃ T, T = nT s := ⟨_, rfl⟩
  obtain ⟨U, hU⟩ : ∃ U, U = nU s := ⟨_, rfl⟩
  obtain ⟨r, hr⟩ : ∃ r, r = nR s := ⟨_, rfl⟩
  have HB4 : Hid (bytV U M = nBd s) := by show _ = _; rw [hM, hU]; rfl
  have HW4 : Hid (bytT U M = nW s) := by show _ = _; rw [hM, hU]; rfl
  rw [← hM, ← hU, ← hr] at HQ
  rw [← hr, ← hT, ← hU, ← hM] at HR
  rw [← hT] at HT HTS HU HU4 SA2 SA3
  rw [← hU] at HUS HU HU4
  rw [← hM] at HM
  rw [HU4.out] at SA3
  have HML : Hid (M < 18446744073709551616) := by show _ < _; rw [hM]; exact nM_lt s
  obtain ⟨B, hB⟩ : ∃ B, B = nBd s := ⟨_, rfl⟩
  have HBB : Hid (nBd s = B) := hB.symm
  rw [← hB] at HQ HPS HPZ HNN KP HB4
  obtain ⟨P, hP⟩ : ∃ P, P = pkS v B := ⟨_, rfl⟩
  obtain ⟨po, hpo⟩ : ∃ po, po = pkO v B := ⟨_, rfl⟩
  rw [← hP, ← hpo] at KP
  rw [HVV.out, ← hP] at HPZ
  rw [← hpo] at HPS HQ
  rw [← hP] at HPS
  obtain ⟨PK, hPK⟩ : ∃ PK, PK = pack v B := ⟨_, rfl⟩
  rw [← hPK] at HPS HQ HNN
  have hUw : IntKind.u64.wrap (U.size : Int) = U.size := by have := HUS.out; rw [IntKind.wrap_u64]; omega
  
  clear hs hM hT hU hr hF hv hlt hvF hB hP hpo hPK hsane0
  go_enter Try.func13, Try.ntmps13
  go_wp2_with fail
  refine (KN.out _).mono ?_
  rintro e w1 ⟨rfl, hw1'⟩
  have R1 : Hid (Rd 70 w.heap.size s false w1) := by show Rd _ _ _ _ _; rw [hw1']; exact Rd.new w 70 s false
  have B1 : Hid (Below w.heap.size w w1) := by show Below _ _ _; rw [hw1']; exact (Below.refl _ _).alloc (Nat.le_refl _) _
  clear hw1'
  go_wp2_with fail
  refine (rfixedr_any _ _ _ 1 _ R1.out (fun h => by cases h) HS.out).mono ?_
  rintro e w2 ⟨rfl, r2, g2⟩
  rw [HF.out]
  have R2 := Lib.hid r2
  have B2 : Hid (Below w.heap.size w w2) := below_grownBy B1.out g2 B1.out.size (Nat.le_refl _)
  clear r2 g2
  unfold rdp at *
  go_wp2_with fail
  refine (rvar_any _ _ _ _ R2.out HS1.out).mono ?_
  rintro e w4 ⟨rfl, r4, g4⟩
  rw [HM.out]
  rw [HT.out, HO2.out] at r4
  have R4 := Lib.hid r4
  have B4 : Hid (Below w.heap.size w w4) := below_grownBy B2.out g4 B2.out.size (Nat.le_refl _)
  clear r4 g4
  go_wp2_with fail
  refine (rfixedr_any _ _ _ 4 _ R4.out SA2.out (Nat.le_trans HTS.out HS.out)).mono ?_
  rintro e w5 ⟨rfl, r5, g5⟩
  rw [HU4.out] at r5
  have R5 := Lib.hid r5
  have B5 : Hid (Below w.heap.size w w5) := below_grownBy B4.out g5 B4.out.size (Nat.le_refl _)
  have c0 := r5.cell0
  clear r5 g5
  by_cases hgt : (U.size : Int) < (M : Int)
  · have hno : nOk s = false := by rw [HQ.out, decide_eq_false (by omega)]; rfl
    have HNO := Lib.hid hno
    clear hno
    go_wp2
    refine bodyPost_ret (v := _) (by simp [results, Try.results13, go_sem]) rfl ⟨nx_ret_no HNO.out, B5.out⟩
  have hus := HUS.out
  have hMw : IntKind.i64.wrap (M : Int) = M := IntWalk.i64_in _ (by omega)
  have hgt2 : ¬ ((U.size : Int) < (M : Int)) := hgt
  have HGT : Hid (decide (M ≤ U.size) = true) := decide_eq_true (by omega)
  go_wp2_with fail
  refine (rbytes_any _ _ _ (M : Int) _ R5.out SA3.out HUS.out).mono ?_
  rintro e w6 ⟨rfl, r6, g6⟩
  rw [HB4.out]
  have e6 : (!nO2 s || !hasF T 4 || !hasB U (M : Int)) = !r := HR.out
  rw [HW4.out, e6] at r6
  have R6 := Lib.hid r6
  have B6 : Hid (Below w.heap.size w w6) := below_grownBy B5.out g6 B5.out.size (Nat.le_refl _)
  clear r6 g6 c0 hgt hgt2 hMw hUw e6
  go_wp2_with fail
  refine (KP.out _).mono ?_
  rintro e w7 ⟨rfl, b7⟩
  have B7 : Hid (Below w.heap.size w w7) := B6.out.trans (b7.mono B6.out.size)
  have R7 := Lib.hid (R6.out.below b7 R6.out.lt)
  have c1 := R7.out.cell1
  clear b7
  rw [HGT.out, Bool.true_and] at HQ
  cases r with
  | false =>
    have HNO : Hid (nOk s = false) := HQ.out
    go_wp2
    refine bodyPost_ret (v := _) (by simp [results, Try.results13, go_sem]) rfl ⟨nx_ret_no HNO.out, B7.out⟩
  | true =>
    cases po with
    | false =>
      have HNO : Hid (nOk s = false) := HQ.out
      go_wp2
      refine bodyPost_ret (v := _) (by simp [results, Try.results13, go_sem]) rfl ⟨nx_ret_no HNO.out, B7.out⟩
    | true =>
      have hpk := HPS.out rfl
      subst hpk
      by_cases hlen : (s.size : Int) < (P.size : Int)
      · have HNO : Hid (nOk s = false) := by show _ = _; rw [HQ.out, decide_eq_false (show ¬ P.size ≤ s.size by omega)]; rfl
        go_wp2
        refine bodyPost_ret (v := _) (by simp [results, Try.results13, go_sem]) rfl ⟨nx_ret_no HNO.out, B7.out⟩
      · have hle : P.size ≤ s.size := by omega
        obtain ⟨q, hq⟩ : ∃ q, ((s.extract 0 P.size).toList == P.toList) = q := ⟨_, rfl⟩
        have HQ2 : Hid (nOk s = q) := by show _ = _; rw [HQ.out, decide_eq_true hle, hq]; rfl
        cases q with
        | false =>
          go_wp2
          refine bodyPost_ret (v := _) (by simp [results, Try.results13, go_sem]) rfl ⟨nx_ret_no HQ2.out, B7.out⟩
        | true =>
          go_wp2
          refine bodyPost_ret (v := .tuple #[.int .i64 v, .string B, .int .i64 P.size, .bool true]) (by simp [results, Try.results13, go_sem, hw2]) rfl ⟨nx_ret_yes HQ2.out HVV.out HBB.out (HNN.out HQ2.out), B7.out⟩
theorem rnext_any (s : ByteArray) (w : World) (hs : s.size ≤ 281474976710656) :
    Calls Try.prog 13 #[.string s] w fun e w' => e = .returned (.tuple #[.int .i64 (nxV s), .string (nxB s), .int .i64 (nxN s), .bool (nOk s)]) ∧ Below w.heap.size w w' := by
  by_cases h1 : nV s = 1
  · exact rnext1_any s w hs h1
  · exact rnextO_any s w hs h1
set_option maxHeartbeats 4000000 in
set_option maxRecDepth 100000 in
theorem runpack_any (s : ByteArray) (w : World) (hs : s.size ≤ 281474976710656) :
    Calls Try.prog 15 #[.string s] w fun e w' => e = .returned (.tuple #[.int .i64 (uV s), .string (uB s), .bool (uO s)]) ∧ Below w.heap.size w w' := by
  have KN := Lib.hid (rnext_any s w hs)
  have hu : uO s = (nOk s && decide (nxN s = s.size)) := rfl
  have U1 := Lib.hid (fun h => u_ret_no (s := s) h)
  have U2 := Lib.hid (fun h => u_ret_yes (s := s) h)
  obtain ⟨ok, hok⟩ : ∃ ok, ok = nOk s := ⟨_, rfl⟩
  rw [← hok] at KN hu
  obtain ⟨n, hn⟩ : ∃ n, n = nxN s := ⟨_, rfl⟩
  rw [← hn] at KN hu
  clear hok hn
  cases ok with
  | false =>
    have HU := Lib.hid (U1.out hu)
    clear hu U1 U2
    go_enter Try.func15, Try.ntmps15
    go_wp2_with fail
    refine KN.out.mono ?_
    rintro e w1 ⟨rfl, b1⟩
    go_wp2
    refine bodyPost_ret (v := _) (by simp [results, Try.results15, go_sem]) rfl ⟨HU.out, b1⟩
  | true =>
    by_cases hlt : n = (s.size : Int)
    · have HU := Lib.hid (U2.out (by rw [hu, decide_eq_true hlt]; rfl))
      clear hu U1 U2
      go_enter Try.func15, Try.ntmps15
      go_wp2_with fail
      refine KN.out.mono ?_
      rintro e w1 ⟨rfl, b1⟩
      go_wp2
      refine bodyPost_ret (v := _) (by simp [results, Try.results15, go_sem]) rfl ⟨HU.out, b1⟩
    · have HU := Lib.hid (U1.out (by rw [hu, decide_eq_false hlt]; rfl))
      clear hu U1 U2
      go_enter Try.func15, Try.ntmps15
      go_wp2_with fail
      refine KN.out.mono ?_
      rintro e w1 ⟨rfl, b1⟩
      go_wp2
      refine bodyPost_ret (v := _) (by simp [results, Try.results15, go_sem]) rfl ⟨HU.out, b1⟩
end Go.Proofs.Ytpdbeijfchmlgaa
