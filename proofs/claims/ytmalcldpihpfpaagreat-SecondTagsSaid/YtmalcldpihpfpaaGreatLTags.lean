/-
  SecondTags, walked: true for every input.
  Conditions: what came in is as its types say.
-/
import Derived.Test.YtmalcldpihpfpaaGreatLEntries
namespace Go.Proofs.YtmalcldpihpfpaaGreat
open Go.RowKit
open Vi
set_option linter.unusedVariables false
set_option linter.unusedSimpArgs false
set_option maxHeartbeats 1000000 in
set_option maxRecDepth 100000 in
theorem ltags_any (a b t : Nat) (w : World) (ha : a < 4294967296) (hb : b < 4294967296) (ht : t < 256) :
    Calls Tryz.prog 8 #[.int .u32 a, .int .u32 b, .int .u8 t] w fun r w' => r = .returned (.bool true) ∧ Below w.heap.size w w' := by
  have KE := Lib.hid (fun (W : World) => examples_any W)
  obtain ⟨A, hA⟩ : ∃ A : Nat, (a : Int) + 1 = (A : Int) := ⟨a + 1, by omega⟩
  obtain ⟨B, hB⟩ : ∃ B : Nat, (b : Int) + 1 = (B : Int) := ⟨b + 1, by omega⟩
  obtain ⟨C, hC⟩ : ∃ C : Nat, (t : Int) + 12 = (C : Int) := ⟨t + 12, by omega⟩
  have eA : A = a + 1 := by omega
  have eB : B = b + 1 := by omega
  have eC : C = t + 12 := by omega
  obtain ⟨M, hM⟩ : ∃ M, M = putB A := ⟨_, rfl⟩
  obtain ⟨N, hN⟩ : ∃ N, N = putB B := ⟨_, rfl⟩
  obtain ⟨K, hK⟩ : ∃ K, K = putB C := ⟨_, rfl⟩
  have zM : M.size ≤ 10 := by rw [hM]; exact putB_size A (by omega)
  have zN : N.size ≤ 10 := by rw [hN]; exact putB_size B (by omega)
  have zK : K.size ≤ 10 := by rw [hK]; exact putB_size C (by omega)
  have KA : Hid (∀ W, Calls Tryz.prog 29 #[.int .u64 A] W fun q w' => q = .returned (.string M) ∧ Below W.heap.size W w') := fun W => by rw [hM]; exact put_any A W (by omega)
  have KB : Hid (∀ W, Calls Tryz.prog 29 #[.int .u64 B] W fun q w' => q = .returned (.string N) ∧ Below W.heap.size W w') := fun W => by rw [hN]; exact put_any B W (by omega)
  have KC : Hid (∀ W, Calls Tryz.prog 29 #[.int .u64 C] W fun q w' => q = .returned (.string K) ∧ Below W.heap.size W w') := fun W => by rw [hK]; exact put_any C W (by omega)
  have t0 := tag_0 a b ha hb
  have t1 := tag_1 a b ha hb
  have t2 := tag_2 a b ha hb
  have t3 := tag_3 a b t ha hb ht
  have t4 := tag_4 a b ha hb
  have t5 := tag_5 a b ha hb
  have t6 := tag_6 a b ha hb
  have t7 := tag_7 a b ha hb
  rw [← eA, ← eB, ← hM, ← hN] at t0 t1 t2 t3 t4 t6 t7
  rw [← eA, ← hM] at t5
  rw [← eC, ← hK] at t3
  have H0 := Lib.hid t0
  have H1 := Lib.hid t1
  have H2 := Lib.hid t2
  have H3 := Lib.hid t3
  have H4 := Lib.hid t4
  have H5 := Lib.hid t5
  have H6 := Lib.hid t6
  have H7 := Lib.hid t7
  have s1 : (⟨#[3]⟩ : ByteArray).size = 1 := rfl
  have s2 : (⟨#[2]⟩ : ByteArray).size = 1 := rfl
  have s3 : (⟨#[0]⟩ : ByteArray).size = 1 := rfl
  have s4 : (⟨#[1, 0, 2]⟩ : ByteArray).size = 3 := rfl
  have s5 : (⟨#[1, 0]⟩ : ByteArray).size = 2 := rfl
  have s6 : (⟨#[10, 0, 0]⟩ : ByteArray).size = 3 := rfl
  clear t0 t1 t2 t3 t4 t5 t6 t7 hM hN hK
  have EA := Lib.hid eA
  have EB := Lib.hid eB
  clear eA eB eC
  go_enter Tryz.func8, Tryz.ntmps8
  go_wp2_with fail
  refine (KE.out _).mono ?_
  rintro q w1 ⟨rfl, b1⟩
  have B1 := Lib.hid b1
  clear b1
  go_wp2_with fail
  refine (KA.out _).mono ?_
  rintro q w2 ⟨rfl, b2⟩
  have B2 : Hid (Below w.heap.size w w2) := B1.out.trans (b2.mono B1.out.size)
  clear b2
  go_wp2_with fail
  refine (KB.out _).mono ?_
  rintro q w3 ⟨rfl, b3⟩
  have B3 : Hid (Below w.heap.size w w3) := B2.out.trans (b3.mono B2.out.size)
  clear b3
  go_wp2_with fail
  refine (KC.out _).mono ?_
  rintro q w4 ⟨rfl, b4⟩
  have B4 : Hid (Below w.heap.size w w4) := B3.out.trans (b4.mono B3.out.size)
  clear b4
  go_upto_region 7 with fail
  obtain ⟨W5, hW5⟩ : ∃ W5, W5 = w4.alloc (Obj.cells #[.string (⟨#[3]⟩ ++ N ++ ⟨#[2]⟩ ++ M ++ ⟨#[0]⟩), .string (⟨#[2]⟩ ++ M ++ ⟨#[2]⟩ ++ M ++ ⟨#[3]⟩ ++ N ++ ⟨#[0]⟩), .string (⟨#[1, 0, 2]⟩ ++ M ++ ⟨#[3]⟩ ++ N ++ ⟨#[0]⟩), .string (⟨#[2]⟩ ++ M ++ ⟨#[3]⟩ ++ N ++ K ++ ⟨#[1, 0]⟩), .string (⟨#[2]⟩ ++ M ++ ⟨#[3]⟩ ++ N), .string (⟨#[2]⟩ ++ M ++ ⟨#[0]⟩), .string (⟨#[2]⟩ ++ M ++ ⟨#[3]⟩ ++ N ++ ⟨#[10, 0, 0]⟩)] 9) := ⟨_, rfl⟩
  have hk5 : W5.heap[w4.heap.size]? = some (.cells #[.string (⟨#[3]⟩ ++ N ++ ⟨#[2]⟩ ++ M ++ ⟨#[0]⟩), .string (⟨#[2]⟩ ++ M ++ ⟨#[2]⟩ ++ M ++ ⟨#[3]⟩ ++ N ++ ⟨#[0]⟩), .string (⟨#[1, 0, 2]⟩ ++ M ++ ⟨#[3]⟩ ++ N ++ ⟨#[0]⟩), .string (⟨#[2]⟩ ++ M ++ ⟨#[3]⟩ ++ N ++ K ++ ⟨#[1, 0]⟩), .string (⟨#[2]⟩ ++ M ++ ⟨#[3]⟩ ++ N), .string (⟨#[2]⟩ ++ M ++ ⟨#[0]⟩), .string (⟨#[2]⟩ ++ M ++ ⟨#[3]⟩ ++ N ++ ⟨#[10, 0, 0]⟩)] 9 (0, 0)) := by rw [hW5]; exact heap_alloc_new w4 _
  have B5 : Hid (Below w.heap.size w W5) := by show Below _ _ _; rw [hW5]; exact B4.out.alloc B4.out.size _
  rw [← hW5]
  obtain ⟨Tx, hTx⟩ : ∃ Tx : Nat → ByteArray, ∀ k, k < 7 → W5.cell? ⟨w4.heap.size, k, none⟩ = some (.string (Tx k)) ∧ gO (Tx k) false = false ∧ (Tx k).size ≤ 100 := by
    refine ⟨fun k => [⟨#[3]⟩ ++ N ++ ⟨#[2]⟩ ++ M ++ ⟨#[0]⟩, ⟨#[2]⟩ ++ M ++ ⟨#[2]⟩ ++ M ++ ⟨#[3]⟩ ++ N ++ ⟨#[0]⟩, ⟨#[1, 0, 2]⟩ ++ M ++ ⟨#[3]⟩ ++ N ++ ⟨#[0]⟩, ⟨#[2]⟩ ++ M ++ ⟨#[3]⟩ ++ N ++ K ++ ⟨#[1, 0]⟩, ⟨#[2]⟩ ++ M ++ ⟨#[3]⟩ ++ N, ⟨#[2]⟩ ++ M ++ ⟨#[0]⟩, ⟨#[2]⟩ ++ M ++ ⟨#[3]⟩ ++ N ++ ⟨#[10, 0, 0]⟩].getD k ⟨#[]⟩, fun k hk => ?_⟩
    match k, hk with
    | 0, _ => exact ⟨cell_of_row W5 _ 0 _ 9 (0, 0) hk5, H0.out, by show (⟨#[3]⟩ ++ N ++ ⟨#[2]⟩ ++ M ++ ⟨#[0]⟩ : ByteArray).size ≤ 100; simp only [ByteArray.size_append, s1, s2, s3, s4, s5, s6]; omega⟩
    | 1, _ => exact ⟨cell_of_row W5 _ 1 _ 9 (0, 0) hk5, H1.out, by show (⟨#[2]⟩ ++ M ++ ⟨#[2]⟩ ++ M ++ ⟨#[3]⟩ ++ N ++ ⟨#[0]⟩ : ByteArray).size ≤ 100; simp only [ByteArray.size_append, s1, s2, s3, s4, s5, s6]; omega⟩
    | 2, _ => exact ⟨cell_of_row W5 _ 2 _ 9 (0, 0) hk5, H2.out, by show (⟨#[1, 0, 2]⟩ ++ M ++ ⟨#[3]⟩ ++ N ++ ⟨#[0]⟩ : ByteArray).size ≤ 100; simp only [ByteArray.size_append, s1, s2, s3, s4, s5, s6]; omega⟩
    | 3, _ => exact ⟨cell_of_row W5 _ 3 _ 9 (0, 0) hk5, H3.out, by show (⟨#[2]⟩ ++ M ++ ⟨#[3]⟩ ++ N ++ K ++ ⟨#[1, 0]⟩ : ByteArray).size ≤ 100; simp only [ByteArray.size_append, s1, s2, s3, s4, s5, s6]; omega⟩
    | 4, _ => exact ⟨cell_of_row W5 _ 4 _ 9 (0, 0) hk5, H4.out, by show (⟨#[2]⟩ ++ M ++ ⟨#[3]⟩ ++ N : ByteArray).size ≤ 100; simp only [ByteArray.size_append, s1, s2, s3, s4, s5, s6]; omega⟩
    | 5, _ => exact ⟨cell_of_row W5 _ 5 _ 9 (0, 0) hk5, H5.out, by show (⟨#[2]⟩ ++ M ++ ⟨#[0]⟩ : ByteArray).size ≤ 100; simp only [ByteArray.size_append, s1, s2, s3, s4, s5, s6]; omega⟩
    | 6, _ => exact ⟨cell_of_row W5 _ 6 _ 9 (0, 0) hk5, H6.out, by show (⟨#[2]⟩ ++ M ++ ⟨#[3]⟩ ++ N ++ ⟨#[10, 0, 0]⟩ : ByteArray).size ≤ 100; simp only [ByteArray.size_append, s1, s2, s3, s4, s5, s6]; omega⟩
    | k + 7, h => omega
  have HTX := Lib.hid hTx
  have HLT : Hid (w4.heap.size < W5.heap.size) := (Array.getElem?_eq_some_iff.1 hk5).1
  have HA := Lib.hid hA
  have HB := Lib.hid hB
  have HSS : Hid ((⟨#[3]⟩ : ByteArray).size = 1 ∧ (⟨#[2]⟩ : ByteArray).size = 1 ∧ (⟨#[0]⟩ : ByteArray).size = 1) := ⟨s1, s2, s3⟩
  have HZM := Lib.hid zM
  have HZN := Lib.hid zN
  clear hTx hk5 hW5 hA hB hC s1 s2 s3 s4 s5 s6 zM zN zK
  go_wp2
  go_loopw [11] (fun i wr => ∃ k : Nat, k ≤ 7 ∧ i = .int .i64 k ∧ Below W5.heap.size W5 wr) (fun i _ => 7 - (intOf i).toNat)
  case atStart => exact ⟨0, by omega, rfl, Below.refl _ _⟩
  case round =>
    obtain ⟨k, hk, rfl, hBr⟩ := hrel
    have BR := Lib.hid hBr
    clear hBr
    by_cases hlt : k < 7
    · obtain ⟨x1, x2, x3⟩ := HTX.out k hlt
      have hcell : wr.cell? ⟨w4.heap.size, k, none⟩ = some (.string (Tx k)) := (BR.out.cell (p := ⟨w4.heap.size, k, none⟩) HLT.out).trans x1
      obtain ⟨s, hs⟩ : ∃ s, s = Tx k := ⟨_, rfl⟩
      rw [← hs] at x2 x3 hcell
      have X2 := Lib.hid x2
      have X3 := Lib.hid x3
      clear x1 x2 x3 hs
      have hki : (k : Int) < 7 := by omega
      go_wp2_with fail
      refine (new2 s _).mono ?_
      rintro q w6 ⟨rfl, r6, b6, z6⟩
      have R6 := Lib.hid r6
      have B6 : Hid (Below W5.heap.size W5 w6) := BR.out.trans (b6.mono BR.out.size)
      have BS := Lib.hid BR.out.size
      clear r6 b6 z6 hcell
      go_wp2_with fail
      refine (get2 _ _ _ R6.out (by have := X3.out; omega)).mono ?_
      rintro q w7 ⟨rfl, r7, g7⟩
      have B7 : Hid (Below W5.heap.size W5 w7) := below_grownBy B6.out g7 B6.out.size BS.out
      have e7 : (!getO s) = true := by unfold getO; rw [X2.out]; rfl
      rw [e7] at r7
      have R7 := Lib.hid r7
      clear r7 g7 e7
      go_wp2_with fail
      refine (ok2 _ _ _ _ R7.out).mono ?_
      rintro q w8 ⟨rfl, rfl⟩
      go_wp2
      go_roundw
      case rel => exact ⟨k + 1, by omega, by go_num, B7.out⟩
      case measure => simp [intOf]; omega
    · have hk7 : k = 7 := by omega
      subst hk7
      have BW : Hid (Below w.heap.size w wr) := B5.out.trans (BR.out.mono B5.out.size)
      obtain ⟨h7a, h7b⟩ := H7.out
      obtain ⟨s, hs⟩ : ∃ s : ByteArray, s = ⟨#[2]⟩ ++ M ++ ⟨#[3]⟩ ++ N ++ ⟨#[0]⟩ := ⟨_, rfl⟩
      rw [← hs] at h7a h7b
      obtain ⟨s1, s2, s3⟩ := HSS.out
      have zM := HZM.out
      have zN := HZN.out
      have hsz : s.size ≤ 100 := by rw [hs]; simp only [ByteArray.size_append, s1, s2, s3]; omega
      have HSE : Hid (⟨#[2]⟩ ++ M ++ ⟨#[3]⟩ ++ N ++ ⟨#[0]⟩ = s) := hs.symm
      have HSZ := Lib.hid hsz
      have H7A := Lib.hid h7a
      have H7B := Lib.hid h7b
      clear h7a h7b hs hsz
      go_wp2_with fail
      rw [HSE.out]
      refine (new2 s _).mono ?_
      rintro q w6 ⟨rfl, r6, b6, z6⟩
      have R6 := Lib.hid r6
      have B6 : Hid (Below w.heap.size w w6) := BW.out.trans (b6.mono BW.out.size)
      clear r6 b6 z6
      go_wp2_with fail
      refine (get2 _ _ _ R6.out (by have := HSZ.out; omega)).mono ?_
      rintro q w7 ⟨rfl, r7, g7⟩
      have B7 : Hid (Below w.heap.size w w7) := below_grownBy B6.out g7 B6.out.size BW.out.size
      have e7 : (!getO s) = false := by unfold getO; rw [H7A.out]; rfl
      have e8 : getE s = tagE a b := H7B.out
      rw [e7] at r7
      rw [e8]
      obtain ⟨W7, hW7⟩ : ∃ W7, W7 = w7.alloc (Obj.cells (ec (tagE a b)) 24) := ⟨_, rfl⟩
      have bb : Below w7.heap.size w7 W7 := by rw [hW7]; exact (Below.refl _ _).alloc (Nat.le_refl _) _
      have R7 := Lib.hid (r7.below bb r7.lt)
      have hk8 : W7.heap[w7.heap.size]? = some (.cells (ec (tagE a b)) 24 (0, 0)) := by rw [hW7]; exact heap_alloc_new w7 _
      have c0 : W7.cell? ⟨w7.heap.size, 0, none⟩ = some (.int .u64 A) := by rw [EA.out]; exact cell_of_row W7 _ 0 _ 24 (0, 0) hk8
      have c1 : W7.cell? ⟨w7.heap.size, 1, none⟩ = some (.int .u64 B) := by rw [EB.out]; exact cell_of_row W7 _ 1 _ 24 (0, 0) hk8
      have c2 : W7.cell? ⟨w7.heap.size, 2, none⟩ = some (.int .i64 0) := cell_of_row W7 _ 2 _ 24 (0, 0) hk8
      have B8 : Hid (Below w.heap.size w W7) := B7.out.trans (bb.mono B7.out.size)
      have HW7 := Lib.hid hW7
      clear r7 g7 e7 e8 bb hk8 hW7
      have hA := HA.out
      have hB := HB.out
      clear s1 s2 s3 zM zN
      go_upto_region 20 with fail
      rw [← HW7.out]
      go_wp2_with fail
      refine (ok2 _ _ _ _ R7.out).mono ?_
      rintro q w8 ⟨rfl, rfl⟩
      go_wp2
      go_ret
      exact ⟨rfl, B8.out⟩
end Go.Proofs.YtmalcldpihpfpaaGreat
