/-
  FrameNext, walked: true for every input.
  Conditions: what came in is as its types say.
-/
import Derived.Test.YtpdbeijfchmlgaaLNextM
namespace Go.Proofs.Ytpdbeijfchmlgaa
open Go.RowKit
open Vi
set_option linter.unusedVariables false
set_option linter.unusedSimpArgs false
theorem below_drewN {B : Nat} {a w : World} (h : Below B a w) (n : Nat) : Below B a (w.drewN n) := ⟨h.os, h.tape, h.output, h.size, h.block⟩
set_option maxHeartbeats 2000000 in
set_option maxRecDepth 100000 in
theorem lnext_some (a : Addr) (n cap : Nat) (Sx : Nat → ByteArray) (bits : Nat) (w : World) (hnc : n ≤ cap) (hcm : cap ≤ maxLen) (hb : 0 < n → a.block < w.heap.size)
    (hc : ∀ j, j < n → w.cell? (a.add j) = some (.string (Sx j)) ∧ (Sx j).size ≤ maxLen) (hbits : bits < 256) :
    Calls Try.prog 7 #[.slice (some a) n cap, .int .u8 bits] w fun r w' => r = .returned (.bool true) ∧ Below w.heap.size w w' := by
  have KE := Lib.hid (fun (W : World) => examples_any W)
  obtain ⟨m, hm⟩ : ∃ m : Nat, (m : Int) = min (n : Int) 6 := ⟨min n 6, by omega⟩
  have hmm : min (n : Int) 6 = (m : Int) := hm.symm
  have hmn : m ≤ n := by omega
  have hm6 : m ≤ 6 := by omega
  have hmc : m ≤ cap := by omega
  have HC := Lib.hid hc
  have HB := Lib.hid hb
  clear hm hc hb
  unfold maxLen at hcm
  go_enter Try.func7, Try.ntmps7
  go_wp2_with fail
  refine (KE.out _).mono ?_
  rintro q w1 ⟨rfl, b1⟩
  have B1 := Lib.hid b1
  clear b1
  go_wp2
  go_loopw [6, 7] (fun s i wr => ∃ k : Nat, k ≤ m ∧ i = .int .i64 k ∧ s = .string (catL (frames Sx bits k)) ∧ Below w.heap.size w wr) (fun _ i _ => m - (intOf i).toNat)
  case atStart => exact ⟨0, by omega, rfl, rfl, B1.out⟩
  case round =>
    obtain ⟨k, hk, rfl, rfl, hBr⟩ := hrel
    by_cases hlt : k < m
    · have hcell : wr.cell? (a.add k) = some (.string (Sx k)) := (hBr.cell (p := a.add k) (by rw [block_of_add]; exact HB.out (by omega))).trans (HC.out k (by omega)).1
      have hsz : (Sx k).size ≤ maxLen := (HC.out k (by omega)).2
      unfold maxLen at hsz
      have hfs := cat_size Sx bits k (by omega)
      obtain ⟨B, hB⟩ : ∃ B, B = nb60 (Sx k) := ⟨_, rfl⟩
      obtain ⟨mm, hmm2⟩ : ∃ mm : Nat, min ((Sx k).size : Int) 60 = mm := ⟨min (Sx k).size 60, by omega⟩
      have hmz : mm ≤ (Sx k).size := by omega
      have hBe : (Sx k).extract 0 mm = B := by rw [hB]; unfold nb60; rw [hmm2]; rfl
      obtain ⟨v, hv⟩ : ∃ v, v = nv bits k := ⟨_, rfl⟩
      have hve : IntKind.i64.wrap (1 + IntKind.i64.wrap (((bits : Int) / 2 ^ k).tmod 2)) = v := by
        rw [hv]
        unfold nv
        have hx : 0 ≤ (bits : Int) / 2 ^ k := Int.ediv_nonneg (by omega) (Int.le_of_lt (Int.pow_pos (by omega)))
        generalize (bits : Int) / 2 ^ k = x at *
        rw [Int.tmod_eq_emod_of_nonneg hx, IntWalk.i64_in (x % 2) (by omega)]
        exact IntWalk.i64_in _ (by omega)
      have hpo := frame_o Sx bits k
      rw [← hv, ← hB] at hpo
      obtain ⟨P, hP⟩ : ∃ P, P = pack v B := ⟨_, rfl⟩
      have hpz := pack_size hpo
      rw [← hP] at hpz
      have KP : Hid (∀ W, Calls Try.prog 9 #[.int .i64 v, .string B] W fun q w' => q = .returned (.tuple #[.string P, .bool true]) ∧ Below W.heap.size W w') := fun W => (pack_any v B W).mono fun q w' ⟨h1, h2⟩ => ⟨by rw [h1, hpo]; unfold pkS; rw [if_pos hpo, hP], h2⟩
      have HF : Hid (catL (frames Sx bits (k + 1)) = catL (frames Sx bits k) ++ P) := by show _ = _; rw [hP, hv, hB]; exact catL_snoc _ _
      generalize catL (frames Sx bits k) = F at *
      obtain ⟨s, hs⟩ : ∃ s, s = Sx k := ⟨_, rfl⟩
      rw [← hs] at hcell hsz hBe hmm2 hmz
      clear hB hv hpo hP hs
      go_upto_region 9 with fail
      have hcd : wr.drew.cell? (a.add k) = some (.string s) := hcell
      have BD : Hid (Below w.heap.size w wr.drew) := hBr.drew
      go_region_held3 (fun W' => W'.cell? (a.add k) = some (.string s)) (first | exact hcd | assumption)
        (first | (go_at_call 9; (with_reducible refine (KP.out _).mono ?_); rintro q w2 ⟨rfl, b2⟩; have hk2 := (b2.cell (p := a.add k) (World.block_lt_of_cell? _ _ hcd)).trans hcd))
      have BW : Hid (Below w.heap.size w w2) := BD.out.trans (b2.mono BD.out.size)
      clear b2 hk2 hcd hcell hve hBe hmm2 hmz
      have hadd : ¬ 9223372036854775807 < F.size + P.size := by omega
      go_wp2
      go_roundw
      case rel => exact ⟨k + 1, by omega, by go_num, by rw [HF.out], BW.out⟩
      case measure => simp [intOf]; omega
    · have hkm : k = m := by omega
      subst hkm
      have HFR : Hid (catL (frames Sx bits k) = catL (rest Sx bits 0 k)) := by show _ = _; rw [frames_rest]
      have BR := Lib.hid hBr
      clear hBr hk
      go_wp2
      rw [HFR.out]
      go_loopw [6, 10] (fun s i wr => ∃ d j : Nat, d + j = k ∧ i = .int .i64 d ∧ s = .string (catL (rest Sx bits d j)) ∧ Below w.heap.size w wr) (fun _ i _ => k - (intOf i).toNat)
      case atStart => exact ⟨0, k, by omega, rfl, rfl, BR.out⟩
      case round =>
        obtain ⟨d, j, hdj, rfl, rfl, hBs⟩ := hrel
        by_cases hlt2 : d < k
        · obtain ⟨j, rfl⟩ : ∃ j', j = j' + 1 := ⟨j - 1, by omega⟩
          obtain ⟨B, hB⟩ : ∃ B, B = nb60 (Sx d) := ⟨_, rfl⟩
          obtain ⟨v, hv⟩ : ∃ v, v = nv bits d := ⟨_, rfl⟩
          have hpo := frame_o Sx bits d
          rw [← hv, ← hB] at hpo
          obtain ⟨R, hR⟩ : ∃ R, R = catL (rest Sx bits (d + 1) j) := ⟨_, rfl⟩
          obtain ⟨P, hP⟩ : ∃ P, P = pack v B := ⟨_, rfl⟩
          obtain ⟨U, hU⟩ : ∃ U, U = P ++ R := ⟨_, rfl⟩
          have hcat : catL (rest Sx bits d (j + 1)) = U := by rw [hU, hP, hv, hB, hR]; rfl
          have hnx := nx_pack hpo R
          rw [← hP, ← hU] at hnx
          have hrz := rest_size Sx bits j (d + 1)
          rw [← hR] at hrz
          have hpz := pack_size hpo
          have hp4 := pack_pos v B
          rw [← hP] at hpz hp4
          have hUz : U.size = P.size + R.size := by rw [hU, ByteArray.size_append]
          have hUs : U.size ≤ 281474976710656 := by omega
          have hex : U.extract P.size U.size = R := by rw [hU]; exact extract_right P R
          have KN : Hid (∀ W, Calls Try.prog 12 #[.string U] W fun q w' => q = .returned (.tuple #[.int .i64 v, .string B, .int .i64 P.size, .bool true]) ∧ Below W.heap.size W w') := fun W => (next_any U W hUs).mono fun q w' ⟨h1, h2⟩ => ⟨by rw [h1, hnx.1, hnx.2.1, hnx.2.2.1, hnx.2.2.2], h2⟩
          have hsz : (Sx d).size ≤ maxLen := (HC.out d (by omega)).2
          unfold maxLen at hsz
          obtain ⟨mm, hmm2⟩ : ∃ mm : Nat, min ((Sx d).size : Int) 60 = mm := ⟨min (Sx d).size 60, by omega⟩
          have hmz : mm ≤ (Sx d).size := by omega
          have hBe : (Sx d).extract 0 mm = B := by rw [hB]; unfold nb60; rw [hmm2]; rfl
          have hve : IntKind.i64.wrap (1 + IntKind.i64.wrap (((bits : Int) / 2 ^ d).tmod 2)) = v := by
            rw [hv]
            unfold nv
            have hx : 0 ≤ (bits : Int) / 2 ^ d := Int.ediv_nonneg (by omega) (Int.le_of_lt (Int.pow_pos (by omega)))
            generalize (bits : Int) / 2 ^ d = x at *
            rw [Int.tmod_eq_emod_of_nonneg hx, IntWalk.i64_in (x % 2) (by omega)]
            exact IntWalk.i64_in _ (by omega)
          have hcell : wr.cell? (a.add d) = some (.string (Sx d)) := (hBs.cell (p := a.add d) (by rw [block_of_add]; exact HB.out (by omega))).trans (HC.out d (by omega)).1
          have HRR := Lib.hid hR
          rw [hcat]
          obtain ⟨s, hs⟩ : ∃ s, s = Sx d := ⟨_, rfl⟩
          rw [← hs] at hcell hsz hBe hmm2 hmz
          clear hB hv hpo hR hP hU hcat hnx hrz hs
          have BS := Lib.hid hBs
          have HLT := Lib.hid (World.block_lt_of_cell? _ _ hcell)
          have HCELL := Lib.hid hcell
          clear hBs hcell
          go_wp2_with fail
          refine (KN.out _).mono ?_
          rintro q w2 ⟨rfl, b2⟩
          have BW : Hid (Below w.heap.size w w2) := BS.out.trans (b2.mono BS.out.size)
          have hcell : w2.cell? (a.add d) = some (.string s) := (b2.cell (p := a.add d) HLT.out).trans HCELL.out
          clear b2
          go_upto_region 17 with fail
          have hcd : w2.drew.cell? (a.add d) = some (.string s) := hcell
          have hn1 : ¬ (P.size : Int) < 1 := by omega
          have hn2 : ¬ (U.size : Int) < (P.size : Int) := by omega
          have hn3 : (P.size : Int) ≤ U.size := by omega
          go_quiet (fail)
          clear hcd hcell hve hBe hmm2 hmz hsz
          go_wp2
          go_roundw
          case rel => exact ⟨d + 1, j, by omega, by go_num, by rw [← HRR.out, ← hUz, hex], below_drewN BW.out _⟩
          case measure => simp [intOf]; omega
        · have hj0 : j = 0 := by omega
          subst hj0
          have hdk : d = k := by omega
          subst hdk
          have hrn : catL (rest Sx bits d 0) = ⟨#[]⟩ := rfl
          rw [hrn]
          have BS := Lib.hid hBs
          have hnn : nOk ⟨#[]⟩ = false := by
            have h1 : nV ⟨#[]⟩ = -160 := by decide +kernel
            unfold nOk
            rw [h1]
            rfl
          have KN : Hid (∀ W, Calls Try.prog 12 #[.string ⟨#[]⟩] W fun q w' => q = .returned (.tuple #[.int .i64 0, .string ⟨#[]⟩, .int .i64 0, .bool false]) ∧ Below W.heap.size W w') := fun W => (next_any ⟨#[]⟩ W (by decide)).mono fun q w' ⟨h1, h2⟩ => ⟨h1.trans (nx_ret_no hnn).symm, h2⟩
          clear hBs hnn hrn
          go_wp2_with fail
          refine (KN.out _).mono ?_
          rintro q w2 ⟨rfl, b2⟩
          have BW : Hid (Below w.heap.size w w2) := BS.out.trans (b2.mono BS.out.size)
          clear b2
          go_wp2
          go_ret
          exact ⟨rfl, BW.out⟩
set_option maxHeartbeats 2000000 in
set_option maxRecDepth 100000 in
theorem lnext_nil (bits : Nat) (w : World) (hbits : bits < 256) :
    Calls Try.prog 7 #[.slice none 0 0, .int .u8 bits] w fun r w' => r = .returned (.bool true) ∧ Below w.heap.size w w' := by
  have KE := Lib.hid (fun (W : World) => examples_any W)
  have hnn : nOk ⟨#[]⟩ = false := by
    have h1 : nV ⟨#[]⟩ = -160 := by decide +kernel
    unfold nOk
    rw [h1]
    rfl
  have KN : Hid (∀ W, Calls Try.prog 12 #[.string ⟨#[]⟩] W fun q w' => q = .returned (.tuple #[.int .i64 0, .string ⟨#[]⟩, .int .i64 0, .bool false]) ∧ Below W.heap.size W w') := fun W => (next_any ⟨#[]⟩ W (by decide)).mono fun q w' ⟨h1, h2⟩ => ⟨h1.trans (nx_ret_no hnn).symm, h2⟩
  clear hnn
  go_enter Try.func7, Try.ntmps7
  go_wp2_with fail
  refine (KE.out _).mono ?_
  rintro q w1 ⟨rfl, b1⟩
  have B1 := Lib.hid b1
  clear b1
  go_wp2
  go_loopw [6, 7] (fun s i wr => i = .int .i64 0 ∧ s = .string ⟨#[]⟩ ∧ Below w.heap.size w wr) (fun _ _ _ => 0)
  case atStart => exact ⟨rfl, rfl, B1.out⟩
  case round =>
    obtain ⟨rfl, rfl, hBr⟩ := hrel
    have BR := Lib.hid hBr
    clear hBr
    go_wp2
    go_loopw [6, 10] (fun s i wr => i = .int .i64 0 ∧ s = .string ⟨#[]⟩ ∧ Below w.heap.size w wr) (fun _ _ _ => 0)
    case atStart => exact ⟨rfl, rfl, BR.out⟩
    case round =>
      obtain ⟨rfl, rfl, hBs⟩ := hrel
      have BS := Lib.hid hBs
      clear hBs
      go_wp2_with fail
      refine (KN.out _).mono ?_
      rintro q w2 ⟨rfl, b2⟩
      have BW : Hid (Below w.heap.size w w2) := BS.out.trans (b2.mono BS.out.size)
      clear b2
      go_wp2
      go_ret
      exact ⟨rfl, BW.out⟩
end Go.Proofs.Ytpdbeijfchmlgaa
