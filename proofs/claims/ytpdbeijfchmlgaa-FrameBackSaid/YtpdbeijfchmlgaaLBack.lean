/-
  FrameBack, walked: true for every input.
  Conditions: what came in is as its types say.
-/
import Derived.Test.YtpdbeijfchmlgaaFX
namespace Go.Proofs.Ytpdbeijfchmlgaa
open Go.RowKit
open Vi
set_option linter.unusedVariables false
set_option linter.unusedSimpArgs false
theorem one120 : (⟨#[120]⟩ : ByteArray).size = 1 := rfl
theorem min_eq (n : Nat) (c : Int) (m : Nat) (h : (m : Int) = min (n : Int) c) : (if c < (n : Int) then c else (n : Int)) = m := by
  split <;> omega
set_option maxHeartbeats 1000000 in
set_option maxRecDepth 100000 in
theorem lback_any (two_ : Bool) (body more : ByteArray) (cut : Nat) (w : World) (hb : body.size ≤ 140737488351232) (hm : more.size ≤ 140737488351232) (hc : cut < 65536) :
    Calls Try.prog 5 #[.bool two_, .string body, .string more, .int .u16 cut] w fun r w' => r = .returned (.bool true) ∧ Below w.heap.size w w' := by
  have KE := Lib.hid (fun (W : World) => examples_any W)
  obtain ⟨B, hB⟩ : ∃ B, B = body.extract 0 (min (body.size : Int) 1000).toNat := ⟨_, rfl⟩
  have hB6 : B.size ≤ 1048576 := by rw [hB, ByteArray.size_extract]; omega
  have hBe : Hid (body.extract 0 (min (body.size : Int) 1000).toNat = B) := hB.symm
  clear hB
  cases two_ with
  | false =>
    obtain ⟨P, hP1⟩ : ∃ P, P = pack 1 B := ⟨_, rfl⟩
    have hp4 := pack_pos 1 B
    have hp8 := pack_size (pkO_short (v := 1) (by decide) hB6)
    rw [← hP1] at hp4 hp8
    obtain ⟨k, hk⟩ : ∃ k : Nat, k = cut % P.size := ⟨_, rfl⟩
    have hkl : k < P.size := by rw [hk]; exact Nat.mod_lt _ (by omega)
    have hrem : ((cut : Int)).tmod (P.size : Int) = k := by rw [hk, Int.tmod_eq_emod_of_nonneg (by omega)]; exact (Int.natCast_emod _ _).symm
    have hpn := tl_ne (show 0 < P.size by omega)
    have hpne : P.toList.isEmpty = false := by cases hq : P.toList with | nil => exact absurd hq hpn | cons a l => rfl
    have hnz : ¬ (P.size : Int) = 0 := by omega
    have hadd : ¬ 9223372036854775807 < P.size + more.size := by omega
    have hadx : ¬ 9223372036854775807 < P.size + 1 := by omega
    clear hk
    have K9 : Hid (∀ W, Calls Try.prog 9 #[.int .i64 1, .string B] W fun q w' => q = .returned (.tuple #[.string P, .bool true]) ∧ Below W.heap.size W w') := fun W => by rw [hP1]; exact packK_any 1 B W (by decide) hB6
    have KA : Hid (∀ W, Calls Try.prog 12 #[.string (P ++ more)] W fun q w' => q = .returned (.tuple #[.int .i64 1, .string B, .int .i64 P.size, .bool true]) ∧ Below W.heap.size W w') := fun W => (next_any (P ++ more) W (by rw [ByteArray.size_append]; omega)).mono fun q w' ⟨h1, h2⟩ => ⟨by obtain ⟨e1, e2, e3, e4⟩ := nx_pack (pkO_short (v := 1) (by decide) hB6) more; rw [← hP1] at e1 e2 e3 e4; rw [h1, e1, e2, e3, e4], h2⟩
    have KB : Hid (∀ W, Calls Try.prog 14 #[.string P] W fun q w' => q = .returned (.tuple #[.int .i64 1, .string B, .bool true]) ∧ Below W.heap.size W w') := fun W => (unpack_any P W (by omega)).mono fun q w' ⟨h1, h2⟩ => ⟨by obtain ⟨e1, e2, e3⟩ := u_pack (pkO_short (v := 1) (by decide) hB6); rw [← hP1] at e1 e2 e3; rw [h1, e1, e2, e3], h2⟩
    have KC : Hid (∀ W, Calls Try.prog 12 #[.string (P.extract 0 k)] W fun q w' => q = .returned (.tuple #[.int .i64 0, .string ⟨#[]⟩, .int .i64 0, .bool false]) ∧ Below W.heap.size W w') := fun W => (next_any (P.extract 0 k) W (by rw [ByteArray.size_extract]; omega)).mono fun q w' ⟨h1, h2⟩ => ⟨by have e1 := nx_cut (pkO_short (v := 1) (by decide) hB6) k (by rw [← hP1]; omega); rw [← hP1] at e1; exact h1.trans (nx_ret_no e1).symm, h2⟩
    have KD : Hid (∀ W, Calls Try.prog 14 #[.string (P ++ ⟨#[120]⟩)] W fun q w' => q = .returned (.tuple #[.int .i64 0, .string ⟨#[]⟩, .bool false]) ∧ Below W.heap.size W w') := fun W => by rw [hP1]; exact u_long_any (pkO_short (by decide) hB6) rfl W
    clear hP1 hB6
    go_enter Try.func5, Try.ntmps5
    go_wp2_with fail
    refine (KE.out _).mono ?_
    rintro q w1 ⟨rfl, b1⟩
    have B1 := Lib.hid b1
    clear b1
    go_wp2_with fail
    rw [hBe.out]
    refine (K9.out _).mono ?_
    rintro q w2 ⟨rfl, b2⟩
    have B2 : Hid (Below w.heap.size w w2) := B1.out.trans (b2.mono B1.out.size)
    clear b2
    go_wp2_with fail
    refine (KA.out _).mono ?_
    rintro q w3 ⟨rfl, b3⟩
    have B3 : Hid (Below w.heap.size w w3) := B2.out.trans (b3.mono B2.out.size)
    clear b3
    go_wp2_with fail
    refine (KB.out _).mono ?_
    rintro q w4 ⟨rfl, b4⟩
    have B4 : Hid (Below w.heap.size w w4) := B3.out.trans (b4.mono B3.out.size)
    clear b4
    go_wp2_with fail
    refine (KC.out _).mono ?_
    rintro q w5 ⟨rfl, b5⟩
    have B5 : Hid (Below w.heap.size w w5) := B4.out.trans (b5.mono B4.out.size)
    clear b5
    go_wp2_with fail
    refine (KD.out _).mono ?_
    rintro q w6 ⟨rfl, b6⟩
    have B6 : Hid (Below w.heap.size w w6) := B5.out.trans (b6.mono B5.out.size)
    clear b6
    go_wp2
    go_ret
    exact ⟨rfl, B6.out⟩
  | true =>
    obtain ⟨P, hP2⟩ : ∃ P, P = pack 2 B := ⟨_, rfl⟩
    have hp4 := pack_pos 2 B
    have hp8 := pack_size (pkO_short (v := 2) (by decide) hB6)
    rw [← hP2] at hp4 hp8
    obtain ⟨k, hk⟩ : ∃ k : Nat, k = cut % P.size := ⟨_, rfl⟩
    have hkl : k < P.size := by rw [hk]; exact Nat.mod_lt _ (by omega)
    have hrem : ((cut : Int)).tmod (P.size : Int) = k := by rw [hk, Int.tmod_eq_emod_of_nonneg (by omega)]; exact (Int.natCast_emod _ _).symm
    have hpn := tl_ne (show 0 < P.size by omega)
    have hpne : P.toList.isEmpty = false := by cases hq : P.toList with | nil => exact absurd hq hpn | cons a l => rfl
    have hnz : ¬ (P.size : Int) = 0 := by omega
    have hadd : ¬ 9223372036854775807 < P.size + more.size := by omega
    have hadx : ¬ 9223372036854775807 < P.size + 1 := by omega
    clear hk
    have K9 : Hid (∀ W, Calls Try.prog 9 #[.int .i64 2, .string B] W fun q w' => q = .returned (.tuple #[.string P, .bool true]) ∧ Below W.heap.size W w') := fun W => by rw [hP2]; exact packK_any 2 B W (by decide) hB6
    have KA : Hid (∀ W, Calls Try.prog 12 #[.string (P ++ more)] W fun q w' => q = .returned (.tuple #[.int .i64 2, .string B, .int .i64 P.size, .bool true]) ∧ Below W.heap.size W w') := fun W => (next_any (P ++ more) W (by rw [ByteArray.size_append]; omega)).mono fun q w' ⟨h1, h2⟩ => ⟨by obtain ⟨e1, e2, e3, e4⟩ := nx_pack (pkO_short (v := 2) (by decide) hB6) more; rw [← hP2] at e1 e2 e3 e4; rw [h1, e1, e2, e3, e4], h2⟩
    have KB : Hid (∀ W, Calls Try.prog 14 #[.string P] W fun q w' => q = .returned (.tuple #[.int .i64 2, .string B, .bool true]) ∧ Below W.heap.size W w') := fun W => (unpack_any P W (by omega)).mono fun q w' ⟨h1, h2⟩ => ⟨by obtain ⟨e1, e2, e3⟩ := u_pack (pkO_short (v := 2) (by decide) hB6); rw [← hP2] at e1 e2 e3; rw [h1, e1, e2, e3], h2⟩
    have KC : Hid (∀ W, Calls Try.prog 12 #[.string (P.extract 0 k)] W fun q w' => q = .returned (.tuple #[.int .i64 0, .string ⟨#[]⟩, .int .i64 0, .bool false]) ∧ Below W.heap.size W w') := fun W => (next_any (P.extract 0 k) W (by rw [ByteArray.size_extract]; omega)).mono fun q w' ⟨h1, h2⟩ => ⟨by have e1 := nx_cut (pkO_short (v := 2) (by decide) hB6) k (by rw [← hP2]; omega); rw [← hP2] at e1; exact h1.trans (nx_ret_no e1).symm, h2⟩
    have KD : Hid (∀ W, Calls Try.prog 14 #[.string (P ++ ⟨#[120]⟩)] W fun q w' => q = .returned (.tuple #[.int .i64 0, .string ⟨#[]⟩, .bool false]) ∧ Below W.heap.size W w') := fun W => by rw [hP2]; exact u_long_any (pkO_short (by decide) hB6) rfl W
    clear hP2 hB6
    go_enter Try.func5, Try.ntmps5
    go_wp2_with fail
    refine (KE.out _).mono ?_
    rintro q w1 ⟨rfl, b1⟩
    have B1 := Lib.hid b1
    clear b1
    go_wp2_with fail
    rw [hBe.out]
    refine (K9.out _).mono ?_
    rintro q w2 ⟨rfl, b2⟩
    have B2 : Hid (Below w.heap.size w w2) := B1.out.trans (b2.mono B1.out.size)
    clear b2
    go_wp2_with fail
    refine (KA.out _).mono ?_
    rintro q w3 ⟨rfl, b3⟩
    have B3 : Hid (Below w.heap.size w w3) := B2.out.trans (b3.mono B2.out.size)
    clear b3
    go_wp2_with fail
    refine (KB.out _).mono ?_
    rintro q w4 ⟨rfl, b4⟩
    have B4 : Hid (Below w.heap.size w w4) := B3.out.trans (b4.mono B3.out.size)
    clear b4
    go_wp2_with fail
    refine (KC.out _).mono ?_
    rintro q w5 ⟨rfl, b5⟩
    have B5 : Hid (Below w.heap.size w w5) := B4.out.trans (b5.mono B4.out.size)
    clear b5
    go_wp2_with fail
    refine (KD.out _).mono ?_
    rintro q w6 ⟨rfl, b6⟩
    have B6 : Hid (Below w.heap.size w w6) := B5.out.trans (b6.mono B5.out.size)
    clear b6
    go_wp2
    go_ret
    exact ⟨rfl, B6.out⟩
end Go.Proofs.Ytpdbeijfchmlgaa
