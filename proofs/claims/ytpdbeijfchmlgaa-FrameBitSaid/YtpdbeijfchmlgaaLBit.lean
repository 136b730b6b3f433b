/-
  FrameBit, walked: true for every input.
  Conditions: what came in is as its types say.
-/
import Derived.Test.YtpdbeijfchmlgaaFX
import Derived.Test.YtpdbeijfchmlgaaFT
namespace Go.Proofs.Ytpdbeijfchmlgaa
open Go.RowKit
open Vi
set_option linter.unusedVariables false
set_option linter.unusedSimpArgs false
set_option maxHeartbeats 1000000 in
set_option maxRecDepth 100000 in
theorem lbit_any (two_ : Bool) (body : ByteArray) (bit : Nat) (w : World) (hb : body.size ≤ 140737488351232) (hbit : bit < 65536) :
    Calls Try.prog 6 #[.bool two_, .string body, .int .u16 bit] w fun r w' => r = .returned (.bool true) ∧ Below w.heap.size w w' := by
  have KE := Lib.hid (fun (W : World) => examples_any W)
  obtain ⟨B, hB⟩ : ∃ B, B = body.extract 0 (min (body.size : Int) 100).toNat := ⟨_, rfl⟩
  have hB1 : B.size ≤ 100 := by rw [hB, ByteArray.size_extract]; omega
  have hB6 : B.size ≤ 1048576 := by omega
  have hBe : Hid (body.extract 0 (min (body.size : Int) 100).toNat = B) := hB.symm
  clear hB
  cases two_ with
  | false =>
    obtain ⟨P, hP⟩ : ∃ P, P = pack 1 B := ⟨_, rfl⟩
    obtain ⟨h, hh⟩ : ∃ h, h = (hdF 1 B.size).size := ⟨_, rfl⟩
    have hko : pkO 1 B = true := pkO_short (by decide) hB6
    have hps : P.size = h + (4 + B.size) := by rw [hP, hh]; unfold pack; rw [ByteArray.size_append, ByteArray.size_append, seal_size]; omega
    have hh11 : h ≤ 11 := by rw [hh]; exact hdF_size _ _ (by omega)
    obtain ⟨k, hk⟩ : ∃ k : Nat, k = bit % (8 * (B.size + 4)) := ⟨_, rfl⟩
    have hkl : k < 8 * (B.size + 4) := by rw [hk]; exact Nat.mod_lt _ (by omega)
    obtain ⟨c, hc8⟩ : ∃ c : Nat, c = k / 8 := ⟨_, rfl⟩
    obtain ⟨r, hr8⟩ : ∃ r : Nat, r = k % 8 := ⟨_, rfl⟩
    obtain ⟨p, hp⟩ : ∃ p : Nat, p = h + c := ⟨_, rfl⟩
    have hpP : p < P.size := by omega
    have hr7 : r < 8 := by omega
    obtain ⟨m, hm⟩ : ∃ m : Nat, m = 2 ^ r := ⟨_, rfl⟩
    have hm256 : m < 256 := by rw [hm]; exact Nat.lt_of_lt_of_le (Nat.pow_lt_pow_right (by omega) hr7) (by decide)
    have hm0 : m ≠ 0 := by rw [hm]; exact Nat.ne_of_gt (Nat.two_pow_pos r)
    have K9 : Hid (∀ W, Calls Try.prog 9 #[.int .i64 1, .string B] W fun q w' => q = .returned (.tuple #[.string P, .bool true]) ∧ Below W.heap.size W w') := fun W => by rw [hP]; exact packK_any 1 B W (by decide) hB6
    have htn : nOk (strOfNums (Crc.nums P.size (Crc.turned P p m))) = false := by rw [hP]; exact nOk_turned hko p m (by omega) (by rw [← hP]; exact hpP) hm256 hm0
    have htz : (strOfNums (Crc.nums P.size (Crc.turned P p m))).size = P.size := Crc.str_size _ _
    obtain ⟨t, ht⟩ : ∃ t, t = strOfNums (Crc.nums P.size (Crc.turned P p m)) := ⟨_, rfl⟩
    rw [← ht] at htn htz
    have KU : Hid (∀ W, Calls Try.prog 14 #[.string t] W fun q w' => q = .returned (.tuple #[.int .i64 0, .string ⟨#[]⟩, .bool false]) ∧ Below W.heap.size W w') := fun W => (unpack_any t W (by omega)).mono fun q w' ⟨h1, h2⟩ => ⟨h1.trans (u_ret_no (uO_nOk htn)).symm, h2⟩
    have HTT := Lib.hid ht
    have EM : Hid ((2 : Int) ^ r % 256 = (m : Int)) := by
      show _ = _
      have x : (2 : Int) ^ r = ((2 ^ r : Nat) : Int) := by push_cast; rfl
      rw [x, ← hm]
      omega
    have EF : Hid (wrap64 (wrap64 ((P.size : Int) - (B.size : Int)) - 4) = (h : Int)) := by
      show _ = _
      have x1 : wrap64 ((P.size : Int) - (B.size : Int)) = (h : Int) + 4 := by unfold wrap64; omega
      rw [x1]
      unfold wrap64
      omega
    have E5 : Hid ((bit : Int) % (8 * ((B.size : Int) + 4)) = (k : Int)) := by show _ = _; rw [hk, show (8 * ((B.size : Int) + 4)) = ((8 * (B.size + 4) : Nat) : Int) by omega]; exact (Int.natCast_emod _ _).symm
    have E6 : Hid ((k : Int) / 8 = (c : Int)) := by show _ = _; omega
    have E7 : Hid ((k : Int) % 8 = (r : Int)) := by show _ = _; omega
    have E8 : Hid ((h : Int) + (c : Int) = (p : Int)) := by show _ = _; omega
    have hlen : ¬ ((P.size : Int) < (B.size : Int) + 4) := by omega
    have hcv := fun (W : World) (t : ByteArray) => Lib.run_convert_string_bytes (P := Try.prog) W 9 46 5 t Try.underlying9 Try.underlying46 Try.underlying5
    have HHP := Lib.hid hp
    have HPS := Lib.hid hps
    clear hP hh hko hk hc8 hr8 hp hm htn htz ht hB6 hps
    go_enter Try.func6, Try.ntmps6
    go_wp2_with fail
    refine (KE.out _).mono ?_
    rintro q w1 ⟨rfl, b1⟩
    have B1 := Lib.hid b1
    clear b1
    go_wp2_with fail
    rw [hBe.out]
    refine (K9.out _).mono ?_
    rintro q w2 ⟨rfl, b2⟩
    have B2 : Hid (Below w.heap.size w w2) := B1.out.trans (b2.mono B1.out.size)
    clear b2
    go_upto_region 13 with fail
    rw [EF.out]
    have hI := BRow.conv w2 P
    have hB : Below w2.heap.size w2 (Lib.bytesWorld w2 5 P) := below_conv w2 P
    generalize Lib.bytesWorld w2 5 P = w3 at *
    generalize grownCap w2 P.size 0 5 = cap at *
    clear hcv
    go_upto_region 14 with fail
    rw [E5.out]
    have e6 := E6.out
    have e7 := E7.out
    have e8 := E8.out
    have hcc := hI.cell p hpP
    have hf := hI.free p hpP
    have hbx := Crc.byteAt_lt P p
    have hX : Hid (bits BinOp.xor IntKind.u8 (↑(Crc.byteAt P p)) ((2 : Int) ^ r % 256) = ((Crc.byteAt P p ^^^ m : Nat) : Int)) := by
      show _ = _
      rw [EM.out]
      exact u8_xor_nat (Crc.byteAt P p) m hbx hm256
    go_region
    rw [hX.out]
    have hI4 := (hI.set (y := Crc.turned P p m) p _ (fun j hj => by unfold Crc.turned; rfl)).drew
    have hb1 := (hB.setCell (p := ⟨w2.heap.size, p, none⟩) (Nat.le_refl _) (.int .u8 ((Crc.byteAt P p ^^^ m : Nat) : Int))).drew
    clear hI hcc hf hB e6 e7 e8
    generalize (World.setCell w3 ⟨w2.heap.size, p, none⟩ (.int .u8 ((Crc.byteAt P p ^^^ m : Nat) : Int))).drew = w4 at *
    have hstr := hI4.str cap
    rw [← HTT.out] at hstr
    have B4 : Hid (Below w.heap.size w w4) := B2.out.trans (hb1.mono B2.out.size)
    clear hI4 hb1
    go_wp2_with fail
    refine (KU.out _).mono ?_
    rintro q w5 ⟨rfl, b5⟩
    have B5 : Hid (Below w.heap.size w w5) := B4.out.trans (b5.mono B4.out.size)
    clear b5
    go_wp2
    go_ret
    exact ⟨rfl, B5.out⟩
  | true =>
    obtain ⟨P, hP⟩ : ∃ P, P = pack 2 B := ⟨_, rfl⟩
    obtain ⟨h, hh⟩ : ∃ h, h = (hdF 2 B.size).size := ⟨_, rfl⟩
    have hko : pkO 2 B = true := pkO_short (by decide) hB6
    have hps : P.size = h + (4 + B.size) := by rw [hP, hh]; unfold pack; rw [ByteArray.size_append, ByteArray.size_append, seal_size]; omega
    have hh11 : h ≤ 11 := by rw [hh]; exact hdF_size _ _ (by omega)
    obtain ⟨k, hk⟩ : ∃ k : Nat, k = bit % (8 * (B.size + 4)) := ⟨_, rfl⟩
    have hkl : k < 8 * (B.size + 4) := by rw [hk]; exact Nat.mod_lt _ (by omega)
    obtain ⟨c, hc8⟩ : ∃ c : Nat, c = k / 8 := ⟨_, rfl⟩
    obtain ⟨r, hr8⟩ : ∃ r : Nat, r = k % 8 := ⟨_, rfl⟩
    obtain ⟨p, hp⟩ : ∃ p : Nat, p = h + c := ⟨_, rfl⟩
    have hpP : p < P.size := by omega
    have hr7 : r < 8 := by omega
    obtain ⟨m, hm⟩ : ∃ m : Nat, m = 2 ^ r := ⟨_, rfl⟩
    have hm256 : m < 256 := by rw [hm]; exact Nat.lt_of_lt_of_le (Nat.pow_lt_pow_right (by omega) hr7) (by decide)
    have hm0 : m ≠ 0 := by rw [hm]; exact Nat.ne_of_gt (Nat.two_pow_pos r)
    have K9 : Hid (∀ W, Calls Try.prog 9 #[.int .i64 2, .string B] W fun q w' => q = .returned (.tuple #[.string P, .bool true]) ∧ Below W.heap.size W w') := fun W => by rw [hP]; exact packK_any 2 B W (by decide) hB6
    have htn : nOk (strOfNums (Crc.nums P.size (Crc.turned P p m))) = false := by rw [hP]; exact nOk_turned hko p m (by omega) (by rw [← hP]; exact hpP) hm256 hm0
    have htz : (strOfNums (Crc.nums P.size (Crc.turned P p m))).size = P.size := Crc.str_size _ _
    obtain ⟨t, ht⟩ : ∃ t, t = strOfNums (Crc.nums P.size (Crc.turned P p m)) := ⟨_, rfl⟩
    rw [← ht] at htn htz
    have KU : Hid (∀ W, Calls Try.prog 14 #[.string t] W fun q w' => q = .returned (.tuple #[.int .i64 0, .string ⟨#[]⟩, .bool false]) ∧ Below W.heap.size W w') := fun W => (unpack_any t W (by omega)).mono fun q w' ⟨h1, h2⟩ => ⟨h1.trans (u_ret_no (uO_nOk htn)).symm, h2⟩
    have HTT := Lib.hid ht
    have EM : Hid ((2 : Int) ^ r % 256 = (m : Int)) := by
      show _ = _
      have x : (2 : Int) ^ r = ((2 ^ r : Nat) : Int) := by push_cast; rfl
      rw [x, ← hm]
      omega
    have EF : Hid (wrap64 (wrap64 ((P.size : Int) - (B.size : Int)) - 4) = (h : Int)) := by
      show _ = _
      have x1 : wrap64 ((P.size : Int) - (B.size : Int)) = (h : Int) + 4 := by unfold wrap64; omega
      rw [x1]
      unfold wrap64
      omega
    have E5 : Hid ((bit : Int) % (8 * ((B.size : Int) + 4)) = (k : Int)) := by show _ = _; rw [hk, show (8 * ((B.size : Int) + 4)) = ((8 * (B.size + 4) : Nat) : Int) by omega]; exact (Int.natCast_emod _ _).symm
    have E6 : Hid ((k : Int) / 8 = (c : Int)) := by show _ = _; omega
    have E7 : Hid ((k : Int) % 8 = (r : Int)) := by show _ = _; omega
    have E8 : Hid ((h : Int) + (c : Int) = (p : Int)) := by show _ = _; omega
    have hlen : ¬ ((P.size : Int) < (B.size : Int) + 4) := by omega
    have hcv := fun (W : World) (t : ByteArray) => Lib.run_convert_string_bytes (P := Try.prog) W 9 46 5 t Try.underlying9 Try.underlying46 Try.underlying5
    have HHP := Lib.hid hp
    have HPS := Lib.hid hps
    clear hP hh hko hk hc8 hr8 hp hm htn htz ht hB6 hps
    go_enter Try.func6, Try.ntmps6
    go_wp2_with fail
    refine (KE.out _).mono ?_
    rintro q w1 ⟨rfl, b1⟩
    have B1 := Lib.hid b1
    clear b1
    go_wp2_with fail
    rw [hBe.out]
    refine (K9.out _).mono ?_
    rintro q w2 ⟨rfl, b2⟩
    have B2 : Hid (Below w.heap.size w w2) := B1.out.trans (b2.mono B1.out.size)
    clear b2
    go_upto_region 13 with fail
    rw [EF.out]
    have hI := BRow.conv w2 P
    have hB : Below w2.heap.size w2 (Lib.bytesWorld w2 5 P) := below_conv w2 P
    generalize Lib.bytesWorld w2 5 P = w3 at *
    generalize grownCap w2 P.size 0 5 = cap at *
    clear hcv
    go_upto_region 14 with fail
    rw [E5.out]
    have e6 := E6.out
    have e7 := E7.out
    have e8 := E8.out
    have hcc := hI.cell p hpP
    have hf := hI.free p hpP
    have hbx := Crc.byteAt_lt P p
    have hX : Hid (bits BinOp.xor IntKind.u8 (↑(Crc.byteAt P p)) ((2 : Int) ^ r % 256) = ((Crc.byteAt P p ^^^ m : Nat) : Int)) := by
      show _ = _
      rw [EM.out]
      exact u8_xor_nat (Crc.byteAt P p) m hbx hm256
    go_region
    rw [hX.out]
    have hI4 := (hI.set (y := Crc.turned P p m) p _ (fun j hj => by unfold Crc.turned; rfl)).drew
    have hb1 := (hB.setCell (p := ⟨w2.heap.size, p, none⟩) (Nat.le_refl _) (.int .u8 ((Crc.byteAt P p ^^^ m : Nat) : Int))).drew
    clear hI hcc hf hB e6 e7 e8
    generalize (World.setCell w3 ⟨w2.heap.size, p, none⟩ (.int .u8 ((Crc.byteAt P p ^^^ m : Nat) : Int))).drew = w4 at *
    have hstr := hI4.str cap
    rw [← HTT.out] at hstr
    have B4 : Hid (Below w.heap.size w w4) := B2.out.trans (hb1.mono B2.out.size)
    clear hI4 hb1
    go_wp2_with fail
    refine (KU.out _).mono ?_
    rintro q w5 ⟨rfl, b5⟩
    have B5 : Hid (Below w.heap.size w w5) := B4.out.trans (b5.mono B4.out.size)
    clear b5
    go_wp2
    go_ret
    exact ⟨rfl, B5.out⟩
end Go.Proofs.Ytpdbeijfchmlgaa
