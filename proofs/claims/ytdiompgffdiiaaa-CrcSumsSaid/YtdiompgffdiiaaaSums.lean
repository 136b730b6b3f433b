/-
  The walk of the law CrcSums, and the contracts of the document's own functions.
  Conditions: a text of at most 2^47 - 4096 bytes.
-/
import Derived.Test.YtdiompgffdiiaaaBrow
import Derived.Test.YtdiompgffdiiaaaGot
namespace Go.Proofs.Ytdiompgffdiiaaa
open Go.RowKit

set_option maxHeartbeats 1000000 in
theorem rmore_any (sum : Nat) (s : ByteArray) (w : World) (hs : s.size ≤ maxLen) (hsum : sum < 4294967296) :
    Calls Try.prog 15 #[.int .u32 sum, .string s] w fun e w' => e = .returned (.int .u32 (Crc.moreB sum s)) ∧ w = w' := by
  unfold maxLen at hs
  have H0 := Lib.hid (Crc.comp_eq sum hsum)
  go_enter Try.func15, Try.ntmps15
  go_wp2
  rw [H0.out]
  go_loop [0, 5] (fun r i => ∃ k : Nat, k ≤ s.size ∧ i = .int .i64 k ∧ r = .int .u32 (Crc.raw (Crc.comp sum) (s.data.toList.take k))) (fun _ i => s.size - (intOf i).toNat)
  case atStart => exact ⟨0, by omega, rfl, rfl⟩
  case round =>
    obtain ⟨k, hk, rfl, rfl⟩ := hrel
    have hraw := Crc.raw_lt (s.data.toList.take k) _ (Crc.comp_lt sum)
    by_cases hlt : k < s.size
    · have hbyte : s[k].toNat < 256 := s[k].toNat_lt
      have HR := Lib.hid (Crc.raw_take_succ (Crc.comp sum) s k hlt)
      generalize Crc.raw (Crc.comp sum) (s.data.toList.take k) = r0 at *
      go_wp2
      go_loop [0, 6] (fun r j => ∃ m : Nat, m ≤ 8 ∧ j = .int .i64 m ∧ r = .int .u32 (Crc.stepN r0 s[k].toNat m)) (fun _ j => 8 - (intOf j).toNat)
      case atStart => exact ⟨0, by omega, rfl, rfl⟩
      case round =>
        obtain ⟨m, hm, rfl, rfl⟩ := hrel
        by_cases hm8 : m < 8
        · have hst := Crc.stepN_lt r0 s[k].toNat hraw m
          have hte := Crc.test_eq (Crc.stepN r0 s[k].toNat m) s[k].toNat m hst hbyte
          have HE := Lib.hid (Crc.half_eq (Crc.stepN r0 s[k].toNat m) hst)
          rcases Crc.and_one_cases (Crc.stepN r0 s[k].toNat m ^^^ s[k].toNat / 2 ^ m) with hbit | hbit
          · have HS := Lib.hid (Crc.step_none _ _ hbit)
            rw [decide_eq_false (by rw [hbit]; decide)] at hte
            clear hbit
            go_wp2
            go_round
            case rel => exact ⟨m + 1, by omega, by go_num, by show _ = Value.int IntKind.u32 ((Crc.step _ _ : Nat) : Int); rw [HS.out]; go_num⟩
            case measure => simp [intOf]; omega
          · have HS := Lib.hid (Crc.step_one _ _ hbit)
            rw [decide_eq_true hbit] at hte
            clear hbit
            go_wp2
            go_round
            case rel => exact ⟨m + 1, by omega, by go_num, by show _ = Value.int IntKind.u32 ((Crc.step _ _ : Nat) : Int); rw [HS.out, HE.out]⟩
            case measure => simp [intOf]; omega
        · have h8 : m = 8 := by omega
          subst h8
          go_wp2
          go_round
          case rel => exact ⟨k + 1, by omega, by go_num, by rw [HR.out]; rfl⟩
          case measure => simp [intOf]; omega
    · have hk' : k = s.size := by omega
      subst hk'
      have H1 := Lib.hid (Crc.comp_eq _ hraw)
      have H2 : Hid (s.data.toList.take s.size = s.data.toList) := by rw [List.take_of_length_le (by simp)]; exact rfl
      go_wp2
      go_ret
      refine ⟨?_, rfl⟩
      rw [H1.out, H2.out]
      rfl

set_option maxHeartbeats 400000 in
theorem rsum_any (s : ByteArray) (w : World) (hs : s.size ≤ maxLen) :
    Calls Try.prog 13 #[.string s] w fun e w' => e = .returned (.int .u32 (Crc.moreB 0 s)) ∧ w = w' := by
  go_enter Try.func13, Try.ntmps13
  go_wp2_with fail
  refine (rmore_any 0 s w hs (by omega)).mono ?_
  rintro e w1 ⟨rfl, rfl⟩
  go_wp2
  go_ret
  exact ⟨rfl, rfl⟩

set_option maxHeartbeats 400000 in
theorem rput_any (s : ByteArray) (w : World) (hs : s.size ≤ 9223372036854775803) :
    Calls Try.prog 9 #[.string s] w fun e w' => e = .returned (.string (Crc.putB s)) ∧ Below w.heap.size w w' := by
  have hm := Crc.moreB_lt 0 s
  have hcv := fun n : Nat => run_convert_bytes_arg (P := Try.prog) (w.alloc (.cells #[.int .u8 ((n : Int) / 16777216), .int .u8 ((n : Int) / 65536 % 256), .int .u8 ((n : Int) / 256 % 256), .int .u8 ((n : Int) % 256)] 5)) 24 5 Try.underlying24 Try.underlying5 w.heap.size 0 4 4
    [(n : Int) / 16777216, (n : Int) / 65536 % 256, (n : Int) / 256 % 256, (n : Int) % 256] rfl (four_cells _ _ _ _ w) 9 Try.underlying9
  simp only [Crc.head_eq] at hcv
  have hz : ∀ n : Nat, (Crc.head n).size + s.size ≤ 9223372036854775807 := fun n => by rw [Crc.head_size]; omega
  have HP : Hid (Crc.head (Crc.moreB 0 s) ++ s = Crc.putB s) := rfl
  go_enter Try.func9, Try.ntmps9
  go_wp2_with fail
  refine (rsum_any s w (by unfold maxLen; omega)).mono ?_
  rintro e w1 ⟨rfl, rfl⟩
  have hcv1 := hcv (Crc.moreB 0 s)
  have hz1 := hz (Crc.moreB 0 s)
  clear hcv hz
  generalize Crc.moreB 0 s = n at *
  go_wp2
  go_ret
  exact ⟨by rw [HP.out]; exact rfl, (Below.refl _ _).alloc (Nat.le_refl _) _⟩
/-- crc.Get, whatever the text. -/
theorem get_all (p : ByteArray) (w : World) (hs : p.size ≤ 281474976710656) :
    Calls Try.prog 10 #[.string p] w fun e w' => e = .returned (.tuple #[.string (Crc.gotS p), .bool (Crc.got p)]) ∧ Below w.heap.size w w' := by
  rcases Nat.lt_or_ge p.size 4 with h | h
  · unfold Crc.gotS
    rw [Crc.got_short p h]
    exact get_short p w h
  · unfold Crc.gotS
    rw [Crc.got_long p h]
    cases hg : Crc.getOk p
    · exact get_no p w h hs hg
    · exact get_yes p w h hs hg

/-- The document's own Get, whatever the text. -/
theorem rget_all (p : ByteArray) (w : World) (hs : p.size ≤ 281474976710656) :
    Calls Try.prog 11 #[.string p] w fun e w' => e = .returned (.tuple #[.string (Crc.gotS p), .bool (Crc.got p)]) ∧ Below w.heap.size w w' := by
  rcases Nat.lt_or_ge p.size 4 with h | h
  · unfold Crc.gotS
    rw [Crc.got_short p h]
    have hlss : (p.size : Int) < 4 := by omega
    go_enter Try.func11, Try.ntmps11
    go_wp2
    go_ret2
    exact ⟨rfl, Below.refl _ _⟩
  · have ha := Crc.again_eq p h
    have hlss : ¬ ((p.size : Int) < 4) := by omega
    have hx : (p.extract 4 p.size).size ≤ 9223372036854775803 := by rw [ByteArray.size_extract]; omega
    unfold Crc.gotS
    rw [Crc.got_long p h]
    cases hg : Crc.getOk p
    · rw [hg] at ha
      clear hg
      go_enter Try.func11, Try.ntmps11
      go_wp2_with fail
      refine (rput_any _ w hx).mono ?_
      rintro e w1 ⟨rfl, hb⟩
      go_wp2
      go_ret2
      exact ⟨rfl, hb⟩
    · rw [hg] at ha
      clear hg
      have HT : Hid (p.extract 4 p.size = Crc.tail4 p) := rfl
      go_enter Try.func11, Try.ntmps11
      go_wp2_with fail
      refine (rput_any _ w hx).mono ?_
      rintro e w1 ⟨rfl, hb⟩
      go_wp2
      go_ret2
      exact ⟨rfl, hb⟩

set_option linter.unusedVariables false in
set_option maxHeartbeats 2000000 in
theorem sums_law (s : ByteArray) (sum : Nat) (own : Bool) (at_ : Int) (by_ : Nat) (w : World) (hs : s.size ≤ 140737488351232) (hsum : sum < 4294967296) (hat : -9223372036854775808 ≤ at_ ∧ at_ ≤ 9223372036854775807) (hby : by_ < 256) :
    Calls Try.prog 3 #[.string s, .int .u32 sum, .bool own, .int .i64 at_, .int .u8 by_] w fun e w' => e = .returned (.bool true) ∧ Below w.heap.size w w' := by
  have hm : s.size ≤ maxLen := by unfold maxLen; omega
  have hp4 := Crc.putB_size s
  have hx : s.size ≤ 9223372036854775803 := by omega
  cases own
  · go_enter Try.func3, Try.ntmps3
    go_wp2_with fail
    refine (examples_any w).mono ?_
    rintro e w1 ⟨rfl, hb1⟩
    go_wp2_with fail
    have hbs : s.size ≤ 281474976710656 := by omega
    refine (get_all s w1 hbs).mono ?_
    rintro e w2 ⟨rfl, hb2⟩
    go_wp2_with fail
    refine (rget_all s w2 hbs).mono ?_
    rintro e w3 ⟨rfl, hb3⟩
    go_wp2_with fail
    refine (sum_any s w3 hm).mono ?_
    rintro e w4 ⟨rfl, hb4⟩
    go_wp2_with fail
    refine (rsum_any s w4 hm).mono ?_
    rintro e w5 ⟨rfl, rfl⟩
    go_wp2_with fail
    refine (more_any sum s w4 hm hsum).mono ?_
    rintro e w6 ⟨rfl, hb6⟩
    go_wp2_with fail
    refine (rmore_any sum s w6 hm hsum).mono ?_
    rintro e w7 ⟨rfl, rfl⟩
    go_wp2_with fail
    refine (put_any s w6 hx).mono ?_
    rintro e w8 ⟨rfl, hb8⟩
    go_wp2_with fail
    refine (rput_any s w8 hx).mono ?_
    rintro e w9 ⟨rfl, hb9⟩
    go_wp2
    go_ret
    have c2 := hb1.trans (hb2.mono hb1.size)
    have c3 := c2.trans (hb3.mono c2.size)
    have c4 := c3.trans (hb4.mono c3.size)
    have c6 := c4.trans (hb6.mono c4.size)
    have c8 := c6.trans (hb8.mono c6.size)
    exact ⟨rfl, c8.trans (hb9.mono c8.size)⟩
  · have hcv := fun (W : World) (t : ByteArray) => Lib.run_convert_string_bytes (P := Try.prog) W 9 24 5 t Try.underlying9 Try.underlying24 Try.underlying5
    have hn1 : 4 ≤ (Crc.putB s).size := by omega
    have hn2 : (Crc.putB s).size ≤ 140737488351236 := by omega
    clear hp4
    rcases Int.lt_or_le at_ 0 with hneg | hpos
    · obtain ⟨a, ha⟩ : ∃ a : Nat, -(at_ + 1) = (a : Int) := ⟨(-(at_ + 1)).toNat, by omega⟩
      have HA := Lib.hid ha
      have ha2 : (a : Int) ≤ 9223372036854775807 := by omega
      clear ha
      go_enter Try.func3, Try.ntmps3
      go_wp2_with fail
      refine (examples_any w).mono ?_
      rintro e w1 ⟨rfl, hb1⟩
      go_wp2_with fail
      refine (rput_any s w1 hx).mono ?_
      rintro e w2 ⟨rfl, hb2⟩
      go_wp2
      rw [HA.out]
      clear hcv
      have hI := BRow.conv w2 (Crc.putB s)
      have hB : Below w.heap.size w (Lib.bytesWorld w2 5 (Crc.putB s)) := hb1.trans ((hb2.mono hb1.size).trans ((below_conv w2 _).mono (Nat.le_trans hb1.size hb2.size)))
      have hg : w.heap.size ≤ w2.heap.size := Nat.le_trans hb1.size hb2.size
      clear hb1 hb2
      generalize Lib.bytesWorld w2 5 (Crc.putB s) = w3 at *
      generalize grownCap w2 (Crc.putB s).size 0 5 = cap at *
      obtain ⟨p, hp1⟩ : ∃ p : Nat, p = a % (Crc.putB s).size := ⟨_, rfl⟩
      have hp : p < (Crc.putB s).size := by rw [hp1]; exact Nat.mod_lt _ (by omega)
      have hp2 : (a : Int) % ((Crc.putB s).size : Int) = (p : Int) := by rw [hp1, Int.natCast_emod]
      clear hp1
      have hc := hI.cell p hp
      have hf := hI.free p hp
      have hbx := Crc.byteAt_lt (Crc.putB s) p
      have hX := Lib.hid (u8_xor_nat (Crc.byteAt (Crc.putB s) p) by_ hbx hby)
      go_region
      rw [hX.out]
      have hI4 := (hI.set (y := Crc.turned (Crc.putB s) p by_) p _ (fun j hj => by unfold Crc.turned; rfl)).drew
      have hb1 := (hB.setCell (p := ⟨w2.heap.size, p, none⟩) hg (.int .u8 ((Crc.byteAt (Crc.putB s) p ^^^ by_ : Nat) : Int))).drew
      clear hI hc hf hB
      generalize (World.setCell w3 ⟨w2.heap.size, p, none⟩ (.int .u8 ((Crc.byteAt (Crc.putB s) p ^^^ by_ : Nat) : Int))).drew = w1 at *
      have hstr := hI4.str cap
      have hbz := Crc.str_size (Crc.putB s).size (Crc.turned (Crc.putB s) p by_)
      clear hI4 hp2 hX hg
      generalize strOfNums (Crc.nums (Crc.putB s).size (Crc.turned (Crc.putB s) p by_)) = b at *
      have hbs : b.size ≤ 281474976710656 := by omega
      clear hbz
      go_wp2_with fail
      clear hstr
      refine (get_all b w1 hbs).mono ?_
      rintro e w2 ⟨rfl, hb2⟩
      go_wp2_with fail
      refine (rget_all b w2 hbs).mono ?_
      rintro e w3 ⟨rfl, hb3⟩
      go_wp2_with fail
      refine (sum_any s w3 hm).mono ?_
      rintro e w4 ⟨rfl, hb4⟩
      go_wp2_with fail
      refine (rsum_any s w4 hm).mono ?_
      rintro e w5 ⟨rfl, rfl⟩
      go_wp2_with fail
      refine (more_any sum s w4 hm hsum).mono ?_
      rintro e w6 ⟨rfl, hb6⟩
      go_wp2_with fail
      refine (rmore_any sum s w6 hm hsum).mono ?_
      rintro e w7 ⟨rfl, rfl⟩
      go_wp2_with fail
      refine (put_any s w6 hx).mono ?_
      rintro e w8 ⟨rfl, hb8⟩
      go_wp2_with fail
      refine (rput_any s w8 hx).mono ?_
      rintro e w9 ⟨rfl, hb9⟩
      go_wp2
      go_ret
      have c2 := hb1.trans (hb2.mono hb1.size)
      have c3 := c2.trans (hb3.mono c2.size)
      have c4 := c3.trans (hb4.mono c3.size)
      have c6 := c4.trans (hb6.mono c4.size)
      have c8 := c6.trans (hb8.mono c6.size)
      exact ⟨rfl, c8.trans (hb9.mono c8.size)⟩
    · obtain ⟨a, rfl⟩ := Int.eq_ofNat_of_zero_le hpos
      have ha2 : (a : Int) ≤ 9223372036854775807 := by omega
      go_enter Try.func3, Try.ntmps3
      go_wp2_with fail
      refine (examples_any w).mono ?_
      rintro e w1 ⟨rfl, hb1⟩
      go_wp2_with fail
      refine (rput_any s w1 hx).mono ?_
      rintro e w2 ⟨rfl, hb2⟩
      go_wp2
      clear hcv
      have hI := BRow.conv w2 (Crc.putB s)
      have hB : Below w.heap.size w (Lib.bytesWorld w2 5 (Crc.putB s)) := hb1.trans ((hb2.mono hb1.size).trans ((below_conv w2 _).mono (Nat.le_trans hb1.size hb2.size)))
      have hg : w.heap.size ≤ w2.heap.size := Nat.le_trans hb1.size hb2.size
      clear hb1 hb2
      generalize Lib.bytesWorld w2 5 (Crc.putB s) = w3 at *
      generalize grownCap w2 (Crc.putB s).size 0 5 = cap at *
      obtain ⟨p, hp1⟩ : ∃ p : Nat, p = a % (Crc.putB s).size := ⟨_, rfl⟩
      have hp : p < (Crc.putB s).size := by rw [hp1]; exact Nat.mod_lt _ (by omega)
      have hp2 : (a : Int) % ((Crc.putB s).size : Int) = (p : Int) := by rw [hp1, Int.natCast_emod]
      clear hp1
      have hc := hI.cell p hp
      have hf := hI.free p hp
      have hbx := Crc.byteAt_lt (Crc.putB s) p
      have hX := Lib.hid (u8_xor_nat (Crc.byteAt (Crc.putB s) p) by_ hbx hby)
      go_region
      rw [hX.out]
      have hI4 := (hI.set (y := Crc.turned (Crc.putB s) p by_) p _ (fun j hj => by unfold Crc.turned; rfl)).drew
      have hb1 := (hB.setCell (p := ⟨w2.heap.size, p, none⟩) hg (.int .u8 ((Crc.byteAt (Crc.putB s) p ^^^ by_ : Nat) : Int))).drew
      clear hI hc hf hB
      generalize (World.setCell w3 ⟨w2.heap.size, p, none⟩ (.int .u8 ((Crc.byteAt (Crc.putB s) p ^^^ by_ : Nat) : Int))).drew = w1 at *
      have hstr := hI4.str cap
      have hbz := Crc.str_size (Crc.putB s).size (Crc.turned (Crc.putB s) p by_)
      clear hI4 hp2 hX hg
      generalize strOfNums (Crc.nums (Crc.putB s).size (Crc.turned (Crc.putB s) p by_)) = b at *
      have hbs : b.size ≤ 281474976710656 := by omega
      clear hbz
      go_wp2_with fail
      clear hstr
      refine (get_all b w1 hbs).mono ?_
      rintro e w2 ⟨rfl, hb2⟩
      go_wp2_with fail
      refine (rget_all b w2 hbs).mono ?_
      rintro e w3 ⟨rfl, hb3⟩
      go_wp2_with fail
      refine (sum_any s w3 hm).mono ?_
      rintro e w4 ⟨rfl, hb4⟩
      go_wp2_with fail
      refine (rsum_any s w4 hm).mono ?_
      rintro e w5 ⟨rfl, rfl⟩
      go_wp2_with fail
      refine (more_any sum s w4 hm hsum).mono ?_
      rintro e w6 ⟨rfl, hb6⟩
      go_wp2_with fail
      refine (rmore_any sum s w6 hm hsum).mono ?_
      rintro e w7 ⟨rfl, rfl⟩
      go_wp2_with fail
      refine (put_any s w6 hx).mono ?_
      rintro e w8 ⟨rfl, hb8⟩
      go_wp2_with fail
      refine (rput_any s w8 hx).mono ?_
      rintro e w9 ⟨rfl, hb9⟩
      go_wp2
      go_ret
      have c2 := hb1.trans (hb2.mono hb1.size)
      have c3 := c2.trans (hb3.mono c2.size)
      have c4 := c3.trans (hb4.mono c3.size)
      have c6 := c4.trans (hb6.mono c4.size)
      have c8 := c6.trans (hb8.mono c6.size)
      exact ⟨rfl, c8.trans (hb9.mono c8.size)⟩

end Go.Proofs.Ytdiompgffdiiaaa
