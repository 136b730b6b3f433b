/-
  The walk of the law CrcBit.
  Conditions: a text of at most 2^47 - 4096 bytes.
-/
import Derived.Test.YtdiompgffdiiaaaBrow
import Derived.Test.YtdiompgffdiiaaaBitRow
namespace Go.Proofs.Ytdiompgffdiiaaa
open Go.RowKit
theorem one_size (t : ByteArray) : (ByteArray.mk #[115] ++ t).size = 1 + t.size := by rw [ByteArray.size_append]; rfl

set_option linter.unusedVariables false in
set_option maxHeartbeats 2000000 in
theorem bit_law (s : ByteArray) (at_ by_ : Nat) (w : World) (hs : s.size ≤ 140737488351232) (hat : at_ < 65536) (hby : by_ < 4294967296) :
    Calls Try.prog 5 #[.string s, .int .u16 at_, .int .u32 by_] w fun e w' => e = .returned (.bool true) ∧ Below w.heap.size w w' := by
  have hcv := fun (W : World) (t : ByteArray) => Lib.run_convert_string_bytes (P := Try.prog) W 9 24 5 t Try.underlying9 Try.underlying24 Try.underlying5
  have hsz : (ByteArray.mk #[115]).size = 1 := rfl
  go_enter Try.func5, Try.ntmps5
  go_wp2_with fail
  refine (examples_any w).mono ?_
  rintro e w1 ⟨rfl, hb1⟩
  go_wp2_with fail
  · have hT : (ByteArray.mk #[115] ++ s.extract 0 199).size = 1 + min 199 s.size := by simp [hsz]
    generalize (ByteArray.mk #[115] ++ s.extract 0 199) = t0 at *
    obtain ⟨n, hn⟩ : ∃ n, 1 + min 199 s.size = n := ⟨_, rfl⟩
    obtain ⟨p, hp1⟩ : ∃ p : Nat, p = at_ % n := ⟨_, rfl⟩
    have hp : p < n := by rw [hp1]; exact Nat.mod_lt _ (by omega)
    have hn2 : n ≤ 200 := by omega
    have e : (at_ : Int) % (1 + ((min 199 s.size : Nat) : Int)) = (p : Int) := by rw [hp1, ← hn]; push_cast; rfl
    rw [e, hn]
    rw [hn] at hT
    clear hn hp1 e
    have hI0 := BRow.conv w1 t0
    have hB0 : Below w.heap.size w (Lib.bytesWorld w1 5 t0) := hb1.trans ((below_conv w1 _).mono hb1.size)
    rw [hT] at hI0
    generalize Lib.bytesWorld w1 5 t0 = w3 at *
    generalize grownCap w1 n 0 5 = cap at *
    clear hcv hsz
    have hI1 : BRow w1.heap.size n (Crc.bitRow t0 by_ p 0) w3 := hI0.same (fun j _ => Crc.bitRow_zero _ _ _ _)
    clear hI0
    go_loopw [10, 11] (fun same i wr => ∃ (m : Nat) (S : Bool), m ≤ 4 ∧ p + m ≤ n ∧ S = Crc.sameB by_ m ∧ same = .bool S ∧ i = .int .i64 m ∧ BRow w1.heap.size n (Crc.bitRow t0 by_ p m) wr ∧ Below w.heap.size w wr) (fun _ i _ => 4 - (intOf i).toNat)
    case atStart => exact ⟨0, true, by omega, by omega, rfl, rfl, rfl, hI1, hB0⟩
    case round =>
      clear hI1 hB0
      obtain ⟨m, S, hm4, hmn, hS, rfl, rfl, hI, hB⟩ := hrel
      by_cases hlt : m < 4 ∧ p + m < n
      · obtain ⟨hl1, hl2⟩ := hlt
        have hcell0 := hI.cell (p + m) hl2
        have hcell := hcell0
        rw [Crc.bitRow_at] at hcell
        have hfree := hI.free (p + m) hl2
        have hl2i : (p : Int) + (m : Int) < (n : Int) := by omega
        have HS := Lib.hid hS
        clear hS
        have HX := Lib.hid (Crc.bit_eq (Crc.byteAt t0 (p + m)) by_ m (Crc.byteAt_lt _ _))
        have HN := Lib.hid (Crc.none_eq by_ m)
        clear hcell0
        go_wp2
        · have hS1 : S = true := by assumption
          have hS2 : Crc.sameB by_ (m + 1) = (by_ / 2 ^ (8 * m) % 256 == 0) := by
            have h := HS.out
            rw [hS1] at h
            unfold Crc.sameB
            rw [← h]; rfl
          rw [HX.out, HN.out]
          exact ⟨⟨m + 1, _, by omega, by omega, hS2.symm, rfl, by go_num, hI.set (p + m) _ (fun j _ => Crc.bitRow_succ t0 by_ p m j), hB.setCell hb1.size _⟩, by simp [intOf]; omega⟩
        · have hS1 : ¬ S = true := by assumption
          have hS2 : Crc.sameB by_ (m + 1) = false := by
            have h := HS.out
            rw [Bool.not_eq_true] at hS1
            rw [hS1] at h
            unfold Crc.sameB
            rw [← h]; rfl
          rw [HX.out]
          exact ⟨⟨m + 1, _, by omega, by omega, hS2.symm, rfl, by go_num, hI.set (p + m) _ (fun j _ => Crc.bitRow_succ t0 by_ p m j), hB.setCell hb1.size _⟩, by simp [intOf]; omega⟩
      · have hstr := hI.str cap
        have hbs := Crc.str_size n (Crc.bitRow t0 by_ p m)
        have he := Crc.moreB_bits_eq t0 by_ p n m hT hm4 hmn
        rw [← hS] at he
        generalize strOfNums (Crc.nums n (Crc.bitRow t0 by_ p m)) = b at *
        have hx1 : b.size ≤ maxLen := by unfold maxLen; omega
        have hx2 : t0.size ≤ maxLen := by unfold maxLen; omega
        clear hI hbs hS hT
        have hout : ¬ ((m : Int) < 4) ∨ ((m : Int) < 4 ∧ ¬ ((p : Int) + (m : Int) < (n : Int))) := by omega
        clear hlt
        rcases hout with ho | ⟨ho1, ho2⟩
        all_goals
          go_wp2_with fail
          refine (sum_any b wr hx1).mono ?_
          rintro e w5 ⟨rfl, hb5⟩
          clear hstr
          go_wp2_with fail
          refine (sum_any t0 w5 hx2).mono ?_
          rintro e w6 ⟨rfl, hb6⟩
          go_wp2
          go_ret
          exact ⟨rfl, hB.trans ((hb5.mono hB.size).trans (hb6.mono (Nat.le_trans hB.size hb5.size)))⟩
  · have hT : (ByteArray.mk #[115] ++ s).size = 1 + s.size := one_size s
    generalize (ByteArray.mk #[115] ++ s) = t0 at *
    obtain ⟨n, hn⟩ : ∃ n, 1 + s.size = n := ⟨_, rfl⟩
    obtain ⟨p, hp1⟩ : ∃ p : Nat, p = at_ % n := ⟨_, rfl⟩
    have hp : p < n := by rw [hp1]; exact Nat.mod_lt _ (by omega)
    have hn2 : n ≤ 200 := by omega
    have e : (at_ : Int) % (1 + (s.size : Int)) = (p : Int) := by rw [hp1, ← hn]; push_cast; rfl
    rw [e, hn]
    rw [hn] at hT
    clear hn hp1 e
    have hI0 := BRow.conv w1 t0
    have hB0 : Below w.heap.size w (Lib.bytesWorld w1 5 t0) := hb1.trans ((below_conv w1 _).mono hb1.size)
    rw [hT] at hI0
    generalize Lib.bytesWorld w1 5 t0 = w3 at *
    generalize grownCap w1 n 0 5 = cap at *
    clear hcv hsz
    have hI1 : BRow w1.heap.size n (Crc.bitRow t0 by_ p 0) w3 := hI0.same (fun j _ => Crc.bitRow_zero _ _ _ _)
    clear hI0
    go_loopw [10, 11] (fun same i wr => ∃ (m : Nat) (S : Bool), m ≤ 4 ∧ p + m ≤ n ∧ S = Crc.sameB by_ m ∧ same = .bool S ∧ i = .int .i64 m ∧ BRow w1.heap.size n (Crc.bitRow t0 by_ p m) wr ∧ Below w.heap.size w wr) (fun _ i _ => 4 - (intOf i).toNat)
    case atStart => exact ⟨0, true, by omega, by omega, rfl, rfl, rfl, hI1, hB0⟩
    case round =>
      clear hI1 hB0
      obtain ⟨m, S, hm4, hmn, hS, rfl, rfl, hI, hB⟩ := hrel
      by_cases hlt : m < 4 ∧ p + m < n
      · obtain ⟨hl1, hl2⟩ := hlt
        have hcell0 := hI.cell (p + m) hl2
        have hcell := hcell0
        rw [Crc.bitRow_at] at hcell
        have hfree := hI.free (p + m) hl2
        have hl2i : (p : Int) + (m : Int) < (n : Int) := by omega
        have HS := Lib.hid hS
        clear hS
        have HX := Lib.hid (Crc.bit_eq (Crc.byteAt t0 (p + m)) by_ m (Crc.byteAt_lt _ _))
        have HN := Lib.hid (Crc.none_eq by_ m)
        clear hcell0
        go_wp2
        · have hS1 : S = true := by assumption
          have hS2 : Crc.sameB by_ (m + 1) = (by_ / 2 ^ (8 * m) % 256 == 0) := by
            have h := HS.out
            rw [hS1] at h
            unfold Crc.sameB
            rw [← h]; rfl
          rw [HX.out, HN.out]
          exact ⟨⟨m + 1, _, by omega, by omega, hS2.symm, rfl, by go_num, hI.set (p + m) _ (fun j _ => Crc.bitRow_succ t0 by_ p m j), hB.setCell hb1.size _⟩, by simp [intOf]; omega⟩
        · have hS1 : ¬ S = true := by assumption
          have hS2 : Crc.sameB by_ (m + 1) = false := by
            have h := HS.out
            rw [Bool.not_eq_true] at hS1
            rw [hS1] at h
            unfold Crc.sameB
            rw [← h]; rfl
          rw [HX.out]
          exact ⟨⟨m + 1, _, by omega, by omega, hS2.symm, rfl, by go_num, hI.set (p + m) _ (fun j _ => Crc.bitRow_succ t0 by_ p m j), hB.setCell hb1.size _⟩, by simp [intOf]; omega⟩
      · have hstr := hI.str cap
        have hbs := Crc.str_size n (Crc.bitRow t0 by_ p m)
        have he := Crc.moreB_bits_eq t0 by_ p n m hT hm4 hmn
        rw [← hS] at he
        generalize strOfNums (Crc.nums n (Crc.bitRow t0 by_ p m)) = b at *
        have hx1 : b.size ≤ maxLen := by unfold maxLen; omega
        have hx2 : t0.size ≤ maxLen := by unfold maxLen; omega
        clear hI hbs hS hT
        have hout : ¬ ((m : Int) < 4) ∨ ((m : Int) < 4 ∧ ¬ ((p : Int) + (m : Int) < (n : Int))) := by omega
        clear hlt
        rcases hout with ho | ⟨ho1, ho2⟩
        all_goals
          go_wp2_with fail
          refine (sum_any b wr hx1).mono ?_
          rintro e w5 ⟨rfl, hb5⟩
          clear hstr
          go_wp2_with fail
          refine (sum_any t0 w5 hx2).mono ?_
          rintro e w6 ⟨rfl, hb6⟩
          go_wp2
          go_ret
          exact ⟨rfl, hB.trans ((hb5.mono hB.size).trans (hb6.mono (Nat.le_trans hB.size hb5.size)))⟩
end Go.Proofs.Ytdiompgffdiiaaa
