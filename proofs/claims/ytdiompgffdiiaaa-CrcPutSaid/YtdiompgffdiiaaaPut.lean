/-
  The walk of the law CrcPut.
  Conditions: a text of at most 2^47 - 4096 bytes.
-/
import Derived.Test.YtdiompgffdiiaaaBrow
import Derived.Test.YtdiompgffdiiaaaTurned
namespace Go.Proofs.Ytdiompgffdiiaaa
open Go.RowKit
set_option linter.unusedVariables false in
set_option maxHeartbeats 2000000 in
theorem put_law (s : ByteArray) (at_ by_ cut : Nat) (w : World) (hs : s.size ≤ 140737488351232) (hat : at_ < 65536) (hby : by_ < 256) (hcut : cut < 65536) :
    Calls Try.prog 7 #[.string s, .int .u16 at_, .int .u8 by_, .int .u16 cut] w fun e w' => e = .returned (.bool true) ∧ Below w.heap.size w w' := by
  have hcv := fun (W : World) (t : ByteArray) => Lib.run_convert_string_bytes (P := Try.prog) W 9 24 5 t Try.underlying9 Try.underlying24 Try.underlying5
  go_enter Try.func7, Try.ntmps7
  go_wp2_with fail
  refine (examples_any w).mono ?_
  rintro e w1 ⟨rfl, hb1⟩
  go_wp2_with fail
  · have hz : (s.extract 0 200).size ≤ 200 := by rw [ByteArray.size_extract]; omega
    generalize s.extract 0 200 = t0 at *
    have hsz := Crc.putB_size t0
    have HS := Lib.hid hsz
    obtain ⟨p, hp1⟩ : ∃ p : Nat, p = at_ % (Crc.putB t0).size := ⟨_, rfl⟩
    have hp : p < (Crc.putB t0).size := by rw [hp1]; exact Nat.mod_lt _ (by omega)
    have hp2 : (at_ : Int) % ((Crc.putB t0).size : Int) = (p : Int) := by rw [hp1]; push_cast; rfl
    have hn1 : 4 ≤ (Crc.putB t0).size := by omega
    have hn2 : (Crc.putB t0).size ≤ 204 := by omega
    have he0 : (((Crc.putB t0).size : Int) != (t0.size : Int) + 4) = false := by rw [HS.out]; simp
    clear hsz hp1
    refine (put_any t0 w1 (by omega)).mono ?_
    rintro e w2 ⟨rfl, hb2⟩
    go_wp2
    clear hcv he0
    have hI := BRow.conv w2 (Crc.putB t0)
    have hB : Below w.heap.size w (Lib.bytesWorld w2 5 (Crc.putB t0)) := hb1.trans ((hb2.mono hb1.size).trans ((below_conv w2 _).mono (Nat.le_trans hb1.size hb2.size)))
    have hg : w.heap.size ≤ w2.heap.size := Nat.le_trans hb1.size hb2.size
    generalize Lib.bytesWorld w2 5 (Crc.putB t0) = w3 at *
    generalize grownCap w2 (Crc.putB t0).size 0 5 = cap at *
    have hc := hI.cell p hp
    have hf := hI.free p hp
    have hbx := Crc.byteAt_lt (Crc.putB t0) p
    have hX := Lib.hid (u8_xor_nat (Crc.byteAt (Crc.putB t0) p) by_ hbx hby)
    go_region
    rw [hX.out]
    have hI4 := (hI.set (y := Crc.turned (Crc.putB t0) p by_) p _ (fun j hj => by unfold Crc.turned; rfl)).drew
    have hB4 := (hB.setCell (p := ⟨w2.heap.size, p, none⟩) hg (.int .u8 ((Crc.byteAt (Crc.putB t0) p ^^^ by_ : Nat) : Int))).drew
    clear hI hc hf hB
    generalize (World.setCell w3 ⟨w2.heap.size, p, none⟩ (.int .u8 ((Crc.byteAt (Crc.putB t0) p ^^^ by_ : Nat) : Int))).drew = w4 at *
    obtain ⟨c, hc1, hc3⟩ : ∃ c : Nat, (cut : Int) % 4 = (c : Int) ∧ c ≤ 3 := ⟨cut % 4, by push_cast; rfl, by omega⟩
    have hcT : c ≤ (Crc.putB t0).size := by omega
    have hcs : ((Crc.putB t0).extract 0 c).size < 4 := by rw [ByteArray.size_extract]; omega
    have hstr := hI4.str cap
    clear hI4 hp2 hX hb1 hb2 hg
    rcases Nat.eq_zero_or_pos by_ with h0 | h0
    · have hb0 : ((by_ : Int) == 0) = true := by rw [h0]; rfl
      have hBT : strOfNums (Crc.nums (Crc.putB t0).size (Crc.turned (Crc.putB t0) p by_)) = Crc.putB t0 := by rw [h0]; exact Crc.turned_none _ _
      rw [hBT] at hstr
      clear h0 hBT
      go_wp2_with fail
      refine (get_yes _ w4 hn1 (by omega) (Crc.getOk_putB t0)).mono ?_
      rintro e w5 ⟨rfl, hb5⟩
      rw [Crc.tail4_putB]
      clear hstr
      go_wp2_with fail
      refine (get_short _ w5 hcs).mono ?_
      rintro e w6 ⟨rfl, hb6⟩
      go_wp2
      go_ret
      exact ⟨rfl, hB4.trans ((hb5.mono hB4.size).trans (hb6.mono (Nat.le_trans hB4.size hb5.size)))⟩
    · have hb0 : ((by_ : Int) == 0) = false := by rw [beq_eq_false_iff_ne]; omega
      have hno := Crc.getOk_turned t0 p by_ hp hby (by omega)
      have hsz := Crc.str_size (Crc.putB t0).size (Crc.turned (Crc.putB t0) p by_)
      generalize strOfNums (Crc.nums (Crc.putB t0).size (Crc.turned (Crc.putB t0) p by_)) = b at *
      have hs4 : 4 ≤ b.size := by omega
      have hs5 : b.size ≤ 281474976710656 := by omega
      clear hsz
      go_wp2_with fail
      refine (get_no _ w4 hs4 hs5 hno).mono ?_
      rintro e w5 ⟨rfl, hb5⟩
      clear hstr hno
      go_wp2_with fail
      refine (get_short _ w5 hcs).mono ?_
      rintro e w6 ⟨rfl, hb6⟩
      go_wp2
      go_ret
      exact ⟨rfl, hB4.trans ((hb5.mono hB4.size).trans (hb6.mono (Nat.le_trans hB4.size hb5.size)))⟩
  · have hz : s.size ≤ 200 := by omega
    clear hs
    rename ByteArray => t0
    have hsz := Crc.putB_size t0
    have HS := Lib.hid hsz
    obtain ⟨p, hp1⟩ : ∃ p : Nat, p = at_ % (Crc.putB t0).size := ⟨_, rfl⟩
    have hp : p < (Crc.putB t0).size := by rw [hp1]; exact Nat.mod_lt _ (by omega)
    have hp2 : (at_ : Int) % ((Crc.putB t0).size : Int) = (p : Int) := by rw [hp1]; push_cast; rfl
    have hn1 : 4 ≤ (Crc.putB t0).size := by omega
    have hn2 : (Crc.putB t0).size ≤ 204 := by omega
    have he0 : (((Crc.putB t0).size : Int) != (t0.size : Int) + 4) = false := by rw [HS.out]; simp
    clear hsz hp1
    refine (put_any t0 w1 (by omega)).mono ?_
    rintro e w2 ⟨rfl, hb2⟩
    go_wp2
    clear hcv he0
    have hI := BRow.conv w2 (Crc.putB t0)
    have hB : Below w.heap.size w (Lib.bytesWorld w2 5 (Crc.putB t0)) := hb1.trans ((hb2.mono hb1.size).trans ((below_conv w2 _).mono (Nat.le_trans hb1.size hb2.size)))
    have hg : w.heap.size ≤ w2.heap.size := Nat.le_trans hb1.size hb2.size
    generalize Lib.bytesWorld w2 5 (Crc.putB t0) = w3 at *
    generalize grownCap w2 (Crc.putB t0).size 0 5 = cap at *
    have hc := hI.cell p hp
    have hf := hI.free p hp
    have hbx := Crc.byteAt_lt (Crc.putB t0) p
    have hX := Lib.hid (u8_xor_nat (Crc.byteAt (Crc.putB t0) p) by_ hbx hby)
    go_region
    rw [hX.out]
    have hI4 := (hI.set (y := Crc.turned (Crc.putB t0) p by_) p _ (fun j hj => by unfold Crc.turned; rfl)).drew
    have hB4 := (hB.setCell (p := ⟨w2.heap.size, p, none⟩) hg (.int .u8 ((Crc.byteAt (Crc.putB t0) p ^^^ by_ : Nat) : Int))).drew
    clear hI hc hf hB
    generalize (World.setCell w3 ⟨w2.heap.size, p, none⟩ (.int .u8 ((Crc.byteAt (Crc.putB t0) p ^^^ by_ : Nat) : Int))).drew = w4 at *
    obtain ⟨c, hc1, hc3⟩ : ∃ c : Nat, (cut : Int) % 4 = (c : Int) ∧ c ≤ 3 := ⟨cut % 4, by push_cast; rfl, by omega⟩
    have hcT : c ≤ (Crc.putB t0).size := by omega
    have hcs : ((Crc.putB t0).extract 0 c).size < 4 := by rw [ByteArray.size_extract]; omega
    have hstr := hI4.str cap
    clear hI4 hp2 hX hb1 hb2 hg
    rcases Nat.eq_zero_or_pos by_ with h0 | h0
    · have hb0 : ((by_ : Int) == 0) = true := by rw [h0]; rfl
      have hBT : strOfNums (Crc.nums (Crc.putB t0).size (Crc.turned (Crc.putB t0) p by_)) = Crc.putB t0 := by rw [h0]; exact Crc.turned_none _ _
      rw [hBT] at hstr
      clear h0 hBT
      go_wp2_with fail
      refine (get_yes _ w4 hn1 (by omega) (Crc.getOk_putB t0)).mono ?_
      rintro e w5 ⟨rfl, hb5⟩
      rw [Crc.tail4_putB]
      clear hstr
      go_wp2_with fail
      refine (get_short _ w5 hcs).mono ?_
      rintro e w6 ⟨rfl, hb6⟩
      go_wp2
      go_ret
      exact ⟨rfl, hB4.trans ((hb5.mono hB4.size).trans (hb6.mono (Nat.le_trans hB4.size hb5.size)))⟩
    · have hb0 : ((by_ : Int) == 0) = false := by rw [beq_eq_false_iff_ne]; omega
      have hno := Crc.getOk_turned t0 p by_ hp hby (by omega)
      have hsz := Crc.str_size (Crc.putB t0).size (Crc.turned (Crc.putB t0) p by_)
      generalize strOfNums (Crc.nums (Crc.putB t0).size (Crc.turned (Crc.putB t0) p by_)) = b at *
      have hs4 : 4 ≤ b.size := by omega
      have hs5 : b.size ≤ 281474976710656 := by omega
      clear hsz
      go_wp2_with fail
      refine (get_no _ w4 hs4 hs5 hno).mono ?_
      rintro e w5 ⟨rfl, hb5⟩
      clear hstr hno
      go_wp2_with fail
      refine (get_short _ w5 hcs).mono ?_
      rintro e w6 ⟨rfl, hb6⟩
      go_wp2
      go_ret
      exact ⟨rfl, hB4.trans ((hb5.mono hB4.size).trans (hb6.mono (Nat.le_trans hB4.size hb5.size)))⟩
end Go.Proofs.Ytdiompgffdiiaaa
