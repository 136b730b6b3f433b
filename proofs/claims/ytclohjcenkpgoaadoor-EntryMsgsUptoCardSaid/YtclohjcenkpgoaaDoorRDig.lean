/-
  The document's own digits and sixteenths.
  Conditions: named in each theorem.
-/
import Derived.Test.YtclohjcenkpgoaaDoorHex
import Derived.BigQuiet
import Derived.IntWalk
namespace Go.Proofs.YtclohjcenkpgoaaDoor
open Go.RowKit
set_option linter.unusedVariables false

theorem ret_str {a b : ByteArray} (h : a = b) : Ending.returned (.string a) = .returned (.string b) := by rw [h]
/-- A digit's byte. -/
def d48 (m : Nat) : UInt8 := UInt8.ofNat (48 + m % 10)
def str (l : List UInt8) : ByteArray := ⟨l.toArray⟩
theorem str_app (a b : List UInt8) : str a ++ str b = str (a ++ b) := by
  apply ByteArray.ext
  simp [str, ByteArray.data_append]
theorem str_size (a : List UInt8) : (str a).size = a.length := by
  show a.toArray.size = _
  simp
theorem decD_small (m : Nat) (h : m ≤ 9) : Lib.decDigits m = [d48 m] := by
  rw [Lib.decDigits, dif_pos (by omega)]
  unfold d48
  rw [Nat.mod_eq_of_lt (by omega)]
theorem decD_big (m : Nat) (h : 9 < m) : Lib.decDigits m = Lib.decDigits (m / 10) ++ [d48 m] := by
  rw [Lib.decDigits, dif_neg (by omega)]
  rfl
/-- One byte in a new block, as a string. -/
theorem conv_one (W : World) (m : Nat) :
    (convert 52 9 (.slice (some ⟨W.heap.size, 0, none⟩) 1 1)).run Tryd.prog (W.alloc (.cells #[.int .u8 (48 + (m : Int) % 10)] 5)) = .ok (.string (str [d48 m])) (W.alloc (.cells #[.int .u8 (48 + (m : Int) % 10)] 5)) := by
  have h := run_convert_bytes_back (P := Tryd.prog) (W.alloc (.cells #[.int .u8 (48 + (m : Int) % 10)] 5)) 52 9 5 ⟨W.heap.size, 0, none⟩ 1 [d48 m] Tryd.underlying52 Tryd.underlying5 Tryd.underlying9 (fun j hj => by
    have h0 : j = 0 := by simpa using hj
    subst h0
    rw [Lib.add_plain, World.cell?_alloc_new]
    have e : ((d48 m).toNat : Int) = 48 + (m : Int) % 10 := by
      unfold d48
      rw [UInt8.toNat_ofNat']
      omega
    simp [e])
  exact h

set_option maxHeartbeats 1000000 in
set_option maxRecDepth 100000 in
theorem rdigits_any (n : Int) (w : World) (h0 : 0 ≤ n) (h1 : n ≤ 18446744073709551615) :
    Calls Tryd.prog 38 #[.int .u64 n] w fun e w' => e = .returned (.string (dec n)) ∧ Below w.heap.size w w' := by
  obtain ⟨u, rfl⟩ : ∃ u : Nat, n = u := ⟨n.toNat, by omega⟩
  rw [dec_nat]
  have hcv := conv_one w u
  have HL := Lib.hid (decDigits_length_le u (by omega))
  go_enter Tryd.func38, Tryd.ntmps38
  go_wp2
  go_loopw [0, 3] (fun m v wr => ∃ (k : Nat) (t : List UInt8), m = .int .u64 (k : Int) ∧ (k : Int) ≤ 18446744073709551615 ∧ v = .string (str (d48 k :: t)) ∧ Hid (Lib.decDigits u = Lib.decDigits k ++ t) ∧ Below w.heap.size w wr) (fun m _ _ => (intOf m).toNat)
  case atStart => exact ⟨u, [], rfl, by omega, rfl, by show _ = _; simp, (Below.refl _ _).alloc (Nat.le_refl _) _⟩
  case round =>
    obtain ⟨k, t, rfl, hk, rfl, HD, hb⟩ := hrel
    have hlt : t.length ≤ 20 := by
      have := HL.out
      rw [HD.out, List.length_append] at this
      omega
    have hss : (str (d48 k :: t)).size ≤ 21 := by rw [str_size, List.length_cons]; omega
    by_cases h9 : 9 < k
    · have hcv2 := conv_one wr (k / 10)
      have hc : ((k / 10 : Nat) : Int) = (k : Int) / 10 := by omega
      rw [hc] at hcv2
      clear hc
      have hcat := Lib.hid (str_app [d48 (k / 10)] (d48 k :: t))
      have hs1 : (str [d48 (k / 10)]).size ≤ 1 := by rw [str_size]; simp
      go_wp2
      go_roundw
      case rel =>
        refine ⟨k / 10, d48 k :: t, rfl, by omega, by rw [hcat.out]; rfl, ?_, hb.alloc hb.size _⟩
        show _ = _
        rw [HD.out, decD_big k h9, List.append_assoc]
        rfl
      case measure => simp [intOf]; omega
    · go_wp2
      go_ret
      refine ⟨?_, hb⟩
      have := HD.out
      rw [decD_small k (by omega)] at this
      rw [this]; rfl
set_option maxHeartbeats 400000 in
set_option maxRecDepth 100000 in
theorem rnum_any (n : Int) (w : World) (h0 : -9223372036854775808 ≤ n) (h1 : n ≤ 9223372036854775807) :
    Calls Tryd.prog 37 #[.int .i64 n] w fun e w' => e = .returned (.string (num n)) ∧ Below w.heap.size w w' := by
  by_cases hn : n < 0
  · have hd : Calls Tryd.prog 38 #[.int .u64 (IntKind.u64.wrap (wrap64 (-n)))] w fun e w' => e = .returned (.string (dec (-n))) ∧ Below w.heap.size w w' := by
      have hw : IntKind.u64.wrap (wrap64 (-n)) = -n := by unfold wrap64; rw [IntKind.wrap_u64]; omega
      rw [hw]
      exact rdigits_any (-n) w (by omega) (by omega)
    have hcat := Lib.hid (str_app [45] (Lib.decDigits (-n).toNat))
    have hsz : (dec (-n)).size ≤ 20 := dec_size _ (by omega)
    have hnum : Hid (num n = str (45 :: Lib.decDigits (-n).toNat)) := by
      show _ = _
      unfold num Lib.itoa
      rw [if_pos hn, show n.natAbs = (-n).toNat by omega]; rfl
    have HD := Lib.hid hd
    clear hd
    go_enter Tryd.func37, Tryd.ntmps37
    go_wp2_with (go_at_call 38; with_reducible refine HD.out.mono ?_; rintro e w' ⟨rfl, hb⟩)
    go_ret
    exact ⟨ret_str (hcat.out.trans hnum.out.symm), hb⟩
  · have hd := rdigits_any n w (by omega) (by omega)
    have hnum : Hid (num n = dec n) := by
      show _ = _
      unfold num Lib.itoa dec
      rw [if_neg hn]
    have HD := Lib.hid hd
    clear hd
    go_enter Tryd.func37, Tryd.ntmps37
    go_wp2_with (go_at_call 38; with_reducible refine HD.out.mono ?_; rintro e w' ⟨rfl, hb⟩)
    go_ret
    exact ⟨ret_str hnum.out.symm, hb⟩

theorem ext16 (n : Nat) (h : n < 16) : ((⟨#[48, 49, 50, 51, 52, 53, 54, 55, 56, 57, 97, 98, 99, 100, 101, 102]⟩ : ByteArray).extract n (n + 1)) = str [hd n] := by
  have : ∀ m : Fin 16, ((⟨#[48, 49, 50, 51, 52, 53, 54, 55, 56, 57, 97, 98, 99, 100, 101, 102]⟩ : ByteArray).extract m.1 (m.1 + 1)).data = #[hd m.1] := by decide +kernel
  exact ByteArray.ext (this ⟨n, h⟩)

set_option maxHeartbeats 1000000 in
set_option maxRecDepth 100000 in
theorem rhex_any (s : ByteArray) (w : World) (hs : s.size ≤ 70368744177664) :
    Calls Tryd.prog 39 #[.string s] w fun e w' => e = .returned (.string (hex s)) ∧ Below w.heap.size w w' := by
  go_enter Tryd.func39, Tryd.ntmps39
  go_wp2
  go_loopw [3, 4] (fun v i wr => ∃ k : Nat, k ≤ s.size ∧ i = .int .i64 k ∧ v = .string (str (hexL (s.data.toList.take k))) ∧ Below w.heap.size w wr) (fun _ i _ => s.size - (intOf i).toNat)
  case atStart => exact ⟨0, Nat.zero_le _, rfl, rfl, Below.refl _ _⟩
  case round =>
    obtain ⟨k, hk, rfl, rfl, hbw⟩ := hrel
    have HT := Lib.hid (hexL_take s k)
    by_cases hlt : k < s.size
    · have hll : (str (hexL (s.data.toList.take k))).size + 2 ≤ 140737488355328 := by
        rw [str_size, hexL_length]
        have : (s.data.toList.take k).length ≤ k := List.length_take_le _ _
        omega
      have hx : s[k].toNat < 256 := UInt8.toNat_lt _
      have i1 : (0 : Int) ≤ (s[k].toNat : Int) / 16 := by omega
      have i2 : (s[k].toNat : Int) / 16 < 16 := by omega
      have i3 : (0 : Int) ≤ (s[k].toNat : Int) % 16 := by omega
      have i4 : (s[k].toNat : Int) % 16 < 16 := by omega
      have n1 : s[k].toNat / 16 < 16 := by omega
      have n2 : s[k].toNat % 16 < 16 := by omega
      have D1 := Lib.hid (ext16 _ n1)
      have D2 := Lib.hid (ext16 _ n2)
      have HC : ∀ t : List UInt8, (str t ++ (⟨#[48, 49, 50, 51, 52, 53, 54, 55, 56, 57, 97, 98, 99, 100, 101, 102]⟩ : ByteArray).extract (s[k].toNat / 16) (s[k].toNat / 16 + 1)) ++ (⟨#[48, 49, 50, 51, 52, 53, 54, 55, 56, 57, 97, 98, 99, 100, 101, 102]⟩ : ByteArray).extract (s[k].toNat % 16) (s[k].toNat % 16 + 1) = str (t ++ [hd (s[k].toNat / 16), hd (s[k].toNat % 16)]) := fun t => by
        rw [D1.out, D2.out, str_app, str_app, List.append_assoc]; rfl
      have HC2 := Lib.hid HC
      clear HC
      go_wp2
      go_quiet (fail)
      go_wp2
      go_roundw
      case rel => exact ⟨k + 1, by omega, by go_num, by rw [HC2.out, HT.out hlt], by first | exact hbw | exact ⟨hbw.os, hbw.tape, hbw.output, hbw.size, hbw.block⟩⟩
      case measure => simp [intOf]; omega
    · go_wp2
      go_ret
      refine ⟨?_, hbw⟩
      rw [List.take_of_length_le (by simp; omega)]
      rfl
end Go.Proofs.YtclohjcenkpgoaaDoor
