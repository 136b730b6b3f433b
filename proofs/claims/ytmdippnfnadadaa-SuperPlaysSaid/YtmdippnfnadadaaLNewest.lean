/-
  The walk of the law SuperNewest: the newer of two counts, wherever it stands.
  Conditions: the arguments' bounds.
-/
import Derived.Test.YtmdippnfnadadaaSE
namespace Go.Proofs.Ytmdippnfnadadaa
open Go.RowKit Vi Sp Dk
set_option linter.unusedVariables false
/-- What a sector holds that was written so. -/
structure Slot (g : Nat) (S a : ByteArray) (ok : Bool) : Prop where
  sz : a.size ≤ 64
  yes : ok = true → getG (txt (pad a.data.toList)) = g ∧ getB (txt (pad a.data.toList)) = S ∧ g ≠ 0
  no : ok = false → getG (txt (pad a.data.toList)) = 0
theorem slot_put {g : Nat} {S : ByteArray} (hg : g < 18446744073709551616) : Slot g S (cS g S) (cO g S) := by
  refine ⟨cS_size g S, fun h => ?_, fun h => ?_⟩
  · have h2 := get_cell g S hg h
    rw [txt_pad (by rw [cS_yes h, cell_size g S ((cO_iff g S).1 h).2]), cS_yes h]
    exact ⟨h2.1, h2.2, ((cO_iff g S).1 h).1⟩
  · rw [cS_no h]; decide +kernel
theorem slot_nil (g : Nat) (S : ByteArray) : Slot g S ⟨#[]⟩ false := ⟨by decide, (fun h => by cases h), fun _ => by decide +kernel⟩
theorem slot_junk (g : Nat) (S : ByteArray) : Slot g S ⟨#[106, 117, 110, 107]⟩ false := ⟨by decide, (fun h => by cases h), fun _ => by decide +kernel⟩
theorem cut51 (s : ByteArray) : ∃ a : ByteArray, a.size ≤ 51 ∧ s.extract 0 (min (s.size : Int) 51).toNat = a := ⟨_, by rw [ByteArray.size_extract]; omega, rfl⟩
/-- The device with both sectors written. -/
def twoD (a b : ByteArray) : St := ((St.fresh 2 fun _ => zsec).put 0 (pad a.data.toList)).put 1 (pad b.data.toList)
theorem twoD_at (a b : ByteArray) : gAt (twoD a b) 0 = getG (txt (pad a.data.toList)) ∧ bAt (twoD a b) 0 = getB (txt (pad a.data.toList)) ∧ gAt (twoD a b) (0 + 1) = getG (txt (pad b.data.toList)) ∧ bAt (twoD a b) (0 + 1) = getB (txt (pad b.data.toList)) := ⟨rfl, rfl, rfl, rfl⟩
theorem twoD_both (a b : ByteArray) : bothE (twoD a b) 0 = 0 := bothE_ok (d := twoD a b) (a := 0) rfl (by show 0 + 1 < 2; omega)
set_option maxHeartbeats 4000000 in
set_option maxRecDepth 100000 in
theorem lnewest_any (g h : Nat) (s t : ByteArray) (k : Nat) (w : World) (hg : g < 18446744073709551616) (hh : h < 18446744073709551616) (hs : s.size ≤ 140737488351232) (ht : t.size ≤ 140737488351232) (hk : k < 256) :
    Calls Try.prog 7 #[.int .u64 g, .int .u64 h, .string s, .string t, .int .u8 k] w fun e w' => e = .returned (.bool true) ∧ Below w.heap.size w w' := by
  obtain ⟨S, hS, he1⟩ := cut51 s
  obtain ⟨T, hT, he2⟩ := cut51 t
  have HE1 := Lib.hid he1
  have HE2 := Lib.hid he2
  have P1 := Lib.hid (fun W => sput_any g S W hg (by omega))
  have P2 := Lib.hid (fun W => sput_any h T W hh (by omega))
  have A0 := Lib.hid (slot_put (S := S) hg)
  have B0 := Lib.hid (slot_put (S := T) hh)
  clear he1 he2 hS hT
  generalize cS g S = a0 at *
  generalize cO g S = o0 at *
  generalize cS h T = b0 at *
  generalize cO h T = i0 at *
  go_enter Try.func7, Try.ntmps7
  go_wp2_with fail
  refine (examples_any w).mono ?_
  rintro e w1 ⟨rfl, b1⟩
  go_wp2_with fail
  rw [HE1.out]
  refine (P1.out _).mono ?_
  rintro e w2 ⟨rfl, b2⟩
  have b02 := b1.trans (b2.mono b1.size)
  go_wp2_with fail
  rw [HE2.out]
  refine (P2.out _).mono ?_
  rintro e w3 ⟨rfl, b3⟩
  have b03 := b02.trans (b3.mono b02.size)
  clear b1 b2 b3 b02 P1 P2
  go_upto_if 49 with (fail)
  go_cut [12, 13] from 49 to 50 (fun s12 s13 wx => w3 = wx ∧ ∃ (a : ByteArray) (ok : Bool), s12 = .string a ∧ s13 = .bool ok ∧ Slot g S a ok)
  case first =>
    by_cases hq : (k : Int) % 3 = 1
    · go_wp2
      go_meet
      exact ⟨rfl, _, _, rfl, rfl, slot_nil g S⟩
    · have hq' : ((k : Int) % 3 == 1) = false := by simpa using hq
      go_wp2
      go_meet
      exact ⟨rfl, _, _, rfl, rfl, A0.out⟩
  case rest =>
    obtain ⟨rfl, a, ok, rfl, rfl, SA⟩ := hcut
    have HA := Lib.hid SA
    clear SA A0
    go_upto_if 52 with (fail)
    go_cut [14, 15] from 52 to 53 (fun s14 s15 wx => w3 = wx ∧ ∃ (b : ByteArray) (is : Bool), s14 = .string b ∧ s15 = .bool is ∧ Slot h T b is)
    case first =>
      by_cases hq : (k : Int) % 3 = 2
      · go_wp2
        go_meet
        exact ⟨rfl, _, _, rfl, rfl, slot_junk h T⟩
      · have hq' : ((k : Int) % 3 == 2) = false := by simpa using hq
        go_wp2
        go_meet
        exact ⟨rfl, _, _, rfl, rfl, B0.out⟩
    case rest =>
      obtain ⟨rfl, b, is, rfl, rfl, SB⟩ := hcut
      have HB := Lib.hid SB
      clear SB B0
      have HN := Lib.hid (fun W => new_yes 2 W (by omega) (by omega))
      have HW1 : Hid (∀ (gd : Nat) (L : List Nat) (W : World), Dv W gd L (St.fresh 2 fun _ => zsec) → Calls Try.prog 19 #[ptr gd, .int .i64 0, .string a] W fun e w' => e = .returned (.int .i64 0) ∧ Moves gd L ((St.fresh 2 fun _ => zsec).put 0 (pad a.data.toList)) W w') := fun gd L W hD => by
        have := write_any gd L _ 0 a.data.toList W hD
        rw [show ((0 : Int)) = ((0 : Nat) : Int) from rfl, write_ok_eq (by decide) rfl (by decide) (by rw [bytes_len]; exact HA.out.sz), txt_of] at this
        exact this
      have HW2 : Hid (∀ (gd : Nat) (L : List Nat) (W : World), Dv W gd L ((St.fresh 2 fun _ => zsec).put 0 (pad a.data.toList)) → Calls Try.prog 19 #[ptr gd, .int .i64 1, .string b] W fun e w' => e = .returned (.int .i64 0) ∧ Moves gd L (twoD a b) W w') := fun gd L W hD => by
        have := write_any gd L _ 1 b.data.toList W hD
        rw [show ((1 : Int)) = ((1 : Nat) : Int) from rfl, write_ok_eq (d := (St.fresh 2 fun _ => zsec).put 0 (pad a.data.toList)) (by show (-1 : Int) < 0; decide) rfl (by show 1 < 2; decide) (by rw [bytes_len]; exact HB.out.sz), txt_of] at this
        exact this
      have HR := Lib.hid (fun (gd : Nat) (L : List Nat) (W : World) (hD : Dv W gd L (twoD a b)) => sread_any gd L (twoD a b) 0 W hD (by omega) (by omega))
      obtain ⟨t1, t2, t3, t4⟩ := twoD_at a b
      have hbo := twoD_both a b
      unfold ptr at *
      clear HE1 HE2 hs ht hg hh hk
      go_wp2_with fail
      refine (HN.out _).mono ?_
      rintro e w4 ⟨gd, L, rfl, D4, L4, b4⟩
      have b04 := b03.trans (b4.mono b03.size)
      have LL : ∀ k ∈ L, w.heap.size ≤ k := fun k hk => Nat.le_trans b03.size (L4 k hk)
      clear b4 b03 L4 HN
      unfold ptr at *
      go_wp2_with fail
      refine (HW1.out gd L _ D4).mono ?_
      rintro e w5 ⟨rfl, M5⟩
      obtain ⟨L5, D5, LL5, b05, s5, _, _⟩ := M5.below b04 b04.size LL
      clear M5 D4 LL b04 HW1
      go_wp2_with fail
      refine (HW2.out gd L5 _ D5).mono ?_
      rintro e w6 ⟨rfl, M6⟩
      obtain ⟨L6, D6, LL6, b06, s6, _, _⟩ := M6.below b05 s5 LL5
      clear M6 D5 LL5 b05 s5 HW2
      have HR := Lib.hid (HR.out gd L6 w6 D6)
      have fin : Hid (∀ w', Below w6.heap.size w6 w' → Below w.heap.size w w') := fun w' hb => b06.trans (hb.mono s6)
      clear D6 LL6 b06 s6
      cases ok with
      | false =>
        have n1 := HA.out.no rfl
        rw [← t1] at n1
        cases is with
        | false =>
          have n2 := HB.out.no rfl
          rw [← t3] at n2
          rw [rdV_none hbo n1 n2] at HR
          clear t1 t2 t3 t4 hbo n1 n2
          go_wp2_with fail
          refine HR.out.mono ?_
          rintro e w7 ⟨rfl, b7⟩
          go_wp2
          go_ret
          exact ⟨rfl, fin.out _ b7⟩
        | true =>
          obtain ⟨n2, n3, n4⟩ := HB.out.yes rfl
          rw [← t3] at n2
          rw [← t4] at n3
          rw [rdV_one hbo (by rw [n1, n2]; omega), n2, n3] at HR
          have qt : (T.toList == T.toList) = true := beq_self_eq_true _
          clear t1 t2 t3 t4 hbo n1 n2 n3
          go_wp2_with fail
          refine HR.out.mono ?_
          rintro e w7 ⟨rfl, b7⟩
          go_wp2
          go_ret
          exact ⟨rfl, fin.out _ b7⟩
      | true =>
        obtain ⟨m1, m2, m3⟩ := HA.out.yes rfl
        rw [← t1] at m1
        rw [← t2] at m2
        have qs : (S.toList == S.toList) = true := beq_self_eq_true _
        cases is with
        | false =>
          have n2 := HB.out.no rfl
          rw [← t3] at n2
          rw [rdV_zero hbo (by rw [m1, n2]; omega) (by rw [m1]; exact m3), m1, m2] at HR
          clear t1 t2 t3 t4 hbo m1 m2 n2
          go_wp2_with fail
          refine HR.out.mono ?_
          rintro e w7 ⟨rfl, b7⟩
          go_wp2
          go_ret
          exact ⟨rfl, fin.out _ b7⟩
        | true =>
          obtain ⟨n2, n3, n4⟩ := HB.out.yes rfl
          rw [← t3] at n2
          rw [← t4] at n3
          have qt : (T.toList == T.toList) = true := beq_self_eq_true _
          by_cases hlt : g < h
          · rw [rdV_one hbo (by rw [m1, n2]; exact hlt), n2, n3] at HR
            have hd : decide ((h : Int) ≤ (g : Int)) = false := decide_eq_false (by omega)
            have hd' : decide (h ≤ g) = false := decide_eq_false (by omega)
            clear t1 t2 t3 t4 hbo m1 m2 n2 n3
            go_wp2_with fail
            refine HR.out.mono ?_
            rintro e w7 ⟨rfl, b7⟩
            go_wp2
            go_ret
            exact ⟨rfl, fin.out _ b7⟩
          · rw [rdV_zero hbo (by rw [m1, n2]; exact hlt) (by rw [m1]; exact m3), m1, m2] at HR
            have hd : (h : Int) ≤ (g : Int) := by omega
            have hd' : h ≤ g := by omega
            clear t1 t2 t3 t4 hbo m1 m2 n2 n3
            go_wp2_with fail
            refine HR.out.mono ?_
            rintro e w7 ⟨rfl, b7⟩
            go_wp2
            go_ret
            exact ⟨rfl, fin.out _ b7⟩
end Go.Proofs.Ytmdippnfnadadaa
