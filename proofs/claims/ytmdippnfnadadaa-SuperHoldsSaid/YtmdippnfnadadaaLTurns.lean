/-
  The walk of the law SuperTurns: bodies go to both sectors in turn.
  Conditions: a slice of texts that lies in memory.
-/
import Derived.Test.YtmdippnfnadadaaLNewest
import Derived.Deep.QuietTactic
import Derived.BigQuiet
namespace Go.Proofs.Ytmdippnfnadadaa
open Go.RowKit Vi Sp Dk
set_option linter.unusedVariables false
/-- So many texts, in memory. -/
def StrsAt (w : World) (A : Option Addr) (n : Nat) : Prop :=
  ∀ i, i < n → ∃ (ad : Addr) (s : ByteArray), A = some ad ∧ ad.block < w.heap.size ∧ w.cell? (ad.add i) = some (.string s)
theorem badd (a : Addr) (n : Nat) : (a.add n).block = a.block := by unfold Addr.add; split <;> rfl
/-- What stands in the two sectors, and beside them, behind j bodies. -/
structure Turn (d : St) (j : Nat) (x y : Sec) : Prop where
  well : Well d
  n : d.n = 4
  g : rdG d ((1 : Nat) : Int) = j
  o : wrO d ((1 : Nat) : Int) = ((j % 2 : Nat) : Int)
  x : d.now 0 = x
  y : d.now 3 = y
theorem Turn.next {d : St} {j : Nat} {x y : Sec} (h : Turn d j x y) (hj : j < 1000) {s : ByteArray} (hs : s.size ≤ 51) :
    wr d ((1 : Nat) : Int) s = (wrD d 1 s, 0) ∧ Turn (wrD d 1 s) (j + 1) x y ∧ rdV (wrD d 1 s) ((1 : Nat) : Int) = .returned (.tuple #[.string s, .int .u64 (j + 1 : Nat), .int .i64 (j % 2 : Nat), .int .i64 0]) := by
  have ha : 1 + 1 < d.n := by rw [h.n]; omega
  have hg : rdG d ((1 : Nat) : Int) ≠ 18446744073709551615 := by rw [h.g]; omega
  obtain ⟨r1, r2, r3, r4⟩ := rd_after h.well ha hs hg
  rw [h.o] at r4
  have r5 : rdK (wrD d 1 s) ((1 : Nat) : Int) = j % 2 := by omega
  refine ⟨wr_ok h.well ha hs hg, ⟨wrD_well h.well _ _, by rw [wrD_n]; exact h.n, by rw [r3, h.g], ?_, ?_, ?_⟩, ?_⟩
  · unfold wrO
    rw [r1, if_neg (by decide), r5]
    omega
  · rw [wrD_now, if_neg (by omega)]; exact h.x
  · rw [wrD_now, h.o, if_neg (by omega)]; exact h.y
  · unfold rdV; rw [r1, r2, r3, r5, h.g]
def turn0 (x y : List UInt8) : St := ((St.fresh 4 fun _ => zsec).put 0 (pad x)).put 3 (pad y)
theorem turn0_ok (x y : List UInt8) : Turn (turn0 x y) 0 (pad x) (pad y) := by
  have h0 : gAt (turn0 x y) ((1 : Nat) : Int) = 0 := (gAt_z (turn0 x y) ((1 : Nat) : Int) rfl).1
  have h1 : gAt (turn0 x y) (((1 : Nat) : Int) + 1) = 0 := (gAt_z (turn0 x y) (((1 : Nat) : Int) + 1) rfl).1
  have hb : bothE (turn0 x y) ((1 : Nat) : Int) = 0 := bothE_ok (d := turn0 x y) (a := 1) rfl (by show 1 + 1 < 4; omega)
  have hE : rdE (turn0 x y) ((1 : Nat) : Int) = 6 := by unfold rdE; rw [if_neg (by rw [hb]; simp), if_pos ⟨h0, h1⟩]
  refine ⟨⟨rfl, by show (-1 : Int) < 0; decide⟩, rfl, ?_, ?_, rfl, rfl⟩
  · unfold rdG; rw [if_neg (by rw [hE]; decide)]
  · unfold wrO; rw [hE, if_pos rfl]; rfl
theorem Turn.end3 {d : St} {j : Nat} {x y : Sec} (h : Turn d j x y) : wr d 3 ⟨#[]⟩ = (d, 5) := by
  have r0 : d.refuses 3 = 0 := refuses_yes_eq h.well.dead (by omega) (by rw [h.n]; omega)
  have r1 : d.refuses (3 + 1) = 5 := refuses_no_eq h.well.dead (.inr (by rw [h.n]; omega))
  have hb : bothE d 3 = 5 := by unfold bothE; rw [if_neg (by rw [r0]; simp), r1]
  have hE : rdE d 3 = 5 := by unfold rdE; rw [if_pos (by rw [hb]; decide), hb]
  unfold wr
  rw [if_neg (by decide), hE, if_pos (by decide)]
theorem wr_long (d : St) (a : Int) (s : ByteArray) (h : 51 < s.size) : wr d a s = (d, 3) := by unfold wr; rw [if_pos h]
theorem mk52 (W : World) : (Instr.makeSlice 57 (.int .i64 52) (.int .i64 52)).run Try.prog W = .ok (.slice (some ⟨W.heap.size, 0, none⟩) 52 52) (W.alloc (.cells (Lib.byteCells (List.replicate 52 0)).toArray 5)) := by
  obtain ⟨i0, hi0, hz0, hz1, hz2⟩ := info_parts Try.info5
  have h1 := run_make (P := Try.prog) W 57 5 i0 (.int .u8 0) Try.underlying57 hi0 hz0 .i64 .i64 52 52 (by omega) (by omega) (by rw [hz2]; omega) (by omega)
  have e : madeCells (Value.int .u8 0).cells ((52 : Int).toNat * i0.size) = (Lib.byteCells (List.replicate 52 0)).toArray := by
    rw [hz1]
    apply Array.ext'
    have h2 := toList_madeCells_one (Value.int .u8 0) 52
    show (madeCells #[Value.int IntKind.u8 0] 52).toList = _
    rw [h2]
    simp [Lib.byteCells]
  rw [e] at h1
  exact h1
set_option maxHeartbeats 4000000 in
set_option maxRecDepth 100000 in
theorem lturns_any (A : Option Addr) (len cap : Nat) (w : World) (hA : StrsAt w A len) (hlen : (len : Int) ≤ 9223372036854775807) :
    Calls Try.prog 6 #[.slice A len cap] w fun e w' => e = .returned (.bool true) ∧ Below w.heap.size w w' := by
  have HA := Lib.hid hA
  clear hA
  obtain ⟨ot, hot⟩ : ∃ x : ByteArray, x = ⟨#[111, 116, 104, 101, 114]⟩ := ⟨_, rfl⟩
  obtain ⟨on, hon⟩ : ∃ x : ByteArray, x = ⟨#[111, 110, 101]⟩ := ⟨_, rfl⟩
  have HOT := Lib.hid hot
  have HON := Lib.hid hon
  have hos : ot.size = 5 := by rw [hot]; rfl
  have hns : on.size = 3 := by rw [hon]; rfl
  have HN := Lib.hid (fun W => new_yes 4 W (by omega) (by omega))
  have HW1 : Hid (∀ (gd : Nat) (L : List Nat) (W : World), Dv W gd L (St.fresh 4 fun _ => zsec) → Calls Try.prog 19 #[ptr gd, .int .i64 0, .string ot] W fun e w' => e = .returned (.int .i64 0) ∧ Moves gd L ((St.fresh 4 fun _ => zsec).put 0 (pad ot.data.toList)) W w') := fun gd L W hD => by
    have := write_any gd L _ 0 ot.data.toList W hD
    rw [show ((0 : Int)) = ((0 : Nat) : Int) from rfl, write_ok_eq (by decide) rfl (by decide) (by rw [bytes_len]; omega), txt_of] at this
    exact this
  have HW2 : Hid (∀ (gd : Nat) (L : List Nat) (W : World), Dv W gd L ((St.fresh 4 fun _ => zsec).put 0 (pad ot.data.toList)) → Calls Try.prog 19 #[ptr gd, .int .i64 3, .string on] W fun e w' => e = .returned (.int .i64 0) ∧ Moves gd L (turn0 ot.data.toList on.data.toList) W w') := fun gd L W hD => by
    have := write_any gd L _ 3 on.data.toList W hD
    rw [show ((3 : Int)) = ((3 : Nat) : Int) from rfl, write_ok_eq (d := (St.fresh 4 fun _ => zsec).put 0 (pad ot.data.toList)) (by show (-1 : Int) < 0; decide) rfl (by show 3 < 4; decide) (by rw [bytes_len]; omega), txt_of] at this
    exact this
  have T0 := Lib.hid (turn0_ok ot.data.toList on.data.toList)
  have HSW := Lib.hid (fun (d : St) (a : Int) (t : ByteArray) (gd : Nat) (L : List Nat) (W : World) (hD : Dv W gd L d) (h1 : -9223372036854775808 ≤ a) (h2 : a ≤ 9223372036854775807) => swrite_any gd L d a t W hD h1 h2)
  have HSR := Lib.hid (fun (d : St) (gd : Nat) (L : List Nat) (W : World) (hD : Dv W gd L d) => sread_any gd L d 1 W hD (by omega) (by omega))
  have XO : (txt (pad ot.data.toList)).extract 0 5 = ot := by rw [hot]; decide +kernel
  have XN : (txt (pad on.data.toList)).extract 0 3 = on := by rw [hon]; decide +kernel
  have lo : ot.toList = [111, 116, 104, 101, 114] := by rw [hot]; decide +kernel
  have ln : on.toList = [111, 110, 101] := by rw [hon]; decide +kernel
  obtain ⟨xo, hxo⟩ : ∃ x, x = pad ot.data.toList := ⟨_, rfl⟩
  obtain ⟨xn, hxn⟩ : ∃ x, x = pad on.data.toList := ⟨_, rfl⟩
  rw [← hxo] at XO T0
  rw [← hxn] at XN T0
  have SO : (txt xo).size = 64 := by rw [hxo, txt_size, pad_length _ (by rw [bytes_len]; omega)]
  have SN : (txt xn).size = 64 := by rw [hxn, txt_size, pad_length _ (by rw [bytes_len]; omega)]
  have HXO := Lib.hid XO
  have HXN := Lib.hid XN
  have HSO := Lib.hid SO
  have HSN := Lib.hid SN
  have LO := Lib.hid lo
  have LN := Lib.hid ln
  clear hot hon hos hns hxo hxn XO XN SO SN lo ln
  unfold ptr at *
  go_enter Try.func6, Try.ntmps6
  go_wp2_with fail
  refine (examples_any w).mono ?_
  rintro e w1 ⟨rfl, b1⟩
  go_wp2_with fail
  refine (HN.out _).mono ?_
  rintro e w4 ⟨gd, L, rfl, D4, L4, b4⟩
  have b04 := b1.trans (b4.mono b1.size)
  have LL : ∀ k ∈ L, w.heap.size ≤ k := fun k hk => Nat.le_trans b1.size (L4 k hk)
  clear b1 b4 L4 HN
  unfold ptr at *
  go_wp2_with fail
  rw [← HOT.out]
  refine (HW1.out gd L _ D4).mono ?_
  rintro e w5 ⟨rfl, M5⟩
  obtain ⟨L5, D5, LL5, b05, s5, _, _⟩ := M5.below b04 b04.size LL
  clear M5 D4 LL b04 HW1
  go_wp2_with fail
  rw [← HON.out]
  refine (HW2.out gd L5 _ D5).mono ?_
  rintro e w6 ⟨rfl, M6⟩
  obtain ⟨L6, D6, LL6, b06, s6, _, _⟩ := M6.below b05 s5 LL5
  clear M6 D5 LL5 b05 s5 HW2
  go_wp2_with fail
  go_loopw [6, 7, 8, 9, 10, 11, 12] (fun i _ _ _ _ _ _ wr => ∃ (j : Nat) (L : List Nat) (d : St), j ≤ len ∧ j ≤ 10 ∧ i = .int .i64 j ∧ Dv wr gd L d ∧ Turn d j xo xn ∧ (∀ x ∈ L, w.heap.size ≤ x) ∧ Below w.heap.size w wr) (fun i _ _ _ _ _ _ _ => len - (RowKit.intOf i).toNat)
  case atStart => exact ⟨0, L6, _, Nat.zero_le _, Nat.zero_le _, rfl, D6, T0.out, LL6, b06⟩
  case round =>
    obtain ⟨j, Lr, d, hj, hj10, rfl, Dr, TR, LLr, br⟩ := hrel
    clear D6 LL6 b06 s6 T0
    have BR := Lib.hid br
    have LR := Lib.hid LLr
    have HT := Lib.hid TR
    clear br LLr TR
    by_cases h1 : j < len
    · by_cases h2 : j < 10
      · have h1' : (j : Int) < len := by omega
        have h2' : (j : Int) < 10 := by omega
        have hj0 : (0 : Int) ≤ j := by omega
        obtain ⟨ad, s, rfl, hadb, hc⟩ := HA.out j h1
        obtain ⟨S, hS, he⟩ := cut51 s
        obtain ⟨m, hm⟩ : ∃ m : Nat, min (s.size : Int) 51 = (m : Int) := ⟨(min (s.size : Int) 51).toNat, by omega⟩
        have hml : (m : Int) ≤ s.size := by omega
        have HE : Hid (s.extract 0 m = S) := by rw [hm, Int.toNat_natCast] at he; exact he
        obtain ⟨t1, t2, t3⟩ := HT.out.next (by omega) hS
        have K := Lib.hid (fun L W hD => HSW.out d 1 S gd L W hD (by omega) (by omega))
        rw [show ((1 : Int)) = ((1 : Nat) : Int) from rfl, t1] at K
        obtain ⟨d2, hd2⟩ : ∃ d2, d2 = wrD d 1 S := ⟨_, rfl⟩
        rw [← hd2] at K t2 t3
        have KR := Lib.hid (fun L W hD => HSR.out d2 gd L W hD)
        rw [show ((1 : Int)) = ((1 : Nat) : Int) from rfl, t3] at KR
        have HT2 := Lib.hid t2
        obtain ⟨r, hr⟩ : ∃ r, r = j % 2 := ⟨_, rfl⟩
        rw [← hr] at KR
        have hrt : (j : Int).tmod 2 = (r : Int) := by rw [Int.tmod_eq_emod_of_nonneg (by omega), hr]; push_cast; rfl
        have hwj : IntKind.i64.wrap ((j : Int) + 1) = ((j + 1 : Nat) : Int) := (IntWalk.i64_in _ (by omega)).trans (by push_cast; rfl)
        have hwu : IntKind.u64.wrap ((j + 1 : Nat) : Int) = ((j + 1 : Nat) : Int) := IntWalk.u64_in _ (by omega)
        have hwr : IntKind.i64.wrap (r : Int) = (r : Int) := IntWalk.i64_in _ (by omega)
        have hcr : wr.cell? (ad.add j) = some (.string s) := (BR.out.cell (p := ad.add j) (by rw [badd]; exact hadb)).trans hc
        have qs : (S.toList == S.toList) = true := beq_self_eq_true _
        clear he t1 t2 t3 hd2 hr hc hadb hS h1 h2
        unfold ptr at *
        go_wp2_with fail
        go_quiet (fail)
        rw [HE.out]
        have DX : Dv (wr.drewN nq) gd Lr d := Dr.below ⟨rfl, rfl, rfl, Nat.le_refl _, fun _ _ => rfl⟩
        have BX : Below w.heap.size w (wr.drewN nq) := BR.out.trans ⟨rfl, rfl, rfl, Nat.le_refl _, fun _ _ => rfl⟩
        generalize wr.drewN nq = X at *
        clear Dr BR hcr HE hm hml
        go_wp2_with fail
        refine (K.out Lr _ DX).mono ?_
        rintro e w7 ⟨rfl, M7⟩
        obtain ⟨L7, D7, LL7, b07, s7, _, _⟩ := M7.below BX BX.size LR.out
        clear K M7 DX BX
        go_wp2_with fail
        refine (KR.out L7 _ D7).mono ?_
        rintro e w8 ⟨rfl, b8⟩
        have D8 := Lib.hid (D7.below b8)
        have b08 := Lib.hid (b07.trans (b8.mono s7))
        clear KR D7 b07 s7 b8
        go_wp2
        go_roundw
        case rel => exact ⟨j + 1, L7, d2, by omega, by omega, by go_num, D8.out, HT2.out, LL7, b08.out⟩
        case measure => simp [RowKit.intOf]; omega
      · have h2' : decide (j < 10) = false := decide_eq_false h2
        have h2'' : decide ((j : Int) < 10) = false := decide_eq_false (by omega)
        have h1' : (j : Int) < len := by omega
        have HRD := Lib.hid (fun (i : Int) => read_any gd Lr d i wr Dr)
        have HRD2 := Lib.hid (fun (W : World) (hW : Below wr.heap.size wr W) => read_any gd Lr d 3 W (Dr.below hW))
        have z0 : d.readS 0 = xo := by
          have := readS_eq (d := d) (i := 0) HT.out.well.dead (by rw [HT.out.n]; omega)
          rw [HT.out.x] at this; exact this
        have z3 : d.readS 3 = xn := by
          have := readS_eq (d := d) (i := 3) HT.out.well.dead (by rw [HT.out.n]; omega)
          rw [HT.out.y] at this; exact this
        have y0 : d.refuses 0 = 0 := refuses_yes_eq HT.out.well.dead (by omega) (by rw [HT.out.n]; omega)
        have y3 : d.refuses 3 = 0 := refuses_yes_eq HT.out.well.dead (by omega) (by rw [HT.out.n]; omega)
        have HRA := Lib.hid (HRD.out 0)
        rw [z0, y0] at HRA
        rw [z3, y3] at HRD2
        have HW3 := Lib.hid (fun L W hD => HSW.out d 3 ⟨#[]⟩ gd L W hD (by omega) (by omega))
        rw [HT.out.end3] at HW3
        have HW4 := Lib.hid (fun L W hD => HSW.out d 1 (zB 52) gd L W hD (by omega) (by omega))
        rw [wr_long d 1 (zB 52) (by rw [zB_size]; omega)] at HW4
        have HDR := Lib.hid Dr
        clear z0 z3 y0 y3 Dr HRD HSW HSR
        unfold ptr at *
        go_wp2_with fail
        refine HRA.out.mono ?_
        rintro e w7 ⟨rfl, b7⟩
        go_wp2_with fail
        refine (HRD2.out _ b7).mono ?_
        rintro e w8 ⟨rfl, b8⟩
        have D8 := HDR.out.below (b7.trans (b8.mono b7.size))
        have b08 := BR.out.trans ((b7.trans (b8.mono b7.size)).mono BR.out.size)
        clear b7 b8 HRA HRD2 HDR
        have s1 : ¬ (txt xo).size < 5 := by have := HSO.out; omega
        have s2 : ¬ (txt xn).size < 3 := by have := HSN.out; omega
        have s3 : (5 : Int) ≤ (txt xo).size := by have := HSO.out; omega
        have s4 : (3 : Int) ≤ (txt xn).size := by have := HSN.out; omega
        have xo5 : (txt xo).extract 0 5 = ot := HXO.out
        have xn3 : (txt xn).extract 0 3 = on := HXN.out
        have lo := LO.out
        have ln := LN.out
        have mk := mk52
        obtain ⟨M, hM⟩ : ∃ M, M = (Lib.byteCells (List.replicate 52 0)).toArray := ⟨_, rfl⟩
        have cvv : ∀ W : World, (convert 57 9 (.slice (some ⟨W.heap.size, 0, none⟩) 52 52)).run Try.prog (W.alloc (.cells M 5)) = .ok (.string (zB 52)) (W.alloc (.cells M 5)) := fun W => by rw [hM]; exact sz_conv 52 _ _ (heap_alloc_new _ _)
        rw [← hM] at mk
        clear hM
        go_wp2_with fail
        refine (HW3.out Lr _ D8).mono ?_
        rintro e w9 ⟨rfl, M9⟩
        obtain ⟨L9, D9, LL9, b09, s9, _, _⟩ := M9.below b08 b08.size LR.out
        clear D8 M9 b08 HW3
        go_wp2_with fail
        have D10 := D9.alloc (.cells M 5)
        have b10 := b09.alloc s9 (.cells M 5)
        have s10 : w.heap.size ≤ (w9.alloc (.cells M 5)).heap.size := b10.size
        refine (HW4.out L9 _ D10).mono ?_
        rintro e w11 ⟨rfl, M11⟩
        obtain ⟨L11, _, _, b11, _, _, _⟩ := M11.below b10 s10 LL9
        have B := Lib.hid b11
        clear D9 D10 b09 b10 b11 M11 mk cvv HW4
        go_wp2
        go_ret
        exact ⟨rfl, B.out⟩
    · have h1' : decide (j < len) = false := decide_eq_false h1
      have h1'' : decide ((j : Int) < len) = false := decide_eq_false (by omega)
      have HRD := Lib.hid (fun (i : Int) => read_any gd Lr d i wr Dr)
      have HRD2 := Lib.hid (fun (W : World) (hW : Below wr.heap.size wr W) => read_any gd Lr d 3 W (Dr.below hW))
      have z0 : d.readS 0 = xo := by
        have := readS_eq (d := d) (i := 0) HT.out.well.dead (by rw [HT.out.n]; omega)
        rw [HT.out.x] at this; exact this
      have z3 : d.readS 3 = xn := by
        have := readS_eq (d := d) (i := 3) HT.out.well.dead (by rw [HT.out.n]; omega)
        rw [HT.out.y] at this; exact this
      have y0 : d.refuses 0 = 0 := refuses_yes_eq HT.out.well.dead (by omega) (by rw [HT.out.n]; omega)
      have y3 : d.refuses 3 = 0 := refuses_yes_eq HT.out.well.dead (by omega) (by rw [HT.out.n]; omega)
      have HRA := Lib.hid (HRD.out 0)
      rw [z0, y0] at HRA
      rw [z3, y3] at HRD2
      have HW3 := Lib.hid (fun L W hD => HSW.out d 3 ⟨#[]⟩ gd L W hD (by omega) (by omega))
      rw [HT.out.end3] at HW3
      have HW4 := Lib.hid (fun L W hD => HSW.out d 1 (zB 52) gd L W hD (by omega) (by omega))
      rw [wr_long d 1 (zB 52) (by rw [zB_size]; omega)] at HW4
      have HDR := Lib.hid Dr
      clear z0 z3 y0 y3 Dr HRD HSW HSR
      unfold ptr at *
      go_wp2_with fail
      refine HRA.out.mono ?_
      rintro e w7 ⟨rfl, b7⟩
      go_wp2_with fail
      refine (HRD2.out _ b7).mono ?_
      rintro e w8 ⟨rfl, b8⟩
      have D8 := HDR.out.below (b7.trans (b8.mono b7.size))
      have b08 := BR.out.trans ((b7.trans (b8.mono b7.size)).mono BR.out.size)
      clear b7 b8 HRA HRD2 HDR
      have s1 : ¬ (txt xo).size < 5 := by have := HSO.out; omega
      have s2 : ¬ (txt xn).size < 3 := by have := HSN.out; omega
      have s3 : (5 : Int) ≤ (txt xo).size := by have := HSO.out; omega
      have s4 : (3 : Int) ≤ (txt xn).size := by have := HSN.out; omega
      have xo5 : (txt xo).extract 0 5 = ot := HXO.out
      have xn3 : (txt xn).extract 0 3 = on := HXN.out
      have lo := LO.out
      have ln := LN.out
      have mk := mk52
      obtain ⟨M, hM⟩ : ∃ M, M = (Lib.byteCells (List.replicate 52 0)).toArray := ⟨_, rfl⟩
      have cvv : ∀ W : World, (convert 57 9 (.slice (some ⟨W.heap.size, 0, none⟩) 52 52)).run Try.prog (W.alloc (.cells M 5)) = .ok (.string (zB 52)) (W.alloc (.cells M 5)) := fun W => by rw [hM]; exact sz_conv 52 _ _ (heap_alloc_new _ _)
      rw [← hM] at mk
      clear hM
      go_wp2_with fail
      refine (HW3.out Lr _ D8).mono ?_
      rintro e w9 ⟨rfl, M9⟩
      obtain ⟨L9, D9, LL9, b09, s9, _, _⟩ := M9.below b08 b08.size LR.out
      clear D8 M9 b08 HW3
      go_wp2_with fail
      have D10 := D9.alloc (.cells M 5)
      have b10 := b09.alloc s9 (.cells M 5)
      have s10 : w.heap.size ≤ (w9.alloc (.cells M 5)).heap.size := b10.size
      refine (HW4.out L9 _ D10).mono ?_
      rintro e w11 ⟨rfl, M11⟩
      obtain ⟨L11, _, _, b11, _, _, _⟩ := M11.below b10 s10 LL9
      have B := Lib.hid b11
      clear D9 D10 b09 b10 b11 M11 mk cvv HW4
      go_wp2
      go_ret
      exact ⟨rfl, B.out⟩
end Go.Proofs.Ytmdippnfnadadaa
