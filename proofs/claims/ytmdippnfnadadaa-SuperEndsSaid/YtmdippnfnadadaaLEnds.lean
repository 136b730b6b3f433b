/-
  The walk of the law SuperEnds: at the greatest gen there is no next one.
  Conditions: the arguments' bounds.
-/
import Derived.Test.YtmdippnfnadadaaLNewest
import Derived.Test.YtmdippnfnadadaaIm
namespace Go.Proofs.Ytmdippnfnadadaa
open Go.RowKit Vi Sp Dk
set_option linter.unusedVariables false
/-- So many bodies written, one behind the other. -/
def wrN (d : St) (a : Nat) (s : ByteArray) : Nat → St
  | 0 => d
  | n + 1 => wrD (wrN d a s n) a s
theorem wrN_n (d : St) (a : Nat) (s : ByteArray) : ∀ n, (wrN d a s n).n = d.n
  | 0 => rfl
  | n + 1 => wrN_n d a s n
theorem wrN_well {d : St} (h : Well d) (a : Nat) (s : ByteArray) : ∀ n, Well (wrN d a s n)
  | 0 => h
  | n + 1 => wrD_well (wrN_well h a s n) a s
theorem wrN_rd {d : St} (hw : Well d) {a : Nat} (ha : a + 1 < d.n) {s : ByteArray} (hs : s.size ≤ 51) (hE : rdE d a = 0) : ∀ n, rdG d a + n ≤ 18446744073709551615 →
    rdE (wrN d a s n) a = 0 ∧ rdG (wrN d a s n) a = rdG d a + n ∧ (0 < n → rdB (wrN d a s n) a = s)
  | 0, _ => ⟨hE, rfl, fun h => by omega⟩
  | n + 1, hn => by
    obtain ⟨h1, h2, _⟩ := wrN_rd hw ha hs hE n (by omega)
    obtain ⟨r1, r2, r3, _⟩ := rd_after (wrN_well hw a s n) (by rw [wrN_n]; exact ha) hs (by omega)
    exact ⟨r1, by show rdG (wrD (wrN d a s n) a s) a = _; rw [r3, h2]; omega, fun _ => r2⟩
/-- The device with one sector written, and flushed. -/
def oneD (c : ByteArray) : St := ((St.fresh 2 fun _ => zsec).put 0 (pad c.data.toList)).settle
theorem oneD_well (c : ByteArray) : Well (oneD c) := ⟨rfl, by show (-1 : Int) < 0; decide⟩
theorem oneD_rd {g : Nat} {b c : ByteArray} (hs : Slot g b c true) : rdE (oneD c) ((0 : Nat) : Int) = 0 ∧ rdG (oneD c) ((0 : Nat) : Int) = g ∧ rdB (oneD c) ((0 : Nat) : Int) = b := by
  obtain ⟨h1, h2, h3⟩ := hs.yes rfl
  have g0 : gAt (oneD c) ((0 : Nat) : Int) = g := h1
  have b0 : bAt (oneD c) ((0 : Nat) : Int) = b := h2
  have g1 : gAt (oneD c) (((0 : Nat) : Int) + 1) = 0 := (gAt_z (oneD c) (((0 : Nat) : Int) + 1) rfl).1
  have hb : bothE (oneD c) ((0 : Nat) : Int) = 0 := bothE_ok (d := oneD c) (a := 0) rfl (by show 0 + 1 < 2; omega)
  have hE := rdE_zero hb (.inl (by rw [g0]; exact h3))
  have hl : ¬ gAt (oneD c) ((0 : Nat) : Int) < gAt (oneD c) (((0 : Nat) : Int) + 1) := by rw [g0, g1]; omega
  refine ⟨hE, ?_, ?_⟩
  · unfold rdG; rw [if_pos hE, if_neg hl, g0]
  · unfold rdB; rw [if_pos hE, if_neg hl, b0]
set_option maxHeartbeats 4000000 in
set_option maxRecDepth 100000 in
theorem lends_any (s : ByteArray) (n : Nat) (w : World) (hs : s.size ≤ 140737488351232) (hn : n < 256) :
    Calls Try.prog 8 #[.string s, .int .u8 n] w fun e w' => e = .returned (.bool true) ∧ Below w.heap.size w w' := by
  obtain ⟨S, hS, he1⟩ := cut51 s
  have HE1 := Lib.hid he1
  obtain ⟨k, hk⟩ : ∃ k, k = n % 4 := ⟨_, rfl⟩
  have hki : (n : Int) % 4 = (k : Int) := by rw [hk]; push_cast; rfl
  have hk4 : k < 4 := by omega
  obtain ⟨old, hold⟩ : ∃ x : ByteArray, x = ⟨#[111, 108, 100]⟩ := ⟨_, rfl⟩
  obtain ⟨new, hnew⟩ : ∃ x : ByteArray, x = ⟨#[110, 101, 119]⟩ := ⟨_, rfl⟩
  have HO := Lib.hid hold
  have HNW := Lib.hid hnew
  have hos : old.size = 3 := by rw [hold]; rfl
  have hns : new.size = 3 := by rw [hnew]; rfl
  obtain ⟨G, hG⟩ : ∃ G, G = 18446744073709551615 - k := ⟨_, rfl⟩
  have hGi : (18446744073709551615 : Int) - (k : Int) = (G : Int) := by omega
  have hGw : IntKind.u64.wrap (G : Int) = (G : Int) := IntWalk.u64_in _ (by omega)
  have hkw : IntKind.u64.wrap (k : Int) = (k : Int) := IntWalk.u64_in _ (by omega)
  have P1 := Lib.hid (fun W => sput_any G old W (by omega) (by omega))
  have hco : cO G old = true := (cO_iff _ _).2 ⟨by omega, by omega⟩
  have A0 := slot_put (S := old) (show G < 18446744073709551616 by omega)
  rw [hco] at P1 A0
  obtain ⟨c, hc⟩ : ∃ c, c = cS G old := ⟨_, rfl⟩
  rw [← hc] at P1 A0
  obtain ⟨f1, f2, f3⟩ := oneD_rd A0
  have hw0 := oneD_well c
  have hn0 : 0 + 1 < (oneD c).n := by show 0 + 1 < 2; omega
  have HN := Lib.hid (fun W => new_yes 2 W (by omega) (by omega))
  have HW1 : Hid (∀ (gd : Nat) (L : List Nat) (W : World), Dv W gd L (St.fresh 2 fun _ => zsec) → Calls Try.prog 19 #[ptr gd, .int .i64 0, .string c] W fun e w' => e = .returned (.int .i64 0) ∧ Moves gd L ((St.fresh 2 fun _ => zsec).put 0 (pad c.data.toList)) W w') := fun gd L W hD => by
    have := write_any gd L _ 0 c.data.toList W hD
    rw [show ((0 : Int)) = ((0 : Nat) : Int) from rfl, write_ok_eq (by decide) rfl (by decide) (by rw [bytes_len]; exact A0.sz), txt_of] at this
    exact this
  have HF : Hid (∀ (gd : Nat) (L : List Nat) (W : World), Dv W gd L ((St.fresh 2 fun _ => zsec).put 0 (pad c.data.toList)) → Calls Try.prog 30 #[ptr gd] W fun e w' => e = .returned (.int .i64 0) ∧ Moves gd L (oneD c) W w') := fun gd L W hD => by
    have := flush_any gd L _ W hD
    rw [flush_ok_eq (d := (St.fresh 2 fun _ => zsec).put 0 (pad c.data.toList)) (by show (-1 : Int) < 0; decide) rfl] at this
    exact this
  have RN := Lib.hid (fun j => wrN_rd hw0 hn0 hS f1 j)
  have WN := Lib.hid (fun j => wrN_well hw0 0 S j)
  have NN := Lib.hid (fun j => wrN_n (oneD c) 0 S j)
  rw [f2] at RN
  have R0 : Hid (rdB (wrN (oneD c) 0 S 0) ((0 : Nat) : Int) = old) := f3
  have HSW := Lib.hid (fun (d : St) (t : ByteArray) (gd : Nat) (L : List Nat) (W : World) (hD : Dv W gd L d) => swrite_any gd L d 0 t W hD (by omega) (by omega))
  have HSR := Lib.hid (fun (d : St) (gd : Nat) (L : List Nat) (W : World) (hD : Dv W gd L d) => sread_any gd L d 0 W hD (by omega) (by omega))
  have HIM := Lib.hid (fun (d : St) (gd : Nat) (L : List Nat) (W : World) (hD : Dv W gd L d) => image_any gd L d W hD)
  have HG := Lib.hid hG
  have HSS := Lib.hid hS
  clear he1 hk hold hnew hG hco A0 hc f1 f2 f3 hw0 hn0 hn hs hS
  obtain ⟨d0, hd0⟩ : ∃ d0, d0 = oneD c := ⟨_, rfl⟩
  rw [← hd0] at HF RN WN NN R0
  have HD0 := Lib.hid hd0
  clear hd0
  unfold ptr at *
  go_enter Try.func8, Try.ntmps8
  go_wp2_with fail
  refine (examples_any w).mono ?_
  rintro e w1 ⟨rfl, b1⟩
  go_wp2_with fail
  rw [← HO.out]
  refine (P1.out _).mono ?_
  rintro e w2 ⟨rfl, b2⟩
  have b02 := b1.trans (b2.mono b1.size)
  go_wp2_with fail
  refine (HN.out _).mono ?_
  rintro e w4 ⟨gd, L, rfl, D4, L4, b4⟩
  have b04 := b02.trans (b4.mono b02.size)
  have LL : ∀ k ∈ L, w.heap.size ≤ k := fun k hk => Nat.le_trans b02.size (L4 k hk)
  clear b1 b2 b4 b02 L4 HN P1
  unfold ptr at *
  go_wp2_with fail
  refine (HW1.out gd L _ D4).mono ?_
  rintro e w5 ⟨rfl, M5⟩
  obtain ⟨L5, D5, LL5, b05, s5, _, _⟩ := M5.below b04 b04.size LL
  clear M5 D4 LL b04 HW1
  go_wp2_with fail
  refine (HF.out gd L5 _ D5).mono ?_
  rintro e w6 ⟨rfl, M6⟩
  obtain ⟨L6, D6, LL6, b06, s6, _, _⟩ := M6.below b05 s5 LL5
  clear M6 D5 LL5 b05 s5 HF
  go_wp2_with fail
  rw [HE1.out]
  go_loopw [11] (fun i wr => ∃ (j : Nat) (L : List Nat), j ≤ k ∧ i = .int .u64 j ∧ Dv wr gd L (wrN d0 0 S j) ∧ (∀ x ∈ L, w.heap.size ≤ x) ∧ Below w.heap.size w wr) (fun i _ => k - (RowKit.intOf i).toNat)
  case atStart => exact ⟨0, L6, by omega, rfl, D6, LL6, b06⟩
  case round =>
    obtain ⟨j, Lr, hj, rfl, Dr, LLr, br⟩ := hrel
    have hn1 : 0 + 1 < (wrN d0 0 S j).n := by rw [NN.out, HD0.out]; show 0 + 1 < 2; omega
    by_cases hjk : j < k
    · have hjk' : (j : Int) < k := by omega
      have hg := (RN.out j (by have := HG.out; omega)).2.1
      have hwr := wr_ok (WN.out j) hn1 HSS.out (by rw [hg]; have := HG.out; omega)
      have K := Lib.hid (HSW.out (wrN d0 0 S j) S gd Lr wr Dr)
      rw [show ((0 : Int)) = ((0 : Nat) : Int) from rfl, hwr] at K
      have hj1 : IntKind.u64.wrap ((j : Int) + 1) = ((j + 1 : Nat) : Int) := (IntWalk.u64_in _ (by omega)).trans (by push_cast; rfl)
      have BR := Lib.hid br
      have LR := Lib.hid LLr
      clear hg hwr hn1 Dr br LLr D6 LL6 b06 s6 hjk
      unfold ptr at *
      go_wp2_with fail
      refine K.out.mono ?_
      rintro e w7 ⟨rfl, M7⟩
      obtain ⟨L7, D7, LL7, b07, s7, _, _⟩ := M7.below BR.out BR.out.size LR.out
      have D7' := Lib.hid D7
      clear K M7 D7
      go_wp2
      go_roundw
      case rel => exact ⟨j + 1, L7, by omega, by go_num, D7'.out, LL7, b07⟩
      case measure => simp [RowKit.intOf]; omega
    · have hjk2 : j = k := by omega
      subst hjk2
      obtain ⟨r1, r2, r3⟩ := RN.out j (by have := HG.out; omega)
      have hgm : rdG (wrN d0 0 S j) ((0 : Nat) : Int) = 18446744073709551615 := by rw [r2]; have := HG.out; omega
      have hwr := wr_full (d := wrN d0 0 S j) (s := new) (WN.out j).dead hn1 (by omega) hgm
      have K := Lib.hid (fun L W hD => HSW.out (wrN d0 0 S j) new gd L W hD)
      rw [show ((0 : Int)) = ((0 : Nat) : Int) from rfl, hwr] at K
      have KR := Lib.hid (fun L W hD => HSR.out (wrN d0 0 S j) gd L W hD)
      have KI := Lib.hid (fun L W hD => HIM.out (wrN d0 0 S j) gd L W hD)
      obtain ⟨want, hwant⟩ : ∃ want : ByteArray, want = if 0 < j then S else old := ⟨_, rfl⟩
      have hB : rdB (wrN d0 0 S j) ((0 : Nat) : Int) = want := by
        rw [hwant]
        by_cases h0 : 0 < j
        · rw [if_pos h0]; exact r3 h0
        · have h0' : j = 0 := by omega
          rw [if_neg h0, h0']; exact R0.out
      unfold rdV at KR
      rw [show ((0 : Int)) = ((0 : Nat) : Int) from rfl, r1, hgm, hB] at KR
      obtain ⟨q, hq⟩ : ∃ q, q = rdK (wrN d0 0 S j) ((0 : Nat) : Int) := ⟨_, rfl⟩
      rw [← hq] at KR
      obtain ⟨d9, hd9⟩ : ∃ d9, d9 = wrN d0 0 S j := ⟨_, rfl⟩
      rw [← hd9] at K KR KI Dr
      obtain ⟨img, himg⟩ : ∃ img, img = txt d9.image := ⟨_, rfl⟩
      rw [← himg] at KI
      have qi : (img.toList == img.toList) = true := beq_self_eq_true _
      have BR := Lib.hid br
      have LR := Lib.hid LLr
      have WA := Lib.hid hwant
      clear hgm hwr hn1 br LLr D6 LL6 b06 s6 hjk r1 r2 r3 hB hq hd9 himg hwant RN WN NN R0 HSW HSR HIM HD0
      unfold ptr at *
      go_wp2_with fail
      refine (KI.out Lr _ Dr).mono ?_
      rintro e w7 ⟨rfl, b7⟩
      have D7 := Dr.below b7
      have b07 := BR.out.trans (b7.mono BR.out.size)
      clear Dr b7
      go_wp2_with fail
      rw [← HNW.out]
      refine (K.out Lr _ D7).mono ?_
      rintro e w8 ⟨rfl, M8⟩
      obtain ⟨L8, D8, LL8, b08, s8, _, _⟩ := M8.below b07 b07.size LR.out
      clear D7 b07 M8
      go_wp2_with fail
      refine (KR.out L8 _ D8).mono ?_
      rintro e w9 ⟨rfl, b9⟩
      have D9 := D8.below b9
      have b09 := b08.trans (b9.mono s8)
      clear D8 b08 s8 b9 K KR
      have hw2 : (want.toList == want.toList) = true := beq_self_eq_true _
      by_cases h0 : 0 < j
      · have hwS : want = S := by rw [WA.out, if_pos h0]
        subst hwS
        have h0' : (0 : Int) < j := by omega
        go_wp2_with fail
        refine (KI.out L8 _ D9).mono ?_
        rintro e w10 ⟨rfl, b10⟩
        have B := Lib.hid (b09.trans (b10.mono b09.size))
        clear D9 b09 b10
        go_wp2
        go_ret
        exact ⟨rfl, B.out⟩
      · have hwS : want = old := by rw [WA.out, if_neg h0]
        have h0' : ¬ (0 : Int) < j := by omega
        have h0z : j = 0 := by omega
        have hwo := HO.out
        have hlist : want.toList = [111, 108, 100] := by rw [hwS, hwo]; decide +kernel
        subst h0z
        clear hwo hwS
        go_wp2_with fail
        refine (KI.out L8 _ D9).mono ?_
        rintro e w10 ⟨rfl, b10⟩
        have B := Lib.hid (b09.trans (b10.mono b09.size))
        clear D9 b09 b10
        go_wp2
        go_ret
        exact ⟨rfl, B.out⟩
end Go.Proofs.Ytmdippnfnadadaa
