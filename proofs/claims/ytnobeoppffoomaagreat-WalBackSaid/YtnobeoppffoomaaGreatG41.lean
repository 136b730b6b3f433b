/-
  Texts of the layer below and of this one: LBakA.
  Conditions: named in each theorem.
-/
import Derived.Test.YtnobeoppffoomaaGreatG40
import Derived.Test.YtnobeoppffoomaaGreatG33
import Derived.Test.YtnobeoppffoomaaGreatG34
import Derived.Test.YtnobeoppffoomaaGreatG10
namespace Go.Proofs.YtnobeoppffoomaaGreat
open Go.RowKit
set_option linter.unusedVariables false
set_option linter.unusedSimpArgs false
open Dk Vi
theorem pS_160 {v : Int} {e : En} (hv : v = 1 ∨ v = 2) (hg : Good v e) (hs : Short e) (hm : v = 1 → mayB e = true) : (pS v e).size ≤ 160 := by
  rcases hv with rfl | rfl
  · rw [rec1_size hg (hm rfl)]; omega
  · have hr : rightB e = true := by
      have := hg.o
      unfold pO at this
      rw [Bool.and_eq_true] at this
      exact this.1
    have e1 : D.ePv 2 e = sbE e := by show putS_b e = _; unfold putS_b; rw [if_pos hr]
    have h1 := sbE_short hs
    have h2 : (sbE e).size ≤ 153 := by split at h1 <;> omega
    have h3 := pack2_size (b := sbE e) (by omega)
    rw [hg.s, e1]
    omega
theorem rc_lgd {v : Int} {base : Nat} {L : List (En × Bool)} (hok : ∀ p ∈ L, p.1.Ok) (hv : v = 1 ∨ v = 2) (hb : base ≤ 16000) : (∀ e ∈ lgd v base 5 L, Good v e) ∧ (lgd v base 5 L).length ≤ 5 ∧ (rcA v (pS v) (lgd v base 5 L)).size ≤ 1115 := by
  have hg := lgd_good (v := v) (lev := v) (base := base) (most := 5) hok hv hv (fun h => h) (by omega) (by omega)
  have hs := lgd_short (lev := v) (base := base) (most := 5) hok hv hb (by omega)
  have hm : ∀ e ∈ lgd v base 5 L, v = 1 → mayB e = true := fun e he => (lgd_mem (lev := v) hok hv (by omega) (by omega) he).2.2
  have hl : (lgd v base 5 L).length ≤ 5 := by rw [lgd_length]; omega
  have := rcA_le v (pS v) 160 (lgd v base 5 L) fun e he => pS_160 hv (hg e he) (hs e he) (hm e he)
  exact ⟨hg, hl, by omega⟩
theorem fresh_now (n j : Nat) : (St.fresh n (fun _ => zsec)).now j = zsec := rfl
theorem fil_fresh {v : Int} (hv : v = 1 ∨ v = 2) (n m : Nat) (hm : 1 ≤ m) (hn : 1 + m ≤ n) : ∃ d1, filS (St.fresh n (fun _ => zsec)) 1 m v [] = (d1, 0) ∧ Alv d1 n ∧ ∀ j, d1.now j = zsec := by
  have h := Alv.fresh n (fun _ => zsec)
  have e0 : (rcA v (pS v) []) = ⟨#[]⟩ := rfl
  have z0 : (⟨#[]⟩ : ByteArray).size = 0 := rfl
  obtain ⟨r1, r2⟩ := rgS_fit (m := m) (u := 0) (es := []) hv (fun e h => by cases h) (by rw [e0, z0]; omega)
  have hon : onB (St.fresh n (fun _ => zsec)).n 1 m v = true := by
    unfold onB knB
    rw [decide_eq_true hv, decide_eq_true hm, decide_eq_true (show (m : Int) ≤ ((St.fresh n (fun _ => zsec)).n : Int) - ((1 : Nat) : Int) from by show (m : Int) ≤ (n : Int) - ((1 : Nat) : Int); omega)]
    rfl
  rw [e0] at r1
  have e1 : filS (St.fresh n (fun _ => zsec)) 1 m v [] = wrS (St.fresh n (fun _ => zsec)) 1 (List.replicate (m * 64) 0) := by
    unfold filS
    rw [if_pos hon, r2, if_neg (by simp), r1, z0, Nat.sub_zero]
    rfl
  obtain ⟨w1, w2⟩ := wrS_ok h 1 (List.replicate (m * 64) 0) (by rw [List.length_replicate]; omega)
  have wn := wrS_now h 1 (List.replicate (m * 64) 0) (by rw [List.length_replicate]; omega)
  refine ⟨_, by rw [e1]; exact Prod.ext rfl w1, w2, fun j => ?_⟩
  rw [wn, List.length_replicate]
  split
  · unfold sx
    rw [List.drop_replicate, List.take_replicate]
    unfold pad zsec
    rw [List.length_replicate, List.replicate_append_replicate]
    congr 1
    omega
  · exact fresh_now n j
set_option maxRecDepth 100000 in
set_option maxHeartbeats 8000000 in
theorem back_any (two : Bool) (A1 : Option Addr) (n1 c1 : Nat) (L1 : List (En × Bool)) (A2 : Option Addr) (n2 c2 : Nat) (L2 : List (En × Bool)) (J : ByteArray) (w : World) (k1 : KM A1 n1 L1 w) (k2 : KM A2 n2 L2 w) (hJ : J.size ≤ 140737488351232) :
    Calls Tryz.prog 5 #[.bool two, .slice A1 n1 c1, .slice A2 n2 c2, .string J] w fun q w' => q = .returned (.bool true) ∧ Below w.heap.size w w' := by
  obtain ⟨hL1, ok1, hn1⟩ := k1
  obtain ⟨hL2, ok2, hn2⟩ := k2
  obtain ⟨v, hv⟩ : ∃ v : Int, v = if two then 2 else 1 := ⟨_, rfl⟩
  have hvv : v = 1 ∨ v = 2 := by rw [hv]; cases two <;> simp
  have hkk : (two = true ∧ v = 2) ∨ (two = false ∧ v = 1) := by cases two <;> simp [hv]
  clear hv
  obtain ⟨a, ha⟩ : ∃ es, es = lgd v 0 5 L1 := ⟨_, rfl⟩
  obtain ⟨b, hb⟩ : ∃ es, es = lgd v a.length 5 L2 := ⟨_, rfl⟩
  obtain ⟨ga, la, sa⟩ := rc_lgd (base := 0) ok1 hvv (by omega)
  rw [← ha] at ga la sa
  obtain ⟨gb, lb, sb⟩ := rc_lgd (base := a.length) ok2 hvv (by omega)
  rw [← hb] at gb lb sb
  have K0 := Lib.hid (fun W => examples_any W)
  have KL1 : Hid (∀ (W : World), Mades W.heap.size A1 n1 L1 W → Calls Tryz.prog 25 #[.slice A1 n1 c1, .int .u64 0, .int .i64 5, .int .i64 v] W fun q w' => ∃ A' n' c', q = .returned (.slice A' n' c') ∧ Le W.heap.size A' n' c' a w' ∧ Below W.heap.size W w') := by
    rw [ha]; exact fun W h => logged_any A1 n1 c1 0 5 v L1 W h ok1 hn1 (by omega) (by omega)
  obtain ⟨p, hp⟩ : ∃ p, p = a.length := ⟨_, rfl⟩
  rw [← hp] at hb la
  have KL2 : Hid (∀ (W : World), Mades W.heap.size A2 n2 L2 W → Calls Tryz.prog 25 #[.slice A2 n2 c2, .int .u64 p, .int .i64 5, .int .i64 v] W fun q w' => ∃ A' n' c', q = .returned (.slice A' n' c') ∧ Le W.heap.size A' n' c' b w' ∧ Below W.heap.size W w') := by
    rw [hb]; exact fun W h => logged_any A2 n2 c2 p 5 v L2 W h ok2 hn2 (by omega) (by omega)
  have HGA := Lib.hid ga
  have HGB := Lib.hid gb
  have HAP : Hid (a.length = p) := hp.symm
  have HLB := Lib.hid lb
  obtain ⟨q, hq⟩ : ∃ q, q = b.length := ⟨_, rfl⟩
  have HBQ : Hid (b.length = q) := hq.symm
  have hq5 : q ≤ 5 := by omega
  have HM1 := Lib.hid hL1
  have HM2 := Lib.hid hL2
  clear ha hb hp hq ga gb hL1 hL2 lb ok1 ok2 hn1 hn2
  go_enter Tryz.func5, Tryz.ntmps5
  go_upto_region 4 with (go_at_call 10; (with_reducible refine (K0.out _).mono ?_); rintro q w1 ⟨rfl, b1⟩; have HB1 := Lib.hid b1; have HM11 := Lib.hid ((HM1.out.below b1).mr b1.size); have HM21 := Lib.hid ((HM2.out.below b1).mr b1.size); clear b1)
  rcases hkk with ⟨rfl, hvv2⟩ | ⟨rfl, hvv2⟩
  case' inl =>
    go_upto_region 9 with fail
    rw [← hvv2]
  case' inr =>
    go_upto_region 9 with fail
    rw [← hvv2]
  all_goals
    clear hvv2 K0
    go_upto_region 10 with (go_at_call 25; (with_reducible refine (KL1.out _ HM11.out).mono ?_); rintro q w2 ⟨Aa, na, ca, rfl, hE, b2⟩)
    obtain rfl : na = p := hE.len.symm.trans HAP.out
    have HA2 := Lib.hid hE
    have HB2 : Hid (Below w.heap.size w w2) := HB1.out.trans (b2.mono HB1.out.size)
    have HM22 := Lib.hid ((HM21.out.below b2).mr b2.size)
    clear hE b2 HM11 HM21 HM1 HM2 KL1
    go_upto_region 11 with (go_at_call 25; (with_reducible refine (KL2.out _ HM22.out).mono ?_); rintro q w3 ⟨Ab, nb, cb, rfl, hE, b3⟩)
    obtain rfl : nb = q := hE.len.symm.trans HBQ.out
    have HA3 := Lib.hid (HA2.out.below b3)
    have HE3 := Lib.hid hE
    have HB3 : Hid (Below w.heap.size w w3) := HB2.out.trans (b3.mono HB2.out.size)
    clear hE b3 HM22 KL2 HA2
    obtain ⟨P, hP⟩ : ∃ P, P = w3.heap.size := ⟨_, rfl⟩
    obtain ⟨W4, hW4⟩ : ∃ W4, W4 = w3.alloc (.cells (rgc 1 60 v) 40) := ⟨_, rfl⟩
    have HB4 : Hid (Below w.heap.size w W4) := by show Below _ _ _; rw [hW4]; exact HB3.out.alloc HB3.out.size _
    have HR4 : Hid (W4.heap[P]? = some (.cells (rgc 1 60 v) 40 (0, 0))) := by show _ = _; rw [hW4, hP]; exact heap_alloc_new w3 _
    have HA4 : Hid (Le w1.heap.size Aa na ca a W4) := by show Le w1.heap.size Aa na ca a W4; rw [hW4]; exact HA3.out.below ((Below.refl _ _).alloc (Nat.le_refl _) _)
    have HE4 : Hid (Le w2.heap.size Ab nb cb b W4) := by show Le w2.heap.size Ab nb cb b W4; rw [hW4]; exact HE3.out.below ((Below.refl _ _).alloc (Nat.le_refl _) _)
    go_upto_region 12 with fail
    refine wp_at (w := W4) hW4.symm ?_
    rw [← hP]
    have KN : Hid (∀ W, Calls Tryz.prog 18 #[.int .i64 62] W fun e w' => ∃ g L, e = .returned (.tuple #[ptr g, .int .i64 0]) ∧ Dv w' g L (St.fresh 62 (fun _ => zsec)) ∧ (∀ k ∈ L, W.heap.size ≤ k) ∧ Below W.heap.size W w') := fun W => new_yes 62 W (by omega) (by omega)
    clear hP hW4 HB3 HA3 HE3
    go_upto_region 13 with (go_at_call 18; (with_reducible refine (KN.out _).mono ?_); rintro q w5 ⟨g, L5, rfl, hD, hL5, b5⟩)
    have HD5 := Lib.hid hD
    have HL5 := Lib.hid hL5
    have HB5 := Lib.hid b5
    clear hD hL5 b5 KN
    obtain ⟨d1, f1, al1, now1⟩ := fil_fresh hvv 62 60 (by omega) (by omega)
    have KFi : Hid (∀ L W, Dv W g L (St.fresh 62 (fun _ => zsec)) → Calls Tryz.prog 26 #[ptr g, RG 1 60 v, .slice none 0 0] W fun e w' => e = .returned (.int .i64 0) ∧ Moves g L d1 W w') := fun L W hW => by
      have := rfill_any g L _ 1 60 v none 0 0 [] W hW (by omega) (by omega) (Le.nil W.heap.size W).ents (by omega) (fun e h => by cases h)
      rw [f1] at this
      exact this
    have KAd : Hid (∀ (d : St) (L : List Nat) (U : Nat) (A : Option Addr) (n c : Nat) (es : List En) (W : World), Dv W g L d → d.n = 62 → hasB 60 U = true → bgn v U = U → Ents W.heap.size A n es W → n ≤ 5 → (∀ e ∈ es, Good v e) → Calls Tryz.prog 27 #[ptr g, RG 1 60 v, .int .i64 U, .slice A n c] W fun e w' => e = .returned (.tuple #[.int .i64 (addG d 1 60 v U es).2.1, .int .i64 (addG d 1 60 v U es).2.2]) ∧ Moves g L (addG d 1 60 v U es).1 W w') := fun d L U A n c es W hD hn hh hb hE hn5 hg => by
      have hon : onB d.n 1 60 v = true := by
        unfold onB knB
        rw [hn, decide_eq_true hvv]; rfl
      exact add_go g L d 1 60 U v A n c es W hD (by omega) (by omega) hon hh hb hE (by omega) (fun x hx => (hg x hx).ok)
    have HFL := Lib.hid (fun (d : St) (L : List Nat) (W : World) (h : Dv W g L d) => flush_any g L d W h)
    have AL1 := Lib.hid al1
    have NW1 := Lib.hid now1
    have HR5 : Hid (w5.heap[P]? = some (.cells (rgc 1 60 v) 40 (0, 0))) := (HB5.out.block _ (Array.getElem?_eq_some_iff.1 HR4.out).1).trans HR4.out
    obtain ⟨c0, c1, c2⟩ := rgc_cells HR5.out
    clear f1 al1 now1
    unfold ptr at *
    go_upto_region 15 with (go_at_call 26; (with_reducible refine (KFi.out _ _ HD5.out).mono ?_); rintro q w6 ⟨rfl, hM⟩)
    obtain ⟨L6, m1, m2, m3, m4, m5, m6⟩ := hM.below HB5.out HB5.out.size HL5.out
    have HD6 := Lib.hid m1
    have HL6 := Lib.hid m2
    have HB6 := Lib.hid m3
    have HR6 : Hid (w6.heap[P]? = some (.cells (rgc 1 60 v) 40 (0, 0))) := (HB6.out.block _ (Array.getElem?_eq_some_iff.1 HR4.out).1).trans HR4.out
    clear hM m1 m2 m3 m4 m5 m6 c0 c1 c2 KFi HD5 HL5 HB5 HR5
    obtain ⟨c0, c1, c2⟩ := rgc_cells HR6.out
    obtain ⟨TA, hTA⟩ : ∃ TA, TA = (rcA v (pS v) a).data.toList := ⟨_, rfl⟩
    have hTAl : TA.length = (rcA v (pS v) a).size := by rw [hTA, Array.length_toList]; rfl
    obtain ⟨d2, e2, al2, ho2, nw2⟩ := add_holds (T := []) (es := a) (v := v) (at_ := 1) (m := 60) AL1.out HD6.out.1 hvv HGA.out (by show 0 + _ ≤ _; omega) (by omega) (holds_nil (fun i _ => NW1.out _))
    rw [List.nil_append, ← hTA] at ho2
    have e2' : addG d1 1 60 v 0 a = (d2, (TA.length : Int), 0) := by
      have h0 : addG d1 1 60 v 0 a = (d2, ((0 + (rcA v (pS v) a).size : Nat) : Int), 0) := e2
      rw [h0, Nat.zero_add, hTAl]
    have KA1 : Hid (∀ (A : Option Addr) (n c : Nat) (L : List Nat) (W : World), Dv W g L d1 → Ents W.heap.size A n a W → n ≤ 5 → Calls Tryz.prog 27 #[.pointer (some ⟨g, 0, none⟩), RG 1 60 v, .int .i64 0, .slice A n c] W fun e w' => e = .returned (.tuple #[.int .i64 (TA.length : Nat), .int .i64 0]) ∧ Moves g L d2 W w') := fun A n c L W hW hE hn => by
      have := KAd.out d1 L 0 A n c a W hW AL1.out.n (by decide) (by unfold bgn; split <;> rfl) hE hn HGA.out
      rw [e2'] at this
      exact this
    have AL2 := Lib.hid al2
    have HO2 := Lib.hid ho2
    have NW2 : Hid (d2.now 61 = zsec) := by show _ = _; rw [nw2 61 (by omega), NW1.out]
    have hta : TA.length ≤ 1115 := by omega
    have HTA := Lib.hid hTA
    have HTAL := Lib.hid hTAl
    clear e2 e2' al2 ho2 nw2 hTA hTAl AL1 NW1
    go_upto_region 16 with (go_at_call 27; (with_reducible refine (KA1.out _ _ _ _ _ HD6.out (((HA4.out.below HB6.out)).ents) la).mono ?_); rintro q w7 ⟨rfl, hM⟩)
    obtain ⟨L7, m1, m2, m3, m4, m5, m6⟩ := hM.below HB6.out HB6.out.size HL6.out
    have HD7 := Lib.hid m1
    have HL7 := Lib.hid m2
    have HB7 := Lib.hid m3
    clear hM m1 m2 m3 m4 m5 m6 c0 c1 c2 KA1 HD6 HL6 HB6 HR6
    obtain ⟨fe, fa, fn⟩ := flush_now AL2.out
    obtain ⟨FX, hFX⟩ : ∃ x, x = d2.flush := ⟨_, rfl⟩
    have KF2 : Hid (∀ L W, Dv W g L d2 → Calls Tryz.prog 28 #[.pointer (some ⟨g, 0, none⟩)] W fun e w' => e = .returned (.int .i64 0) ∧ Moves g L FX.1 W w') := fun L W hW => by
      have := HFL.out d2 L W hW
      rw [fe, ← hFX] at this
      exact this
    rw [← hFX] at fa fn
    obtain ⟨d3, hd3⟩ : ∃ x, x = FX.1 := ⟨_, rfl⟩
    rw [← hd3] at fa fn KF2
    have AL3 := Lib.hid fa
    have HO3 : Hid (Holds d3 1 60 TA) := fun i hi => (fn _).trans (HO2.out i hi)
    have NW3 : Hid (d3.now 61 = zsec) := (fn _).trans NW2.out
    clear fe fa fn hFX hd3
    go_upto_region 17 with (go_at_call 28; (with_reducible refine (KF2.out _ _ HD7.out).mono ?_); rintro q w8 ⟨rfl, hM⟩)
    obtain ⟨L8, m1, m2, m3, m4, m5, m6⟩ := hM.below HB7.out HB7.out.size HL7.out
    have HD8 := Lib.hid m1
    have HL8 := Lib.hid m2
    have HB8 := Lib.hid m3
    clear hM m1 m2 m3 m4 m5 m6 HD7 HL7 HB7 KF2 HO2 NW2 AL2
    obtain ⟨k, hk⟩ : ∃ k, k = min J.size 60 := ⟨_, rfl⟩
    have hkI : min (J.size : Int) 60 = (k : Int) := by omega
    have hk1 : (k : Int) ≤ (J.size : Int) := by omega
    have hk0 : (0 : Int) ≤ (k : Int) := by omega
    have hk60 : k ≤ 60 := by omega
    obtain ⟨JX, hJX⟩ : ∃ x, x = J.extract 0 k := ⟨_, rfl⟩
    have hJXs : JX.size ≤ 60 := by rw [hJX, ByteArray.size_extract]; omega
    have hJX' : J.extract 0 k = JX := hJX.symm
    obtain ⟨X, hX⟩ : ∃ x, x = (⟨#[120]⟩ : ByteArray) ++ JX := ⟨_, rfl⟩
    have hXs : X.data.toList.length ≤ 64 := by
      rw [Array.length_toList]
      have h1 : X.size ≤ 61 := by rw [hX, ByteArray.size_append]; have : (⟨#[120]⟩ : ByteArray).size = 1 := rfl; omega
      have h2 : X.size = X.data.size := rfl
      omega
    obtain ⟨wr1, wr2⟩ := AL3.out.write (i := 60) (by omega) X.data.toList hXs
    have hadd : ¬ 9223372036854775807 < (⟨#[120]⟩ : ByteArray).size + JX.size := by have : (⟨#[120]⟩ : ByteArray).size = 1 := rfl; omega
    have hadd2 : ¬ 9223372036854775807 < 1 + JX.size := by omega
    have wn4 := put_now d3 60
    obtain ⟨d4, hd4⟩ : ∃ x, x = d3.step.put 60 (pad X.data.toList) := ⟨_, rfl⟩
    have KWr : Hid (∀ L W, Dv W g L d3 → Calls Tryz.prog 29 #[.pointer (some ⟨g, 0, none⟩), .int .i64 60, .string ((⟨#[120]⟩ : ByteArray) ++ JX)] W fun e w' => e = .returned (.int .i64 0) ∧ Moves g L d4 W w') := fun L W hW => by
      have h1 : txt X.data.toList = (⟨#[120]⟩ : ByteArray) ++ JX := by rw [← hX]; apply ByteArray.ext; simp [txt]
      have := write_any g L d3 ((60 : Nat) : Int) X.data.toList W hW
      rw [wr1, h1, ← hd4] at this
      exact this
    have AL4 : Hid (Alv d4 62) := by show Alv _ _; rw [hd4]; exact wr2
    have HO4 : Hid (∀ i, i < 60 → i * 64 < TA.length → d4.now (1 + i) = sx TA i) := fun i hi hl => by rw [hd4, wn4, if_neg (by omega)]; exact HO3.out i hi
    have NW4 : Hid (d4.now 61 = zsec) := by show _ = _; rw [hd4, wn4, if_neg (by omega)]; exact NW3.out
    clear hk hJX hX hXs wr1 wr2 wn4 hd4
    go_upto_region 19 with (go_at_call 29; (with_reducible refine (KWr.out _ _ HD8.out).mono ?_); rintro q w9 ⟨rfl, hM⟩)
    obtain ⟨L9, m1, m2, m3, m4, m5, m6⟩ := hM.below HB8.out HB8.out.size HL8.out
    have HD9 := Lib.hid m1
    have HL9 := Lib.hid m2
    have HB9 := Lib.hid m3
    have HR9 : Hid (w9.heap[P]? = some (.cells (rgc 1 60 v) 40 (0, 0))) := (HB9.out.block _ (Array.getElem?_eq_some_iff.1 HR4.out).1).trans HR4.out
    clear hM m1 m2 m3 m4 m5 m6 HD8 HL8 HB8 KWr AL3 HO3 NW3 hkI hk1 hk0 hk60 hJXs hJX' hadd hadd2
    obtain ⟨c0, c1, c2⟩ := rgc_cells HR9.out
    obtain ⟨we, wa, wh, wn⟩ := wip_holds (m := 60) (T := TA) AL4.out HD9.out.1 (by omega) (by omega) HO4.out
    have wn61 := wn 61 (by omega)
    have hhA : hasB 60 (TA.length : Int) = true := decide_eq_true (by omega)
    have hon4 : onB d4.n 1 60 v = true := by
      unfold onB knB
      rw [AL4.out.n, decide_eq_true hvv]; rfl
    obtain ⟨d5, hd5⟩ : ∃ x, x = (wipG d4 1 60 TA.length).1 := ⟨_, rfl⟩
    have KWi : Hid (∀ L W, Dv W g L d4 → Calls Tryz.prog 30 #[.pointer (some ⟨g, 0, none⟩), RG 1 60 v, .int .i64 (TA.length : Nat)] W fun e w' => e = .returned (.int .i64 0) ∧ Moves g L d5 W w') := fun L W hW => by
      have := rwipe_any g L d4 1 60 v (TA.length : Nat) W hW (by omega) (by omega)
      have e1 : wipS d4 1 60 v (TA.length : Nat) = wipG d4 1 60 TA.length := by unfold wipS; rw [if_pos ⟨hon4, hhA⟩, Int.toNat_natCast]
      rw [e1, we, ← hd5] at this
      exact this
    rw [← hd5] at wa wh wn61
    have AL5 := Lib.hid wa
    have HO5 := Lib.hid wh
    have NW5 : Hid (d5.now 61 = zsec) := wn61.trans NW4.out
    clear we wa wh wn wn61 hd5 hon4 AL4 HO4 NW4
    go_upto_region 20 with (go_at_call 30; (with_reducible refine (KWi.out _ _ HD9.out).mono ?_); rintro q w10 ⟨rfl, hM⟩)
    obtain ⟨L10, m1, m2, m3, m4, m5, m6⟩ := hM.below HB9.out HB9.out.size HL9.out
    have HD10 := Lib.hid m1
    have HL10 := Lib.hid m2
    have HB10 := Lib.hid m3
    have HR10 : Hid (w10.heap[P]? = some (.cells (rgc 1 60 v) 40 (0, 0))) := (HB10.out.block _ (Array.getElem?_eq_some_iff.1 HR4.out).1).trans HR4.out
    clear hM m1 m2 m3 m4 m5 m6 HD9 HL9 HB9 HR9 KWi c0 c1 c2
    obtain ⟨c0, c1, c2⟩ := rgc_cells HR10.out
    obtain ⟨d6, e6, al6, ho6, nw6⟩ := add_holds (T := TA) (es := b) (v := v) (at_ := 1) (m := 60) AL5.out HD10.out.1 hvv HGB.out (by omega) (by omega) HO5.out
    obtain ⟨TB, hTB⟩ : ∃ TB, TB = (rcA v (pS v) b).data.toList := ⟨_, rfl⟩
    have hTBl : TB.length = (rcA v (pS v) b).size := by rw [hTB, Array.length_toList]; rfl
    rw [← hTB] at ho6
    rw [← hTBl] at e6 sb
    obtain ⟨N, hN⟩ : ∃ N, N = TA.length + TB.length := ⟨_, rfl⟩
    rw [← hN] at e6
    have hbgA : bgn v TA.length = TA.length := by
      unfold bgn
      split
      · rename_i h1
        have := rcA1_mod a
        rw [h1] at HTAL
        have h2 := HTAL.out
        omega
      · rfl
    have KA2 : Hid (∀ (A : Option Addr) (n c : Nat) (L : List Nat) (W : World), Dv W g L d5 → Ents W.heap.size A n b W → n ≤ 5 → Calls Tryz.prog 27 #[.pointer (some ⟨g, 0, none⟩), RG 1 60 v, .int .i64 (TA.length : Nat), .slice A n c] W fun e w' => e = .returned (.tuple #[.int .i64 (N : Nat), .int .i64 0]) ∧ Moves g L d6 W w') := fun A n c L W hW hE hn => by
      have := KAd.out d5 L TA.length A n c b W hW AL5.out.n hhA hbgA hE hn HGB.out
      rw [e6] at this
      exact this
    have AL6 := Lib.hid al6
    have HO6 := Lib.hid ho6
    have NW6 : Hid (d6.now 61 = zsec) := by show _ = _; rw [nw6 61 (by omega), NW5.out]
    have HTB := Lib.hid hTB
    have HNN := Lib.hid hN
    have HTBL := Lib.hid hTBl
    have HBGA := Lib.hid hbgA
    clear e6 al6 ho6 nw6 hTB hN hTBl hbgA AL5 HO5 NW5 hhA
    go_upto_region 21 with (go_at_call 27; (with_reducible refine (KA2.out _ _ _ _ _ HD10.out (((HE4.out.below HB10.out)).ents) hq5).mono ?_); rintro q w11 ⟨rfl, hM⟩)
    obtain ⟨L11, m1, m2, m3, m4, m5, m6⟩ := hM.below HB10.out HB10.out.size HL10.out
    have HD11 := Lib.hid m1
    have HB11 := Lib.hid m3
    have HR11 : Hid (w11.heap[P]? = some (.cells (rgc 1 60 v) 40 (0, 0))) := (HB11.out.block _ (Array.getElem?_eq_some_iff.1 HR4.out).1).trans HR4.out
    clear hM m1 m2 m3 m4 m5 m6 HD10 HL10 HB10 HR10 KA2 c0 c1 c2
    obtain ⟨c0, c1, c2⟩ := rgc_cells HR11.out
    have hgab : ∀ x ∈ a ++ b, Good v x := fun x hx => (List.mem_append.1 hx).elim (HGA.out x) (HGB.out x)
    have hlen : (TA ++ TB).length = N := by rw [List.length_append, HNN.out]
    have hN60 : N ≤ 60 * 64 := by have := HNN.out; omega
    have hrd : rdB d6 1 60 = rcA v (pS v) (a ++ b) ++ zz (60 * 64 - N) := by
      rw [rdB_holds (by rw [hlen]; exact hN60) HO6.out, hlen]
      congr 1
      have e1 : rcA v (pS v) (a ++ b) = rcA v (pS v) a ++ rcA v (pS v) b := rcA_app a b (by
        rcases hvv with h | h
        · right
          rw [h]; exact rcA1_mod a
        · left; rw [h]; decide)
      rw [e1]
      apply ByteArray.ext
      apply Array.toList_inj.1
      rw [txt_list, ByteArray.data_append, Array.toList_append, HTA.out, HTB.out]
    have hsN : (rcA v (pS v) (a ++ b)).size = N := by
      have e1 : rcA v (pS v) (a ++ b) = rcA v (pS v) a ++ rcA v (pS v) b := rcA_app a b (by
        rcases hvv with h | h
        · right
          rw [h]; exact rcA1_mod a
        · left; rw [h]; decide)
      rw [e1, ByteArray.size_append, ← HTAL.out, ← HTBL.out, HNN.out]
    obtain ⟨pe, pu⟩ := par_rc (J := zz (60 * 64 - N)) hgab (frB_no (nOk_zz _))
    rw [← hrd] at pe pu
    rw [hsN] at pu
    have hon6 : onB d6.n 1 60 v = true := by
      unfold onB knB
      rw [AL6.out.n, decide_eq_true hvv]; rfl
    have KRd : Hid (∀ L W, Dv W g L d6 → Calls Tryz.prog 31 #[.pointer (some ⟨g, 0, none⟩), RG 1 60 v] W fun e w' => ∃ A n c, e = .returned (.tuple #[.slice A n c, .int .i64 (N : Nat), .int .i64 0]) ∧ Le W.heap.size A n c (a ++ b) w' ∧ Below W.heap.size W w') := fun L W hW => by
      have := rrd_any g L d6 1 60 v W hW (by omega) (by omega)
      have r1 : rdU d6 1 60 v = N := by unfold rdU; rw [hon6, AL6.out.x]; exact pu
      have r2 : rdZ d6 1 60 v = 0 := by unfold rdZ; rw [hon6, AL6.out.x]; rfl
      have r3 : rdE d6 1 60 v = a ++ b := by unfold rdE; rw [hon6, AL6.out.x]; exact pe
      rw [r1, r2, r3] at this
      exact this
    have n60 : d6.readS ((60 : Nat) : Int) = zsec := by
      unfold St.readS
      rw [AL6.out.refuses (by omega), if_pos rfl, Int.toNat_natCast]
      have := HO6.out 59 (by omega)
      rw [show 1 + 59 = 60 from rfl] at this
      rw [this, sx_far (by rw [hlen]; have := HNN.out; omega)]
    have n61 : d6.readS ((61 : Nat) : Int) = zsec := by
      unfold St.readS
      rw [AL6.out.refuses (by omega), if_pos rfl, Int.toNat_natCast, NW6.out]
    have K60 : Hid (∀ L W, Dv W g L d6 → Calls Tryz.prog 32 #[.pointer (some ⟨g, 0, none⟩), .int .i64 60] W fun e w' => e = .returned (.tuple #[.string (zz 64), .int .i64 0]) ∧ Below W.heap.size W w') := fun L W hW => by
      have := read_any g L d6 ((60 : Nat) : Int) W hW
      rw [n60, AL6.out.refuses (by omega)] at this
      exact this
    have K61 : Hid (∀ L W, Dv W g L d6 → Calls Tryz.prog 32 #[.pointer (some ⟨g, 0, none⟩), .int .i64 61] W fun e w' => e = .returned (.tuple #[.string (zz 64), .int .i64 0]) ∧ Below W.heap.size W w') := fun L W hW => by
      have := read_any g L d6 ((61 : Nat) : Int) W hW
      rw [n61, AL6.out.refuses (by omega)] at this
      exact this
    clear hgab hlen hN60 hrd hsN pe pu hon6 n60 n61
    go_upto_region 22 with (go_at_call 31; (with_reducible refine (KRd.out _ _ HD11.out).mono ?_); rintro q w12 ⟨Ar, nr, cr, rfl, hLr, b12⟩)
    have HD12 := Lib.hid (HD11.out.below b12)
    have HB12 : Hid (Below W4.heap.size W4 w12) := HB11.out.trans (b12.mono HB11.out.size)
    have HLr := Lib.hid hLr
    have hnr : nr = na + nb := by rw [← hLr.len, List.length_append, HAP.out, HBQ.out]
    have HNR := Lib.hid hnr
    clear hLr b12 hnr c0 c1 c2 KRd
    have hnr10 : nr ≤ 10 := by have := HNR.out; omega
    have HA12 := Lib.hid (HA4.out.below HB12.out)
    have HE12 := Lib.hid (HE4.out.below HB12.out)
    have HN12 : Hid (Le w12.heap.size none 0 0 [] w12) := Le.nil _ _
    go_upto_region 23 with (first
      | (at_builtin; refine wpList_app_ens rfl _ _ rfl _ w12.heap.size w1.heap.size none Aa 0 0 na ca [] a rfl rfl HN12.out HA12.out (by omega) (Nat.le_refl _) na (by omega) ?_; intro A13 c13 w13 hL13 hb13 hk13; have HL13 := Lib.hid hL13; have HB13 := Lib.hid hb13; clear hL13 hb13 hk13)
      | (at_builtin; refine wpList_app_ens rfl _ _ rfl _ w12.heap.size w2.heap.size A13 Ab na c13 nb cb a b rfl rfl HL13.out (HE12.out.below HB13.out) (by omega) HB13.out.size nr (by have := HNR.out; omega) ?_; intro A14 c14 w14 hL14 hb14 hk14; have HL14 := Lib.hid hL14; have HB14 : Hid (Below w12.heap.size w12 w14) := HB13.out.trans hb14; clear hL14 hb14 hk14))
    have HLr14 := Lib.hid (HLr.out.below HB14.out)
    have HD14 := Lib.hid (HD12.out.below HB14.out)
    have HC14 : Hid (Below W4.heap.size W4 w14) := HB12.out.trans (HB14.out.mono HB12.out.size)
    have KS : Hid (∀ (W : World), Ents W.heap.size Ar nr (a ++ b) W → Ents W.heap.size A14 nr (a ++ b) W → Calls Tryz.prog 17 #[.slice Ar nr cr, .slice A14 nr c14] W fun r w' => r = .returned (.bool true) ∧ Below W.heap.size W w') := fun W h h' => by
      have := esame_any Ar A14 nr cr nr c14 (a ++ b) (a ++ b) W h h' (by omega) (by omega)
      rw [entsB_self] at this
      exact this
    clear HL13 HB13 HB12 HLr HD12
    go_upto_region 24 with (go_at_call 17; (with_reducible refine (KS.out _ HLr14.out.ents HL14.out.ents).mono ?_); rintro q w15 ⟨rfl, b15⟩)
    have HD15 := Lib.hid (HD14.out.below b15)
    have HB15 : Hid (Below W4.heap.size W4 w15) := HC14.out.trans (b15.mono HC14.out.size)
    clear b15
    go_upto_region 25 with (go_at_call 32; (with_reducible refine (K60.out _ _ HD15.out).mono ?_); rintro q w16 ⟨rfl, b16⟩)
    have HD16 := Lib.hid (HD15.out.below b16)
    have HB16 : Hid (Below W4.heap.size W4 w16) := HB15.out.trans (b16.mono HB15.out.size)
    clear b16
    go_upto_region 26 with (go_at_call 32; (with_reducible refine (K61.out _ _ HD16.out).mono ?_); rintro q w17 ⟨rfl, b17⟩)
    have HB17 : Hid (Below W4.heap.size W4 w17) := HB16.out.trans (b17.mono HB16.out.size)
    have HF : Hid (Below w.heap.size w w17) := HB4.out.trans (HB17.out.mono HB4.out.size)
    clear b17
    have hmk : (Instr.makeSlice 68 (.int .i64 64) (.int .i64 64)).run Tryz.prog w17 = .ok (.slice (some ⟨w17.heap.size, 0, none⟩) 64 64) (w17.alloc (.cells (Lib.byteCells (zeros 64)).toArray 5)) := mk_zeros w17 64 (by omega)
    have hcv := cv_zeros (w17.alloc (.cells (Lib.byteCells (zeros 64)).toArray 5)) w17.heap.size 64 (heap_alloc_new w17 _)
    obtain ⟨ZC, hZC⟩ : ∃ ZC, ZC = (Lib.byteCells (zeros 64)).toArray := ⟨_, rfl⟩
    rw [← hZC] at hmk hcv
    obtain ⟨Z64, hZ64⟩ : ∃ z, z = zz 64 := ⟨_, rfl⟩
    rw [← hZ64] at hcv ⊢
    clear hZC
    have qN : ((N : Int) == (N : Int)) = true := by simp
    have qZ : (Z64.toList == Z64.toList) = true := by simp
    go_wp2
    go_ret
    exact ⟨rfl, HF.out.alloc HF.out.size _⟩
end Go.Proofs.YtnobeoppffoomaaGreat
