/-
  The law Loses, walked.
  Conditions: named in each theorem.
-/
import Derived.Test.YtnobeoppffoomaaGreatWLp
import Derived.Test.YtnobeoppffoomaaGreatG10
import Derived.Test.YtnobeoppffoomaaGreatG39
namespace Go.Proofs.YtnobeoppffoomaaGreat
open Go.RowKit
set_option linter.unusedVariables false
set_option linter.unusedSimpArgs false
open Dk Vi
abbrev KM (A : Option Addr) (n : Nat) (L : List (En × Bool)) (w : World) : Prop := Mades w.heap.size A n L w ∧ (∀ p ∈ L, p.1.Ok) ∧ (n : Int) ≤ 9223372036854775807
theorem Mades.mr {B B' : Nat} {A : Option Addr} {n : Nat} {L : List (En × Bool)} {w : World} (h : Mades B A n L w) (hB : B ≤ B') : Mades B' A n L w :=
  ⟨h.len, fun i e he => by
    obtain ⟨a, hA, h1, hc⟩ := h.at_ i e he
    exact ⟨a, hA, Nat.lt_of_lt_of_le h1 hB, hc⟩⟩
theorem lo_160 {v : Int} {e : En} (hv : v = 1 ∨ v = 2) (hg : Good v e) (hs : Short e) (hm : v = 1 → mayB e = true) : (pS v e).size ≤ 160 := by
  rcases hv with rfl | rfl
  · rw [rec1_size hg (hm rfl)]; omega
  · have hr : rightB e = true := by
      have := hg.o
      unfold pO at this
      rw [Bool.and_eq_true] at this
      exact this.1
    have e1 : D.ePv 2 e = sbE e := by show putS_b e = _; unfold putS_b; rw [if_pos hr]
    have h1 := sbE_short hs
    have h2 : (sbE e).size ≤ 153 := by split at h1 <;> omega
    have h3 := pack2_size (b := sbE e) (by omega)
    rw [hg.s, e1]
    omega
theorem lo_rc {v : Int} {base : Nat} {L : List (En × Bool)} (hok : ∀ p ∈ L, p.1.Ok) (hv : v = 1 ∨ v = 2) (hb : base ≤ 16000) : (∀ e ∈ lgd v base 5 L, Good v e) ∧ (lgd v base 5 L).length ≤ 5 ∧ (rcA v (pS v) (lgd v base 5 L)).size ≤ 1115 := by
  have hg := lgd_good (v := v) (lev := v) (base := base) (most := 5) hok hv hv (fun h => h) (by omega) (by omega)
  have hs := lgd_short (lev := v) (base := base) (most := 5) hok hv hb (by omega)
  have hm : ∀ e ∈ lgd v base 5 L, v = 1 → mayB e = true := fun e he => (lgd_mem (lev := v) hok hv (by omega) (by omega) he).2.2
  have hl : (lgd v base 5 L).length ≤ 5 := by rw [lgd_length]; omega
  have := rcA_le v (pS v) 160 (lgd v base 5 L) fun e he => lo_160 hv (hg e he) (hs e he) (hm e he)
  exact ⟨hg, hl, by omega⟩
theorem lo_pv {v : Int} {base : Nat} {L : List (En × Bool)} (hok : ∀ p ∈ L, p.1.Ok) (hv : v = 1 ∨ v = 2) (hb : base ≤ 16000) : v = 2 → ∀ e ∈ lgd v base 5 L, (D.ePv v e).size < 16384 := fun h2 e he => by
  have hg := lgd_good (v := v) (lev := v) (base := base) (most := 5) hok hv hv (fun h => h) (by omega) (by omega) e he
  have hs := lgd_short (lev := v) (base := base) (most := 5) hok hv hb (by omega) e he
  subst h2
  have hr : rightB e = true := by
    have := hg.o
    unfold pO at this
    rw [Bool.and_eq_true] at this
    exact this.1
  have e1 : D.ePv 2 e = sbE e := by show putS_b e = _; unfold putS_b; rw [if_pos hr]
  have h1 := sbE_short hs
  rw [e1]
  split at h1 <;> omega
theorem Tryz.info3r : (Tryz.prog.info? 3).map (fun i => (i.zero, i.size, i.bytes)) = some (some (.int .i64 0), 1, 8) := by kernel_rfl
theorem ints_own {w : World} {B : Nat} {v : Value} {l : List Int} (h : w.ownsRow B 3 1 v l.length (l.map fun x => Value.int .i64 x)) (hl : ∀ x ∈ l, -9223372036854775808 ≤ x ∧ x ≤ 9223372036854775807) : ∃ A c, v = .slice A l.length c ∧ IntsAt w A l := by
  rcases h.2 with ⟨rfl, h0⟩ | ⟨g, c, cur, rfl, hb, hh, hr⟩
  · refine ⟨none, 0, by rw [h0], fun j x hj => ?_⟩
    have := (List.getElem?_eq_some_iff.1 hj).1
    omega
  · refine ⟨some ⟨g, 0, none⟩, c, rfl, fun j x hj => ⟨hl x (List.mem_of_getElem? hj), _, rfl, (Array.getElem?_eq_some_iff.1 hh).1, ?_⟩⟩
    have hj' : j < l.length := (List.getElem?_eq_some_iff.1 hj).1
    rw [Addr.add_mid, Nat.zero_add, h.cellAt j (by omega), List.getElem?_map, hj]
    rfl
set_option maxRecDepth 100000 in
set_option maxHeartbeats 8000000 in
theorem loses_any (two : Bool) (A1 : Option Addr) (n1 c1 : Nat) (L1 : List (En × Bool)) (A2 : Option Addr) (n2 c2 : Nat) (L2 : List (En × Bool)) (bits : Nat) (w : World) (k1 : KM A1 n1 L1 w) (k2 : KM A2 n2 L2 w) (hbits : bits < 18446744073709551616) :
    Calls Tryz.prog 6 #[.bool two, .slice A1 n1 c1, .slice A2 n2 c2, .int .u64 bits] w fun q w' => q = .returned (.bool true) ∧ Below w.heap.size w w' := by
  obtain ⟨hL1, ok1, hn1⟩ := k1
  obtain ⟨hL2, ok2, hn2⟩ := k2
  obtain ⟨v, hv⟩ : ∃ v : Int, v = if two then 2 else 1 := ⟨_, rfl⟩
  have hvv : v = 1 ∨ v = 2 := by rw [hv]; cases two <;> simp
  have hkk : (two = true ∧ v = 2) ∨ (two = false ∧ v = 1) := by cases two <;> simp [hv]
  clear hv
  obtain ⟨a, ha⟩ : ∃ es, es = lgd v 0 5 L1 := ⟨_, rfl⟩
  obtain ⟨b, hb⟩ : ∃ es, es = lgd v a.length 5 L2 := ⟨_, rfl⟩
  obtain ⟨ga, la, sa⟩ := lo_rc (base := 0) ok1 hvv (by omega)
  rw [← ha] at ga la sa
  obtain ⟨gb, lb, sb⟩ := lo_rc (base := a.length) ok2 hvv (by omega)
  rw [← hb] at gb lb sb
  have gn := lo_pv (base := a.length) ok2 hvv (by omega)
  rw [← hb] at gn
  have K0 := Lib.hid (fun W => examples_any W)
  have KL1 : Hid (∀ (W : World), Mades W.heap.size A1 n1 L1 W → Calls Tryz.prog 25 #[.slice A1 n1 c1, .int .u64 0, .int .i64 5, .int .i64 v] W fun q w' => ∃ A' n' c', q = .returned (.slice A' n' c') ∧ Le W.heap.size A' n' c' a w' ∧ Below W.heap.size W w') := by
    rw [ha]; exact fun W h => logged_any A1 n1 c1 0 5 v L1 W h ok1 hn1 (by omega) (by omega)
  obtain ⟨p, hp⟩ : ∃ p, p = a.length := ⟨_, rfl⟩
  rw [← hp] at hb la
  have KL2 : Hid (∀ (W : World), Mades W.heap.size A2 n2 L2 W → Calls Tryz.prog 25 #[.slice A2 n2 c2, .int .u64 p, .int .i64 5, .int .i64 v] W fun q w' => ∃ A' n' c', q = .returned (.slice A' n' c') ∧ Le W.heap.size A' n' c' b w' ∧ Below W.heap.size W w') := by
    rw [hb]; exact fun W h => logged_any A2 n2 c2 p 5 v L2 W h ok2 hn2 (by omega) (by omega)
  have HGA := Lib.hid ga
  have HGB := Lib.hid gb
  have HGN := Lib.hid gn
  have HAP : Hid (a.length = p) := hp.symm
  have HLB := Lib.hid lb
  obtain ⟨q, hq⟩ : ∃ q, q = b.length := ⟨_, rfl⟩
  have HBQ : Hid (b.length = q) := hq.symm
  have hq5 : q ≤ 5 := by omega
  have HM1 := Lib.hid hL1
  have HM2 := Lib.hid hL2
  clear ha hb hp hq ga gb gn hL1 hL2 lb ok1 ok2 hn1 hn2
  go_enter Tryz.func6, Tryz.ntmps6
  go_upto_region 4 with (go_at_call 10; (with_reducible refine (K0.out _).mono ?_); rintro q w1 ⟨rfl, b1⟩; have HB1 := Lib.hid b1; have HM11 := Lib.hid ((HM1.out.below b1).mr b1.size); have HM21 := Lib.hid ((HM2.out.below b1).mr b1.size); clear b1)
  rcases hkk with ⟨rfl, hvv2⟩ | ⟨rfl, hvv2⟩
  case' inl =>
    go_upto_region 9 with fail
    rw [← hvv2]
  case' inr =>
    go_upto_region 9 with fail
    rw [← hvv2]
  all_goals
    clear hvv2 K0
    go_upto_region 10 with (go_at_call 25; (with_reducible refine (KL1.out _ HM11.out).mono ?_); rintro q w2 ⟨Aa, na, ca, rfl, hE, b2⟩)
    obtain rfl : na = p := hE.len.symm.trans HAP.out
    have HA2 := Lib.hid hE
    have HB2 : Hid (Below w.heap.size w w2) := HB1.out.trans (b2.mono HB1.out.size)
    have HM22 := Lib.hid ((HM21.out.below b2).mr b2.size)
    clear hE b2 HM11 HM21 HM1 HM2 KL1
    go_upto_region 11 with (go_at_call 25; (with_reducible refine (KL2.out _ HM22.out).mono ?_); rintro q w3 ⟨Ab, nb, cb, rfl, hE, b3⟩)
    obtain rfl : nb = q := hE.len.symm.trans HBQ.out
    have HA3 := Lib.hid (HA2.out.below b3)
    have HE3 := Lib.hid hE
    have HB3 : Hid (Below w.heap.size w w3) := HB2.out.trans (b3.mono HB2.out.size)
    clear hE b3 HM22 KL2 HA2
    obtain ⟨P, hP⟩ : ∃ P, P = w3.heap.size := ⟨_, rfl⟩
    obtain ⟨W4, hW4⟩ : ∃ W4, W4 = w3.alloc (.cells (rgc 0 60 v) 40) := ⟨_, rfl⟩
    have HB4 : Hid (Below w.heap.size w W4) := by show Below _ _ _; rw [hW4]; exact HB3.out.alloc HB3.out.size _
    have HR4 : Hid (W4.heap[P]? = some (.cells (rgc 0 60 v) 40 (0, 0))) := by show _ = _; rw [hW4, hP]; exact heap_alloc_new w3 _
    have HA4 : Hid (Le w1.heap.size Aa na ca a W4) := by show Le w1.heap.size Aa na ca a W4; rw [hW4]; exact HA3.out.below ((Below.refl _ _).alloc (Nat.le_refl _) _)
    have HE4 : Hid (Le w2.heap.size Ab nb cb b W4) := by show Le w2.heap.size Ab nb cb b W4; rw [hW4]; exact HE3.out.below ((Below.refl _ _).alloc (Nat.le_refl _) _)
    go_upto_region 12 with fail
    refine wp_at (w := W4) hW4.symm ?_
    rw [← hP]
    have KN : Hid (∀ W, Calls Tryz.prog 18 #[.int .i64 60] W fun e w' => ∃ g L, e = .returned (.tuple #[ptr g, .int .i64 0]) ∧ Dv w' g L (St.fresh 60 (fun _ => zsec)) ∧ (∀ k ∈ L, W.heap.size ≤ k) ∧ Below W.heap.size W w') := fun W => new_yes 60 W (by omega) (by omega)
    clear hP hW4 HB3 HA3 HE3
    go_upto_region 13 with (go_at_call 18; (with_reducible refine (KN.out _).mono ?_); rintro q w5 ⟨g, L5, rfl, hD, hL5, b5⟩)
    have HD5 := Lib.hid hD
    have HL5 := Lib.hid hL5
    have HB5 := Lib.hid b5
    clear hD hL5 b5 KN
    have KAd : Hid (∀ (d : St) (L : List Nat) (U : Nat) (A : Option Addr) (n c : Nat) (es : List En) (W : World), Dv W g L d → d.n = 60 → hasB 60 U = true → bgn v U = U → Ents W.heap.size A n es W → n ≤ 5 → (∀ e ∈ es, Good v e) → Calls Tryz.prog 27 #[ptr g, RG 0 60 v, .int .i64 U, .slice A n c] W fun e w' => e = .returned (.tuple #[.int .i64 (addG d 0 60 v U es).2.1, .int .i64 (addG d 0 60 v U es).2.2]) ∧ Moves g L (addG d 0 60 v U es).1 W w') := fun d L U A n c es W hD hn hh hb hE hnn hg => by
      have hon : onB d.n 0 60 v = true := by
        unfold onB knB
        rw [hn, decide_eq_true hvv]; rfl
      exact add_go g L d 0 60 U v A n c es W hD (by omega) (by omega) hon hh hb hE (by omega) (fun x hx => (hg x hx).ok)
    obtain ⟨d1, d2, d3, U, N, e1, al1, e2, al2, hU, hbU, e3, hlost⟩ := lose_math hvv HGA.out HGB.out HGN.out sa sb (by rw [HAP.out]; exact la)
    have KA1 : Hid (∀ (A : Option Addr) (n c : Nat) (L : List Nat) (W : World), Dv W g L (St.fresh 60 fun _ => zsec) → Ents W.heap.size A n a W → n ≤ 5 → Calls Tryz.prog 27 #[.pointer (some ⟨g, 0, none⟩), RG 0 60 v, .int .i64 0, .slice A n c] W fun e w' => e = .returned (.tuple #[.int .i64 (U : Nat), .int .i64 0]) ∧ Moves g L d1 W w') := fun A n c L W hW hE hn => by
      have := KAd.out (St.fresh 60 fun _ => zsec) L 0 A n c a W hW rfl (by decide) (by unfold bgn; split <;> rfl) hE hn HGA.out
      rw [e1] at this
      exact this
    have KF : Hid (∀ (L : List Nat) (W : World), Dv W g L d1 → Calls Tryz.prog 28 #[.pointer (some ⟨g, 0, none⟩)] W fun e w' => e = .returned (.int .i64 0) ∧ Moves g L d2 W w') := fun L W hW => by
      have := flush_any g L d1 W hW
      rw [e2] at this
      exact this
    have KA2 : Hid (∀ (A : Option Addr) (n c : Nat) (L : List Nat) (W : World), Dv W g L d2 → Ents W.heap.size A n b W → n ≤ 5 → Calls Tryz.prog 27 #[.pointer (some ⟨g, 0, none⟩), RG 0 60 v, .int .i64 (U : Nat), .slice A n c] W fun e w' => e = .returned (.tuple #[.int .i64 (N : Nat), .int .i64 0]) ∧ Moves g L d3 W w') := fun A n c L W hW hE hn => by
      have := KAd.out d2 L U A n c b W hW al2.n (decide_eq_true (by omega)) hbU hE hn HGB.out
      rw [e3] at this
      exact this
    have HLOST := Lib.hid hlost
    have HR5 : Hid (w5.heap[P]? = some (.cells (rgc 0 60 v) 40 (0, 0))) := (HB5.out.block _ (Array.getElem?_eq_some_iff.1 HR4.out).1).trans HR4.out
    obtain ⟨c0, c1, c2⟩ := rgc_cells HR5.out
    clear KAd e1 al1 e2 al2 hU hbU e3 hlost sa sb HGA HGB HGN
    unfold ptr at *
    go_upto_region 16 with (go_at_call 27; (with_reducible refine (KA1.out _ _ _ _ _ HD5.out (((HA4.out.below HB5.out)).ents) la).mono ?_); rintro q w6 ⟨rfl, hM⟩)
    obtain ⟨L6, m1, m2, m3, m4, m5, m6⟩ := hM.below HB5.out HB5.out.size HL5.out
    have HD6 := Lib.hid m1
    have HL6 := Lib.hid m2
    have HB6 := Lib.hid m3
    clear hM m1 m2 m3 m4 m5 m6 c0 c1 c2 KA1 HD5 HL5 HB5 HR5
    go_upto_region 17 with (go_at_call 28; (with_reducible refine (KF.out _ _ HD6.out).mono ?_); rintro q w7 ⟨rfl, hM⟩)
    obtain ⟨L7, m1, m2, m3, m4, m5, m6⟩ := hM.below HB6.out HB6.out.size HL6.out
    have HD7 := Lib.hid m1
    have HL7 := Lib.hid m2
    have HB7 := Lib.hid m3
    have HR7 : Hid (w7.heap[P]? = some (.cells (rgc 0 60 v) 40 (0, 0))) := (HB7.out.block _ (Array.getElem?_eq_some_iff.1 HR4.out).1).trans HR4.out
    clear hM m1 m2 m3 m4 m5 m6 KF HD6 HL6 HB6
    obtain ⟨c0, c1, c2⟩ := rgc_cells HR7.out
    go_upto_region 18 with (go_at_call 27; (with_reducible refine (KA2.out _ _ _ _ _ HD7.out (((HE4.out.below HB7.out)).ents) hq5).mono ?_); rintro q w8 ⟨rfl, hM⟩)
    obtain ⟨L8, m1, m2, m3, m4, m5, m6⟩ := hM.below HB7.out HB7.out.size HL7.out
    have HD8 := Lib.hid m1
    have HB8 := Lib.hid m3
    have HR8 : Hid (w8.heap[P]? = some (.cells (rgc 0 60 v) 40 (0, 0))) := (HB8.out.block _ (Array.getElem?_eq_some_iff.1 HR4.out).1).trans HR4.out
    clear hM m1 m2 m3 m4 m5 m6 KA2 HD7 HL7 HB7 HR7 c0 c1 c2
    obtain ⟨i0, hi, hz0, hz1, hz2⟩ := info_parts Tryz.info3r
    go_wp2_with fail
    go_loopw [22, 23] (fun vx ix wr => ∃ (k : Nat) (l : List Int) (vv : Value), vv = vx ∧ k ≤ 60 ∧ ix = .int .i64 k ∧ l.length ≤ k ∧ Hid ((∀ x ∈ l, 0 ≤ x ∧ x < 60) ∧ (bits = 0 → l = [])) ∧ wr.ownsRow w8.heap.size 3 1 vv l.length (l.map fun x => Value.int .i64 x) ∧ Below w8.heap.size w8 wr) (fun _ ix _ => 60 - (RowKit.intOf ix).toNat)
    case atStart => exact ⟨0, [], _, rfl, by omega, rfl, Nat.le_refl _, ⟨fun x hx => (by cases hx), fun _ => rfl⟩, World.ownsRow_nil _ _ _ _, Below.refl _ _⟩
    case round =>
      obtain ⟨k, l, vx, rfl, hk, rfl, hlk, hl, hrow, hbr⟩ := hrel
      by_cases hlt : k < 60
      · have t1 : decide ((k : Int) < (60 : Int)) = true := decide_eq_true (by omega)
        have HROW := Lib.hid hrow
        have HBR := Lib.hid hbr
        have HL := Lib.hid hl
        clear hrow hbr hl
        cases hc : (((bits : Int) / 2 ^ k).tmod 2 == 1) with
        | false =>
          go_wp2
          go_roundw
          case rel => exact ⟨k + 1, l, _, rfl, by omega, by go_num, by omega, HL.out, HROW.out, HBR.out⟩
          case measure => simp [RowKit.intOf]; omega
        | true =>
          have hb0 : bits ≠ 0 := fun h0 => by
            rw [h0] at hc
            simp at hc
          obtain ⟨w10, hw10⟩ : ∃ w10, w10 = wr.alloc (.cells #[.int .i64 k] 3) := ⟨_, rfl⟩
          have hb2 : Below wr.heap.size wr w10 := by rw [hw10]; exact (Below.refl _ wr).alloc (Nat.le_refl _) _
          have hrow2 : w10.ownsRow w8.heap.size 3 1 vx l.length (l.map fun x => Value.int .i64 x) := row_of_heap HROW.out (fun j hj => hb2.block j (HROW.out.lt j hj).2)
          have hnews : ∀ j u, [Value.int .i64 k][j]? = some u → w10.cell? ((⟨wr.heap.size, 0, none⟩ : Addr).add j) = some u := fun j u hu => by
            rw [hw10]; exact cell_one_new wr (.int .i64 k) 3 j u hu
          have hs2 : w10.heap.size = wr.heap.size + 1 := by rw [hw10]; simp
          obtain ⟨nl, hnl⟩ : ∃ n, n = l.length := ⟨_, rfl⟩
          rw [← hnl] at hrow2 hlk
          have HROW2 := Lib.hid hrow2
          have HB2 := Lib.hid hb2
          have HS2 := Lib.hid hs2
          have HN := Lib.hid hnews
          have HW2 := Lib.hid hw10
          have HNL := Lib.hid hnl
          have HB0 := Lib.hid hb0
          clear hrow2 hw10 hb2 hnews hs2 hnl hb0
          go_wp2_with (at_builtin; refine wpList_append_lies _ rfl _ _ 48 rfl w8.heap.size 3 i0 (.int .i64 0) 1 8 Tryz.underlying48 hi hz0 hz1 hz2 rfl (by omega) vx nl (l.map fun x => Value.int .i64 x) rfl (by rw [← HW2.out]; exact HROW2.out) ⟨wr.heap.size, 0, none⟩ 1 1 [.int .i64 k] rfl rfl (by rw [← HW2.out]; exact HN.out) (fun u hu => by simp at hu; subst hu; rfl) (by omega) (by unfold maxLen; omega) (by omega) (by rw [← HW2.out, HS2.out]; have := HBR.out.size; omega) (wr.heap.size + 1) (by rw [← HW2.out, HS2.out]) ?_; intro g9 cap9 w11 hown4 hgrow hat hlt4; rw [← HW2.out] at hgrow)
          have hbx : Below w8.heap.size w8 w11 := (HBR.out.trans (HB2.out.mono HBR.out.size)).grown hgrow (by have := HS2.out; have := HBR.out.size; omega) (fun j hj => (HROW2.out.lt j hj).1)
          have hlen : (l ++ [(k : Int)]).length = nl + 1 := by rw [List.length_append, ← HNL.out]; rfl
          go_roundw
          case rel =>
            refine ⟨k + 1, l ++ [(k : Int)], _, rfl, by omega, by go_num, by omega, ⟨fun x hx => ?_, fun h0 => absurd h0 HB0.out⟩, by rw [hlen, List.map_append]; exact hown4, hbx⟩
            rcases List.mem_append.1 hx with h | h
            · exact HL.out.1 x h
            · simp at h; omega
          case measure => simp [RowKit.intOf]; omega
      · have hk60 : k = 60 := by omega
        subst hk60
        have t1 : decide (((60 : Nat) : Int) < (60 : Int)) = false := by decide
        obtain ⟨Ax, cx, rfl, hI⟩ := ints_own hrow (fun x hx => by have := hl.out.1 x hx; omega)
        have HBr : Hid (Below W4.heap.size W4 wr) := HB8.out.trans (hbr.mono HB8.out.size)
        have KAf := Lib.hid (after_any g L8 d3 Ax l cx wr (HD8.out.below hbr) hI (by unfold maxLen; omega))
        obtain ⟨rz, p, hp, hp1, hp2, hp3, hp4⟩ := HLOST.out l
        have HR9 : Hid (wr.heap[P]? = some (.cells (rgc 0 60 v) 40 (0, 0))) := (HBr.out.block _ (Array.getElem?_eq_some_iff.1 HR4.out).1).trans HR4.out
        have HP0 : Hid (bits = 0 → p = a ++ b) := fun h => hp4 (hl.out.2 h)
        obtain ⟨dx, hdx⟩ : ∃ dx, dx = d3.after l := ⟨_, rfl⟩
        rw [← hdx] at KAf rz hp
        have KRd : Hid (∀ (g' : Nat) (L : List Nat) (W : World), Dv W g' L dx → Calls Tryz.prog 31 #[.pointer (some ⟨g', 0, none⟩), RG 0 60 v] W fun e w' => ∃ A n c U, e = .returned (.tuple #[.slice A n c, .int .i64 (U : Nat), .int .i64 0]) ∧ Le W.heap.size A n c p w' ∧ Below W.heap.size W w') := fun g' L W hW => by
          have := rrd_any g' L dx 0 60 v W hW (by omega) (by omega)
          rw [rz, hp] at this
          exact this.mono fun e w' ⟨A, n, c, h1, h2, h3⟩ => ⟨A, n, c, _, h1, h2, h3⟩
        have HPT := Lib.hid hp3
        have HPL := Lib.hid (⟨hp1, hp2⟩ : _ ∧ _)
        clear hp hp1 hp2 hp3 hp4 rz hdx HLOST hI hrow hbr hl HB8 HD8 HR8 hi hz0 hz1 hz2
        unfold ptr at *
        obtain ⟨nl, hnl⟩ : ∃ n, n = l.length := ⟨_, rfl⟩
        rw [← hnl] at KAf ⊢
        clear hnl hlk
        go_upto_region 25 with (go_at_call 20; (with_reducible refine KAf.out.mono ?_); rintro q w11 ⟨g2, L11, rfl, hD11, hL11, b11⟩)
        have HD11 := Lib.hid hD11
        have HB11 : Hid (Below W4.heap.size W4 w11) := HBr.out.trans (b11.mono HBr.out.size)
        have HR11 : Hid (w11.heap[P]? = some (.cells (rgc 0 60 v) 40 (0, 0))) := (b11.block _ (Array.getElem?_eq_some_iff.1 HR9.out).1).trans HR9.out
        clear hD11 hL11 b11 HR9 HBr KAf
        obtain ⟨c0, c1, c2⟩ := rgc_cells HR11.out
        unfold ptr at *
        go_upto_region 28 with (go_at_call 31; (with_reducible refine (KRd.out _ _ _ HD11.out).mono ?_); rintro q w12 ⟨Ar, nr, cr, Ur, rfl, hLr, b12⟩)
        have HB12 : Hid (Below W4.heap.size W4 w12) := HB11.out.trans (b12.mono HB11.out.size)
        have HLr := Lib.hid hLr
        have hnr : p.length = nr := hLr.len
        have h1 := HPL.out.1
        have h2 := HPL.out.2
        rw [HAP.out, hnr] at h1
        rw [HAP.out, HBQ.out, hnr] at h2
        clear hLr b12 c0 c1 c2 KRd HD11 HB11 HR11
        obtain ⟨mm, hmm⟩ : ∃ mm, mm = na + nb := ⟨_, rfl⟩
        have HMM := Lib.hid hmm
        have t2 : decide ((nr : Int) < (na : Int)) = false := decide_eq_false (by omega)
        have t3 : decide ((na : Int) + (nb : Int) < (nr : Int)) = false := decide_eq_false (by omega)
        have hnr10 : nr ≤ 10 := by omega
        have HN1 := Lib.hid (⟨h1, h2⟩ : _ ∧ _)
        have h3 : ¬ nr < na := by omega
        have h4 : ¬ na + nb < nr := by omega
        clear hmm
        have HA12 := Lib.hid (HA4.out.below HB12.out)
        have HE12 := Lib.hid (HE4.out.below HB12.out)
        have HN12 : Hid (Le w12.heap.size none 0 0 [] w12) := Le.nil _ _
        go_upto_region 31 with (first
          | (at_builtin; refine wpList_app_ens rfl _ _ rfl _ w12.heap.size w1.heap.size none Aa 0 0 na ca [] a rfl rfl HN12.out HA12.out (by omega) (Nat.le_refl _) na (by omega) ?_; intro A13 c13 w13 hL13 hb13 hk13; have HL13 := Lib.hid hL13; have HB13 := Lib.hid hb13; clear hL13 hb13 hk13)
          | (at_builtin; refine wpList_app_ens rfl _ _ rfl _ w12.heap.size w2.heap.size A13 Ab na c13 nb cb a b rfl rfl HL13.out (HE12.out.below HB13.out) (by omega) HB13.out.size mm (by have := HMM.out; omega) ?_; intro A14 c14 w14 hL14 hb14 hk14; have HL14 := Lib.hid hL14; have HB14 : Hid (Below w12.heap.size w12 w14) := HB13.out.trans hb14; clear hL14 hb14 hk14))
        have HLr14 := Lib.hid (HLr.out.below HB14.out)
        have HA14 := Lib.hid (HA12.out.below HB14.out)
        have HC14 : Hid (Below W4.heap.size W4 w14) := HB12.out.trans (HB14.out.mono HB12.out.size)
        clear HL13 HB13 HLr HA12 HE12 HN12
        obtain ⟨sb, hsb⟩ : ∃ sb, sb = entsB nr mm p (a ++ b) := ⟨_, rfl⟩
        have HSB : Hid (bits = 0 → sb = true) := fun h => by
          have h5 := HP0.out h
          have h6 : nr = mm := by rw [← hnr, h5, List.length_append, HAP.out, HBQ.out, HMM.out]
          rw [hsb, h5, h6]
          exact entsB_self _ _
        have KS1 : Hid (∀ (Az : Option Addr) (cz : Nat) (W : World), Ents W.heap.size Az na (p.take a.length) W → Ents W.heap.size Aa na a W → Calls Tryz.prog 17 #[.slice Az na cz, .slice Aa na ca] W fun r w' => r = .returned (.bool true) ∧ Below W.heap.size W w') := fun Az cz W h h' => by
          have := esame_any Az Aa na cz na ca (p.take a.length) a W h h' (by omega) (by omega)
          rw [HPT.out, entsB_self] at this
          exact this
        have KS2 : Hid (∀ (W : World), Ents W.heap.size Ar nr p W → Ents W.heap.size A14 mm (a ++ b) W → Calls Tryz.prog 17 #[.slice Ar nr cr, .slice A14 mm c14] W fun r w' => r = .returned (.bool sb) ∧ Below W.heap.size W w') := fun W h h' => by
          have := esame_any Ar A14 nr cr mm c14 p (a ++ b) W h h' (by omega) (by have := HMM.out; omega)
          rw [← hsb] at this
          exact this
        clear hsb hnr HP0
        rcases HLr14.out.form with ⟨rfl, rfl, rfl, hpn⟩ | ⟨gr, rfl, hgc, hgm, hgl⟩
        · have hna : na = 0 := by omega
          subst hna
          have HTk : Hid (Ents w14.heap.size none 0 (p.take a.length) w14) := by show Ents _ _ _ _ _; rw [HAP.out, List.take_zero]; exact (Le.nil w14.heap.size w14).ents
          clear hpn
          go_upto_region 32 with (go_at_call 17; (with_reducible refine (KS1.out _ _ _ HTk.out HA14.out.ents).mono ?_); rintro q w15 ⟨rfl, b15⟩)
          have HB15 : Hid (Below W4.heap.size W4 w15) := HC14.out.trans (b15.mono HC14.out.size)
          have HLr15 := Lib.hid (HLr14.out.below b15)
          have HL15 := Lib.hid (HL14.out.below b15)
          clear b15 HLr14 HL14 HA14
          go_upto_region 33 with (go_at_call 17; (with_reducible refine (KS2.out _ HLr15.out.ents HL15.out.ents).mono ?_); rintro q w16 ⟨rfl, b16⟩)
          have HB16 : Hid (Below W4.heap.size W4 w16) := HB15.out.trans (b16.mono HB15.out.size)
          have HF : Hid (Below w.heap.size w w16) := HB4.out.trans (HB16.out.mono HB4.out.size)
          clear b16 HLr15 HL15 KS2
          by_cases h0 : bits = 0
          · have hsb := HSB.out h0
            subst hsb
            subst h0
            go_wp2
            go_ret
            exact ⟨rfl, HF.out⟩
          · have h0' : ((bits : Int) == 0) = false := by simp; omega
            have h0'' : ((bits : Int) != 0) = true := by unfold bne; rw [h0']; rfl
            go_wp2
            go_ret
            exact ⟨rfl, HF.out⟩
        · have HTk : Hid (Ents w14.heap.size (some ⟨gr, 0, none⟩) na (p.take a.length) w14) := by
            have := (HLr14.out.take (k := na) h1).ents
            rw [← HAP.out] at this
            show Ents _ _ _ _ _
            rw [← HAP.out]
            exact this
          clear hgm hgl
          have hgc' : (na : Int) ≤ (cr : Int) := by omega
          go_upto_region 32 with (go_at_call 17; (with_reducible refine (KS1.out _ _ _ HTk.out HA14.out.ents).mono ?_); rintro q w15 ⟨rfl, b15⟩)
          have HB15 : Hid (Below W4.heap.size W4 w15) := HC14.out.trans (b15.mono HC14.out.size)
          have HLr15 := Lib.hid (HLr14.out.below b15)
          have HL15 := Lib.hid (HL14.out.below b15)
          clear b15 HLr14 HL14 HA14
          go_upto_region 33 with (go_at_call 17; (with_reducible refine (KS2.out _ HLr15.out.ents HL15.out.ents).mono ?_); rintro q w16 ⟨rfl, b16⟩)
          have HB16 : Hid (Below W4.heap.size W4 w16) := HB15.out.trans (b16.mono HB15.out.size)
          have HF : Hid (Below w.heap.size w w16) := HB4.out.trans (HB16.out.mono HB4.out.size)
          clear b16 HLr15 HL15 KS2
          by_cases h0 : bits = 0
          · have hsb := HSB.out h0
            subst hsb
            subst h0
            go_wp2
            go_ret
            exact ⟨rfl, HF.out⟩
          · have h0' : ((bits : Int) == 0) = false := by simp; omega
            have h0'' : ((bits : Int) != 0) = true := by unfold bne; rw [h0']; rfl
            go_wp2
            go_ret
            exact ⟨rfl, HF.out⟩
end Go.Proofs.YtnobeoppffoomaaGreat
