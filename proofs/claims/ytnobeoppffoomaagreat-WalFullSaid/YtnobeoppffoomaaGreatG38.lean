/-
  Texts of the layer below and of this one: LFulA.
  Conditions: named in each theorem.
-/
import Derived.Test.YtnobeoppffoomaaGreatG37
import Derived.Test.YtnobeoppffoomaaGreatG33
import Derived.Test.YtnobeoppffoomaaGreatG34
import Derived.Test.YtnobeoppffoomaaGreatG05
namespace Go.Proofs.YtnobeoppffoomaaGreat
open Go.RowKit
set_option linter.unusedVariables false
set_option linter.unusedSimpArgs false
open Dk Vi
theorem mades_blk {w : World} {g : Nat} {e : En} {o : Bool} (h : w.heap[g]? = some (.cells (mdc e o) 30 (0, 0))) : Mades w.heap.size (some ⟨g, 0, none⟩) 1 [(e, o)] w := by
  refine ⟨rfl, fun i x hx => ?_⟩
  have hi : i = 0 := by
    have := (List.getElem?_eq_some_iff.1 hx).1
    simp at this
    exact this
  subst hi
  obtain rfl : x = (e, o) := by simpa using hx.symm
  refine ⟨⟨g, 0, none⟩, rfl, (Array.getElem?_eq_some_iff.1 h).1, fun j hj => ?_⟩
  rw [Addr.add_mid, Addr.add_mid]
  have := cell_of_row w g j _ 30 (0, 0) h
  simpa using this
theorem one_size {v : Int} {base : Nat} {e : En} {o : Bool} (ok : e.Ok) (hv : v = 1 ∨ v = 2) (hb : base ≤ 16000) :
    4 ≤ (rcA v (pS v) (lgd 1 base 1 [(e, o)])).size ∧ (rcA v (pS v) (lgd 1 base 1 [(e, o)])).size ≤ 128 ∧ (v = 1 → (rcA v (pS v) (lgd 1 base 1 [(e, o)])).size = 128) := by
  have okL : ∀ p ∈ [(e, o)], p.1.Ok := fun p hp => by simp at hp; rw [hp]; exact ok
  have hl : (lgd 1 base 1 [(e, o)]).length = 1 := by rw [lgd_length]; rfl
  have gm := fun x (hx : x ∈ lgd 1 base 1 [(e, o)]) => (lgd_mem okL (.inl rfl) (by omega) (by omega) hx).2.2 rfl
  have g1 := lgd_good (v := 1) (lev := 1) (base := base) (most := 1) okL (.inl rfl) (.inl rfl) (fun _ => rfl) (by omega) (by omega)
  have g2 := lgd_good (v := 2) (lev := 1) (base := base) (most := 1) okL (.inr rfl) (.inl rfl) (fun _ => rfl) (by omega) (by omega)
  have gs := lgd_short (lev := 1) (base := base) (most := 1) okL (.inl rfl) hb (by omega)
  have go := lgd_old (base := base) (most := 1) okL (by omega) (by omega)
  rcases hv with rfl | rfl
  · have := rcA1_size (lgd 1 base 1 [(e, o)]) fun x hx => ⟨g1 x hx, gm x hx⟩
    rw [this, hl]
    exact ⟨by decide, by decide, fun _ => rfl⟩
  · have h2 := rcA2_size (lgd 1 base 1 [(e, o)]) fun x hx => Nat.le_trans (pS2_le (g2 x hx) (gs x hx) (go x hx)) (by omega)
    rw [hl] at h2
    obtain ⟨x, hx⟩ := List.length_eq_one_iff.1 hl
    have hG := g2 x (by rw [hx]; simp)
    rw [hx] at h2 ⊢
    refine ⟨?_, h2, fun h => by cases h⟩
    have e1 : rcA 2 (pS 2) [x] = padv 2 (rcA 2 (pS 2) [] ++ pS 2 x) := rcA_snoc 2 (pS 2) [] x
    rw [e1, padv_size, ByteArray.size_append, hG.s]
    unfold bgn pack
    rw [if_neg (by decide), ByteArray.size_append, ByteArray.size_append, seal_size]
    omega
set_option maxRecDepth 100000 in
set_option maxHeartbeats 8000000 in
theorem full_any (n0 : Nat) (e : En) (o : Bool) (two : Bool) (w : World) (z0 : n0 < 256) (ok : e.Ok) :
    Calls Tryz.prog 9 #[.int .u8 n0, mdv e o, .bool two] w fun q w' => q = .returned (.bool true) ∧ Below w.heap.size w w' := by
  obtain ⟨M, hM⟩ : ∃ M, M = 2 + n0 % 19 := ⟨_, rfl⟩
  have hMI : (2 : Int) + (n0 : Int) % 19 = (M : Int) := by omega
  have hM1 : 2 ≤ M ∧ M ≤ 20 := by omega
  obtain ⟨v, hv⟩ : ∃ v : Int, v = if two then 2 else 1 := ⟨_, rfl⟩
  have hvv : v = 1 ∨ v = 2 := by rw [hv]; cases two <;> simp
  have K0 := Lib.hid (fun W => examples_any W)
  have HB0 : Hid (Below w.heap.size w (w.alloc (.cells (mdc e o) 30))) := (Below.refl _ w).alloc (Nat.le_refl _) _
  have HE0 : Hid ((w.alloc (.cells (mdc e o) 30)).heap[w.heap.size]? = some (.cells (mdc e o) 30 (0, 0))) := heap_alloc_new w _
  have okL : ∀ p ∈ [(e, o)], p.1.Ok := fun p hp => by simp at hp; rw [hp]; exact ok
  clear hM
  have hkk : (two = true ∧ v = 2) ∨ (two = false ∧ v = 1) := by cases two <;> simp [hv]
  clear hv
  go_enter Tryz.func9, Tryz.ntmps9
  go_upto_region 4 with (go_at_call 10; (with_reducible refine (K0.out _).mono ?_); rintro q w1 ⟨rfl, b1⟩; have HB1 : Hid (Below w.heap.size w w1) := HB0.out.trans (b1.mono HB0.out.size); have HE1 : Hid (w1.heap[w.heap.size]? = some (.cells (mdc e o) 30 (0, 0))) := (b1.block _ (Array.getElem?_eq_some_iff.1 HE0.out).1).trans HE0.out; clear b1)
  rcases hkk with ⟨rfl, hvv2⟩ | ⟨rfl, hvv2⟩
  case' inl =>
    go_upto_region 8 with fail
    rw [← hvv2]
  case' inr =>
    go_upto_region 8 with fail
    rw [← hvv2]
  all_goals
    clear hvv2 hMI K0 HB0 HE0
    obtain ⟨P, hP⟩ : ∃ P, P = w1.heap.size := ⟨_, rfl⟩
    obtain ⟨W2, hW2⟩ : ∃ W2, W2 = w1.alloc (.cells (rgc 0 M v) 40) := ⟨_, rfl⟩
    have hB2 : Below w.heap.size w W2 := by rw [hW2]; exact HB1.out.alloc HB1.out.size _
    have hR2 : W2.heap[P]? = some (.cells (rgc 0 M v) 40 (0, 0)) := by rw [hW2, hP]; exact heap_alloc_new w1 _
    have hE2 : W2.heap[w.heap.size]? = some (.cells (mdc e o) 30 (0, 0)) := by rw [hW2]; exact (Lib.alloc_old _ _ _ (Array.getElem?_eq_some_iff.1 HE1.out).1).trans HE1.out
    refine wp_at (w := W2) hW2.symm ?_
    rw [← hP]
    have HB2 := Lib.hid hB2
    have HR2 := Lib.hid hR2
    have HE2 := Lib.hid hE2
    have KN : Hid (∀ W, Calls Tryz.prog 18 #[.int .i64 25] W fun e w' => ∃ g L, e = .returned (.tuple #[ptr g, .int .i64 0]) ∧ Dv w' g L (St.fresh 25 (fun _ => zsec)) ∧ (∀ k ∈ L, W.heap.size ≤ k) ∧ Below W.heap.size W w') := fun W => new_yes 25 W (by omega) (by omega)
    clear hP hW2 hB2 hR2 hE2 HB1 HE1
    go_upto_region 9 with (go_at_call 18; (with_reducible refine (KN.out _).mono ?_); rintro q w3 ⟨g, L0, rfl, hD, hL0, b3⟩)
    have HD3 := Lib.hid hD
    have HL3 := Lib.hid hL0
    have HB3 := Lib.hid b3
    clear hD hL0 b3 KN
    unfold ptr
    go_upto_region 13 with fail
    go_loopw [12, 13] (fun i12 i13 wr => ∃ (u n : Nat) (d : St) (L : List Nat), i12 = .int .i64 u ∧ i13 = .int .u64 n ∧ n ≤ 400 ∧ 4 * n ≤ u ∧ u ≤ 64 * M ∧ Hid (n = 0 → u = 0) ∧ Hid (bgn v u = u) ∧ Hid (v = 1 → u % 64 = 0) ∧ Hid (Dv wr g L d) ∧ Hid (Alv d 25) ∧ Hid (∀ k ∈ L, W2.heap.size ≤ k) ∧ Hid (Below W2.heap.size W2 wr)) (fun _ i13 _ => 400 - (Go.RowKit.intOf i13).toNat)
    case atStart =>
      refine ⟨0, 0, _, L0, rfl, rfl, by omega, by omega, by omega, fun _ => rfl, ?_, fun _ => rfl, HD3, Alv.fresh 25 _, HL3, HB3⟩
      show _ = _
      unfold bgn
      split <;> rfl
    case round =>
      obtain ⟨u, n, d, L, rfl, rfl, hn, h4, hu, hn00, hbg, hm64, HDV, HAL, HLL, HBW⟩ := hrel
      by_cases hlt : n < 400
      rotate_left
      · exfalso; omega
      have t1 : decide ((n : Int) < 400) = true := decide_eq_true (by omega)
      have t2 : decide (n < 400) = true := decide_eq_true hlt
      obtain ⟨z4, z128, z1⟩ := one_size (o := o) (base := n % 50) ok hvv (by omega)
      have hgood := lgd_good (v := v) (lev := 1) (base := n % 50) (most := 1) okL hvv (.inl rfl) (fun _ => rfl) (by omega) (by omega)
      have hlen : (lgd 1 (n % 50) 1 [(e, o)]).length = 1 := by rw [lgd_length]; rfl
      have hbI : ((n % 50 : Nat) : Int) = (n : Int) % 50 := by omega
      have KL := Lib.hid (fun (A : Option Addr) (W : World) (h : Mades W.heap.size A 1 [(e, o)] W) => logged_any A 1 1 (n % 50) 1 1 [(e, o)] W h okL (by omega) (by omega) (by omega))
      obtain ⟨es, hes⟩ : ∃ es, es = lgd 1 (n % 50) 1 [(e, o)] := ⟨_, rfl⟩
      rw [hbI, ← hes, show ((1 : Nat) : Int) = 1 from rfl] at KL
      rw [← hes] at z4 z128 z1 hgood hlen
      have KR := Lib.hid (fun (A : Option Addr) (n c : Nat) (W : World) (h : Ents W.heap.size A n es W) => records_any v (pS v) (pO v) A n c es W h (by have := h.len; omega) (fun e _ => Nat.le_trans (pS_le v e) (by omega)) (puts_in v es (fun x hx => (hgood x hx).ok)))
      obtain ⟨q1, o1⟩ := rcS_good hvv hgood
      rw [q1, o1] at KR
      have KI := Lib.hid (fun (d : St) (L : List Nat) (W : World) (h : Dv W g L d) => image_any g L d W h)
      have hon : onB d.n 0 M v = true := by
        unfold onB
        rw [HAL.out.n, decide_eq_true (by omega), decide_eq_true (by omega)]
        unfold knB
        rw [decide_eq_true hvv]; rfl
      have hhas : hasB M u = true := decide_eq_true (by omega)
      have hbgo := hbg.out
      have KA : Hid (∀ (A : Option Addr) (n c : Nat) (W : World), Dv W g L d → Ents W.heap.size A n es W → Calls Tryz.prog 27 #[ptr g, RG 0 M v, .int .i64 u, .slice A n c] W fun e w' => e = .returned (.tuple #[.int .i64 (addG d 0 M v u es).2.1, .int .i64 (addG d 0 M v u es).2.2]) ∧ Moves g L (addG d 0 M v u es).1 W w') := fun A n c W hD hE => add_go g L d 0 M u v A n c es W hD (by omega) (by omega) hon hhas hbgo hE (by have := hE.len; omega) (fun x hx => (hgood x hx).ok)
      have hfit : u + (rcA v (pS v) es).size ≤ M * 64 → ∃ d', addG d 0 M v u es = (d', ((u + (rcA v (pS v) es).size : Nat) : Int), 0) ∧ Alv d' 25 := fun h => add_fit HAL.out HDV.out.1 hvv hgood (by omega) h (by omega)
      have hfull : ¬ u + (rcA v (pS v) es).size ≤ M * 64 → addG d 0 M v u es = (d, 0, 4) := fun h => add_full hvv hgood h
      obtain ⟨AG, hAG⟩ : ∃ AG, AG = addG d 0 M v u es := ⟨_, rfl⟩
      rw [← hAG] at KA hfit hfull
      obtain ⟨s, hs⟩ : ∃ s, s = rcA v (pS v) es := ⟨_, rfl⟩
      rw [← hs] at KR hfit hfull z4 z128 z1
      have HFIT := Lib.hid hfit
      have HFULL := Lib.hid hfull
      have Z1 := Lib.hid z1
      have HLEN := Lib.hid hlen
      have HE4 : Hid (wr.heap[w.heap.size]? = some (.cells (mdc e o) 30 (0, 0))) := (HBW.out.block _ (Array.getElem?_eq_some_iff.1 HE2.out).1).trans HE2.out
      obtain ⟨d0, d1, d2, d3, d4, d5, d6, d7, d8, d9, d10, d11⟩ := mcl HE4.out
      have HAL0 := HAL
      clear hbI hes hgood hlen q1 o1 hon hhas hbgo hAG hs hfit hfull z1
      unfold ptr at *
      go_upto_region 14 with fail
      go_upto_region 15 with (go_at_call 25; (with_reducible refine (KL.out _ _ (mades_blk (heap_alloc_new wr _))).mono ?_); rintro q w5 ⟨A5, n5, c5, rfl, hL5, b5⟩)
      have HD5 : Hid (Dv w5 g L d) := ((HDV.out.alloc _).below b5)
      have HB5 : Hid (Below W2.heap.size W2 w5) := (HBW.out.alloc HBW.out.size _).trans (b5.mono (HBW.out.alloc HBW.out.size (.cells (mdc e o) 30)).size)
      have HL5 := Lib.hid hL5
      clear hL5 b5 d0 d1 d2 d3 d4 d5 d6 d7 d8 d9 d10 d11 HE4
      go_upto_region 16 with (go_at_call 12; (with_reducible refine (KR.out _ _ _ _ HL5.out.ents).mono ?_); rintro q w6 ⟨rfl, b6⟩)
      have HD6 := Lib.hid (HD5.out.below b6)
      have HB6 : Hid (Below W2.heap.size W2 w6) := HB5.out.trans (b6.mono HB5.out.size)
      have HL6 := Lib.hid (HL5.out.below b6)
      clear b6
      go_upto_region 17 with (go_at_call 23; (with_reducible refine (KI.out _ _ _ HD6.out).mono ?_); rintro q w7 ⟨rfl, b7⟩)
      have HD7 := Lib.hid (HD6.out.below b7)
      have HB7 : Hid (Below W2.heap.size W2 w7) := HB6.out.trans (b7.mono HB6.out.size)
      have HL7 := Lib.hid (HL6.out.below b7)
      have HP7 : Hid (w7.heap[P]? = some (.cells (rgc 0 M v) 40 (0, 0))) := (HB7.out.block _ (Array.getElem?_eq_some_iff.1 HR2.out).1).trans HR2.out
      obtain ⟨c0, c1, c2⟩ := rgc_cells HP7.out
      clear b7
      go_upto_region 18 with (go_at_call 27; (with_reducible refine (KA.out _ _ _ _ HD7.out HL7.out.ents).mono ?_); rintro q w8 ⟨rfl, hM8⟩)
      obtain ⟨L8, m1, m2, m3, m4, m5, m6⟩ := hM8.below HB7.out HB7.out.size HLL.out
      have HD8 := Lib.hid m1
      have HL8 := Lib.hid m2
      have HB8 := Lib.hid m3
      have HP8 : Hid (w8.heap[P]? = some (.cells (rgc 0 M v) 40 (0, 0))) := (HB8.out.block _ (Array.getElem?_eq_some_iff.1 HR2.out).1).trans HR2.out
      clear c0 c1 c2 hM8 m1 m2 m3 m4 m5 m6
      obtain ⟨c0, c1, c2⟩ := rgc_cells HP8.out
      by_cases hf : u + s.size ≤ M * 64
      · obtain ⟨d', hA, hAl'⟩ := HFIT.out hf
        subst hA
        have HALN := Lib.hid hAl'
        dsimp only at HD8
        have s1 : ((u + s.size : Nat) : Int) = (u : Int) + (s.size : Int) := by omega
        have t3 : decide ((u : Int) + (s.size : Int) ≤ 64 * (M : Int)) = true := decide_eq_true (by omega)
        have hbg' : Hid (bgn v (u + s.size) = u + s.size) := by
          show _ = _
          unfold bgn
          split
          · rename_i h1
            have := Z1.out h1
            have := hm64.out h1
            omega
          · rfl
        have hm' : Hid (v = 1 → (u + s.size) % 64 = 0) := fun h1 => by
          have := Z1.out h1
          have := hm64.out h1
          omega
        clear HFIT HFULL hAl' z128
        have q2 : ((u : Int) + (s.size : Int) == (u : Int) + (s.size : Int)) = true := by simp
        go_upto_region 19 with fail
        go_wp2
        go_roundw
        case rel => exact ⟨u + s.size, by omega, n + 1, by omega, by omega, by omega, by omega, fun h => absurd h (by omega), hbg', hm', d', L8, HD8, HALN, HL8⟩
        case measure => simp [Go.RowKit.intOf]; omega
      · have hA := HFULL.out hf
        subst hA
        dsimp only at HD8
        have hn0 : 0 < n := by
          rcases Nat.eq_zero_or_pos n with h | h
          · have := hn00.out h; omega
          · exact h
        have t3 : decide ((u : Int) + (s.size : Int) ≤ 64 * (M : Int)) = false := decide_eq_false (by omega)
        have t4 : decide ((0 : Int) < (n : Int)) = true := decide_eq_true (by omega)
        have t5 : decide (0 < n) = true := decide_eq_true hn0
        have HX : Hid (Below w.heap.size w w8) := HB2.out.trans (HB8.out.mono HB2.out.size)
        clear HFIT HFULL
        go_wp2_with (go_at_call 23; (with_reducible refine (KI.out _ _ _ HD8.out).mono ?_); rintro q w9 ⟨rfl, b9⟩)
        go_ret
        exact ⟨rfl, HX.out.trans (b9.mono HX.out.size)⟩
end Go.Proofs.YtnobeoppffoomaaGreat
