/-
  A log of which sectors behind a place are lost: how many entries it has at most.
  Conditions: named in each theorem.
-/
import Derived.Test.YtnobeoppffoomaaGreatWBn
import Derived.Test.YtnobeoppffoomaaGreatG33
namespace Go.Proofs.YtnobeoppffoomaaGreat
open Go.RowKit
set_option linter.unusedVariables false
set_option linter.unusedSimpArgs false
open Dk Vi
theorem pl_rc2 {v : Int} {es : List En} {J : ByteArray} (hg : ∀ e ∈ es, Good v e) : ∀ (post pre : List En) (F : Nat), es = pre ++ post → post.length ≤ F →
    pl qX D.aO v (rcA v (pS v) es ++ J) F (rcA v (pS v) pre).size = endsP v (pS v) pre post ++ pl qX D.aO v (rcA v (pS v) es ++ J) (F - post.length) (rcA v (pS v) es).size := by
  intro post
  induction post with
  | nil =>
    intro pre F he hF
    rw [List.append_nil] at he
    subst he
    rfl
  | cons e post ih =>
    intro pre F he hF
    obtain ⟨F, rfl⟩ : ∃ F', F = F' + 1 := ⟨F - 1, by simp at hF; omega⟩
    have G := hg e (by rw [he]; simp)
    obtain ⟨r, hr⟩ := rcA_pre v (pS v) pre e post
    have ht : tlB (rcA v (pS v) es ++ J) (rcA v (pS v) pre).size = pack v (D.ePv v e) ++ (r ++ J) := by
      rw [he, hr, ByteArray.append_assoc]
      unfold tlB
      rw [extract_drop, G.s, ByteArray.append_assoc]
    obtain ⟨k1, k2, k3, k4⟩ := nOk_pack G.pk (r ++ J)
    have hfm := frm_pack k1
    rw [k2, k3] at hfm
    have hnx := (nx_yes k1)
    have hN := nxN_eq k1
    rw [k2, k3] at hN
    have hfb : frB D.aO v (pack v (D.ePv v e) ++ (r ++ J)) = true := by
      unfold frB
      rw [k1, hfm, G.g, hnx.1, k2, decide_eq_true rfl]
      rfl
    have hX : qX (frm (pack v (D.ePv v e) ++ (r ++ J))) = e := by
      rw [hfm]; unfold qX; rw [if_pos G.g, G.x]
    have hnp : nxtP v (rcA v (pS v) es ++ J) (rcA v (pS v) pre).size = (rcA v (pS v) (pre ++ [e])).size := by
      unfold nxtP
      have hz : (rcA v (pS v) pre ++ pS v e).size = (rcA v (pS v) pre).size + (pS v e).size := ByteArray.size_append
      have hzz : (rcA v (pS v) es ++ J).size = (rcA v (pS v) es).size + J.size := ByteArray.size_append
      rw [ht, hnx.2.2, hN, Int.toNat_natCast, ← G.s, rcA_snoc, padv_size, hz]
      refine Nat.min_eq_left ?_
      have h1 : (rcA v (pS v) (pre ++ [e])).size ≤ (rcA v (pS v) es).size := by
        rw [he]
        cases post with
        | nil => exact Nat.le_refl _
        | cons a t =>
          have := rcA_pre v (pS v) (pre ++ [e]) a t
          obtain ⟨r', hr'⟩ := this
          rw [List.append_assoc] at hr'
          show _ ≤ (rcA v (pS v) (pre ++ ([e] ++ a :: t))).size
          rw [hr', ByteArray.size_append]
          omega
      rw [rcA_snoc, padv_size, hz] at h1
      omega
    rw [pl, ht, hfb, if_pos rfl, hX, hnp, endsP, ih (pre ++ [e]) F (by rw [he]; simp) (by simp at hF; omega)]
    rw [List.cons_append, show F + 1 - (e :: post).length = F - post.length by simp]
/-- The i-th byte of a text, or 0. -/
def bt (s : ByteArray) (i : Nat) : Nat := (s.data.toList.getD i 0).toNat
theorem bt_app (a b : ByteArray) (i : Nat) : bt (a ++ b) i = if i < a.size then bt a i else bt b (i - a.size) := by
  have hl : a.data.toList.length = a.size := Array.length_toList
  unfold bt
  rw [ByteArray.data_append, Array.toList_append, List.getD_eq_getElem?_getD, List.getD_eq_getElem?_getD, List.getD_eq_getElem?_getD, List.getElem?_append, hl]
  split <;> rfl
theorem bt_tl (s : ByteArray) (p k : Nat) (hp : p ≤ s.size) : bt (tlB s p) k = bt s (p + k) := by
  have h := bt_app (s.extract 0 p) (s.extract p s.size) (p + k)
  have e : s.extract 0 p ++ s.extract p s.size = s := by
    rw [← ByteArray.extract_eq_extract_append_extract p (by omega) (by omega), ByteArray.extract_zero_size]
  have hs : (s.extract 0 p).size = p := by rw [ByteArray.size_extract]; omega
  rw [e, hs, if_neg (by omega), show p + k - p = k by omega] at h
  exact h.symm
theorem bt_str (l : List Nat) (hl : ∀ x ∈ l, x < 256) (k : Nat) : bt (str l) k = l.getD k 0 := by
  have h := nums_str l hl
  have h2 : bt (str l) k = (nums (str l)).getD k 0 := by
    unfold bt nums
    rw [List.getD_eq_getElem?_getD, List.getD_eq_getElem?_getD, List.getElem?_map]
    cases (str l).data.toList[k]? <;> rfl
  rw [h2, h]
theorem bt_hd2 (n : Nat) : bt (hdF 2 n) 0 = 162 ∧ ∀ k, bt (hdF 2 n) (1 + k) = (put n).getD k 0 := by
  have a1 : (fxB (160 + 2 : Int).toNat 1).size = 1 := fxB_size _ 1 (by omega)
  unfold hdF lenB
  rw [if_neg (by decide)]
  refine ⟨?_, fun k => ?_⟩
  · rw [bt_app, a1, if_pos (by omega)]
    decide +kernel
  · rw [bt_app, a1, if_neg (by omega), show 1 + k - 1 = k by omega]
    exact bt_str _ (put_lt n) k
theorem bt_hd1 (n : Nat) : bt (hdF 1 n) 0 = 161 ∧ ∀ k, k < 4 → bt (hdF 1 n) (1 + k) = (fx n 4).getD k 0 := by
  have a1 : (fxB (160 + 1 : Int).toNat 1).size = 1 := fxB_size _ 1 (by omega)
  unfold hdF lenB
  rw [if_pos rfl]
  refine ⟨?_, fun k hk => ?_⟩
  · rw [bt_app, a1, if_pos (by omega)]
    decide +kernel
  · rw [bt_app, a1, if_neg (by omega), show 1 + k - 1 = k by omega]
    have : fxB n 4 = str (fx n 4) := fxB_eq n 4 (by omega)
    rw [this]
    exact bt_str _ (fx_lt n 4) k
theorem put_0 (n : Nat) : (put n).getD 0 0 = if n < 128 then n else n % 128 + 128 := by
  by_cases h : n < 128
  · rw [put_small n h, if_pos h]; rfl
  · rw [put_big n (by omega), if_neg h]; rfl
theorem put_1 (n : Nat) (h : 128 ≤ n) : (put n).getD 1 0 = if n / 128 < 128 then n / 128 else n / 128 % 128 + 128 := by
  rw [put_big n h]
  exact put_0 (n / 128)
theorem fx_inj {m n : Nat} (hm : m ≤ 1048576) (hn : n ≤ 1048576) (h : ∀ k, k < 4 → (fx m 4).getD k 0 = (fx n 4).getD k 0) : m = n := by
  have hl : fx m 4 = fx n 4 := by
    apply List.ext_getElem?
    intro i
    by_cases hi : i < 4
    · have h1 : i < (fx m 4).length := by rw [fx_length]; exact hi
      have h2 : i < (fx n 4).length := by rw [fx_length]; exact hi
      have := h i hi
      rw [List.getD_eq_getElem?_getD, List.getD_eq_getElem?_getD, List.getElem?_eq_getElem h1, List.getElem?_eq_getElem h2] at this
      rw [List.getElem?_eq_getElem h1, List.getElem?_eq_getElem h2]
      exact congrArg some this
    · rw [List.getElem?_eq_none (by rw [fx_length]; omega), List.getElem?_eq_none (by rw [fx_length]; omega)]
  have h1 := be_fx m 4
  have h2 := be_fx n 4
  rw [hl, h2] at h1
  omega
theorem seal_20 : bt (sealB (hdF 2 0) ⟨#[]⟩) 3 ≠ 0 ∨ bt (sealB (hdF 2 0) ⟨#[]⟩) 2 ≠ 0 := by
  have e : hdF 2 0 = ⟨#[162, 0]⟩ := by
    have h0 : putB 0 = ⟨#[0]⟩ := by unfold putB; rw [put_small 0 (by omega)]; decide +kernel
    have h1 : fxB (160 + 2 : Int).toNat 1 = ⟨#[162]⟩ := by decide +kernel
    unfold hdF lenB
    rw [if_neg (by decide), h0, h1]
    rfl
  rw [e]
  decide +kernel
/-- Where a frame begins that is one, and its head is that of a record or cut by bytes 0 at a sector's end, it is as long as the record. -/
theorem head_eq {v : Int} {n c : Nat} {X t : ByteArray} (hv : v = 1 ∨ v = 2) (hn : n ≤ 1048576) (hn2 : v = 2 → n < 16384) (hX : ∀ i, i < (hdF v n).size → bt X i = bt (hdF v n) i)
    (ht : nOk t = true) (htv : nV t = v) (hc : 1 ≤ c) (hc1 : v = 1 → c = 64)
    (h1 : (∀ i, i < c → bt t i = bt X i) ∨ (∀ i, i < c → bt t i = 0)) (h2 : (∀ i, c ≤ i → i < c + 64 → bt t i = bt X i) ∨ (∀ i, c ≤ i → i < c + 64 → bt t i = 0)) : nM t = n := by
  obtain ⟨k1, k2, k3⟩ := nOk_sound ht
  have hm : nM t ≤ 1048576 := by
    unfold pkO at k1
    rw [Bool.and_eq_true] at k1
    have := of_decide_eq_true k1.2
    omega
  obtain ⟨m, hmm⟩ : ∃ m, m = nM t := ⟨_, rfl⟩
  rw [← hmm] at hm k3 ⊢
  have hp : t = hdF v m ++ (sealB (hdF v m) (nBd t) ++ (nBd t ++ nW t)) := by
    have := k2
    unfold pack at this
    rw [htv, k3] at this
    rw [ByteArray.append_assoc, ByteArray.append_assoc] at this
    exact this
  have hT : ∀ i, i < (hdF v m).size → bt t i = bt (hdF v m) i := fun i hi => by
    rw [hp, bt_app, if_pos hi]
  rcases hv with rfl | rfl
  · have hz : ∀ n, (hdF 1 n).size = 5 := fun n => by
      unfold hdF lenB
      have a1 : (fxB (160 + 1 : Int).toNat 1).size = 1 := fxB_size _ 1 (by omega)
      have a2 : (fxB n 4).size = 4 := fxB_size n 4 (by omega)
      rw [if_pos rfl, ByteArray.size_append, a1, a2]
    have hc64 := hc1 rfl
    rcases h1 with h1 | h1
    · refine fx_inj hm hn fun k hk => ?_
      rw [← (bt_hd1 m).2 k hk, ← (bt_hd1 n).2 k hk, ← hT _ (by rw [hz]; omega), ← hX _ (by rw [hz]; omega)]
      exact h1 _ (by omega)
    · have := h1 0 (by omega)
      rw [hT 0 (by rw [hz]; omega), (bt_hd1 m).1] at this
      omega
  · have hz : ∀ n, (hdF 2 n).size = 1 + (put n).length := fun n => by
      unfold hdF lenB
      have a1 : (fxB (160 + 2 : Int).toNat 1).size = 1 := fxB_size _ 1 (by omega)
      rw [if_neg (by decide), ByteArray.size_append, a1]
      unfold putB
      rw [str_size]
    have hpos : ∀ n, 1 ≤ (put n).length := fun n => put_length_pos n
    have hlen2 : ∀ n, 128 ≤ n → 2 ≤ (put n).length := fun n h => by
      rw [put_big n h, List.length_cons]
      have := put_length_pos (n / 128)
      omega
    have hn16 := hn2 rfl
    have t1 : bt t 1 = if m < 128 then m else m % 128 + 128 := by
      rw [hT 1 (by rw [hz]; have := hpos m; omega), ← put_0]
      exact (bt_hd2 m).2 0
    have x1 : bt X 1 = if n < 128 then n else n % 128 + 128 := by
      rw [hX 1 (by rw [hz]; have := hpos n; omega), ← put_0]
      exact (bt_hd2 n).2 0
    have t2 : 128 ≤ m → bt t 2 = if m / 128 < 128 then m / 128 else m / 128 % 128 + 128 := fun h => by
      rw [hT 2 (by rw [hz]; have := hlen2 m h; omega), ← put_1 m h]
      exact (bt_hd2 m).2 1
    have x2 : 128 ≤ n → bt X 2 = n / 128 := fun h => by
      rw [hX 2 (by rw [hz]; have := hlen2 n h; omega), show (2 : Nat) = 1 + 1 from rfl, (bt_hd2 n).2 1, put_1 n h, if_pos (by omega)]
    have t0 : bt t 0 = 162 := by rw [hT 0 (by rw [hz]; omega)]; exact (bt_hd2 m).1
    have key : bt t 1 = bt X 1 → (bt t 2 = bt X 2 ∨ bt t 2 = 0) → m = n := fun e1 e2 => by
      rw [t1, x1] at e1
      by_cases hm1 : m < 128
      · rw [if_pos hm1] at e1
        split at e1 <;> omega
      · rw [if_neg hm1] at e1
        by_cases hn1 : n < 128
        · rw [if_pos hn1] at e1; omega
        · rw [if_neg hn1] at e1
          rw [t2 (by omega), x2 (by omega)] at e2
          rcases e2 with e2 | e2 <;> (split at e2 <;> omega)
    rcases h1 with h1 | h1
    · by_cases hc2 : 2 ≤ c
      · refine key (h1 1 (by omega)) ?_
        by_cases hc3 : 3 ≤ c
        · exact .inl (h1 2 (by omega))
        · rcases h2 with h2 | h2
          · exact .inl (h2 2 (by omega) (by omega))
          · exact .inr (h2 2 (by omega) (by omega))
      · rcases h2 with h2 | h2
        · exact key (h2 1 (by omega) (by omega)) (.inl (h2 2 (by omega) (by omega)))
        · exfalso
          have z1 := h2 1 (by omega) (by omega)
          rw [t1] at z1
          have hm0 : m = 0 := by split at z1 <;> omega
          subst hm0
          have hb : nBd t = ⟨#[]⟩ := ByteArray.ext (Array.eq_empty_of_size_eq_zero k3)
          rw [hb] at hp
          have hz0 : (hdF 2 0).size = 2 := by rw [hz, put_small 0 (by omega)]; rfl
          have hs : ∀ k, k < 4 → bt (sealB (hdF 2 0) ⟨#[]⟩) k = 0 := fun k hk => by
            have := h2 (2 + k) (by omega) (by omega)
            rw [hp, bt_app, hz0, if_neg (by omega), show 2 + k - 2 = k by omega, bt_app, seal_size, if_pos hk] at this
            exact this
          rcases seal_20 with h | h
          · exact h (hs 3 (by omega))
          · exact h (hs 2 (by omega))
    · have := h1 0 (by omega)
      rw [t0] at this
      omega
/-- From a place on a text is another one but for sectors that are bytes 0. -/
def Bl (p0 : Nat) (R S : ByteArray) : Prop := ∀ i, (∀ j, j / 64 = i → p0 ≤ j → bt S j = bt R (j - p0)) ∨ (∀ j, j / 64 = i → p0 ≤ j → bt S j = 0)
theorem bgn_add {v : Int} {p y : Nat} (h : v = 1 → p % 64 = 0) : bgn v (p + y) = p + bgn v y := by
  unfold bgn
  split
  · rename_i h1
    have := h h1
    omega
  · rfl
theorem nOk_b0 {t : ByteArray} (h : nOk t = true) : bt t 0 ≠ 0 := by
  obtain ⟨k1, k2, k3⟩ := nOk_sound h
  have hv : nV t = 1 ∨ nV t = 2 := by
    unfold pkO at k1
    rw [Bool.and_eq_true, Bool.or_eq_true] at k1
    exact k1.1.imp of_decide_eq_true of_decide_eq_true
  have hp : t = hdF (nV t) (nBd t).size ++ (sealB (hdF (nV t) (nBd t).size) (nBd t) ++ (nBd t ++ nW t)) := by
    have := k2
    unfold pack at this
    rw [ByteArray.append_assoc, ByteArray.append_assoc] at this
    exact this
  have hpos : 0 < (hdF (nV t) (nBd t).size).size := by
    unfold hdF
    rw [ByteArray.size_append]
    have a1 : (fxB (160 + nV t).toNat 1).size = 1 := fxB_size _ 1 (by omega)
    omega
  rw [hp, bt_app, if_pos hpos]
  rcases hv with h | h <;> rw [h]
  · rw [(bt_hd1 _).1]; decide
  · rw [(bt_hd2 _).1]; decide
theorem pl_lost {v : Int} {b : List En} {S : ByteArray} {p0 : Nat} (hv : v = 1 ∨ v = 2) (hg : ∀ e ∈ b, Good v e) (hn : v = 2 → ∀ e ∈ b, (D.ePv v e).size < 16384) (hp0 : v = 1 → p0 % 64 = 0)
    (hfit : p0 + (rcA v (pS v) b).size ≤ S.size) (hB : Bl p0 (rcA v (pS v) b) S) : ∀ (post pre : List En) (F : Nat), b = pre ++ post →
    (pl qX D.aO v S F (p0 + (rcA v (pS v) pre).size)).length ≤ post.length := by
  intro post
  induction post with
  | nil =>
    intro pre F he
    rw [List.append_nil] at he
    subst he
    cases F with
    | zero => exact Nat.le_refl _
    | succ F =>
      have hz : bt (tlB S (p0 + (rcA v (pS v) b).size)) 0 = 0 := by
        rw [bt_tl _ _ _ hfit, Nat.add_zero]
        rcases hB ((p0 + (rcA v (pS v) b).size) / 64) with h | h
        · rw [h _ rfl (by omega), show p0 + (rcA v (pS v) b).size - p0 = (rcA v (pS v) b).size by omega]
          unfold bt
          rw [List.getD_eq_getElem?_getD, List.getElem?_eq_none (by show _ ≤ _; rw [Array.length_toList]; exact Nat.le_refl _)]
          rfl
        · exact h _ rfl (by omega)
      have hf : frB D.aO v (tlB S (p0 + (rcA v (pS v) b).size)) = false := by
        cases hq : frB D.aO v (tlB S (p0 + (rcA v (pS v) b).size)) with
        | false => rfl
        | true => exact absurd hz (nOk_b0 (frB_ok hq))
      rw [pl, hf]
      exact Nat.le_refl _
  | cons e post ih =>
    intro pre F he
    cases F with
    | zero => exact Nat.zero_le _
    | succ F =>
      have G := hg e (by rw [he]; simp)
      obtain ⟨r, hr⟩ := rcA_pre v (pS v) pre e post
      rw [← he] at hr
      obtain ⟨P, hP⟩ : ∃ P, P = (rcA v (pS v) pre).size := ⟨_, rfl⟩
      rw [← hP]
      have hsz : (rcA v (pS v) b).size = P + ((pS v e).size + r.size) := by rw [hr, ByteArray.size_append, ByteArray.size_append, ← hP]
      obtain ⟨t, ht⟩ : ∃ t, t = tlB S (p0 + P) := ⟨_, rfl⟩
      rw [pl, ← ht]
      by_cases hf : frB D.aO v t = true
      · have hk := frB_ok hf
        have hvt : nV t = v := by
          have h1 := (nx_yes hk).1
          unfold frB at hf
          rw [hk, Bool.true_and, Bool.and_eq_true] at hf
          exact h1.symm.trans (of_decide_eq_true hf.1)
        have hb1048 : (D.ePv v e).size ≤ 1048576 := by
          have := G.pk
          unfold pkO at this
          rw [Bool.and_eq_true] at this
          exact of_decide_eq_true this.2
        have hpk : pS v e = hdF v (D.ePv v e).size ++ (sealB (hdF v (D.ePv v e).size) (D.ePv v e) ++ D.ePv v e) := by
          rw [G.s]; unfold pack; rw [ByteArray.append_assoc]
        have hm : nM t = (D.ePv v e).size := by
          refine head_eq (X := pS v e ++ r) (c := 64 - (p0 + P) % 64) hv hb1048 (fun h => hn h e (by rw [he]; simp)) (fun i hi => ?_) hk hvt (by omega) (fun h => ?_) ?_ ?_
          · rw [hpk, ByteArray.append_assoc, bt_app, if_pos hi]
          · have h1 := hp0 h
            have h2 : P % 64 = 0 := by rw [hP, h]; exact rcA1_mod pre
            omega
          · rcases hB ((p0 + P) / 64) with h | h
            · refine .inl fun i hi => ?_
              rw [ht, bt_tl _ _ _ (by omega), h (p0 + P + i) (by omega) (by omega), hr, bt_app, ← hP, if_neg (by omega)]
              congr 1
              omega
            · refine .inr fun i hi => ?_
              rw [ht, bt_tl _ _ _ (by omega), h (p0 + P + i) (by omega) (by omega)]
          · rcases hB ((p0 + P) / 64 + 1) with h | h
            · refine .inl fun i hi1 hi2 => ?_
              rw [ht, bt_tl _ _ _ (by omega), h (p0 + P + i) (by omega) (by omega), hr, bt_app, ← hP, if_neg (by omega)]
              congr 1
              omega
            · refine .inr fun i hi1 hi2 => ?_
              rw [ht, bt_tl _ _ _ (by omega), h (p0 + P + i) (by omega) (by omega)]
        have hnx : nxN t = ((pS v e).size : Nat) := by
          have h3 := (nOk_sound hk).2.2
          rw [(nx_yes hk).2.2, nxN_eq hk, G.s]
          unfold pack
          rw [hvt, h3, hm]
          simp only [ByteArray.size_append, seal_size, h3, hm]
        have hne : nxtP v S (p0 + P) = p0 + (rcA v (pS v) (pre ++ [e])).size := by
          unfold nxtP
          rw [← ht, hnx, Int.toNat_natCast, Nat.add_assoc, bgn_add hp0, rcA_snoc, padv_size, ByteArray.size_append, ← hP]
          refine Nat.min_eq_left ?_
          have h1 : (rcA v (pS v) (pre ++ [e])).size ≤ (rcA v (pS v) b).size := by
            rw [he]
            cases post with
            | nil => exact Nat.le_refl _
            | cons a t' =>
              obtain ⟨r', hr'⟩ := rcA_pre v (pS v) (pre ++ [e]) a t'
              rw [List.append_assoc] at hr'
              show _ ≤ (rcA v (pS v) (pre ++ ([e] ++ a :: t'))).size
              rw [hr', ByteArray.size_append]
              omega
          rw [rcA_snoc, padv_size, ByteArray.size_append, ← hP] at h1
          omega
        rw [if_pos hf, hne, List.length_cons, List.length_cons]
        have := ih (pre ++ [e]) F (by rw [he]; simp)
        omega
      · rw [if_neg hf]
        exact Nat.zero_le _
end Go.Proofs.YtnobeoppffoomaaGreat
