/-
  The walk of the law DeviceBounds.
  Conditions: none but the numbers' and the string's bounds.
-/
import Derived.Test.YtfcfclgjalofnaaOf
namespace Go.Proofs.Ytfcfclgjalofnaa
open Go.RowKit Dk
set_option linter.unusedVariables false
theorem slice_of_row {w : World} {B e s n : Nat} {v : Value} {xs : List Value} (h : w.ownsRow B e s v n xs) : ∃ A c, v = .slice A n c := by
  rcases h.2 with ⟨rfl, h0⟩ | ⟨gb, c, cur, rfl, _⟩
  · exact ⟨none, 0, by rw [h0]⟩
  · exact ⟨_, _, rfl⟩
theorem image_length {d : St} (h : d.Ok) : d.image.length = d.n * 64 := by
  unfold St.image
  exact catS_length _ h.now _
theorem waits_fresh (n : Nat) (F : Nat → Sec) : (St.fresh n F).waits.length = 0 := by
  show ((List.range n).filter fun _ => false).length = 0
  simp
theorem waits_put (n : Nat) (F : Nat → Sec) (i : Nat) (s : Sec) (hi : i < n) : ((St.fresh n F).put i s).waits.length = 1 := by
  show ((List.range n).filter fun j => (if j = i then some s else none).isSome).length = 1
  have e : (fun j => (if j = i then some s else none).isSome) = fun j => j == i := by
    funext j
    by_cases h : j = i
    · simp [h]
    · simp [h]
  rw [e, ← List.countP_eq_length_filter]
  have h1 : ∀ m, List.countP (fun j => j == i) (List.range m) = if i < m then 1 else 0 := by
    intro m
    induction m with
    | zero => simp
    | succ m ih =>
      rw [List.range_succ, List.countP_append, ih, List.countP_singleton]
      by_cases h3 : m = i
      · subst h3; simp
      · have h4 : (m == i) = false := by simpa using h3
        rw [h4]
        by_cases h2 : i < m
        · rw [if_pos h2, if_pos (show i < m + 1 by omega)]; rfl
        · rw [if_neg h2, if_neg (show ¬ i < m + 1 by omega)]; rfl
  rw [h1, if_pos hi]
/-- What the law's write and read answer. -/
theorem bounds_cases (k : Nat) (at_ : Int) (l : List UInt8) : ∃ (F G : Int) (wl : Nat) (d : St), (St.fresh k fun _ => zsec).write at_ l = (d, F) ∧ d.refuses at_ = G ∧ d.waits.length = wl ∧ d.n = k ∧
    ((F = 5 ∧ G = 5 ∧ wl = 0 ∧ (at_ < 0 ∨ (k : Int) ≤ at_)) ∨ (F = 3 ∧ G = 0 ∧ wl = 0 ∧ (0 ≤ at_ ∧ at_ < k ∧ (64 : Int) < l.length)) ∨ (F = 0 ∧ G = 0 ∧ wl = 1 ∧ (0 ≤ at_ ∧ at_ < k ∧ (l.length : Int) ≤ 64))) := by
  by_cases h : at_ < 0 ∨ (k : Int) ≤ at_
  · exact ⟨5, 5, 0, St.fresh k fun _ => zsec, write_no_eq rfl h, refuses_no_eq rfl h, waits_fresh _ _, rfl, .inl ⟨rfl, rfl, rfl, h⟩⟩
  · obtain ⟨i, rfl⟩ := Int.eq_ofNat_of_zero_le (show 0 ≤ at_ by omega)
    have hi : i < k := by omega
    by_cases hl : l.length ≤ 64
    · exact ⟨0, 0, 1, _, write_ok_eq (d := St.fresh k fun _ => zsec) (by show (-1 : Int) < 0; decide) rfl hi hl, refuses_yes_eq (d := (St.fresh k fun _ => zsec).put i (pad l)) rfl (by omega) (by show (i : Int) < k; omega), waits_put k _ i _ hi, rfl, .inr (.inr ⟨rfl, rfl, rfl, by omega, by omega, by omega⟩)⟩
    · refine ⟨3, 0, 0, St.fresh k fun _ => zsec, ?_, refuses_yes_eq rfl (by omega) (by show (i : Int) < k; omega), waits_fresh _ _, rfl, .inr (.inl ⟨rfl, rfl, rfl, by omega, by omega, by omega⟩)⟩
      unfold St.write
      rw [if_neg (by rw [refuses_yes_eq (d := St.fresh k fun _ => zsec) rfl (by omega) (by show (i : Int) < k; omega)]; simp), if_pos (by omega)]
set_option maxHeartbeats 4000000 in
set_option maxRecDepth 100000 in
theorem bounds_any (n : Nat) (at0 : Int) (s : ByteArray) (w : World) (hn : n < 256) (hat : -9223372036854775808 ≤ at0 ∧ at0 ≤ 9223372036854775807) (hs : s.size ≤ 140737488351232) :
    Calls Try.prog 9 #[.int .u8 n, .int .i64 at0, .string s] w fun e w' => e = .returned (.bool true) ∧ Below w.heap.size w w' := by
  obtain ⟨q, hq⟩ : ∃ q, q = n % 40 := ⟨_, rfl⟩
  have hqi : (n : Int) % 40 = (q : Int) := by rw [hq]; push_cast; rfl
  obtain ⟨k, hk⟩ : ∃ k, k = 1 + q := ⟨_, rfl⟩
  have hki : 1 + (q : Int) = (k : Int) := by rw [hk]; push_cast; rfl
  have hk1 : 1 ≤ k := by omega
  have hk2 : k ≤ 40 := by omega
  obtain ⟨l, rfl⟩ : ∃ l, s = txt l := ⟨_, (txt_of s).symm⟩
  obtain ⟨m, hm⟩ : ∃ m, m = l.length := ⟨_, rfl⟩
  have hsz : (txt l).size = m := by rw [hm]; exact txt_size l
  obtain ⟨K, hK⟩ : ∃ K, K = 64 * k := ⟨_, rfl⟩
  have hKi : 64 * (k : Int) = (K : Int) := by rw [hK]; push_cast; rfl
  have hat1 := hat.1
  have hat2 := hat.2
  obtain ⟨A, hA⟩ : ∃ A : Int, A = if at0 < 0 then at0 else at0 % 50 := ⟨_, rfl⟩
  obtain ⟨F, G, wl, d, e1, e2, e3, e4, hc⟩ := bounds_cases k A l
  rw [← hm] at hc
  have hcomb : (at0 < 0 ∧ A = at0 ∧ F = 5 ∧ G = 5 ∧ wl = 0) ∨ (∃ a : Nat, A = a ∧ at0 % 50 = a ∧ 0 ≤ at0 ∧ F = 5 ∧ G = 5 ∧ wl = 0 ∧ decide (a < k) = false) ∨
      (∃ a : Nat, A = a ∧ at0 % 50 = a ∧ 0 ≤ at0 ∧ F = 3 ∧ G = 0 ∧ wl = 0 ∧ decide (a < k) = true ∧ (64 : Int) < m) ∨ (∃ a : Nat, A = a ∧ at0 % 50 = a ∧ 0 ≤ at0 ∧ F = 0 ∧ G = 0 ∧ wl = 1 ∧ decide (a < k) = true ∧ (m : Int) ≤ 64) := by
    by_cases hneg : at0 < 0
    · rw [if_pos hneg] at hA
      rcases hc with ⟨a, b, c, _⟩ | ⟨_, _, _, h⟩ | ⟨_, _, _, h⟩
      · exact .inl ⟨hneg, hA, a, b, c⟩
      · omega
      · omega
    · rw [if_neg hneg] at hA
      obtain ⟨a, ha⟩ := Int.eq_ofNat_of_zero_le (show 0 ≤ A by omega)
      rcases hc with ⟨h1, h2, h3, h4⟩ | ⟨h1, h2, h3, h4⟩ | ⟨h1, h2, h3, h4⟩
      · exact .inr (.inl ⟨a, ha, by omega, by omega, h1, h2, h3, decide_eq_false (by omega)⟩)
      · exact .inr (.inr (.inl ⟨a, ha, by omega, by omega, h1, h2, h3, decide_eq_true (by omega), by omega⟩))
      · exact .inr (.inr (.inr ⟨a, ha, by omega, by omega, h1, h2, h3, decide_eq_true (by omega), by omega⟩))
  have HW := Lib.hid (fun g L w1 (h1 : Dv w1 g L (St.fresh k fun _ => zsec)) => write_any g L _ A l w1 h1)
  rw [e1] at HW
  have HR := Lib.hid (fun g L w1 (h1 : Dv w1 g L d) => read_any g L d A w1 h1)
  rw [e2] at HR
  obtain ⟨rt, hrt⟩ : ∃ rt, rt = txt (d.readS A) := ⟨_, rfl⟩
  rw [← hrt] at HR
  have HWT := Lib.hid (fun g L w1 (h1 : Dv w1 g L d) => waiting_any g L d w1 h1)
  rw [e3] at HWT
  have HSC := Lib.hid (fun g L w1 (h1 : Dv w1 g L d) => sectors_any g L d w1 h1)
  rw [e4] at HSC
  have HIM := Lib.hid (fun g L w1 (h1 : Dv w1 g L d) => image_any g L d w1 h1)
  obtain ⟨im, him⟩ : ∃ im, im = txt d.image := ⟨_, rfl⟩
  rw [← him] at HIM
  have HIS : Hid (d.Ok → im.size = K) := fun ho => by rw [him, txt_size, image_length ho, e4, hK]; omega
  have HK := Lib.hid hK
  have HM := Lib.hid hm
  clear hK hm hk hq hat hs hA hc e1 e2 e3 e4 hrt him
  rcases hcomb with ⟨hneg, rfl, rfl, rfl, rfl⟩ | ⟨a, rfl, hm50, hpos, rfl, rfl, rfl, hx⟩ | ⟨a, rfl, hm50, hpos, rfl, rfl, rfl, hx, hy⟩ | ⟨a, rfl, hm50, hpos, rfl, rfl, rfl, hx, hy⟩
  all_goals
    unfold ptr at *
    go_enter Try.func9, Try.ntmps9
    go_wp2_with fail
    refine (examples_any w).mono ?_
    rintro e w0 ⟨rfl, hb0⟩
    go_wp2_with fail
    refine (new_yes k w0 (by omega) (by omega)).mono ?_
    rintro e w1 ⟨g, L, rfl, hD1, hL1, hb1⟩
    have hb01 := hb0.trans (hb1.mono hb0.size)
    have hLB : ∀ k ∈ L, w.heap.size ≤ k := fun k hk => Nat.le_trans hb0.size (hL1 k hk)
    unfold ptr
    go_wp2_with fail
    refine (HW.out g L w1 hD1).mono ?_
    rintro e w2 ⟨rfl, hMv⟩
    obtain ⟨L2, hD2, hL2, hb2, hs2, _, _⟩ := hMv.below hb01 hb01.size hLB
    clear hMv hD1
    go_wp2_with fail
    refine (HR.out g L2 w2 hD2).mono ?_
    rintro e w3 ⟨rfl, hb3⟩
    have hD3 := hD2.below hb3
    have hbb3 := hb2.trans (hb3.mono hs2)
    go_wp2_with fail
    refine (HWT.out g L2 w3 hD3).mono ?_
    rintro e w4 ⟨v, rfl, hrow, hb4⟩
    have hD4 := hD3.below hb4
    have hbb4 := hbb3.trans (hb4.mono hbb3.size)
    have his := HIS.out hD4.1
    obtain ⟨A4, c4, rfl⟩ := slice_of_row hrow
    clear hrow
    go_wp2_with fail
    refine (HSC.out g L2 w4 hD4).mono ?_
    rintro e w5 ⟨rfl, rfl⟩
    go_wp2_with fail
    refine (HIM.out g L2 w4 hD4).mono ?_
    rintro e w6 ⟨rfl, hb6⟩
    go_wp2
    go_ret
    exact ⟨rfl, hbb4.trans (hb6.mono hbb4.size)⟩
end Go.Proofs.Ytfcfclgjalofnaa
