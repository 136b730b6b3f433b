/-
  The document's own PutSuper and PutHard.
  Conditions: named in each theorem.
-/
import Derived.Test.YtdoombcihobejaaR1
import Derived.Deep.RegionHeld3
import Derived.Deep.CutRange
namespace Go.Proofs.Ytdoombcihobejaa
open Go.RowKit Vi Sl
set_option linter.unusedVariables false
set_option linter.unusedSimpArgs false
/-- The six numbers, by their places. -/
def sF (s : Su) (i : Nat) : Nat := ([s.sn.toNat, s.lg.toNat, s.ar.toNat, s.hf.toNat, s.gl.toNat, s.sp.toNat] : List Nat).getD i 0
def px (s : Su) : Nat → ByteArray
  | 0 => fxB s.v.toNat 1
  | i + 1 => px s i ++ num s.v (sF s i) (if i < 2 then 2 else 1)
theorem px_six (s : Su) : px s 6 = supB s := rfl
theorem sF_lt {s : Su} (h : rgt s = true) (i : Nat) : sF s i < 65536 := by
  obtain ⟨h1, h2, h3, h4, h5, h6, h7, _⟩ := (rgt_iff _).1 h
  unfold sF
  match i with
  | 0 => simp; omega
  | 1 => simp; omega
  | 2 => simp; omega
  | 3 => simp; omega
  | 4 => simp; omega
  | 5 => simp; omega
  | k + 6 => simp
theorem px_size {s : Su} (h : rgt s = true) : ∀ i, (px s i).size ≤ 1 + 10 * i
  | 0 => by
    have := fxB_size s.v.toNat 1 (by omega)
    show (fxB s.v.toNat 1).size ≤ _
    have e : (fxB s.v.toNat 1).size = 1 := this
    omega
  | i + 1 => by
    have h1 := px_size h i
    have h2 := num_size s.v (sF s i) (if i < 2 then 2 else 1) (by split <;> omega) (by have := sF_lt h i; omega)
    unfold px
    rw [ByteArray.size_append]
    omega
/-- The Super, and the row of its numbers, in memory. -/
structure Qs (w : World) (s : Su) (g : Nat) (W : World) : Prop where
  be : Below w.heap.size w W
  bx : W.heap[w.heap.size]? = some (.cells s.c 32 (0, 0))
  rw : W.heap[g]? = some (.cells #[.int .i64 s.sn, .int .i64 s.lg, .int .i64 s.ar, .int .i64 s.hf, .int .i64 s.gl, .int .i64 s.sp] 3 (0, 0))
theorem Qs.below {w W W' : World} {s : Su} {g : Nat} (h : Qs w s g W) (hb : Below W.heap.size W W') : Qs w s g W' :=
  ⟨h.be.trans (hb.mono h.be.size), (hb.block _ (Array.getElem?_eq_some_iff.1 h.bx).1).trans h.bx, (hb.block _ (Array.getElem?_eq_some_iff.1 h.rw).1).trans h.rw⟩
theorem qs_row {w W : World} {s : Su} {g : Nat} (hr : rgt s = true) (h : Qs w s g W) (k : Nat) (hk : k < 6) : W.cell? ⟨g, k, none⟩ = some (.int .i64 ((sF s k : Nat) : Int)) := by
  obtain ⟨h1, h2, h3, h4, h5, h6, h7, _⟩ := (rgt_iff _).1 hr
  have c := fun i => cell_of_row W g i _ 3 (0, 0) h.rw
  have e : ∀ x : Int, 0 ≤ x → ((x.toNat : Nat) : Int) = x := fun x hx => by omega
  match k, hk with
  | 0, _ => rw [c 0]; show some (Value.int .i64 s.sn) = some (Value.int .i64 ((s.sn.toNat : Nat) : Int)); rw [e _ (by omega)]
  | 1, _ => rw [c 1]; show some (Value.int .i64 s.lg) = some (Value.int .i64 ((s.lg.toNat : Nat) : Int)); rw [e _ (by omega)]
  | 2, _ => rw [c 2]; show some (Value.int .i64 s.ar) = some (Value.int .i64 ((s.ar.toNat : Nat) : Int)); rw [e _ (by omega)]
  | 3, _ => rw [c 3]; show some (Value.int .i64 s.hf) = some (Value.int .i64 ((s.hf.toNat : Nat) : Int)); rw [e _ (by omega)]
  | 4, _ => rw [c 4]; show some (Value.int .i64 s.gl) = some (Value.int .i64 ((s.gl.toNat : Nat) : Int)); rw [e _ (by omega)]
  | 5, _ => rw [c 5]; show some (Value.int .i64 s.sp) = some (Value.int .i64 ((s.sp.toNat : Nat) : Int)); rw [e _ (by omega)]
set_option maxHeartbeats 2000000 in
set_option maxRecDepth 100000 in
theorem rputSuper_yes (s : Su) (w : World) (h : rgt s = true) : Calls Try.prog 11 #[s.val] w fun e w' => e = .returned (.tuple #[.string (supB s), .bool true]) ∧ Below w.heap.size w w' := by
  have hc : (w.alloc (.cells s.c 32)).heap[w.heap.size]? = some (.cells s.c 32 (0, 0)) := heap_alloc_new w _
  have hb : Below w.heap.size w (w.alloc (.cells s.c 32)) := (Below.refl _ _).alloc (Nat.le_refl _) _
  obtain ⟨W, hW⟩ : ∃ W, W = w.alloc (.cells s.c 32) := ⟨_, rfl⟩
  rw [← hW] at hb hc
  have HK := Lib.hid (fun (W : World) => rright_any s W)
  rw [h] at HK
  obtain ⟨h1, h2, h3, h4, h5, h6, h7, _⟩ := (rgt_iff _).1 h
  obtain ⟨v, hv, hv2⟩ : ∃ v : Nat, s.v = v ∧ v ≤ 2 := ⟨s.v.toNat, by omega, by omega⟩
  have HF := Lib.hid (fun (W : World) => rfixed_any v 1 W (by omega))
  have hu : IntKind.u64.wrap (v : Int) = v := by rw [IntKind.wrap_u64]; omega
  have HV := Lib.hid hv
  have HC := Lib.hid hc
  have HW := Lib.hid hW
  have HB := Lib.hid hb
  have HH := Lib.hid h
  clear hb hW hc h h1 h2 h3 h4 h5 h6 h7
  unfold Su.val Su.c at *
  rw [HV.out] at HW HK HC ⊢
  go_enter Try.func11, Try.ntmps11
  go_wp2_with fail
  rw [← HW.out]
  refine (HK.out _).mono ?_
  rintro e w1 ⟨rfl, b1⟩
  have HB1 := Lib.hid (HB.out.trans (b1.mono HB.out.size))
  have hc1 : w1.heap[w.heap.size]? = some (.cells s.c 32 (0, 0)) := by
    unfold Su.c; rw [HV.out]; exact (b1.block _ (Array.getElem?_eq_some_iff.1 HC.out).1).trans HC.out
  obtain ⟨c0, c1, c2, c3, c4, c5, c6⟩ := ru_cells hc1
  rw [HV.out] at c0
  have HC1 := Lib.hid hc1
  clear HC HW HB HK b1 hc1
  go_wp2_with fail
  refine (HF.out _).mono ?_
  rintro e w2 ⟨rfl, b2⟩
  have HB2 := Lib.hid (HB1.out.trans (b2.mono HB1.out.size))
  have HC2 : Hid (w2.heap[w.heap.size]? = some (.cells s.c 32 (0, 0))) := (b2.block _ (Array.getElem?_eq_some_iff.1 HC1.out).1).trans HC1.out
  clear c0 c1 c2 c3 c4 c5 c6 HC1 b2 HF hu
  obtain ⟨c0, c1, c2, c3, c4, c5, c6⟩ := ru_cells HC2.out
  rw [HV.out] at c0
  go_wp2_with fail
  obtain ⟨g, hg⟩ : ∃ g, g = w2.heap.size := ⟨_, rfl⟩
  obtain ⟨W3, hW3⟩ : ∃ W3, W3 = w2.alloc (.cells #[.int .i64 s.sn, .int .i64 s.lg, .int .i64 s.ar, .int .i64 s.hf, .int .i64 s.gl, .int .i64 s.sp] 3) := ⟨_, rfl⟩
  have Q3 : Hid (Qs w s g W3) := ⟨by rw [hW3]; exact HB2.out.alloc HB2.out.size _, by rw [hW3]; exact (Lib.alloc_old _ _ _ (Array.getElem?_eq_some_iff.1 HC2.out).1).trans HC2.out, by rw [hW3, hg]; exact heap_alloc_new w2 _⟩
  have HP0 : Hid (fxB v 1 = px s 0) := by show fxB (v : Nat) 1 = fxB s.v.toNat 1; rw [HV.out, Int.toNat_natCast]
  have HSF : Hid (∀ k, sF s k < 65536) := fun k => sF_lt HH.out k
  have HPX : Hid (∀ k, (px s k).size ≤ 1 + 10 * k) := fun k => px_size HH.out k
  have HNZ : Hid (∀ (k : Nat) (kk : Nat), kk ≤ 8 → (num v (sF s k) kk).size ≤ 10) := fun k kk h => num_size _ _ _ h (by have := HSF.out k; omega)
  have HST : Hid (∀ k : Nat, px s (k + 1) = px s k ++ num v (sF s k) (if k < 2 then 2 else 1)) := fun k => by show px s k ++ num s.v (sF s k) (if k < 2 then 2 else 1) = _; rw [HV.out]
  have HNN : Hid (∀ k : Nat, k < 6 → ∀ W, Qs w s g W → W.cell? ⟨g, k, none⟩ = some (.int .i64 ((sF s k : Nat) : Int))) := fun k hk W hQ => qs_row HH.out hQ k hk
  have HB0 : Hid (∀ W, Qs w s g W → W.cell? ⟨w.heap.size, 0, none⟩ = some (.int .i64 v)) := fun W hQ => by rw [(ru_cells hQ.bx).1, HV.out]
  clear c0 c1 c2 c3 c4 c5 c6 HB2 HC2 hv HB1
  rw [← hW3, ← hg, HP0.out]
  clear hW3 hg HP0
  go_loopw [5, 7, 8] (fun out i _ wr => ∃ k : Nat, k ≤ 6 ∧ out = .string (px s k) ∧ i = .int .i64 k ∧ Qs w s g wr) (fun _ i _ _ => 6 - (RowKit.intOf i).toNat)
  case atStart => exact ⟨0, by omega, rfl, rfl, Q3.out⟩
  case round =>
    obtain ⟨k, hk6, rfl, rfl, Q⟩ := hrel
    clear Q3
    by_cases hk : k < 6
    · have hki : (k : Int) < 6 := by omega
      have hsl := HSF.out k
      obtain ⟨n, hn⟩ : ∃ n, n = sF s k := ⟨_, rfl⟩
      have hnn := HNN.out k hk
      rw [← hn] at hnn hsl
      have hu : IntKind.u64.wrap (n : Int) = n := by rw [IntKind.wrap_u64]; omega
      obtain ⟨kk, hkk, hkk2⟩ : ∃ kk : Nat, kk = (if k < 2 then 2 else 1) ∧ kk ≤ 8 := ⟨_, rfl, by split <;> omega⟩
      have HSTk : Hid (px s (k + 1) = px s k ++ num v n kk) := by show _ = _; rw [HST.out, hn, hkk]
      obtain ⟨ki, hki0⟩ : ∃ ki : Int, ki = (kk : Nat) := ⟨_, rfl⟩
      have K : Hid (∀ W, Qs w s g W → Calls Try.prog 36 #[.int .i64 v, .int .u64 n, .int .i64 ki] W fun e w' => e = .returned (.string (num v n kk)) ∧ Qs w s g w') := fun W hQ => by
        rw [hki0]
        exact (number_ref v n kk W (by omega)).mono fun e w' ⟨h1, h2⟩ => ⟨h1, hQ.below h2⟩
      have hz1 := HPX.out k
      have hz2 := HNZ.out k kk hkk2
      rw [← hn] at hz2
      obtain ⟨p, hp⟩ : ∃ p, p = px s k := ⟨_, rfl⟩
      obtain ⟨nb, hnb⟩ : ∃ nb, nb = num v n kk := ⟨_, rfl⟩
      rw [← hp] at HSTk hz1 ⊢
      rw [← hnb] at HSTk hz2 K
      have hsum : ¬ (9223372036854775807 < p.size + nb.size) := by omega
      have hsum2 : (p.size : Int) + nb.size ≤ 9223372036854775807 := by omega
      have x0 := hnn wr Q
      have y0 := HB0.out wr Q
      have Qd : Qs w s g wr.drew := Q.below (Below.refl _ wr).drew
      have HNk : Hid (∀ W, Qs w s g W → W.cell? ⟨w.heap.size, 0, none⟩ = some (.int .i64 v) ∧ W.cell? ⟨g, k, none⟩ = some (.int .i64 (n : Nat))) := fun W hQ => ⟨HB0.out W hQ, hnn W hQ⟩
      have HKK : Hid (ki = if k < 2 then 2 else 1) := by show _ = _; rw [hki0, hkk]; split <;> rfl
      clear hn hki0 hkk hp hnb hz1 hz2 hnn hsl hkk2
      by_cases h2 : k < 2
      · have h2i : (k : Int) < 2 := by omega
        obtain rfl : ki = 2 := by have := HKK.out; rw [if_pos h2] at this; exact this
        go_upto_region 12 with fail
        go_region_held3 (fun w' => w'.cell? ⟨w.heap.size, 0, none⟩ = some (.int .i64 v) ∧ w'.cell? ⟨g, k, none⟩ = some (.int .i64 (n : Nat))) (first | exact ⟨y0, x0⟩ | exact (HNk.out _ (by assumption))) (first
          | (go_at_call 36; (with_reducible refine (K.out _ Qd).mono ?_); rintro e v5 ⟨rfl, Q5⟩))
        clear y0 x0 K Q Qd
        go_wp2_with fail
        go_roundw
        case rel => exact ⟨k + 1, by omega, by rw [HSTk.out], by go_num, Q5⟩
        case measure => simp [RowKit.intOf]; omega
      · have h2i : ¬ (k : Int) < 2 := by omega
        obtain rfl : ki = 1 := by have := HKK.out; rw [if_neg h2] at this; exact this
        go_upto_region 12 with fail
        go_region_held3 (fun w' => w'.cell? ⟨w.heap.size, 0, none⟩ = some (.int .i64 v) ∧ w'.cell? ⟨g, k, none⟩ = some (.int .i64 (n : Nat))) (first | exact ⟨y0, x0⟩ | exact (HNk.out _ (by assumption))) (first
          | (go_at_call 36; (with_reducible refine (K.out _ Qd).mono ?_); rintro e v5 ⟨rfl, Q5⟩))
        clear y0 x0 K Q Qd
        go_wp2_with fail
        go_roundw
        case rel => exact ⟨k + 1, by omega, by rw [HSTk.out], by go_num, Q5⟩
        case measure => simp [RowKit.intOf]; omega
    · obtain rfl : k = 6 := by omega
      have HE := Lib.hid Q.be
      have H6 : Hid (px s 6 = supB s) := px_six s
      clear Q
      go_wp2
      go_ret2
      exact ⟨by rw [← H6.out]; rfl, HE.out⟩
theorem rputSuper_no (s : Su) (w : World) (h : rgt s = false) : Calls Try.prog 11 #[s.val] w fun e w' => e = .returned (.tuple #[.string ⟨#[]⟩, .bool false]) ∧ Below w.heap.size w w' := by
  have hb : Below w.heap.size w (w.alloc (.cells s.c 32)) := (Below.refl _ _).alloc (Nat.le_refl _) _
  obtain ⟨W, hW⟩ : ∃ W, W = w.alloc (.cells s.c 32) := ⟨_, rfl⟩
  rw [← hW] at hb
  have HK := Lib.hid (fun (W : World) => rright_any s W)
  rw [h] at HK
  have HW := Lib.hid hW
  have HB := Lib.hid hb
  clear hb hW h
  unfold Su.val Su.c at *
  go_enter Try.func11, Try.ntmps11
  go_wp2_with fail
  rw [← HW.out]
  refine (HK.out _).mono ?_
  rintro e w1 ⟨rfl, b1⟩
  have HB1 := Lib.hid (HB.out.trans (b1.mono HB.out.size))
  go_wp2
  go_ret2
  exact ⟨rfl, HB1.out⟩
theorem rputSuper_any (s : Su) (w : World) : Calls Try.prog 11 #[s.val] w fun e w' => e = .returned (.tuple #[.string (supS s), .bool (rgt s)]) ∧ Below w.heap.size w w' := by
  unfold supS
  cases h : rgt s with
  | false => exact rputSuper_no s w h
  | true => rw [if_pos rfl]; exact rputSuper_yes s w h
/-- A Hard in a block of its own, the document's. -/
structure Ph2 (w : World) (h : Hd) (W : World) : Prop where
  be : Below w.heap.size w W
  bx : W.heap[w.heap.size]? = some (.cells h.c 36 (0, 0))
theorem Ph2.below {w W W' : World} {s : Hd} (h : Ph2 w s W) (hb : Below W.heap.size W W') : Ph2 w s W' :=
  ⟨h.be.trans (hb.mono h.be.size), (hb.block _ (Array.getElem?_eq_some_iff.1 h.bx).1).trans h.bx⟩
set_option maxHeartbeats 2000000 in
set_option maxRecDepth 100000 in
theorem rputHard_yes1 (tm vo cm : Nat) (w : World) (ht : tm < 18446744073709551616) (hc : cm < 18446744073709551616) (h7 : vo ≤ 7) :
    Calls Try.prog 14 #[.int .i64 1, Hd.val ⟨tm, vo, cm⟩] w fun e w' => e = .returned (.tuple #[.string (hB 1 ⟨tm, vo, cm⟩), .bool true]) ∧ Below w.heap.size w w' := by
  have Q0 : Hid (Ph2 w ⟨tm, vo, cm⟩ (w.alloc (.cells (Hd.c ⟨tm, vo, cm⟩) 36))) := ⟨(Below.refl _ _).alloc (Nat.le_refl _) _, heap_alloc_new w _⟩
  obtain ⟨W, hW⟩ : ∃ W, W = w.alloc (.cells (Hd.c ⟨tm, vo, cm⟩) 36) := ⟨_, rfl⟩
  rw [← hW] at Q0
  have Qd : Ph2 w ⟨tm, vo, cm⟩ W.drew := Q0.out.below (Below.refl _ W).drew
  obtain ⟨s0, hs0⟩ : ∃ s0, s0 = fxB 17 1 := ⟨_, rfl⟩
  obtain ⟨s1, hs1⟩ : ∃ s1, s1 = num 1 tm 8 := ⟨_, rfl⟩
  obtain ⟨s2, hs2⟩ : ∃ s2, s2 = num 1 vo 1 := ⟨_, rfl⟩
  obtain ⟨s3, hs3⟩ : ∃ s3, s3 = num 1 cm 8 := ⟨_, rfl⟩
  have HE : Hid (s0 ++ s1 ++ s2 ++ s3 = hB 1 ⟨tm, vo, cm⟩) := by
    show _ = _
    rw [hs0, hs1, hs2, hs3]; unfold hB
    rw [show ((16 : Int) + 1).toNat = 17 by decide]
    simp only [Int.toNat_natCast]
  have z0 : s0.size = 1 := by rw [hs0]; exact fxB_size 17 1 (by omega)
  have z1 : s1.size ≤ 10 := by rw [hs1]; exact num_size _ _ _ (by omega) ht
  have z2 : s2.size ≤ 10 := by rw [hs2]; exact num_size _ _ _ (by omega) (by omega)
  have z3 : s3.size ≤ 10 := by rw [hs3]; exact num_size _ _ _ (by omega) hc
  have K0 : Hid (∀ W, Ph2 w ⟨tm, vo, cm⟩ W → Calls Try.prog 35 #[.int .u64 17, .int .i64 1] W fun e w' => e = .returned (.string s0) ∧ Ph2 w ⟨tm, vo, cm⟩ w') := fun W hQ => (rfixed_any 17 1 W (by omega)).mono fun e w' ⟨h1, h2⟩ => ⟨by rw [h1, hs0], hQ.below h2⟩
  have K1 : Hid (∀ W, Ph2 w ⟨tm, vo, cm⟩ W → Calls Try.prog 36 #[.int .i64 1, .int .u64 tm, .int .i64 8] W fun e w' => e = .returned (.string s1) ∧ Ph2 w ⟨tm, vo, cm⟩ w') := fun W hQ => (number_ref 1 tm 8 W ht).mono fun e w' ⟨h1, h2⟩ => ⟨by rw [h1, hs1], hQ.below h2⟩
  have K2 : Hid (∀ W, Ph2 w ⟨tm, vo, cm⟩ W → Calls Try.prog 36 #[.int .i64 1, .int .u64 vo, .int .i64 1] W fun e w' => e = .returned (.string s2) ∧ Ph2 w ⟨tm, vo, cm⟩ w') := fun W hQ => (number_ref 1 vo 1 W (by omega)).mono fun e w' ⟨h1, h2⟩ => ⟨by rw [h1, hs2], hQ.below h2⟩
  have K3 : Hid (∀ W, Ph2 w ⟨tm, vo, cm⟩ W → Calls Try.prog 36 #[.int .i64 1, .int .u64 cm, .int .i64 8] W fun e w' => e = .returned (.string s3) ∧ Ph2 w ⟨tm, vo, cm⟩ w') := fun W hQ => (number_ref 1 cm 8 W hc).mono fun e w' ⟨h1, h2⟩ => ⟨by rw [h1, hs3], hQ.below h2⟩
  have hu : IntKind.u64.wrap (vo : Int) = vo := by rw [IntKind.wrap_u64]; omega
  have q1 : (s0.size : Int) + s1.size ≤ 9223372036854775807 := by omega
  have q2 : (s0.size : Int) + s1.size + s2.size ≤ 9223372036854775807 := by omega
  have q3 : (s0.size : Int) + s1.size + s2.size + s3.size ≤ 9223372036854775807 := by omega
  have p1 : ¬ 9223372036854775807 < s0.size + s1.size := by omega
  have p2 : ¬ 9223372036854775807 < s0.size + s1.size + s2.size := by omega
  have p3 : ¬ 9223372036854775807 < s0.size + s1.size + s2.size + s3.size := by omega
  obtain ⟨c0, c1, c2⟩ := rh_cells Q0.out.bx
  dsimp only at c0 c1 c2
  have HN : Hid (∀ W, Ph2 w ⟨tm, vo, cm⟩ W → W.cell? ⟨w.heap.size, 0, none⟩ = some (.int .u64 (tm : Nat)) ∧ W.cell? ⟨w.heap.size, 1, none⟩ = some (.int .i64 (vo : Nat)) ∧ W.cell? ⟨w.heap.size, 2, none⟩ = some (.int .u64 (cm : Nat))) := fun W hQ => rh_cells hQ.bx
  have h70 : (vo : Int) ≤ 7 := by omega
  have hd0 : decide ((vo : Int) < 0) = false := decide_eq_false (by omega)
  have hd7 : decide ((7 : Int) < vo) = false := decide_eq_false (by omega)
  have HW := Lib.hid hW
  clear hW hs0 hs1 hs2 hs3 z0 z1 z2 z3 ht hc h7
  unfold Hd.val Hd.c at *
  dsimp only at HW ⊢
  go_enter Try.func14, Try.ntmps14
  go_upto_region 3 with fail
  rw [← HW.out]
  go_region_held3 (fun w' => w'.cell? ⟨w.heap.size, 0, none⟩ = some (.int .u64 (tm : Nat)) ∧ w'.cell? ⟨w.heap.size, 1, none⟩ = some (.int .i64 (vo : Nat)) ∧ w'.cell? ⟨w.heap.size, 2, none⟩ = some (.int .u64 (cm : Nat))) (first | exact ⟨c0, c1, c2⟩ | exact (HN.out _ (by assumption))) (first
    | (go_at_call 35; (refine (K0.out _ Qd).mono ?_); rintro e v1 ⟨rfl, Q1⟩)
    | (go_at_call 36; (with_reducible refine (K1.out _ Q1).mono ?_); rintro e v2 ⟨rfl, Q2⟩)
    | (go_at_call 36; (with_reducible refine (K2.out _ Q2).mono ?_); rintro e v3 ⟨rfl, Q3⟩)
    | (go_at_call 36; (with_reducible refine (K3.out _ Q3).mono ?_); rintro e v4 ⟨rfl, Q4⟩))
  go_wp2_with fail
  go_ret2
  exact ⟨by rw [← HE.out]; rfl, Q4.be⟩
set_option maxHeartbeats 2000000 in
set_option maxRecDepth 100000 in
theorem rputHard_yes2 (tm vo cm : Nat) (w : World) (ht : tm < 18446744073709551616) (hc : cm < 18446744073709551616) (h7 : vo ≤ 7) :
    Calls Try.prog 14 #[.int .i64 2, Hd.val ⟨tm, vo, cm⟩] w fun e w' => e = .returned (.tuple #[.string (hB 2 ⟨tm, vo, cm⟩), .bool true]) ∧ Below w.heap.size w w' := by
  have Q0 : Hid (Ph2 w ⟨tm, vo, cm⟩ (w.alloc (.cells (Hd.c ⟨tm, vo, cm⟩) 36))) := ⟨(Below.refl _ _).alloc (Nat.le_refl _) _, heap_alloc_new w _⟩
  obtain ⟨W, hW⟩ : ∃ W, W = w.alloc (.cells (Hd.c ⟨tm, vo, cm⟩) 36) := ⟨_, rfl⟩
  rw [← hW] at Q0
  have Qd : Ph2 w ⟨tm, vo, cm⟩ W.drew := Q0.out.below (Below.refl _ W).drew
  obtain ⟨s0, hs0⟩ : ∃ s0, s0 = fxB 18 1 := ⟨_, rfl⟩
  obtain ⟨s1, hs1⟩ : ∃ s1, s1 = num 2 tm 8 := ⟨_, rfl⟩
  obtain ⟨s2, hs2⟩ : ∃ s2, s2 = num 2 vo 1 := ⟨_, rfl⟩
  obtain ⟨s3, hs3⟩ : ∃ s3, s3 = num 2 cm 8 := ⟨_, rfl⟩
  have HE : Hid (s0 ++ s1 ++ s2 ++ s3 = hB 2 ⟨tm, vo, cm⟩) := by
    show _ = _
    rw [hs0, hs1, hs2, hs3]; unfold hB
    rw [show ((16 : Int) + 2).toNat = 18 by decide]
    simp only [Int.toNat_natCast]
  have z0 : s0.size = 1 := by rw [hs0]; exact fxB_size 18 1 (by omega)
  have z1 : s1.size ≤ 10 := by rw [hs1]; exact num_size _ _ _ (by omega) ht
  have z2 : s2.size ≤ 10 := by rw [hs2]; exact num_size _ _ _ (by omega) (by omega)
  have z3 : s3.size ≤ 10 := by rw [hs3]; exact num_size _ _ _ (by omega) hc
  have K0 : Hid (∀ W, Ph2 w ⟨tm, vo, cm⟩ W → Calls Try.prog 35 #[.int .u64 18, .int .i64 1] W fun e w' => e = .returned (.string s0) ∧ Ph2 w ⟨tm, vo, cm⟩ w') := fun W hQ => (rfixed_any 18 1 W (by omega)).mono fun e w' ⟨h1, h2⟩ => ⟨by rw [h1, hs0], hQ.below h2⟩
  have K1 : Hid (∀ W, Ph2 w ⟨tm, vo, cm⟩ W → Calls Try.prog 36 #[.int .i64 2, .int .u64 tm, .int .i64 8] W fun e w' => e = .returned (.string s1) ∧ Ph2 w ⟨tm, vo, cm⟩ w') := fun W hQ => (number_ref 2 tm 8 W ht).mono fun e w' ⟨h1, h2⟩ => ⟨by rw [h1, hs1], hQ.below h2⟩
  have K2 : Hid (∀ W, Ph2 w ⟨tm, vo, cm⟩ W → Calls Try.prog 36 #[.int .i64 2, .int .u64 vo, .int .i64 1] W fun e w' => e = .returned (.string s2) ∧ Ph2 w ⟨tm, vo, cm⟩ w') := fun W hQ => (number_ref 2 vo 1 W (by omega)).mono fun e w' ⟨h1, h2⟩ => ⟨by rw [h1, hs2], hQ.below h2⟩
  have K3 : Hid (∀ W, Ph2 w ⟨tm, vo, cm⟩ W → Calls Try.prog 36 #[.int .i64 2, .int .u64 cm, .int .i64 8] W fun e w' => e = .returned (.string s3) ∧ Ph2 w ⟨tm, vo, cm⟩ w') := fun W hQ => (number_ref 2 cm 8 W hc).mono fun e w' ⟨h1, h2⟩ => ⟨by rw [h1, hs3], hQ.below h2⟩
  have hu : IntKind.u64.wrap (vo : Int) = vo := by rw [IntKind.wrap_u64]; omega
  have q1 : (s0.size : Int) + s1.size ≤ 9223372036854775807 := by omega
  have q2 : (s0.size : Int) + s1.size + s2.size ≤ 9223372036854775807 := by omega
  have q3 : (s0.size : Int) + s1.size + s2.size + s3.size ≤ 9223372036854775807 := by omega
  have p1 : ¬ 9223372036854775807 < s0.size + s1.size := by omega
  have p2 : ¬ 9223372036854775807 < s0.size + s1.size + s2.size := by omega
  have p3 : ¬ 9223372036854775807 < s0.size + s1.size + s2.size + s3.size := by omega
  obtain ⟨c0, c1, c2⟩ := rh_cells Q0.out.bx
  dsimp only at c0 c1 c2
  have HN : Hid (∀ W, Ph2 w ⟨tm, vo, cm⟩ W → W.cell? ⟨w.heap.size, 0, none⟩ = some (.int .u64 (tm : Nat)) ∧ W.cell? ⟨w.heap.size, 1, none⟩ = some (.int .i64 (vo : Nat)) ∧ W.cell? ⟨w.heap.size, 2, none⟩ = some (.int .u64 (cm : Nat))) := fun W hQ => rh_cells hQ.bx
  have h70 : (vo : Int) ≤ 7 := by omega
  have hd0 : decide ((vo : Int) < 0) = false := decide_eq_false (by omega)
  have hd7 : decide ((7 : Int) < vo) = false := decide_eq_false (by omega)
  have HW := Lib.hid hW
  clear hW hs0 hs1 hs2 hs3 z0 z1 z2 z3 ht hc h7
  unfold Hd.val Hd.c at *
  dsimp only at HW ⊢
  go_enter Try.func14, Try.ntmps14
  go_upto_region 3 with fail
  rw [← HW.out]
  go_region_held3 (fun w' => w'.cell? ⟨w.heap.size, 0, none⟩ = some (.int .u64 (tm : Nat)) ∧ w'.cell? ⟨w.heap.size, 1, none⟩ = some (.int .i64 (vo : Nat)) ∧ w'.cell? ⟨w.heap.size, 2, none⟩ = some (.int .u64 (cm : Nat))) (first | exact ⟨c0, c1, c2⟩ | exact (HN.out _ (by assumption))) (first
    | (go_at_call 35; (refine (K0.out _ Qd).mono ?_); rintro e v1 ⟨rfl, Q1⟩)
    | (go_at_call 36; (with_reducible refine (K1.out _ Q1).mono ?_); rintro e v2 ⟨rfl, Q2⟩)
    | (go_at_call 36; (with_reducible refine (K2.out _ Q2).mono ?_); rintro e v3 ⟨rfl, Q3⟩)
    | (go_at_call 36; (with_reducible refine (K3.out _ Q3).mono ?_); rintro e v4 ⟨rfl, Q4⟩))
  go_wp2_with fail
  go_ret2
  exact ⟨by rw [← HE.out]; rfl, Q4.be⟩
set_option maxHeartbeats 1000000 in
set_option maxRecDepth 100000 in
theorem rputHard_no (v : Int) (h : Hd) (w : World) (hh : hO v h = false) : Calls Try.prog 14 #[.int .i64 v, h.val] w fun e w' => e = .returned (.tuple #[.string ⟨#[]⟩, .bool false]) ∧ Below w.heap.size w w' := by
  have HI : Hid (¬ ((v = 1 ∨ v = 2) ∧ 0 ≤ h.vo ∧ h.vo ≤ 7)) := fun h1 => by rw [(hO_iff _ _).2 h1] at hh; cases hh
  clear hh
  unfold Hd.val Hd.c
  by_cases h1 : v = 1 ∨ v = 2
  · have hvo : h.vo < 0 ∨ 7 < h.vo := by have := HI.out; omega
    rcases h1 with rfl | rfl
    all_goals
      rcases hvo with hlt | hgt
      · have hd0 : decide (h.vo < 0) = true := decide_eq_true hlt
        go_enter Try.func14, Try.ntmps14
        go_wp2
        go_ret2
        exact ⟨rfl, (Below.refl _ _).alloc (Nat.le_refl _) _⟩
      · have hd0 : decide (h.vo < 0) = false := decide_eq_false (by omega)
        have hd7 : decide (7 < h.vo) = true := decide_eq_true hgt
        go_enter Try.func14, Try.ntmps14
        go_wp2
        go_ret2
        exact ⟨rfl, (Below.refl _ _).alloc (Nat.le_refl _) _⟩
  · have e1 : (v != 1) = true := by simp; omega
    have e2 : (v != 2) = true := by simp; omega
    clear h1
    go_enter Try.func14, Try.ntmps14
    go_wp2
    go_ret2
    exact ⟨rfl, (Below.refl _ _).alloc (Nat.le_refl _) _⟩
theorem rputHard_any (v : Int) (h : Hd) (w : World) (ho : h.Ok) : Calls Try.prog 14 #[.int .i64 v, h.val] w fun e w' => e = .returned (.tuple #[.string (hS v h), .bool (hO v h)]) ∧ Below w.heap.size w w' := by
  unfold hS
  cases hh : hO v h with
  | false => rw [if_neg (by decide)]; exact rputHard_no v h w hh
  | true =>
    rw [if_pos rfl]
    obtain ⟨tm, vo, cm⟩ := h
    obtain ⟨h1, h2, h3⟩ := (hO_iff _ _).1 hh
    dsimp only at h2 h3
    obtain ⟨x, rfl⟩ := Int.eq_ofNat_of_zero_le h2
    rcases h1 with rfl | rfl
    · exact rputHard_yes1 tm x cm w ho.t ho.c (by omega)
    · exact rputHard_yes2 tm x cm w ho.t ho.c (by omega)
end Go.Proofs.Ytdoombcihobejaa
