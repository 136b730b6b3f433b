/-
  The document of slots puts and takes.
  Conditions: named in each theorem.
-/
import Derived.Test.YtdoombcihobejaaGreatSlA
import Derived.Deep.RegionHeld3
import Derived.Deep.CutRange
namespace Go.Proofs.YtdoombcihobejaaGreat
open Go.RowKit Vi Sl
set_option linter.unusedVariables false
set_option linter.unusedSimpArgs false
theorem Tryz.ru7 : (Tryz.prog.info? 37).map (·.size) = some 7 := by kernel_rfl
theorem Tryz.rd3 : (Tryz.prog.info? 40).map (·.size) = some 3 := by kernel_rfl
theorem ru_cells {w : World} {g : Nat} {s : Su} (h : w.heap[g]? = some (.cells s.c 37 (0, 0))) :
    w.cell? ⟨g, 0, none⟩ = some (.int .i64 s.v) ∧ w.cell? ⟨g, 1, none⟩ = some (.int .i64 s.sn) ∧ w.cell? ⟨g, 2, none⟩ = some (.int .i64 s.lg) ∧ w.cell? ⟨g, 3, none⟩ = some (.int .i64 s.ar) ∧ w.cell? ⟨g, 4, none⟩ = some (.int .i64 s.hf) ∧ w.cell? ⟨g, 5, none⟩ = some (.int .i64 s.gl) ∧ w.cell? ⟨g, 6, none⟩ = some (.int .i64 s.sp) :=
  ⟨cell_of_row w g 0 _ 37 (0, 0) h, cell_of_row w g 1 _ 37 (0, 0) h, cell_of_row w g 2 _ 37 (0, 0) h, cell_of_row w g 3 _ 37 (0, 0) h, cell_of_row w g 4 _ 37 (0, 0) h, cell_of_row w g 5 _ 37 (0, 0) h, cell_of_row w g 6 _ 37 (0, 0) h⟩
theorem rh_cells {w : World} {g : Nat} {h : Hd} (hh : w.heap[g]? = some (.cells h.c 40 (0, 0))) :
    w.cell? ⟨g, 0, none⟩ = some (.int .u64 h.tm) ∧ w.cell? ⟨g, 1, none⟩ = some (.int .i64 h.vo) ∧ w.cell? ⟨g, 2, none⟩ = some (.int .u64 h.cm) :=
  ⟨cell_of_row w g 0 _ 40 (0, 0) hh, cell_of_row w g 1 _ 40 (0, 0) hh, cell_of_row w g 2 _ 40 (0, 0) hh⟩
set_option maxHeartbeats 800000 in
set_option maxRecDepth 100000 in
theorem ref_any (s : Su) (w : World) : Calls Tryz.prog 9 #[s.val] w fun e w' => e = .returned s.val ∧ Below w.heap.size w w' := by
  unfold Su.val Su.c
  go_enter Tryz.func9, Tryz.ntmps9
  go_wp2
  refine bodyPost_ret (v := .agg s.c) (results_cell_row Tryz.results9 _ _ (w.heap.size + 1) 37 _ (0, 0) _ rfl (heap_alloc2_new w _ _) Tryz.underlying37 rfl Tryz.ru7) rfl ⟨rfl, ((Below.refl _ _).alloc (Nat.le_refl _) _).alloc (by simp) _⟩
set_option maxHeartbeats 800000 in
set_option maxRecDepth 100000 in
theorem refHard_any (s : Hd) (w : World) : Calls Tryz.prog 11 #[s.val] w fun e w' => e = .returned s.val ∧ Below w.heap.size w w' := by
  unfold Hd.val Hd.c
  go_enter Tryz.func11, Tryz.ntmps11
  go_wp2
  refine bodyPost_ret (v := .agg s.c) (results_cell_row Tryz.results11 _ _ (w.heap.size + 1) 40 _ (0, 0) _ rfl (heap_alloc2_new w _ _) Tryz.underlying40 rfl Tryz.rd3) rfl ⟨rfl, ((Below.refl _ _).alloc (Nat.le_refl _) _).alloc (by simp) _⟩
theorem number_ref (v : Int) (n k : Nat) (w : World) (hn : n < 18446744073709551616) : Calls Tryz.prog 31 #[.int .i64 v, .int .u64 n, .int .i64 k] w fun e w' => e = .returned (.string (num v n k)) ∧ Below w.heap.size w w' := by
  have K1 := Lib.hid (rfixed_any n k w hn)
  have K2 := Lib.hid (rput_any n w hn)
  have HN : Hid (num v n k = if v = 1 then fxB n k else putB n) := rfl
  by_cases h1 : v = 1
  · subst h1
    go_enter Tryz.func31, Tryz.ntmps31
    go_wp2_with fail
    refine K1.out.mono ?_
    rintro e w1 ⟨rfl, b1⟩
    go_wp2
    go_ret
    exact ⟨rfl, b1⟩
  · have he : (v == 1) = false := by simpa using h1
    have hx : Hid (num v n k = putB n) := by show _ = _; rw [HN.out, if_neg h1]
    have H1 := Lib.hid h1
    clear h1 HN
    go_enter Tryz.func31, Tryz.ntmps31
    go_wp2_with fail
    refine K2.out.mono ?_
    rintro e w1 ⟨rfl, b1⟩
    go_wp2
    go_ret
    exact ⟨by rw [hx.out]; rfl, b1⟩
theorem take_ref (v : Int) (R : Nat) (u : ByteArray) (k : Nat) (W : World) (h : ∃ bad, Rd 156 R u bad W ∧ Sane u bad) (hu : u.size ≤ 281474976710656) :
    Calls Tryz.prog 77 #[.pointer (some ⟨R, 0, none⟩), .int .i64 v, .int .i64 k] W fun e w' => e = .returned (.int .u64 (takV v u k)) ∧ (∃ bad, Rd 156 R (takT v u k) bad w' ∧ Sane (takT v u k) bad) ∧ W.grownBy w' (some R) := by
  obtain ⟨bad, h, hs⟩ := h
  have K1 := Lib.hid (rfixedr_any R u bad k W h hs hu)
  have K2 := Lib.hid (rvar_any R u bad W h hu)
  have S1 := Lib.hid (sane_fix u bad k hs)
  have S2 := Lib.hid (sane_var u bad hs)
  clear h hs
  unfold rdp at *
  by_cases h1 : v = 1
  · subst h1
    go_enter Tryz.func77, Tryz.ntmps77
    go_wp2_with fail
    refine K1.out.mono ?_
    rintro e w1 ⟨rfl, h1, h2⟩
    go_wp2
    go_ret
    exact ⟨rfl, ⟨_, h1, S1.out⟩, h2⟩
  · have he : (v == 1) = false := by simpa using h1
    have hx : Hid (takV v u k = varV u) := by show _ = _; unfold takV; rw [if_neg h1]
    have hy : Hid (takT v u k = varT u) := by show _ = _; unfold takT; rw [if_neg h1]
    have H1 := Lib.hid h1
    clear h1
    go_enter Tryz.func77, Tryz.ntmps77
    go_wp2_with fail
    refine K2.out.mono ?_
    rintro e w1 ⟨rfl, h1, h2⟩
    go_wp2
    go_ret
    exact ⟨by rw [hx.out]; rfl, ⟨_, by rw [hy.out]; exact h1, by rw [hy.out]; exact S2.out⟩, h2⟩
set_option maxHeartbeats 2000000 in
set_option maxRecDepth 100000 in
theorem rright_any (s : Su) (w : World) : Calls Tryz.prog 29 #[s.val] w fun e w' => e = .returned (.bool (rgt s)) ∧ Below w.heap.size w w' := by
  have hI : Hid (∀ b : Bool, (b = true ↔ (1 ≤ s.v ∧ s.v ≤ 2) ∧ (1 ≤ s.sn ∧ s.sn ≤ 1000) ∧ (1 ≤ s.lg ∧ s.lg ≤ 1000) ∧ (0 ≤ s.ar ∧ s.ar ≤ 1) ∧ (0 ≤ s.hf ∧ s.hf ≤ 1) ∧ (0 ≤ s.gl ∧ s.gl ≤ 2) ∧ (0 ≤ s.sp ∧ s.sp ≤ 9) ∧ (s.gl ≠ 0 ∨ s.sp = 0)) → b = rgt s) := fun b h => by
    rw [Bool.eq_iff_iff, rgt_iff]; exact h
  have HB : Hid (Below w.heap.size w (w.alloc (.cells s.c 37))) := (Below.refl _ _).alloc (Nat.le_refl _) _
  unfold Su.val Su.c at *
  go_enter Tryz.func29, Tryz.ntmps29
  go_wp2
  all_goals
    go_ret
    refine ⟨congrArg (fun b => Ending.returned (Value.bool b)) (hI.out _ ?_), (Below.refl _ _).alloc (Nat.le_refl _) _⟩
    simp only [Bool.or_eq_true, Bool.and_eq_true, decide_eq_true_eq, beq_iff_eq, Bool.false_eq_true, true_iff, false_iff]
    omega
set_option maxHeartbeats 800000 in
set_option maxRecDepth 100000 in
theorem rsectors_any (s : Su) (w : World) : Calls Tryz.prog 43 #[s.val] w fun e w' => e = .returned (.int .i64 (sec s)) ∧ Below w.heap.size w w' := by
  have hc : (w.alloc (.cells s.c 37)).heap[w.heap.size]? = some (.cells s.c 37 (0, 0)) := heap_alloc_new w _
  have hb : Below w.heap.size w (w.alloc (.cells s.c 37)) := (Below.refl _ _).alloc (Nat.le_refl _) _
  obtain ⟨W, hW⟩ : ∃ W, W = w.alloc (.cells s.c 37) := ⟨_, rfl⟩
  rw [← hW] at hb hc
  have HK := Lib.hid (fun (W : World) => rright_any s W)
  have HI := Lib.hid (rgt_iff s)
  have HS : Hid (sec s = if rgt s then 4 + 2 * (s.sn + s.lg) else 0) := rfl
  obtain ⟨r, hr⟩ : ∃ r, r = rgt s := ⟨_, rfl⟩
  rw [← hr] at HK HS HI
  have HC := Lib.hid hc
  have HW := Lib.hid hW
  have HB := Lib.hid hb
  clear hr hb hW hc
  unfold Su.val Su.c at *
  go_enter Tryz.func43, Tryz.ntmps43
  go_wp2_with fail
  rw [← HW.out]
  refine (HK.out _).mono ?_
  rintro e w1 ⟨rfl, b1⟩
  have HB1 := Lib.hid (HB.out.trans (b1.mono HB.out.size))
  cases r with
  | false =>
    have hs : Hid (sec s = 0) := HS.out
    go_wp2
    go_ret
    exact ⟨by rw [hs.out]; rfl, HB1.out⟩
  | true =>
    have hs : Hid (sec s = 4 + 2 * (s.sn + s.lg)) := HS.out
    obtain ⟨_, h2, h3, _⟩ := HI.out.1 rfl
    have hc1 : w1.heap[w.heap.size]? = some (.cells s.c 37 (0, 0)) := (b1.block _ (Array.getElem?_eq_some_iff.1 HC.out).1).trans HC.out
    obtain ⟨c0, c1, c2, c3, c4, c5, c6⟩ := ru_cells hc1
    clear HC HW HB b1 hc1
    go_wp2
    go_ret
    exact ⟨by rw [hs.out]; rfl, HB1.out⟩
end Go.Proofs.YtdoombcihobejaaGreat
namespace Go.Proofs.YtdoombcihobejaaGreat
open Go.RowKit Vi Sl
set_option linter.unusedVariables false
set_option linter.unusedSimpArgs false
/-- The six numbers, by their places. -/
def sF (s : Su) (i : Nat) : Nat := ([s.sn.toNat, s.lg.toNat, s.ar.toNat, s.hf.toNat, s.gl.toNat, s.sp.toNat] : List Nat).getD i 0
def px (s : Su) : Nat → ByteArray
  | 0 => fxB s.v.toNat 1
  | i + 1 => px s i ++ num s.v (sF s i) (if i < 2 then 2 else 1)
theorem px_six (s : Su) : px s 6 = supB s := rfl
theorem sF_lt {s : Su} (h : rgt s = true) (i : Nat) : sF s i < 65536 := by
  obtain ⟨h1, h2, h3, h4, h5, h6, h7, _⟩ := (rgt_iff _).1 h
  unfold sF
  match i with
  | 0 => simp; omega
  | 1 => simp; omega
  | 2 => simp; omega
  | 3 => simp; omega
  | 4 => simp; omega
  | 5 => simp; omega
  | k + 6 => simp
theorem px_size {s : Su} (h : rgt s = true) : ∀ i, (px s i).size ≤ 1 + 10 * i
  | 0 => by
    have := fxB_size s.v.toNat 1 (by omega)
    show (fxB s.v.toNat 1).size ≤ _
    have e : (fxB s.v.toNat 1).size = 1 := this
    omega
  | i + 1 => by
    have h1 := px_size h i
    have h2 := num_size s.v (sF s i) (if i < 2 then 2 else 1) (by split <;> omega) (by have := sF_lt h i; omega)
    unfold px
    rw [ByteArray.size_append]
    omega
/-- The Super, and the row of its numbers, in memory. -/
structure Qs (w : World) (s : Su) (g : Nat) (W : World) : Prop where
  be : Below w.heap.size w W
  bx : W.heap[w.heap.size]? = some (.cells s.c 37 (0, 0))
  rw : W.heap[g]? = some (.cells #[.int .i64 s.sn, .int .i64 s.lg, .int .i64 s.ar, .int .i64 s.hf, .int .i64 s.gl, .int .i64 s.sp] 3 (0, 0))
theorem Qs.below {w W W' : World} {s : Su} {g : Nat} (h : Qs w s g W) (hb : Below W.heap.size W W') : Qs w s g W' :=
  ⟨h.be.trans (hb.mono h.be.size), (hb.block _ (Array.getElem?_eq_some_iff.1 h.bx).1).trans h.bx, (hb.block _ (Array.getElem?_eq_some_iff.1 h.rw).1).trans h.rw⟩
theorem qs_row {w W : World} {s : Su} {g : Nat} (hr : rgt s = true) (h : Qs w s g W) (k : Nat) (hk : k < 6) : W.cell? ⟨g, k, none⟩ = some (.int .i64 ((sF s k : Nat) : Int)) := by
  obtain ⟨h1, h2, h3, h4, h5, h6, h7, _⟩ := (rgt_iff _).1 hr
  have c := fun i => cell_of_row W g i _ 3 (0, 0) h.rw
  have e : ∀ x : Int, 0 ≤ x → ((x.toNat : Nat) : Int) = x := fun x hx => by omega
  match k, hk with
  | 0, _ => rw [c 0]; show some (Value.int .i64 s.sn) = some (Value.int .i64 ((s.sn.toNat : Nat) : Int)); rw [e _ (by omega)]
  | 1, _ => rw [c 1]; show some (Value.int .i64 s.lg) = some (Value.int .i64 ((s.lg.toNat : Nat) : Int)); rw [e _ (by omega)]
  | 2, _ => rw [c 2]; show some (Value.int .i64 s.ar) = some (Value.int .i64 ((s.ar.toNat : Nat) : Int)); rw [e _ (by omega)]
  | 3, _ => rw [c 3]; show some (Value.int .i64 s.hf) = some (Value.int .i64 ((s.hf.toNat : Nat) : Int)); rw [e _ (by omega)]
  | 4, _ => rw [c 4]; show some (Value.int .i64 s.gl) = some (Value.int .i64 ((s.gl.toNat : Nat) : Int)); rw [e _ (by omega)]
  | 5, _ => rw [c 5]; show some (Value.int .i64 s.sp) = some (Value.int .i64 ((s.sp.toNat : Nat) : Int)); rw [e _ (by omega)]
set_option maxHeartbeats 2000000 in
set_option maxRecDepth 100000 in
theorem rputSuper_yes (s : Su) (w : World) (h : rgt s = true) : Calls Tryz.prog 8 #[s.val] w fun e w' => e = .returned (.tuple #[.string (supB s), .bool true]) ∧ Below w.heap.size w w' := by
  have hc : (w.alloc (.cells s.c 37)).heap[w.heap.size]? = some (.cells s.c 37 (0, 0)) := heap_alloc_new w _
  have hb : Below w.heap.size w (w.alloc (.cells s.c 37)) := (Below.refl _ _).alloc (Nat.le_refl _) _
  obtain ⟨W, hW⟩ : ∃ W, W = w.alloc (.cells s.c 37) := ⟨_, rfl⟩
  rw [← hW] at hb hc
  have HK := Lib.hid (fun (W : World) => rright_any s W)
  rw [h] at HK
  obtain ⟨h1, h2, h3, h4, h5, h6, h7, _⟩ := (rgt_iff _).1 h
  obtain ⟨v, hv, hv2⟩ : ∃ v : Nat, s.v = v ∧ v ≤ 2 := ⟨s.v.toNat, by omega, by omega⟩
  have HF := Lib.hid (fun (W : World) => rfixed_any v 1 W (by omega))
  have hu : IntKind.u64.wrap (v : Int) = v := by rw [IntKind.wrap_u64]; omega
  have HV := Lib.hid hv
  have HC := Lib.hid hc
  have HW := Lib.hid hW
  have HB := Lib.hid hb
  have HH := Lib.hid h
  clear hb hW hc h h1 h2 h3 h4 h5 h6 h7
  unfold Su.val Su.c at *
  rw [HV.out] at HW HK HC ⊢
  go_enter Tryz.func8, Tryz.ntmps8
  go_wp2_with fail
  rw [← HW.out]
  refine (HK.out _).mono ?_
  rintro e w1 ⟨rfl, b1⟩
  have HB1 := Lib.hid (HB.out.trans (b1.mono HB.out.size))
  have hc1 : w1.heap[w.heap.size]? = some (.cells s.c 37 (0, 0)) := by
    unfold Su.c; rw [HV.out]; exact (b1.block _ (Array.getElem?_eq_some_iff.1 HC.out).1).trans HC.out
  obtain ⟨c0, c1, c2, c3, c4, c5, c6⟩ := ru_cells hc1
  rw [HV.out] at c0
  have HC1 := Lib.hid hc1
  clear HC HW HB HK b1 hc1
  go_wp2_with fail
  refine (HF.out _).mono ?_
  rintro e w2 ⟨rfl, b2⟩
  have HB2 := Lib.hid (HB1.out.trans (b2.mono HB1.out.size))
  have HC2 : Hid (w2.heap[w.heap.size]? = some (.cells s.c 37 (0, 0))) := (b2.block _ (Array.getElem?_eq_some_iff.1 HC1.out).1).trans HC1.out
  clear c0 c1 c2 c3 c4 c5 c6 HC1 b2 HF hu
  obtain ⟨c0, c1, c2, c3, c4, c5, c6⟩ := ru_cells HC2.out
  rw [HV.out] at c0
  go_wp2_with fail
  obtain ⟨g, hg⟩ : ∃ g, g = w2.heap.size := ⟨_, rfl⟩
  obtain ⟨W3, hW3⟩ : ∃ W3, W3 = w2.alloc (.cells #[.int .i64 s.sn, .int .i64 s.lg, .int .i64 s.ar, .int .i64 s.hf, .int .i64 s.gl, .int .i64 s.sp] 3) := ⟨_, rfl⟩
  have Q3 : Hid (Qs w s g W3) := ⟨by rw [hW3]; exact HB2.out.alloc HB2.out.size _, by rw [hW3]; exact (Lib.alloc_old _ _ _ (Array.getElem?_eq_some_iff.1 HC2.out).1).trans HC2.out, by rw [hW3, hg]; exact heap_alloc_new w2 _⟩
  have HP0 : Hid (fxB v 1 = px s 0) := by show fxB (v : Nat) 1 = fxB s.v.toNat 1; rw [HV.out, Int.toNat_natCast]
  have HSF : Hid (∀ k, sF s k < 65536) := fun k => sF_lt HH.out k
  have HPX : Hid (∀ k, (px s k).size ≤ 1 + 10 * k) := fun k => px_size HH.out k
  have HNZ : Hid (∀ (k : Nat) (kk : Nat), kk ≤ 8 → (num v (sF s k) kk).size ≤ 10) := fun k kk h => num_size _ _ _ h (by have := HSF.out k; omega)
  have HST : Hid (∀ k : Nat, px s (k + 1) = px s k ++ num v (sF s k) (if k < 2 then 2 else 1)) := fun k => by show px s k ++ num s.v (sF s k) (if k < 2 then 2 else 1) = _; rw [HV.out]
  have HNN : Hid (∀ k : Nat, k < 6 → ∀ W, Qs w s g W → W.cell? ⟨g, k, none⟩ = some (.int .i64 ((sF s k : Nat) : Int))) := fun k hk W hQ => qs_row HH.out hQ k hk
  have HB0 : Hid (∀ W, Qs w s g W → W.cell? ⟨w.heap.size, 0, none⟩ = some (.int .i64 v)) := fun W hQ => by rw [(ru_cells hQ.bx).1, HV.out]
  clear c0 c1 c2 c3 c4 c5 c6 HB2 HC2 hv HB1
  rw [← hW3, ← hg, HP0.out]
  clear hW3 hg HP0
  go_loopw [5, 7, 8] (fun out i _ wr => ∃ k : Nat, k ≤ 6 ∧ out = .string (px s k) ∧ i = .int .i64 k ∧ Qs w s g wr) (fun _ i _ _ => 6 - (RowKit.intOf i).toNat)
  case atStart => exact ⟨0, by omega, rfl, rfl, Q3.out⟩
  case round =>
    obtain ⟨k, hk6, rfl, rfl, Q⟩ := hrel
    clear Q3
    by_cases hk : k < 6
    · have hki : (k : Int) < 6 := by omega
      have hsl := HSF.out k
      obtain ⟨n, hn⟩ : ∃ n, n = sF s k := ⟨_, rfl⟩
      have hnn := HNN.out k hk
      rw [← hn] at hnn hsl
      have hu : IntKind.u64.wrap (n : Int) = n := by rw [IntKind.wrap_u64]; omega
      obtain ⟨kk, hkk, hkk2⟩ : ∃ kk : Nat, kk = (if k < 2 then 2 else 1) ∧ kk ≤ 8 := ⟨_, rfl, by split <;> omega⟩
      have HSTk : Hid (px s (k + 1) = px s k ++ num v n kk) := by show _ = _; rw [HST.out, hn, hkk]
      obtain ⟨ki, hki0⟩ : ∃ ki : Int, ki = (kk : Nat) := ⟨_, rfl⟩
      have K : Hid (∀ W, Qs w s g W → Calls Tryz.prog 31 #[.int .i64 v, .int .u64 n, .int .i64 ki] W fun e w' => e = .returned (.string (num v n kk)) ∧ Qs w s g w') := fun W hQ => by
        rw [hki0]
        exact (number_ref v n kk W (by omega)).mono fun e w' ⟨h1, h2⟩ => ⟨h1, hQ.below h2⟩
      have hz1 := HPX.out k
      have hz2 := HNZ.out k kk hkk2
      rw [← hn] at hz2
      obtain ⟨p, hp⟩ : ∃ p, p = px s k := ⟨_, rfl⟩
      obtain ⟨nb, hnb⟩ : ∃ nb, nb = num v n kk := ⟨_, rfl⟩
      rw [← hp] at HSTk hz1 ⊢
      rw [← hnb] at HSTk hz2 K
      have hsum : ¬ (9223372036854775807 < p.size + nb.size) := by omega
      have hsum2 : (p.size : Int) + nb.size ≤ 9223372036854775807 := by omega
      have x0 := hnn wr Q
      have y0 := HB0.out wr Q
      have Qd : Qs w s g wr.drew := Q.below (Below.refl _ wr).drew
      have HNk : Hid (∀ W, Qs w s g W → W.cell? ⟨w.heap.size, 0, none⟩ = some (.int .i64 v) ∧ W.cell? ⟨g, k, none⟩ = some (.int .i64 (n : Nat))) := fun W hQ => ⟨HB0.out W hQ, hnn W hQ⟩
      have HKK : Hid (ki = if k < 2 then 2 else 1) := by show _ = _; rw [hki0, hkk]; split <;> rfl
      clear hn hki0 hkk hp hnb hz1 hz2 hnn hsl hkk2
      by_cases h2 : k < 2
      · have h2i : (k : Int) < 2 := by omega
        obtain rfl : ki = 2 := by have := HKK.out; rw [if_pos h2] at this; exact this
        go_upto_region 12 with fail
        go_region_held3 (fun w' => w'.cell? ⟨w.heap.size, 0, none⟩ = some (.int .i64 v) ∧ w'.cell? ⟨g, k, none⟩ = some (.int .i64 (n : Nat))) (first | exact ⟨y0, x0⟩ | exact (HNk.out _ (by assumption))) (first
          | (go_at_call 31; (with_reducible refine (K.out _ Qd).mono ?_); rintro e v5 ⟨rfl, Q5⟩))
        clear y0 x0 K Q Qd
        go_wp2_with fail
        go_roundw
        case rel => exact ⟨k + 1, by omega, by rw [HSTk.out], by go_num, Q5⟩
        case measure => simp [RowKit.intOf]; omega
      · have h2i : ¬ (k : Int) < 2 := by omega
        obtain rfl : ki = 1 := by have := HKK.out; rw [if_neg h2] at this; exact this
        go_upto_region 12 with fail
        go_region_held3 (fun w' => w'.cell? ⟨w.heap.size, 0, none⟩ = some (.int .i64 v) ∧ w'.cell? ⟨g, k, none⟩ = some (.int .i64 (n : Nat))) (first | exact ⟨y0, x0⟩ | exact (HNk.out _ (by assumption))) (first
          | (go_at_call 31; (with_reducible refine (K.out _ Qd).mono ?_); rintro e v5 ⟨rfl, Q5⟩))
        clear y0 x0 K Q Qd
        go_wp2_with fail
        go_roundw
        case rel => exact ⟨k + 1, by omega, by rw [HSTk.out], by go_num, Q5⟩
        case measure => simp [RowKit.intOf]; omega
    · obtain rfl : k = 6 := by omega
      have HE := Lib.hid Q.be
      have H6 : Hid (px s 6 = supB s) := px_six s
      clear Q
      go_wp2
      go_ret2
      exact ⟨by rw [← H6.out]; rfl, HE.out⟩
theorem rputSuper_no (s : Su) (w : World) (h : rgt s = false) : Calls Tryz.prog 8 #[s.val] w fun e w' => e = .returned (.tuple #[.string ⟨#[]⟩, .bool false]) ∧ Below w.heap.size w w' := by
  have hb : Below w.heap.size w (w.alloc (.cells s.c 37)) := (Below.refl _ _).alloc (Nat.le_refl _) _
  obtain ⟨W, hW⟩ : ∃ W, W = w.alloc (.cells s.c 37) := ⟨_, rfl⟩
  rw [← hW] at hb
  have HK := Lib.hid (fun (W : World) => rright_any s W)
  rw [h] at HK
  have HW := Lib.hid hW
  have HB := Lib.hid hb
  clear hb hW h
  unfold Su.val Su.c at *
  go_enter Tryz.func8, Tryz.ntmps8
  go_wp2_with fail
  rw [← HW.out]
  refine (HK.out _).mono ?_
  rintro e w1 ⟨rfl, b1⟩
  have HB1 := Lib.hid (HB.out.trans (b1.mono HB.out.size))
  go_wp2
  go_ret2
  exact ⟨rfl, HB1.out⟩
theorem rputSuper_any (s : Su) (w : World) : Calls Tryz.prog 8 #[s.val] w fun e w' => e = .returned (.tuple #[.string (supS s), .bool (rgt s)]) ∧ Below w.heap.size w w' := by
  unfold supS
  cases h : rgt s with
  | false => exact rputSuper_no s w h
  | true => rw [if_pos rfl]; exact rputSuper_yes s w h
/-- A Hard in a block of its own, the document's. -/
structure Ph2 (w : World) (h : Hd) (W : World) : Prop where
  be : Below w.heap.size w W
  bx : W.heap[w.heap.size]? = some (.cells h.c 40 (0, 0))
theorem Ph2.below {w W W' : World} {s : Hd} (h : Ph2 w s W) (hb : Below W.heap.size W W') : Ph2 w s W' :=
  ⟨h.be.trans (hb.mono h.be.size), (hb.block _ (Array.getElem?_eq_some_iff.1 h.bx).1).trans h.bx⟩
set_option maxHeartbeats 2000000 in
set_option maxRecDepth 100000 in
theorem rputHard_yes1 (tm vo cm : Nat) (w : World) (ht : tm < 18446744073709551616) (hc : cm < 18446744073709551616) (h7 : vo ≤ 7) :
    Calls Tryz.prog 10 #[.int .i64 1, Hd.val ⟨tm, vo, cm⟩] w fun e w' => e = .returned (.tuple #[.string (hB 1 ⟨tm, vo, cm⟩), .bool true]) ∧ Below w.heap.size w w' := by
  have Q0 : Hid (Ph2 w ⟨tm, vo, cm⟩ (w.alloc (.cells (Hd.c ⟨tm, vo, cm⟩) 40))) := ⟨(Below.refl _ _).alloc (Nat.le_refl _) _, heap_alloc_new w _⟩
  obtain ⟨W, hW⟩ : ∃ W, W = w.alloc (.cells (Hd.c ⟨tm, vo, cm⟩) 40) := ⟨_, rfl⟩
  rw [← hW] at Q0
  have Qd : Ph2 w ⟨tm, vo, cm⟩ W.drew := Q0.out.below (Below.refl _ W).drew
  obtain ⟨s0, hs0⟩ : ∃ s0, s0 = fxB 17 1 := ⟨_, rfl⟩
  obtain ⟨s1, hs1⟩ : ∃ s1, s1 = num 1 tm 8 := ⟨_, rfl⟩
  obtain ⟨s2, hs2⟩ : ∃ s2, s2 = num 1 vo 1 := ⟨_, rfl⟩
  obtain ⟨s3, hs3⟩ : ∃ s3, s3 = num 1 cm 8 := ⟨_, rfl⟩
  have HE : Hid (s0 ++ s1 ++ s2 ++ s3 = hB 1 ⟨tm, vo, cm⟩) := by
    show _ = _
    rw [hs0, hs1, hs2, hs3]; unfold hB
    rw [show ((16 : Int) + 1).toNat = 17 by decide]
    simp only [Int.toNat_natCast]
  have z0 : s0.size = 1 := by rw [hs0]; exact fxB_size 17 1 (by omega)
  have z1 : s1.size ≤ 10 := by rw [hs1]; exact num_size _ _ _ (by omega) ht
  have z2 : s2.size ≤ 10 := by rw [hs2]; exact num_size _ _ _ (by omega) (by omega)
  have z3 : s3.size ≤ 10 := by rw [hs3]; exact num_size _ _ _ (by omega) hc
  have K0 : Hid (∀ W, Ph2 w ⟨tm, vo, cm⟩ W → Calls Tryz.prog 30 #[.int .u64 17, .int .i64 1] W fun e w' => e = .returned (.string s0) ∧ Ph2 w ⟨tm, vo, cm⟩ w') := fun W hQ => (rfixed_any 17 1 W (by omega)).mono fun e w' ⟨h1, h2⟩ => ⟨by rw [h1, hs0], hQ.below h2⟩
  have K1 : Hid (∀ W, Ph2 w ⟨tm, vo, cm⟩ W → Calls Tryz.prog 31 #[.int .i64 1, .int .u64 tm, .int .i64 8] W fun e w' => e = .returned (.string s1) ∧ Ph2 w ⟨tm, vo, cm⟩ w') := fun W hQ => (number_ref 1 tm 8 W ht).mono fun e w' ⟨h1, h2⟩ => ⟨by rw [h1, hs1], hQ.below h2⟩
  have K2 : Hid (∀ W, Ph2 w ⟨tm, vo, cm⟩ W → Calls Tryz.prog 31 #[.int .i64 1, .int .u64 vo, .int .i64 1] W fun e w' => e = .returned (.string s2) ∧ Ph2 w ⟨tm, vo, cm⟩ w') := fun W hQ => (number_ref 1 vo 1 W (by omega)).mono fun e w' ⟨h1, h2⟩ => ⟨by rw [h1, hs2], hQ.below h2⟩
  have K3 : Hid (∀ W, Ph2 w ⟨tm, vo, cm⟩ W → Calls Tryz.prog 31 #[.int .i64 1, .int .u64 cm, .int .i64 8] W fun e w' => e = .returned (.string s3) ∧ Ph2 w ⟨tm, vo, cm⟩ w') := fun W hQ => (number_ref 1 cm 8 W hc).mono fun e w' ⟨h1, h2⟩ => ⟨by rw [h1, hs3], hQ.below h2⟩
  have hu : IntKind.u64.wrap (vo : Int) = vo := by rw [IntKind.wrap_u64]; omega
  have q1 : (s0.size : Int) + s1.size ≤ 9223372036854775807 := by omega
  have q2 : (s0.size : Int) + s1.size + s2.size ≤ 9223372036854775807 := by omega
  have q3 : (s0.size : Int) + s1.size + s2.size + s3.size ≤ 9223372036854775807 := by omega
  have p1 : ¬ 9223372036854775807 < s0.size + s1.size := by omega
  have p2 : ¬ 9223372036854775807 < s0.size + s1.size + s2.size := by omega
  have p3 : ¬ 9223372036854775807 < s0.size + s1.size + s2.size + s3.size := by omega
  obtain ⟨c0, c1, c2⟩ := rh_cells Q0.out.bx
  dsimp only at c0 c1 c2
  have HN : Hid (∀ W, Ph2 w ⟨tm, vo, cm⟩ W → W.cell? ⟨w.heap.size, 0, none⟩ = some (.int .u64 (tm : Nat)) ∧ W.cell? ⟨w.heap.size, 1, none⟩ = some (.int .i64 (vo : Nat)) ∧ W.cell? ⟨w.heap.size, 2, none⟩ = some (.int .u64 (cm : Nat))) := fun W hQ => rh_cells hQ.bx
  have h70 : (vo : Int) ≤ 7 := by omega
  have hd0 : decide ((vo : Int) < 0) = false := decide_eq_false (by omega)
  have hd7 : decide ((7 : Int) < vo) = false := decide_eq_false (by omega)
  have HW := Lib.hid hW
  clear hW hs0 hs1 hs2 hs3 z0 z1 z2 z3 ht hc h7
  unfold Hd.val Hd.c at *
  dsimp only at HW ⊢
  go_enter Tryz.func10, Tryz.ntmps10
  go_upto_region 3 with fail
  rw [← HW.out]
  go_region_held3 (fun w' => w'.cell? ⟨w.heap.size, 0, none⟩ = some (.int .u64 (tm : Nat)) ∧ w'.cell? ⟨w.heap.size, 1, none⟩ = some (.int .i64 (vo : Nat)) ∧ w'.cell? ⟨w.heap.size, 2, none⟩ = some (.int .u64 (cm : Nat))) (first | exact ⟨c0, c1, c2⟩ | exact (HN.out _ (by assumption))) (first
    | (go_at_call 30; (refine (K0.out _ Qd).mono ?_); rintro e v1 ⟨rfl, Q1⟩)
    | (go_at_call 31; (with_reducible refine (K1.out _ Q1).mono ?_); rintro e v2 ⟨rfl, Q2⟩)
    | (go_at_call 31; (with_reducible refine (K2.out _ Q2).mono ?_); rintro e v3 ⟨rfl, Q3⟩)
    | (go_at_call 31; (with_reducible refine (K3.out _ Q3).mono ?_); rintro e v4 ⟨rfl, Q4⟩))
  go_wp2_with fail
  go_ret2
  exact ⟨by rw [← HE.out]; rfl, Q4.be⟩
set_option maxHeartbeats 2000000 in
set_option maxRecDepth 100000 in
theorem rputHard_yes2 (tm vo cm : Nat) (w : World) (ht : tm < 18446744073709551616) (hc : cm < 18446744073709551616) (h7 : vo ≤ 7) :
    Calls Tryz.prog 10 #[.int .i64 2, Hd.val ⟨tm, vo, cm⟩] w fun e w' => e = .returned (.tuple #[.string (hB 2 ⟨tm, vo, cm⟩), .bool true]) ∧ Below w.heap.size w w' := by
  have Q0 : Hid (Ph2 w ⟨tm, vo, cm⟩ (w.alloc (.cells (Hd.c ⟨tm, vo, cm⟩) 40))) := ⟨(Below.refl _ _).alloc (Nat.le_refl _) _, heap_alloc_new w _⟩
  obtain ⟨W, hW⟩ : ∃ W, W = w.alloc (.cells (Hd.c ⟨tm, vo, cm⟩) 40) := ⟨_, rfl⟩
  rw [← hW] at Q0
  have Qd : Ph2 w ⟨tm, vo, cm⟩ W.drew := Q0.out.below (Below.refl _ W).drew
  obtain ⟨s0, hs0⟩ : ∃ s0, s0 = fxB 18 1 := ⟨_, rfl⟩
  obtain ⟨s1, hs1⟩ : ∃ s1, s1 = num 2 tm 8 := ⟨_, rfl⟩
  obtain ⟨s2, hs2⟩ : ∃ s2, s2 = num 2 vo 1 := ⟨_, rfl⟩
  obtain ⟨s3, hs3⟩ : ∃ s3, s3 = num 2 cm 8 := ⟨_, rfl⟩
  have HE : Hid (s0 ++ s1 ++ s2 ++ s3 = hB 2 ⟨tm, vo, cm⟩) := by
    show _ = _
    rw [hs0, hs1, hs2, hs3]; unfold hB
    rw [show ((16 : Int) + 2).toNat = 18 by decide]
    simp only [Int.toNat_natCast]
  have z0 : s0.size = 1 := by rw [hs0]; exact fxB_size 18 1 (by omega)
  have z1 : s1.size ≤ 10 := by rw [hs1]; exact num_size _ _ _ (by omega) ht
  have z2 : s2.size ≤ 10 := by rw [hs2]; exact num_size _ _ _ (by omega) (by omega)
  have z3 : s3.size ≤ 10 := by rw [hs3]; exact num_size _ _ _ (by omega) hc
  have K0 : Hid (∀ W, Ph2 w ⟨tm, vo, cm⟩ W → Calls Tryz.prog 30 #[.int .u64 18, .int .i64 1] W fun e w' => e = .returned (.string s0) ∧ Ph2 w ⟨tm, vo, cm⟩ w') := fun W hQ => (rfixed_any 18 1 W (by omega)).mono fun e w' ⟨h1, h2⟩ => ⟨by rw [h1, hs0], hQ.below h2⟩
  have K1 : Hid (∀ W, Ph2 w ⟨tm, vo, cm⟩ W → Calls Tryz.prog 31 #[.int .i64 2, .int .u64 tm, .int .i64 8] W fun e w' => e = .returned (.string s1) ∧ Ph2 w ⟨tm, vo, cm⟩ w') := fun W hQ => (number_ref 2 tm 8 W ht).mono fun e w' ⟨h1, h2⟩ => ⟨by rw [h1, hs1], hQ.below h2⟩
  have K2 : Hid (∀ W, Ph2 w ⟨tm, vo, cm⟩ W → Calls Tryz.prog 31 #[.int .i64 2, .int .u64 vo, .int .i64 1] W fun e w' => e = .returned (.string s2) ∧ Ph2 w ⟨tm, vo, cm⟩ w') := fun W hQ => (number_ref 2 vo 1 W (by omega)).mono fun e w' ⟨h1, h2⟩ => ⟨by rw [h1, hs2], hQ.below h2⟩
  have K3 : Hid (∀ W, Ph2 w ⟨tm, vo, cm⟩ W → Calls Tryz.prog 31 #[.int .i64 2, .int .u64 cm, .int .i64 8] W fun e w' => e = .returned (.string s3) ∧ Ph2 w ⟨tm, vo, cm⟩ w') := fun W hQ => (number_ref 2 cm 8 W hc).mono fun e w' ⟨h1, h2⟩ => ⟨by rw [h1, hs3], hQ.below h2⟩
  have hu : IntKind.u64.wrap (vo : Int) = vo := by rw [IntKind.wrap_u64]; omega
  have q1 : (s0.size : Int) + s1.size ≤ 9223372036854775807 := by omega
  have q2 : (s0.size : Int) + s1.size + s2.size ≤ 9223372036854775807 := by omega
  have q3 : (s0.size : Int) + s1.size + s2.size + s3.size ≤ 9223372036854775807 := by omega
  have p1 : ¬ 9223372036854775807 < s0.size + s1.size := by omega
  have p2 : ¬ 9223372036854775807 < s0.size + s1.size + s2.size := by omega
  have p3 : ¬ 9223372036854775807 < s0.size + s1.size + s2.size + s3.size := by omega
  obtain ⟨c0, c1, c2⟩ := rh_cells Q0.out.bx
  dsimp only at c0 c1 c2
  have HN : Hid (∀ W, Ph2 w ⟨tm, vo, cm⟩ W → W.cell? ⟨w.heap.size, 0, none⟩ = some (.int .u64 (tm : Nat)) ∧ W.cell? ⟨w.heap.size, 1, none⟩ = some (.int .i64 (vo : Nat)) ∧ W.cell? ⟨w.heap.size, 2, none⟩ = some (.int .u64 (cm : Nat))) := fun W hQ => rh_cells hQ.bx
  have h70 : (vo : Int) ≤ 7 := by omega
  have hd0 : decide ((vo : Int) < 0) = false := decide_eq_false (by omega)
  have hd7 : decide ((7 : Int) < vo) = false := decide_eq_false (by omega)
  have HW := Lib.hid hW
  clear hW hs0 hs1 hs2 hs3 z0 z1 z2 z3 ht hc h7
  unfold Hd.val Hd.c at *
  dsimp only at HW ⊢
  go_enter Tryz.func10, Tryz.ntmps10
  go_upto_region 3 with fail
  rw [← HW.out]
  go_region_held3 (fun w' => w'.cell? ⟨w.heap.size, 0, none⟩ = some (.int .u64 (tm : Nat)) ∧ w'.cell? ⟨w.heap.size, 1, none⟩ = some (.int .i64 (vo : Nat)) ∧ w'.cell? ⟨w.heap.size, 2, none⟩ = some (.int .u64 (cm : Nat))) (first | exact ⟨c0, c1, c2⟩ | exact (HN.out _ (by assumption))) (first
    | (go_at_call 30; (refine (K0.out _ Qd).mono ?_); rintro e v1 ⟨rfl, Q1⟩)
    | (go_at_call 31; (with_reducible refine (K1.out _ Q1).mono ?_); rintro e v2 ⟨rfl, Q2⟩)
    | (go_at_call 31; (with_reducible refine (K2.out _ Q2).mono ?_); rintro e v3 ⟨rfl, Q3⟩)
    | (go_at_call 31; (with_reducible refine (K3.out _ Q3).mono ?_); rintro e v4 ⟨rfl, Q4⟩))
  go_wp2_with fail
  go_ret2
  exact ⟨by rw [← HE.out]; rfl, Q4.be⟩
set_option maxHeartbeats 1000000 in
set_option maxRecDepth 100000 in
theorem rputHard_no (v : Int) (h : Hd) (w : World) (hh : hO v h = false) : Calls Tryz.prog 10 #[.int .i64 v, h.val] w fun e w' => e = .returned (.tuple #[.string ⟨#[]⟩, .bool false]) ∧ Below w.heap.size w w' := by
  have HI : Hid (¬ ((v = 1 ∨ v = 2) ∧ 0 ≤ h.vo ∧ h.vo ≤ 7)) := fun h1 => by rw [(hO_iff _ _).2 h1] at hh; cases hh
  clear hh
  unfold Hd.val Hd.c
  by_cases h1 : v = 1 ∨ v = 2
  · have hvo : h.vo < 0 ∨ 7 < h.vo := by have := HI.out; omega
    rcases h1 with rfl | rfl
    all_goals
      rcases hvo with hlt | hgt
      · have hd0 : decide (h.vo < 0) = true := decide_eq_true hlt
        go_enter Tryz.func10, Tryz.ntmps10
        go_wp2
        go_ret2
        exact ⟨rfl, (Below.refl _ _).alloc (Nat.le_refl _) _⟩
      · have hd0 : decide (h.vo < 0) = false := decide_eq_false (by omega)
        have hd7 : decide (7 < h.vo) = true := decide_eq_true hgt
        go_enter Tryz.func10, Tryz.ntmps10
        go_wp2
        go_ret2
        exact ⟨rfl, (Below.refl _ _).alloc (Nat.le_refl _) _⟩
  · have e1 : (v != 1) = true := by simp; omega
    have e2 : (v != 2) = true := by simp; omega
    clear h1
    go_enter Tryz.func10, Tryz.ntmps10
    go_wp2
    go_ret2
    exact ⟨rfl, (Below.refl _ _).alloc (Nat.le_refl _) _⟩
theorem rputHard_any (v : Int) (h : Hd) (w : World) (ho : h.Ok) : Calls Tryz.prog 10 #[.int .i64 v, h.val] w fun e w' => e = .returned (.tuple #[.string (hS v h), .bool (hO v h)]) ∧ Below w.heap.size w w' := by
  unfold hS
  cases hh : hO v h with
  | false => rw [if_neg (by decide)]; exact rputHard_no v h w hh
  | true =>
    rw [if_pos rfl]
    obtain ⟨tm, vo, cm⟩ := h
    obtain ⟨h1, h2, h3⟩ := (hO_iff _ _).1 hh
    dsimp only at h2 h3
    obtain ⟨x, rfl⟩ := Int.eq_ofNat_of_zero_le h2
    rcases h1 with rfl | rfl
    · exact rputHard_yes1 tm x cm w ho.t ho.c (by omega)
    · exact rputHard_yes2 tm x cm w ho.t ho.c (by omega)
end Go.Proofs.YtdoombcihobejaaGreat
namespace Go.Proofs.YtdoombcihobejaaGreat
open Go.RowKit Vi Sl
set_option linter.unusedVariables false
set_option linter.unusedSimpArgs false
theorem wpList_store_ru {ops : Array Oper} {rest : List Oper} {op : Oper} {a : Act} {Q : Exit → Act → World → Prop} (hgd : op.guard = none) (x y : Operand) (ho : op.op = .store 37 x y)
    (w : World) (z : Nat) (s t : Su) (hx : a.eval x = .pointer (some ⟨z, 0, none⟩)) (hy : a.eval y = .agg s.c) (hz : w.heap[z]? = some (.cells t.c 37 (0, 0)))
    (h : wpList Tryz.prog ops Q rest (a.put op.dst undef) (w.setRow z s.c)) : wpList Tryz.prog ops Q (op :: rest) a w :=
  wpList_store_row hgd 37 x y ho z _ hx hy 37 _ hz Tryz.ru7 rfl (by simp [Su.c, Value.oneCell']) h
theorem wpList_load_ru {ops : Array Oper} {rest : List Oper} {op : Oper} {a : Act} {Q : Exit → Act → World → Prop} (hgd : op.guard = none) (x : Operand) (ho : op.op = .load 37 x)
    (w : World) (z : Nat) (s : Su) (hx : a.eval x = .pointer (some ⟨z, 0, none⟩)) (hz : w.heap[z]? = some (.cells s.c 37 (0, 0)))
    (h : wpList Tryz.prog ops Q rest (a.put op.dst (.agg s.c)) w) : wpList Tryz.prog ops Q (op :: rest) a w :=
  wpList_load_row hgd 37 x ho z hx 37 _ (0, 0) _ hz Tryz.underlying37 rfl Tryz.ru7 h
theorem wpList_store_rh {ops : Array Oper} {rest : List Oper} {op : Oper} {a : Act} {Q : Exit → Act → World → Prop} (hgd : op.guard = none) (x y : Operand) (ho : op.op = .store 40 x y)
    (w : World) (z : Nat) (s t : Hd) (hx : a.eval x = .pointer (some ⟨z, 0, none⟩)) (hy : a.eval y = .agg s.c) (hz : w.heap[z]? = some (.cells t.c 40 (0, 0)))
    (h : wpList Tryz.prog ops Q rest (a.put op.dst undef) (w.setRow z s.c)) : wpList Tryz.prog ops Q (op :: rest) a w :=
  wpList_store_row hgd 40 x y ho z _ hx hy 40 _ hz Tryz.rd3 rfl (by simp [Hd.c, Value.oneCell']) h
theorem wpList_load_rh {ops : Array Oper} {rest : List Oper} {op : Oper} {a : Act} {Q : Exit → Act → World → Prop} (hgd : op.guard = none) (x : Operand) (ho : op.op = .load 40 x)
    (w : World) (z : Nat) (s : Hd) (hx : a.eval x = .pointer (some ⟨z, 0, none⟩)) (hz : w.heap[z]? = some (.cells s.c 40 (0, 0)))
    (h : wpList Tryz.prog ops Q rest (a.put op.dst (.agg s.c)) w) : wpList Tryz.prog ops Q (op :: rest) a w :=
  wpList_load_row hgd 40 x ho z hx 40 _ (0, 0) _ hz Tryz.underlying40 rfl Tryz.rd3 h
theorem res18 (tmps : Array Value) (w : World) (p : Nat) (s : Su) (hp : tmps.getD 2 undef = .pointer (some ⟨p, 0, none⟩)) (hg : w.heap[p]? = some (.cells s.c 37 (0, 0))) :
    (results Tryz.f42 tmps).run Tryz.prog w = .ok (.tuple #[.agg s.c, tmps.getD 3 undef]) w := by
  rw [results_cell_tmp Tryz.results42, hp]
  simp [asAddr, run_loadVar_row w p 37 37 s.c (0, 0) _ hg Tryz.underlying37 rfl Tryz.ru7]
theorem res20 (tmps : Array Value) (w : World) (p : Nat) (s : Hd) (hp : tmps.getD 2 undef = .pointer (some ⟨p, 0, none⟩)) (hg : w.heap[p]? = some (.cells s.c 40 (0, 0))) :
    (results Tryz.f44 tmps).run Tryz.prog w = .ok (.tuple #[.agg s.c, tmps.getD 3 undef, tmps.getD 4 undef]) w := by
  rw [results_cell_tmp2 Tryz.results44, hp]
  simp [asAddr, run_loadVar_row w p 40 40 s.c (0, 0) _ hg Tryz.underlying40 rfl Tryz.rd3]
/-- What is read so far: the result's block, the reader. -/
structure Gk (w : World) (o : Obj) (R : Nat) (u : ByteArray) (W : World) : Prop where
  be : Below w.heap.size w W
  r0 : W.heap[w.heap.size]? = some o
  rd : ∃ bad, Rd 156 R u bad W ∧ Sane u bad
  l1 : w.heap.size < R
  sz : u.size ≤ 281474976710656
theorem Gk.grown {w W W' : World} {o : Obj} {R : Nat} {u v : ByteArray} (k : Gk w o R u W) (hr : ∃ bad, Rd 156 R v bad W' ∧ Sane v bad) (hg : W.grownBy W' (some R)) (hv : v.size ≤ 281474976710656) : Gk w o R v W' := by
  have l1 := k.l1
  have lt := (Array.getElem?_eq_some_iff.1 k.r0).1
  exact ⟨below_grownBy k.be hg k.be.size (by omega), (hg.block _ lt (by simp; omega)).trans k.r0, hr, l1, hv⟩
theorem Gk.below {w W W' : World} {o : Obj} {R : Nat} {u : ByteArray} (k : Gk w o R u W) (hb : Below W.heap.size W W') : Gk w o R u W' :=
  k.grown (k.rd.elim fun b hr => ⟨b, hr.1.below hb hr.1.lt, hr.2⟩) (grownBy_below hb _) k.sz
theorem gk_take {w : World} {o : Obj} {R : Nat} {u : ByteArray} (v : Int) (k : Nat) (W : World) (g : Gk w o R u W) :
    Calls Tryz.prog 77 #[.pointer (some ⟨R, 0, none⟩), .int .i64 v, .int .i64 k] W fun e w' => e = .returned (.int .u64 (takV v u k)) ∧ Gk w o R (takT v u k) w' :=
  (take_ref v R u k W g.rd g.sz).mono fun e w' ⟨h1, h2, h3⟩ => ⟨h1, g.grown h2 h3 (takT_le g.sz)⟩
theorem gk_take1 {w : World} {o : Obj} {R : Nat} {u : ByteArray} (v : Int) (W : World) (g : Gk w o R u W) :
    Calls Tryz.prog 77 #[.pointer (some ⟨R, 0, none⟩), .int .i64 v, .int .i64 1] W fun e w' => e = .returned (.int .u64 (takV v u 1)) ∧ Gk w o R (takT v u 1) w' := gk_take v 1 W g
theorem gk_take2 {w : World} {o : Obj} {R : Nat} {u : ByteArray} (v : Int) (W : World) (g : Gk w o R u W) :
    Calls Tryz.prog 77 #[.pointer (some ⟨R, 0, none⟩), .int .i64 v, .int .i64 2] W fun e w' => e = .returned (.int .u64 (takV v u 2)) ∧ Gk w o R (takT v u 2) w' := gk_take v 2 W g
theorem gk_take8 {w : World} {o : Obj} {R : Nat} {u : ByteArray} (v : Int) (W : World) (g : Gk w o R u W) :
    Calls Tryz.prog 77 #[.pointer (some ⟨R, 0, none⟩), .int .i64 v, .int .i64 8] W fun e w' => e = .returned (.int .u64 (takV v u 8)) ∧ Gk w o R (takT v u 8) w' := gk_take v 8 W g

set_option maxHeartbeats 1000000 in
set_option maxRecDepth 100000 in
theorem rgetSuper_any (b : ByteArray) (w : World) (hb : b.size ≤ 281474976710656) : Calls Tryz.prog 42 #[.string b] w fun e w' => e = .returned (.tuple #[(gS b).val, .bool (gO b)]) ∧ Below w.heap.size w w' := by
  obtain ⟨W0, hW0⟩ : ∃ W0, W0 = w.alloc (.cells su0.c 37) := ⟨_, rfl⟩
  have b0 : Below w.heap.size w W0 := by rw [hW0]; exact (Below.refl _ _).alloc (Nat.le_refl _) _
  have k0 : W0.heap[w.heap.size]? = some (.cells su0.c 37 (0, 0)) := by rw [hW0]; exact heap_alloc_new w _
  have s0 : W0.heap.size = w.heap.size + 1 := by rw [hW0]; simp
  have KN := Lib.hid (rnew_any b W0)
  have HB0 := Lib.hid b0
  have HK0 := Lib.hid k0
  have HS0 := Lib.hid s0
  have HBZ := Lib.hid hb
  obtain ⟨n, hn⟩ : ∃ n, n = fixV b 1 := ⟨_, rfl⟩
  obtain ⟨u, hu⟩ : ∃ u, u = fixT b 1 := ⟨_, rfl⟩
  have hn1 := fixV_lt1 b
  rw [← hn] at hn1
  have hwr : IntKind.i64.wrap (n : Int) = (n : Int) := IntWalk.i64_in _ (by omega)
  have hrs : rs2 b = rdS2 n u := by unfold rs2 rv; rw [← hn, ← hu]
  obtain ⟨m1, hm1⟩ : ∃ m, m = takV n u 2 % 9999 := ⟨_, rfl⟩
  have hq1 : ((takV n u 2 : Nat) : Int) % 9999 = (m1 : Int) := by rw [hm1]; omega
  have hl1 : (m1 : Int) ≤ 9999 := by rw [hm1]; omega
  obtain ⟨m2, hm2⟩ : ∃ m, m = takV n (takT n u 2) 2 % 9999 := ⟨_, rfl⟩
  have hq2 : ((takV n (takT n u 2) 2 : Nat) : Int) % 9999 = (m2 : Int) := by rw [hm2]; omega
  have hl2 : (m2 : Int) ≤ 9999 := by rw [hm2]; omega
  obtain ⟨m3, hm3⟩ : ∃ m, m = takV n (takT n (takT n u 2) 2) 1 % 99 := ⟨_, rfl⟩
  have hq3 : ((takV n (takT n (takT n u 2) 2) 1 : Nat) : Int) % 99 = (m3 : Int) := by rw [hm3]; omega
  have hl3 : (m3 : Int) ≤ 9999 := by rw [hm3]; omega
  obtain ⟨m4, hm4⟩ : ∃ m, m = takV n (takT n (takT n (takT n u 2) 2) 1) 1 % 99 := ⟨_, rfl⟩
  have hq4 : ((takV n (takT n (takT n (takT n u 2) 2) 1) 1 : Nat) : Int) % 99 = (m4 : Int) := by rw [hm4]; omega
  have hl4 : (m4 : Int) ≤ 9999 := by rw [hm4]; omega
  obtain ⟨m5, hm5⟩ : ∃ m, m = takV n (takT n (takT n (takT n (takT n u 2) 2) 1) 1) 1 % 99 := ⟨_, rfl⟩
  have hq5 : ((takV n (takT n (takT n (takT n (takT n u 2) 2) 1) 1) 1 : Nat) : Int) % 99 = (m5 : Int) := by rw [hm5]; omega
  have hl5 : (m5 : Int) ≤ 9999 := by rw [hm5]; omega
  obtain ⟨m6, hm6⟩ : ∃ m, m = takV n (takT n (takT n (takT n (takT n (takT n u 2) 2) 1) 1) 1) 1 % 99 := ⟨_, rfl⟩
  have hq6 : ((takV n (takT n (takT n (takT n (takT n (takT n u 2) 2) 1) 1) 1) 1 : Nat) : Int) % 99 = (m6 : Int) := by rw [hm6]; omega
  have hl6 : (m6 : Int) ≤ 9999 := by rw [hm6]; omega
  obtain ⟨T, hT⟩ : ∃ T : Su, T = ⟨n, m1, m2, m3, m4, m5, m6⟩ := ⟨_, rfl⟩
  have hrT : rs2 b = T := by
    rw [hrs, hT]; unfold rdS2 u5 u4 u3 u2 u1
    rw [← hm1, ← hm2, ← hm3, ← hm4, ← hm5, ← hm6]
  have KP := Lib.hid (fun (W : World) => rputSuper_any T W)
  obtain ⟨r, hr⟩ : ∃ r, r = rgt T := ⟨_, rfl⟩
  obtain ⟨p, hp⟩ : ∃ p, p = supS T := ⟨_, rfl⟩
  rw [← hr, ← hp] at KP
  obtain ⟨te, hte⟩ : ∃ te, te = (p.toList == b.toList) := ⟨_, rfl⟩
  have hg2 : gO2 b = (r && te) := by
    unfold gO2; rw [hrT, ← hr, hte, hp]
    cases hrr : r with
    | false => rfl
    | true => unfold supS; rw [← hr, hrr, if_pos rfl]
  have HG : Hid (gO b = (r && te)) := by show _ = _; rw [← gO2_eq, hg2]
  have HS : Hid (gS b = if (r && te) = true then T else su0) := by
    show _ = _
    unfold gS
    rw [HG.out]
    cases hx : (r && te) with
    | false => rfl
    | true => rw [if_pos rfl, if_pos rfl, ← rs2_eq (by rw [HG.out, hx]), hrT]
  have HTE := Lib.hid hte.symm
  have HU := Lib.hid hu
  have HN := Lib.hid hn
  have HT : Hid (T.c = #[.int .i64 n, .int .i64 m1, .int .i64 m2, .int .i64 m3, .int .i64 m4, .int .i64 m5, .int .i64 m6]) := by show _ = _; rw [hT]; rfl
  have HX : Hid (T.c = _) := HT.out
  unfold Su.val at KP
  clear b0 k0 s0 hb hn hu hn1 hrs hrT hr hp hte hT HT hg2 hm1 hm2 hm3 hm4 hm5 hm6
  unfold rdp at *
  have hz0 : (w.alloc (.cells su0.c 37)) = w.alloc (.cells #[.int .i64 0, .int .i64 0, .int .i64 0, .int .i64 0, .int .i64 0, .int .i64 0, .int .i64 0] 37) := rfl
  rw [hz0] at hW0
  clear hz0
  have HW0 := Lib.hid hW0
  clear hW0
  go_enter Tryz.func42, Tryz.ntmps42
  go_wp2_with fail
  rw [← HW0.out]
  refine KN.out.mono ?_
  rintro e w1 ⟨rfl, hw1⟩
  obtain ⟨R, hR⟩ : ∃ R, R = W0.heap.size := ⟨_, rfl⟩
  have r1 : Rd 156 R b false w1 := by rw [hw1, hR]; exact Rd.new _ _ _ _
  have b1 : Below W0.heap.size W0 w1 := by rw [hw1]; exact (Below.refl _ _).alloc (Nat.le_refl _) _
  have G1 : Hid (Gk w (.cells su0.c 37 (0, 0)) R b w1) := ⟨HB0.out.trans (b1.mono HB0.out.size), (b1.block _ (by have := HS0.out; omega)).trans HK0.out, ⟨_, r1, fun h => by cases h⟩, by have := HS0.out; omega, HBZ.out⟩
  have HRR := Lib.hid hR
  clear hw1 r1 b1 hR
  rw [← HRR.out]
  have KF : Hid (Calls Tryz.prog 76 #[.pointer (some ⟨R, 0, none⟩), .int .i64 1] w1 fun e w' => e = .returned (.int .u64 (fixV b 1)) ∧ Gk w (.cells su0.c 37 (0, 0)) R (fixT b 1) w') := by
    obtain ⟨bad, hr, hs⟩ := G1.out.rd
    exact (rfixedr_any R b bad 1 w1 hr hs HBZ.out).mono fun e w' ⟨h1, h2, h3⟩ => ⟨h1, G1.out.grown ⟨_, h2, sane_fix b bad 1 hs⟩ h3 (Nat.le_trans (fixT_size b 1) HBZ.out)⟩
  unfold rdp at *
  go_wp2_with fail
  refine KF.out.mono ?_
  rintro e w3 ⟨rfl, g3⟩
  have G3 := Lib.hid g3
  clear g3 KF KN G1 HK0 HB0 HS0 HW0 HRR
  rw [← HU.out] at G3
  rw [← HN.out]
  have KG := Lib.hid (gk_take2 n _ G3.out)
  go_wp2_with fail
  refine KG.out.mono ?_
  rintro e y1 ⟨rfl, g1⟩
  have G4 := Lib.hid g1
  clear KG g1 G3
  have KG := Lib.hid (gk_take2 n _ G4.out)
  go_wp2_with fail
  refine KG.out.mono ?_
  rintro e y2 ⟨rfl, g2⟩
  have G5 := Lib.hid g2
  clear KG g2 G4
  have KG := Lib.hid (gk_take1 n _ G5.out)
  go_wp2_with fail
  refine KG.out.mono ?_
  rintro e y3 ⟨rfl, g3⟩
  have G6 := Lib.hid g3
  clear KG g3 G5
  have KG := Lib.hid (gk_take1 n _ G6.out)
  go_wp2_with fail
  refine KG.out.mono ?_
  rintro e y4 ⟨rfl, g4⟩
  have G7 := Lib.hid g4
  clear KG g4 G6
  have KG := Lib.hid (gk_take1 n _ G7.out)
  go_wp2_with fail
  refine KG.out.mono ?_
  rintro e y5 ⟨rfl, g5⟩
  have G8 := Lib.hid g5
  clear KG g5 G7
  have KG := Lib.hid (gk_take1 n _ G8.out)
  go_wp2_with fail
  refine KG.out.mono ?_
  rintro e y6 ⟨rfl, g6⟩
  have G9 := Lib.hid g6
  clear KG g6 G8
  obtain ⟨V, hV⟩ : ∃ V, V = y6.alloc (.cells T.c 37) := ⟨_, rfl⟩
  have bV : Below y6.heap.size y6 V := by rw [hV]; exact (Below.refl _ _).alloc (Nat.le_refl _) _
  obtain ⟨u9, GV0⟩ : ∃ u9, Gk w (.cells su0.c 37 (0, 0)) R u9 V := ⟨_, G9.out.below bV⟩
  have GV := Lib.hid GV0
  have HVT : Hid (V.heap[y6.heap.size]? = some (.cells T.c 37 (0, 0))) := by show _ = _; rw [hV]; exact heap_alloc_new y6 _
  rw [HX.out] at hV
  have HVV := Lib.hid hV
  clear hV bV G9 GV0
  go_wp2_with fail
  rw [← HVV.out, ← HX.out]
  refine (KP.out _).mono ?_
  rintro e z ⟨rfl, bz⟩
  have Gz := GV.out.below bz
  have hb := Gz.be
  have KZ : Hid (z.heap[w.heap.size]? = some (.cells su0.c 37 (0, 0))) := Gz.r0
  have TZ : Hid (z.heap[y6.heap.size]? = some (.cells T.c 37 (0, 0))) := (bz.block _ (Array.getElem?_eq_some_iff.1 HVT.out).1).trans HVT.out
  clear Gz GV HVT HVV HX KP bz
  obtain ⟨Z0, hZ0⟩ : ∃ Z, Z = z.setRow w.heap.size su0.c := ⟨_, rfl⟩
  obtain ⟨Z1, hZ1⟩ : ∃ Z, Z = z.setRow w.heap.size T.c := ⟨_, rfl⟩
  have B0 : Hid (Below w.heap.size w Z0) := by rw [hZ0]; exact hb.trans ⟨rfl, rfl, rfl, by simp, fun k hk => setRow_other _ _ _ _ (by omega)⟩
  have B1 : Hid (Below w.heap.size w Z1) := by rw [hZ1]; exact hb.trans ⟨rfl, rfl, rfl, by simp, fun k hk => setRow_other _ _ _ _ (by omega)⟩
  have K0 : Hid (Z0.heap[w.heap.size]? = some (.cells su0.c 37 (0, 0))) := by show _ = _; rw [hZ0]; exact setRow_heap _ _ _ _ 37 (0, 0) KZ.out
  have K1 : Hid (Z1.heap[w.heap.size]? = some (.cells T.c 37 (0, 0))) := by show _ = _; rw [hZ1]; exact setRow_heap _ _ _ _ 37 (0, 0) KZ.out
  have HZ0 := Lib.hid hZ0
  have HZ1 := Lib.hid hZ1
  clear hZ0 hZ1 hb
  cases r with
  | false =>
    clear HTE
    go_wp2_with (refine wpList_store_ru rfl _ _ rfl _ _ su0 su0 rfl rfl KZ.out ?_; refine wpList_at HZ0.out.symm ?_; go_frame)
    exact bodyPost_ret (v := _) (res18 _ _ w.heap.size su0 rfl K0.out) rfl ⟨by rw [HS.out, HG.out]; rfl, B0.out⟩
  | true =>
    cases te with
    | false =>
      have hne := HTE.out
      clear HTE
      go_wp2_with (refine wpList_store_ru rfl _ _ rfl _ _ su0 su0 rfl rfl KZ.out ?_; refine wpList_at HZ0.out.symm ?_; go_frame)
      exact bodyPost_ret (v := _) (res18 _ _ w.heap.size su0 rfl K0.out) rfl ⟨by rw [HS.out, HG.out]; rfl, B0.out⟩
    | true =>
      have hne := HTE.out
      clear HTE
      go_wp2_with (first | (refine wpList_load_ru rfl _ rfl _ _ T rfl TZ.out ?_; go_frame) | (refine wpList_store_ru rfl _ _ rfl _ _ T su0 rfl rfl KZ.out ?_; refine wpList_at HZ1.out.symm ?_; go_frame))
      exact bodyPost_ret (v := _) (res18 _ _ w.heap.size T rfl K1.out) rfl ⟨by rw [HS.out, HG.out]; rfl, B1.out⟩
set_option maxHeartbeats 1000000 in
set_option maxRecDepth 100000 in
theorem rgetHard_any (b : ByteArray) (w : World) (hb : b.size ≤ 281474976710656) : Calls Tryz.prog 44 #[.string b] w fun e w' => e = .returned (.tuple #[(jH b).val, .int .i64 (jV b), .bool (jO b)]) ∧ Below w.heap.size w w' := by
  obtain ⟨W0, hW0⟩ : ∃ W0, W0 = w.alloc (.cells hd0.c 40) := ⟨_, rfl⟩
  have b0 : Below w.heap.size w W0 := by rw [hW0]; exact (Below.refl _ _).alloc (Nat.le_refl _) _
  have k0 : W0.heap[w.heap.size]? = some (.cells hd0.c 40 (0, 0)) := by rw [hW0]; exact heap_alloc_new w _
  have s0 : W0.heap.size = w.heap.size + 1 := by rw [hW0]; simp
  have KN := Lib.hid (rnew_any b W0)
  have HB0 := Lib.hid b0
  have HK0 := Lib.hid k0
  have HS0 := Lib.hid s0
  have HBZ := Lib.hid hb
  obtain ⟨n, hn⟩ : ∃ n, n = fixV b 1 := ⟨_, rfl⟩
  obtain ⟨u, hu⟩ : ∃ u, u = fixT b 1 := ⟨_, rfl⟩
  have hn1 := fixV_lt1 b
  rw [← hn] at hn1
  have hwr : IntKind.i64.wrap (n : Int) = (n : Int) := IntWalk.i64_in _ (by omega)
  have hni : (n : Int) ≤ 255 := by omega
  obtain ⟨v, hv0⟩ : ∃ v : Int, v = (n : Int) - 16 := ⟨_, rfl⟩
  have hwr2 : IntKind.i64.wrap ((n : Int) - 16) = v := by rw [hv0]; exact IntWalk.i64_in _ (by omega)
  have hvv : hv b = v := by unfold hv; rw [← hn, hv0]
  have hrs : rh2 b = rdH2 v u := by unfold rh2; rw [hvv, ← hu]
  have hok := rh2_ok b
  obtain ⟨m, hm⟩ : ∃ m, m = takV v (takT v u 8) 1 % 99 := ⟨_, rfl⟩
  have hq : ((takV v (takT v u 8) 1 : Nat) : Int) % 99 = (m : Int) := by rw [hm]; omega
  have hl1 : (m : Int) ≤ 99 := by rw [hm]; omega
  obtain ⟨T, hT⟩ : ∃ T : Hd, T = ⟨takV v u 8, m, takV v (takT v (takT v u 8) 1) 8⟩ := ⟨_, rfl⟩
  have hrT : rh2 b = T := by
    rw [hrs, hT]; unfold rdH2 k2 k1
    rw [← hm]
  rw [hrT] at hok
  have KP := Lib.hid (fun (W : World) => rputHard_any v T W hok)
  obtain ⟨r, hr⟩ : ∃ r, r = hO v T := ⟨_, rfl⟩
  obtain ⟨p, hp⟩ : ∃ p, p = hS v T := ⟨_, rfl⟩
  rw [← hr, ← hp] at KP
  obtain ⟨te, hte⟩ : ∃ te, te = (p.toList == b.toList) := ⟨_, rfl⟩
  have hg2 : jO2 b = (r && te) := by
    unfold jO2; rw [hvv, hrT, ← hr, hte, hp]
    cases hrr : r with
    | false => rfl
    | true => unfold hS; rw [← hr, hrr, if_pos rfl]
  have HG : Hid (jO b = (r && te)) := by show _ = _; rw [← jO2_eq, hg2]
  have HS : Hid (jH b = if (r && te) = true then T else hd0) := by
    show _ = _
    unfold jH
    rw [HG.out]
    cases hx : (r && te) with
    | false => rfl
    | true => rw [if_pos rfl, if_pos rfl, ← rh2_eq (by rw [HG.out, hx]), hrT]
  have HJ : Hid (jV b = if (r && te) = true then v else 0) := by show _ = _; unfold jV; rw [HG.out, hvv]
  have HTE := Lib.hid hte.symm
  have HU := Lib.hid hu
  have HN := Lib.hid hn
  have HT : Hid (T.c = #[.int .u64 (takV v u 8 : Nat), .int .i64 m, .int .u64 (takV v (takT v (takT v u 8) 1) 8 : Nat)]) := by show _ = _; rw [hT, Hd.c]
  have HX : Hid (T.c = _) := HT.out
  unfold Hd.val at KP
  have HV0 := Lib.hid hv0
  clear b0 k0 s0 hb hn hu hn1 hrs hrT hr hp hte hT HT hg2 hm hvv hok hv0
  unfold rdp at *
  have hz0 : (w.alloc (.cells hd0.c 40)) = w.alloc (.cells #[.int .u64 0, .int .i64 0, .int .u64 0] 40) := rfl
  rw [hz0] at hW0
  clear hz0
  have HW0 := Lib.hid hW0
  clear hW0
  go_enter Tryz.func44, Tryz.ntmps44
  go_wp2_with fail
  rw [← HW0.out]
  refine KN.out.mono ?_
  rintro e w1 ⟨rfl, hw1⟩
  obtain ⟨R, hR⟩ : ∃ R, R = W0.heap.size := ⟨_, rfl⟩
  have r1 : Rd 156 R b false w1 := by rw [hw1, hR]; exact Rd.new _ _ _ _
  have b1 : Below W0.heap.size W0 w1 := by rw [hw1]; exact (Below.refl _ _).alloc (Nat.le_refl _) _
  have G1 : Hid (Gk w (.cells hd0.c 40 (0, 0)) R b w1) := ⟨HB0.out.trans (b1.mono HB0.out.size), (b1.block _ (by have := HS0.out; omega)).trans HK0.out, ⟨_, r1, fun h => by cases h⟩, by have := HS0.out; omega, HBZ.out⟩
  have HRR := Lib.hid hR
  clear hw1 r1 b1 hR
  rw [← HRR.out]
  have KF : Hid (Calls Tryz.prog 76 #[.pointer (some ⟨R, 0, none⟩), .int .i64 1] w1 fun e w' => e = .returned (.int .u64 (fixV b 1)) ∧ Gk w (.cells hd0.c 40 (0, 0)) R (fixT b 1) w') := by
    obtain ⟨bad, hr, hs⟩ := G1.out.rd
    exact (rfixedr_any R b bad 1 w1 hr hs HBZ.out).mono fun e w' ⟨h1, h2, h3⟩ => ⟨h1, G1.out.grown ⟨_, h2, sane_fix b bad 1 hs⟩ h3 (Nat.le_trans (fixT_size b 1) HBZ.out)⟩
  unfold rdp at *
  go_wp2_with fail
  refine KF.out.mono ?_
  rintro e w3 ⟨rfl, g3⟩
  have G3 := Lib.hid g3
  clear g3 KF KN G1 HK0 HB0 HS0 HW0 HRR
  rw [← HU.out] at G3
  rw [← HN.out]
  have KG := Lib.hid (gk_take8 v _ G3.out)
  go_wp2_with fail
  refine KG.out.mono ?_
  rintro e y1 ⟨rfl, g1⟩
  have G4 := Lib.hid g1
  clear KG g1 G3
  have KG := Lib.hid (gk_take1 v _ G4.out)
  go_wp2_with fail
  refine KG.out.mono ?_
  rintro e y2 ⟨rfl, g2⟩
  have G5 := Lib.hid g2
  clear KG g2 G4
  have KG := Lib.hid (gk_take8 v _ G5.out)
  go_wp2_with fail
  refine KG.out.mono ?_
  rintro e y3 ⟨rfl, g3⟩
  have G6 := Lib.hid g3
  clear KG g3 G5
  obtain ⟨V, hV⟩ : ∃ V, V = y3.alloc (.cells T.c 40) := ⟨_, rfl⟩
  have bV : Below y3.heap.size y3 V := by rw [hV]; exact (Below.refl _ _).alloc (Nat.le_refl _) _
  obtain ⟨u9, GV0⟩ : ∃ u9, Gk w (.cells hd0.c 40 (0, 0)) R u9 V := ⟨_, G6.out.below bV⟩
  have GV := Lib.hid GV0
  have HVT : Hid (V.heap[y3.heap.size]? = some (.cells T.c 40 (0, 0))) := by show _ = _; rw [hV]; exact heap_alloc_new y3 _
  rw [HX.out] at hV
  have HVV := Lib.hid hV
  clear hV bV G6 GV0
  go_wp2_with fail
  rw [← HVV.out, ← HX.out]
  refine (KP.out _).mono ?_
  rintro e z ⟨rfl, bz⟩
  have Gz := GV.out.below bz
  have hb := Gz.be
  have KZ : Hid (z.heap[w.heap.size]? = some (.cells hd0.c 40 (0, 0))) := Gz.r0
  have TZ : Hid (z.heap[y3.heap.size]? = some (.cells T.c 40 (0, 0))) := (bz.block _ (Array.getElem?_eq_some_iff.1 HVT.out).1).trans HVT.out
  clear Gz GV HVT HVV HX KP bz
  obtain ⟨Z0, hZ0⟩ : ∃ Z, Z = z.setRow w.heap.size hd0.c := ⟨_, rfl⟩
  obtain ⟨Z1, hZ1⟩ : ∃ Z, Z = z.setRow w.heap.size T.c := ⟨_, rfl⟩
  have B0 : Hid (Below w.heap.size w Z0) := by rw [hZ0]; exact hb.trans ⟨rfl, rfl, rfl, by simp, fun k hk => setRow_other _ _ _ _ (by omega)⟩
  have B1 : Hid (Below w.heap.size w Z1) := by rw [hZ1]; exact hb.trans ⟨rfl, rfl, rfl, by simp, fun k hk => setRow_other _ _ _ _ (by omega)⟩
  have K0 : Hid (Z0.heap[w.heap.size]? = some (.cells hd0.c 40 (0, 0))) := by show _ = _; rw [hZ0]; exact setRow_heap _ _ _ _ 40 (0, 0) KZ.out
  have K1 : Hid (Z1.heap[w.heap.size]? = some (.cells T.c 40 (0, 0))) := by show _ = _; rw [hZ1]; exact setRow_heap _ _ _ _ 40 (0, 0) KZ.out
  have HZ0 := Lib.hid hZ0
  have HZ1 := Lib.hid hZ1
  clear hZ0 hZ1 hb
  cases r with
  | false =>
    clear HTE
    go_wp2_with (refine wpList_store_rh rfl _ _ rfl _ _ hd0 hd0 rfl rfl KZ.out ?_; refine wpList_at HZ0.out.symm ?_; go_frame)
    exact bodyPost_ret (v := _) (res20 _ _ w.heap.size hd0 rfl K0.out) rfl ⟨by rw [HS.out, HG.out, HJ.out]; rfl, B0.out⟩
  | true =>
    cases te with
    | false =>
      have hne := HTE.out
      clear HTE
      go_wp2_with (refine wpList_store_rh rfl _ _ rfl _ _ hd0 hd0 rfl rfl KZ.out ?_; refine wpList_at HZ0.out.symm ?_; go_frame)
      exact bodyPost_ret (v := _) (res20 _ _ w.heap.size hd0 rfl K0.out) rfl ⟨by rw [HS.out, HG.out, HJ.out]; rfl, B0.out⟩
    | true =>
      have hne := HTE.out
      clear HTE
      go_wp2_with (first | (refine wpList_load_rh rfl _ rfl _ _ T rfl TZ.out ?_; go_frame) | (refine wpList_store_rh rfl _ _ rfl _ _ T hd0 rfl rfl KZ.out ?_; refine wpList_at HZ1.out.symm ?_; go_frame))
      exact bodyPost_ret (v := _) (res20 _ _ w.heap.size T rfl K1.out) rfl ⟨by rw [HS.out, HG.out, HJ.out]; rfl, B1.out⟩
end Go.Proofs.YtdoombcihobejaaGreat
