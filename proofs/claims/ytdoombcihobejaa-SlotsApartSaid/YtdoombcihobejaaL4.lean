/-
  The package's PutHard.
  Conditions: named in each theorem.
-/
import Derived.Test.YtdoombcihobejaaL3
namespace Go.Proofs.Ytdoombcihobejaa
open Go.RowKit Vi Sl
set_option linter.unusedVariables false
set_option linter.unusedSimpArgs false
/-- A Hard in a block of its own. -/
def hbx (w : World) (h : Hd) : World := w.alloc (.cells h.c 26)
theorem hbx_cells (w : World) (h : Hd) : (hbx w h).heap[w.heap.size]? = some (.cells h.c 26 (0, 0)) := heap_alloc_new w _
theorem hbx_below (w : World) (h : Hd) : Below w.heap.size w (hbx w h) := (Below.refl _ _).alloc (Nat.le_refl _) _
theorem hd_cells {w : World} {g : Nat} {h : Hd} (hh : w.heap[g]? = some (.cells h.c 26 (0, 0))) :
    w.cell? ⟨g, 0, none⟩ = some (.int .u64 h.tm) ∧ w.cell? ⟨g, 1, none⟩ = some (.int .i64 h.vo) ∧ w.cell? ⟨g, 2, none⟩ = some (.int .u64 h.cm) :=
  ⟨cell_of_row w g 0 _ 26 (0, 0) hh, cell_of_row w g 1 _ 26 (0, 0) hh, cell_of_row w g 2 _ 26 (0, 0) hh⟩
structure Ph (w : World) (h : Hd) (W : World) : Prop where
  be : Below w.heap.size w W
  bx : W.heap[w.heap.size]? = some (.cells h.c 26 (0, 0))
  lt : w.heap.size < W.heap.size
theorem Ph.below {w W W' : World} {s : Hd} (h : Ph w s W) (hb : Below W.heap.size W W') : Ph w s W' :=
  ⟨h.be.trans (hb.mono h.be.size), (hb.block _ h.lt).trans h.bx, Nat.lt_of_lt_of_le h.lt hb.size⟩
theorem Ph.alloc {w W : World} {s : Hd} (h : Ph w s W) (o : Obj) : Ph w s (W.alloc o) := h.below ((Below.refl _ _).alloc (Nat.le_refl _) _)
theorem puts_ph {w W : World} {s : Hd} (h : Ph w s W) : Calls Try.prog 29 #[] W fun r w' => ∃ g, r = .returned (.map (some g)) ∧ Ph w s w' ∧ w'.heap[g]? = some (.map (two (fv 32) (fv 50)) 2) :=
  (puts_any W).mono fun r w' ⟨h1, h2, h3, _⟩ => ⟨_, h1, h.below h3, h2⟩
theorem hbx_ph (w : World) (h : Hd) : Ph w h (hbx w h) := ⟨hbx_below w h, hbx_cells w h, by simp [hbx]⟩
structure Pv (w : World) (s : Hd) (b : Nat) (x : ByteArray) (W : World) : Prop where
  q : Ph w s W
  wt : Wt b b x W
  l2 : w.heap.size < b
  l3 : b ≤ W.heap.size
theorem Pv.step {w W W' : World} {s : Hd} {b : Nat} {x y : ByteArray} (h : Pv w s b x W) (hs : Ws W b b y W') : Pv w s b y W' :=
  ⟨⟨h.q.be.trans (hs.be.mono (by have := h.l2; omega)), (hs.be.block _ h.l2).trans h.q.bx, Nat.lt_of_lt_of_le h.q.lt hs.sw⟩, hs.t, h.l2, hs.sz⟩

theorem hst18_any {w : World} {s : Hd} {b : Nat} {x : ByteArray} (n : Nat) (hn : n < 18446744073709551616) (W : World) (h : Pv w s b x W) (hx : x.size ≤ 1000) :
    Calls Try.prog 32 #[.pointer (some ⟨b, 0, none⟩), .int .u64 n, .int .i64 8] W fun e w' => e = .returned (.tuple #[]) ∧ Pv w s b (x ++ num 1 n 8) w' := (number_any b b n 8 x W h.wt (by omega) h.l3 (by omega)).mono fun e w' ⟨h1, h2⟩ => ⟨h1, h.step h2⟩
theorem hst11_any {w : World} {s : Hd} {b : Nat} {x : ByteArray} (n : Nat) (hn : n < 18446744073709551616) (W : World) (h : Pv w s b x W) (hx : x.size ≤ 1000) :
    Calls Try.prog 32 #[.pointer (some ⟨b, 0, none⟩), .int .u64 n, .int .i64 1] W fun e w' => e = .returned (.tuple #[]) ∧ Pv w s b (x ++ num 1 n 1) w' := (number_any b b n 1 x W h.wt (by omega) h.l3 (by omega)).mono fun e w' ⟨h1, h2⟩ => ⟨h1, h.step h2⟩
theorem hst28_any {w : World} {s : Hd} {b : Nat} {x : ByteArray} (n : Nat) (hn : n < 18446744073709551616) (W : World) (h : Pv w s b x W) (hx : x.size ≤ 1000) :
    Calls Try.prog 50 #[.pointer (some ⟨b, 0, none⟩), .int .u64 n, .int .i64 8] W fun e w' => e = .returned (.tuple #[]) ∧ Pv w s b (x ++ num 2 n 8) w' := (wvar_any b b n 8 x W h.wt (by omega) h.l3 hn).mono fun e w' ⟨h1, h2⟩ => ⟨h1, h.step h2⟩
theorem hst21_any {w : World} {s : Hd} {b : Nat} {x : ByteArray} (n : Nat) (hn : n < 18446744073709551616) (W : World) (h : Pv w s b x W) (hx : x.size ≤ 1000) :
    Calls Try.prog 50 #[.pointer (some ⟨b, 0, none⟩), .int .u64 n, .int .i64 1] W fun e w' => e = .returned (.tuple #[]) ∧ Pv w s b (x ++ num 2 n 1) w' := (wvar_any b b n 1 x W h.wt (by omega) h.l3 hn).mono fun e w' ⟨h1, h2⟩ => ⟨h1, h.step h2⟩
theorem hard_steps1 (tm vo cm : Nat) : (((((⟨#[]⟩ : ByteArray) ++ fxB 17 1) ++ num 1 tm 8) ++ num 1 vo 1) ++ num 1 cm 8) = hB 1 ⟨tm, (vo : Nat), cm⟩ := by
  rw [empty_app]; unfold hB; simp only [Int.toNat_natCast]; rfl
set_option maxHeartbeats 4000000 in
set_option maxRecDepth 100000 in
theorem putHardN1_any (tm vo cm : Nat) (w : World) (ht : tm < 18446744073709551616) (hc : cm < 18446744073709551616) (h7 : vo ≤ 7) : Calls Try.prog 13 #[.int .i64 1, Hd.val ⟨tm, (vo : Nat), cm⟩] w fun e w' => e = .returned (.tuple #[.string (hB 1 ⟨tm, (vo : Nat), cm⟩), .bool true]) ∧ Below w.heap.size w w' := by
  obtain ⟨W, hW⟩ : ∃ W, W = hbx w ⟨tm, (vo : Nat), cm⟩ := ⟨_, rfl⟩
  have hq := hbx_ph w ⟨tm, (vo : Nat), cm⟩
  rw [← hW] at hq
  have HQ := Lib.hid hq
  have HI := Lib.hid (fun (W : World) => within_any vo 0 7 W)
  rw [show ins (vo : Int) 0 7 = true by unfold ins; rw [decide_eq_true (by omega), decide_eq_true (by omega)]; rfl] at HI
  have HN := Lib.hid (hard_steps1 tm vo cm)
  have HW := Lib.hid hW
  have HPS : Hid (0 < (hB 1 ⟨tm, (vo : Nat), cm⟩).size) := (hB_size ((hO_iff _ _).2 ⟨by omega, by show (0 : Int) ≤ (vo : Nat); omega, by show ((vo : Nat) : Int) ≤ 7; omega⟩) ⟨ht, hc, by show _ ≤ ((vo : Nat) : Int); omega, by show ((vo : Nat) : Int) ≤ _; omega⟩).2
  have HR : Hid (tm < 18446744073709551616 ∧ cm < 18446744073709551616 ∧ vo < 18446744073709551616) := ⟨ht, hc, by omega⟩
  have hu : IntKind.u64.wrap (vo : Int) = vo := by rw [IntKind.wrap_u64]; omega
  clear hq hW ht hc h7
  unfold hbx Hd.val at *
  unfold Hd.c at HW ⊢
  try dsimp only at HW ⊢
  go_enter Try.func13, Try.ntmps13
  go_wp2_with fail
  rw [← HW.out]
  refine (puts_ph HQ.out).mono ?_
  rintro e w1 ⟨g, rfl, Q1, m1⟩
  have HQ1 := Lib.hid Q1
  have hl := look_step (T := 67) 1 (fv 32) Try.underlying67 m1 (two_1 _ _)
  obtain ⟨x0, x1, x2⟩ := hd_cells Q1.bx
  clear HQ HW Q1 m1
  go_wp2_with fail
  refine (HI.out _).mono ?_
  rintro e w1 ⟨rfl, rfl⟩
  have PW0 : Hid (Pv w ⟨tm, (vo : Nat), cm⟩ w1.heap.size ⟨#[]⟩ (w1.alloc (.cells #[.pointer none, .slice none 0 0] 74))) :=
    ⟨HQ1.out.alloc _, fresh_wt w1 _ (Nat.le_refl _), HQ1.out.lt, by simp⟩
  obtain ⟨z0, z1, z2⟩ := hd_cells PW0.out.q.bx
  obtain ⟨V, hV⟩ : ∃ V, V = w1.alloc (.cells #[.pointer none, .slice none 0 0] 74) := ⟨_, rfl⟩
  rw [← hV] at PW0
  have HV := Lib.hid hV
  clear hV hl HI
  generalize hb : w1.heap.size = b at *
  have HBB := Lib.hid hb
  clear hb
  go_wp2_with fail
  rw [← HV.out, HBB.out]
  have KF : Hid (Calls Try.prog 32 #[.pointer (some ⟨b, 0, none⟩), .int .u64 17, .int .i64 1] V fun e w' => e = .returned (.tuple #[]) ∧ Pv w ⟨tm, (vo : Nat), cm⟩ b ((⟨#[]⟩ : ByteArray) ++ fxB 17 1) w') := (number_any b b 17 1 ⟨#[]⟩ V PW0.out.wt (by decide) PW0.out.l3 (by omega)).mono fun e w' ⟨h1, h2⟩ => ⟨h1, PW0.out.step h2⟩
  refine KF.out.mono ?_
  rintro e y0 ⟨rfl, PW1⟩
  have HP1 := Lib.hid PW1
  clear KF PW0 HV PW1 x0 x1 x2 z0 z1 z2 HQ1
  have hx0 : Hid (((⟨#[]⟩ : ByteArray) ++ fxB 17 1).size ≤ 1000) := by
    obtain ⟨r1, r2, r3⟩ := HR.out
    have e0 : (fxB 17 1).size = 1 := fxB_size 17 1 (by omega)
    show _ ≤ _
    simp only [ByteArray.size_append, e0]
    have e9 : (ByteArray.mk #[]).size = 0 := rfl
    omega
  have KF := Lib.hid (hst18_any tm (HR.out.1) _ HP1.out hx0.out)
  obtain ⟨x0, x1, x2⟩ := hd_cells HP1.out.q.bx
  go_wp2_with fail
  refine KF.out.mono ?_
  rintro e y1 ⟨rfl, PW1⟩
  have HP2 := Lib.hid PW1
  clear KF HP1 PW1 x0 x1 x2 hx0
  have hx1 : Hid ((((⟨#[]⟩ : ByteArray) ++ fxB 17 1) ++ num 1 tm 8).size ≤ 1000) := by
    obtain ⟨r1, r2, r3⟩ := HR.out
    have e0 : (fxB 17 1).size = 1 := fxB_size 17 1 (by omega)
    have e1 := num_size 1 tm 8 (by omega) (by omega)
    show _ ≤ _
    simp only [ByteArray.size_append, e0]
    have e9 : (ByteArray.mk #[]).size = 0 := rfl
    omega
  have KF := Lib.hid (hst11_any vo (HR.out.2.2) _ HP2.out hx1.out)
  obtain ⟨x0, x1, x2⟩ := hd_cells HP2.out.q.bx
  go_wp2_with fail
  refine KF.out.mono ?_
  rintro e y2 ⟨rfl, PW1⟩
  have HP3 := Lib.hid PW1
  clear KF HP2 PW1 x0 x1 x2 hx1
  have hx2 : Hid (((((⟨#[]⟩ : ByteArray) ++ fxB 17 1) ++ num 1 tm 8) ++ num 1 vo 1).size ≤ 1000) := by
    obtain ⟨r1, r2, r3⟩ := HR.out
    have e0 : (fxB 17 1).size = 1 := fxB_size 17 1 (by omega)
    have e1 := num_size 1 tm 8 (by omega) (by omega)
    have e2 := num_size 1 vo 1 (by omega) (by omega)
    show _ ≤ _
    simp only [ByteArray.size_append, e0]
    have e9 : (ByteArray.mk #[]).size = 0 := rfl
    omega
  have KF := Lib.hid (hst18_any cm (HR.out.2.1) _ HP3.out hx2.out)
  obtain ⟨x0, x1, x2⟩ := hd_cells HP3.out.q.bx
  go_wp2_with fail
  refine KF.out.mono ?_
  rintro e y3 ⟨rfl, PW1⟩
  have HP4 := Lib.hid PW1
  clear KF HP3 PW1 x0 x1 x2 hx2
  have KS := Lib.hid (wstring b b _ _ HP4.out.wt (by rw [HN.out]; exact HPS.out))
  go_wp2_with fail
  refine KS.out.mono ?_
  rintro e y8 ⟨rfl, b8⟩
  have HF := Lib.hid (HP4.out.q.be.trans (b8.mono (by have := HP4.out.l2; omega)))
  clear KS b8 HP4
  go_wp2
  go_ret2
  exact ⟨by rw [← HN.out]; rfl, HF.out⟩
set_option maxHeartbeats 1000000 in
set_option maxRecDepth 100000 in
theorem putHardV1_no (h : Hd) (w : World) (hv : ins h.vo 0 7 = false) : Calls Try.prog 13 #[.int .i64 1, h.val] w fun e w' => e = .returned (.tuple #[.string ⟨#[]⟩, .bool false]) ∧ Below w.heap.size w w' := by
  obtain ⟨W, hW⟩ : ∃ W, W = hbx w h := ⟨_, rfl⟩
  have hq := hbx_ph w h
  rw [← hW] at hq
  have HQ := Lib.hid hq
  have HI := Lib.hid (fun (W : World) => within_any h.vo 0 7 W)
  rw [hv] at HI
  have HW := Lib.hid hW
  clear hq hW hv
  unfold hbx Hd.val at *
  unfold Hd.c at HW ⊢
  try dsimp only at HW ⊢
  go_enter Try.func13, Try.ntmps13
  go_wp2_with fail
  rw [← HW.out]
  refine (puts_ph HQ.out).mono ?_
  rintro e w1 ⟨g, rfl, Q1, m1⟩
  have HQ1 := Lib.hid Q1
  have hl := look_step (T := 67) 1 (fv 32) Try.underlying67 m1 (two_1 _ _)
  obtain ⟨x0, x1, x2⟩ := hd_cells Q1.bx
  clear HQ HW Q1 m1
  go_wp2_with fail
  refine (HI.out _).mono ?_
  rintro e w1 ⟨rfl, rfl⟩
  go_wp2
  go_ret2
  exact ⟨rfl, HQ1.out.be⟩

theorem hard_steps2 (tm vo cm : Nat) : (((((⟨#[]⟩ : ByteArray) ++ fxB 18 1) ++ num 2 tm 8) ++ num 2 vo 1) ++ num 2 cm 8) = hB 2 ⟨tm, (vo : Nat), cm⟩ := by
  rw [empty_app]; unfold hB; simp only [Int.toNat_natCast]; rfl
set_option maxHeartbeats 4000000 in
set_option maxRecDepth 100000 in
theorem putHardN2_any (tm vo cm : Nat) (w : World) (ht : tm < 18446744073709551616) (hc : cm < 18446744073709551616) (h7 : vo ≤ 7) : Calls Try.prog 13 #[.int .i64 2, Hd.val ⟨tm, (vo : Nat), cm⟩] w fun e w' => e = .returned (.tuple #[.string (hB 2 ⟨tm, (vo : Nat), cm⟩), .bool true]) ∧ Below w.heap.size w w' := by
  obtain ⟨W, hW⟩ : ∃ W, W = hbx w ⟨tm, (vo : Nat), cm⟩ := ⟨_, rfl⟩
  have hq := hbx_ph w ⟨tm, (vo : Nat), cm⟩
  rw [← hW] at hq
  have HQ := Lib.hid hq
  have HI := Lib.hid (fun (W : World) => within_any vo 0 7 W)
  rw [show ins (vo : Int) 0 7 = true by unfold ins; rw [decide_eq_true (by omega), decide_eq_true (by omega)]; rfl] at HI
  have HN := Lib.hid (hard_steps2 tm vo cm)
  have HW := Lib.hid hW
  have HPS : Hid (0 < (hB 2 ⟨tm, (vo : Nat), cm⟩).size) := (hB_size ((hO_iff _ _).2 ⟨by omega, by show (0 : Int) ≤ (vo : Nat); omega, by show ((vo : Nat) : Int) ≤ 7; omega⟩) ⟨ht, hc, by show _ ≤ ((vo : Nat) : Int); omega, by show ((vo : Nat) : Int) ≤ _; omega⟩).2
  have HR : Hid (tm < 18446744073709551616 ∧ cm < 18446744073709551616 ∧ vo < 18446744073709551616) := ⟨ht, hc, by omega⟩
  have hu : IntKind.u64.wrap (vo : Int) = vo := by rw [IntKind.wrap_u64]; omega
  clear hq hW ht hc h7
  unfold hbx Hd.val at *
  unfold Hd.c at HW ⊢
  try dsimp only at HW ⊢
  go_enter Try.func13, Try.ntmps13
  go_wp2_with fail
  rw [← HW.out]
  refine (puts_ph HQ.out).mono ?_
  rintro e w1 ⟨g, rfl, Q1, m1⟩
  have HQ1 := Lib.hid Q1
  have hl := look_step (T := 67) 2 (fv 50) Try.underlying67 m1 (two_2 _ _)
  obtain ⟨x0, x1, x2⟩ := hd_cells Q1.bx
  clear HQ HW Q1 m1
  go_wp2_with fail
  refine (HI.out _).mono ?_
  rintro e w1 ⟨rfl, rfl⟩
  have PW0 : Hid (Pv w ⟨tm, (vo : Nat), cm⟩ w1.heap.size ⟨#[]⟩ (w1.alloc (.cells #[.pointer none, .slice none 0 0] 74))) :=
    ⟨HQ1.out.alloc _, fresh_wt w1 _ (Nat.le_refl _), HQ1.out.lt, by simp⟩
  obtain ⟨z0, z1, z2⟩ := hd_cells PW0.out.q.bx
  obtain ⟨V, hV⟩ : ∃ V, V = w1.alloc (.cells #[.pointer none, .slice none 0 0] 74) := ⟨_, rfl⟩
  rw [← hV] at PW0
  have HV := Lib.hid hV
  clear hV hl HI
  generalize hb : w1.heap.size = b at *
  have HBB := Lib.hid hb
  clear hb
  go_wp2_with fail
  rw [← HV.out, HBB.out]
  have KF : Hid (Calls Try.prog 32 #[.pointer (some ⟨b, 0, none⟩), .int .u64 18, .int .i64 1] V fun e w' => e = .returned (.tuple #[]) ∧ Pv w ⟨tm, (vo : Nat), cm⟩ b ((⟨#[]⟩ : ByteArray) ++ fxB 18 1) w') := (number_any b b 18 1 ⟨#[]⟩ V PW0.out.wt (by decide) PW0.out.l3 (by omega)).mono fun e w' ⟨h1, h2⟩ => ⟨h1, PW0.out.step h2⟩
  refine KF.out.mono ?_
  rintro e y0 ⟨rfl, PW1⟩
  have HP1 := Lib.hid PW1
  clear KF PW0 HV PW1 x0 x1 x2 z0 z1 z2 HQ1
  have hx0 : Hid (((⟨#[]⟩ : ByteArray) ++ fxB 18 1).size ≤ 1000) := by
    obtain ⟨r1, r2, r3⟩ := HR.out
    have e0 : (fxB 18 1).size = 1 := fxB_size 18 1 (by omega)
    show _ ≤ _
    simp only [ByteArray.size_append, e0]
    have e9 : (ByteArray.mk #[]).size = 0 := rfl
    omega
  have KF := Lib.hid (hst28_any tm (HR.out.1) _ HP1.out hx0.out)
  obtain ⟨x0, x1, x2⟩ := hd_cells HP1.out.q.bx
  go_wp2_with fail
  refine KF.out.mono ?_
  rintro e y1 ⟨rfl, PW1⟩
  have HP2 := Lib.hid PW1
  clear KF HP1 PW1 x0 x1 x2 hx0
  have hx1 : Hid ((((⟨#[]⟩ : ByteArray) ++ fxB 18 1) ++ num 2 tm 8).size ≤ 1000) := by
    obtain ⟨r1, r2, r3⟩ := HR.out
    have e0 : (fxB 18 1).size = 1 := fxB_size 18 1 (by omega)
    have e1 := num_size 2 tm 8 (by omega) (by omega)
    show _ ≤ _
    simp only [ByteArray.size_append, e0]
    have e9 : (ByteArray.mk #[]).size = 0 := rfl
    omega
  have KF := Lib.hid (hst21_any vo (HR.out.2.2) _ HP2.out hx1.out)
  obtain ⟨x0, x1, x2⟩ := hd_cells HP2.out.q.bx
  go_wp2_with fail
  refine KF.out.mono ?_
  rintro e y2 ⟨rfl, PW1⟩
  have HP3 := Lib.hid PW1
  clear KF HP2 PW1 x0 x1 x2 hx1
  have hx2 : Hid (((((⟨#[]⟩ : ByteArray) ++ fxB 18 1) ++ num 2 tm 8) ++ num 2 vo 1).size ≤ 1000) := by
    obtain ⟨r1, r2, r3⟩ := HR.out
    have e0 : (fxB 18 1).size = 1 := fxB_size 18 1 (by omega)
    have e1 := num_size 2 tm 8 (by omega) (by omega)
    have e2 := num_size 2 vo 1 (by omega) (by omega)
    show _ ≤ _
    simp only [ByteArray.size_append, e0]
    have e9 : (ByteArray.mk #[]).size = 0 := rfl
    omega
  have KF := Lib.hid (hst28_any cm (HR.out.2.1) _ HP3.out hx2.out)
  obtain ⟨x0, x1, x2⟩ := hd_cells HP3.out.q.bx
  go_wp2_with fail
  refine KF.out.mono ?_
  rintro e y3 ⟨rfl, PW1⟩
  have HP4 := Lib.hid PW1
  clear KF HP3 PW1 x0 x1 x2 hx2
  have KS := Lib.hid (wstring b b _ _ HP4.out.wt (by rw [HN.out]; exact HPS.out))
  go_wp2_with fail
  refine KS.out.mono ?_
  rintro e y8 ⟨rfl, b8⟩
  have HF := Lib.hid (HP4.out.q.be.trans (b8.mono (by have := HP4.out.l2; omega)))
  clear KS b8 HP4
  go_wp2
  go_ret2
  exact ⟨by rw [← HN.out]; rfl, HF.out⟩
set_option maxHeartbeats 1000000 in
set_option maxRecDepth 100000 in
theorem putHardV2_no (h : Hd) (w : World) (hv : ins h.vo 0 7 = false) : Calls Try.prog 13 #[.int .i64 2, h.val] w fun e w' => e = .returned (.tuple #[.string ⟨#[]⟩, .bool false]) ∧ Below w.heap.size w w' := by
  obtain ⟨W, hW⟩ : ∃ W, W = hbx w h := ⟨_, rfl⟩
  have hq := hbx_ph w h
  rw [← hW] at hq
  have HQ := Lib.hid hq
  have HI := Lib.hid (fun (W : World) => within_any h.vo 0 7 W)
  rw [hv] at HI
  have HW := Lib.hid hW
  clear hq hW hv
  unfold hbx Hd.val at *
  unfold Hd.c at HW ⊢
  try dsimp only at HW ⊢
  go_enter Try.func13, Try.ntmps13
  go_wp2_with fail
  rw [← HW.out]
  refine (puts_ph HQ.out).mono ?_
  rintro e w1 ⟨g, rfl, Q1, m1⟩
  have HQ1 := Lib.hid Q1
  have hl := look_step (T := 67) 2 (fv 50) Try.underlying67 m1 (two_2 _ _)
  obtain ⟨x0, x1, x2⟩ := hd_cells Q1.bx
  clear HQ HW Q1 m1
  go_wp2_with fail
  refine (HI.out _).mono ?_
  rintro e w1 ⟨rfl, rfl⟩
  go_wp2
  go_ret2
  exact ⟨rfl, HQ1.out.be⟩

theorem zero66 (w : World) : (zeroValue 66).run Try.prog w = .ok .nilFunc w := Try.zeroValue66 w
set_option maxHeartbeats 1000000 in
set_option maxRecDepth 100000 in
theorem putHard_none (v : Int) (h : Hd) (w : World) (h1 : v ≠ 1) (h2 : v ≠ 2) : Calls Try.prog 13 #[.int .i64 v, h.val] w fun e w' => e = .returned (.tuple #[.string ⟨#[]⟩, .bool false]) ∧ Below w.heap.size w w' := by
  obtain ⟨W, hW⟩ : ∃ W, W = hbx w h := ⟨_, rfl⟩
  have hq := hbx_ph w h
  rw [← hW] at hq
  have HQ := Lib.hid hq
  have HW := Lib.hid hW
  have H1 := Lib.hid h1
  have H2 := Lib.hid h2
  clear hq hW h1 h2
  unfold hbx Hd.val at *
  unfold Hd.c at HW ⊢
  go_enter Try.func13, Try.ntmps13
  go_wp2_with fail
  rw [← HW.out]
  refine (puts_ph HQ.out).mono ?_
  rintro e w1 ⟨g, rfl, Q1, m1⟩
  have HQ1 := Lib.hid Q1
  have hl := look_none (T := 67) v Try.underlying67 zero66 m1 (two_n _ _ v H1.out H2.out)
  clear HQ HW Q1 m1
  go_wp2
  go_ret2
  exact ⟨rfl, HQ1.out.be⟩
theorem putHard_any (v : Int) (h : Hd) (w : World) (ho : h.Ok) : Calls Try.prog 13 #[.int .i64 v, h.val] w fun e w' => e = .returned (.tuple #[.string (hS v h), .bool (hO v h)]) ∧ Below w.heap.size w w' := by
  unfold hS
  cases hh : hO v h with
  | false =>
    rw [if_neg (by decide)]
    by_cases h1 : v = 1
    · subst h1
      refine putHardV1_no h w ?_
      unfold hO at hh; simpa using hh
    · by_cases h2 : v = 2
      · subst h2
        refine putHardV2_no h w ?_
        unfold hO at hh; simpa using hh
      · exact putHard_none v h w h1 h2
  | true =>
    rw [if_pos rfl]
    obtain ⟨tm, vo, cm⟩ := h
    obtain ⟨h1, h2, h3⟩ := (hO_iff _ _).1 hh
    dsimp only at h2 h3
    obtain ⟨x, rfl⟩ := Int.eq_ofNat_of_zero_le h2
    rcases h1 with rfl | rfl
    · exact putHardN1_any tm x cm w ho.t ho.c (by omega)
    · exact putHardN2_any tm x cm w ho.t ho.c (by omega)
end Go.Proofs.Ytdoombcihobejaa