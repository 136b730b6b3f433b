/-
  A Super and a Hard loaded from a device: loadSuper, loadHard, Load.
  Conditions: a device that lies in memory.
-/
import Derived.Test.YtdoombcihobejaaD1
namespace Go.Proofs.Ytdoombcihobejaa
open Go.RowKit Vi Sl Dk
set_option linter.unusedVariables false
set_option linter.unusedSimpArgs false
structure Lq (w : World) (g : Nat) (L : List Nat) (d : St) (q : Nat) (x : Su) (W : World) : Prop where
  be : Below w.heap.size w W
  r0 : W.heap[w.heap.size]? = some (.cells su0.c 23 (0, 0))
  bx : W.heap[q]? = some (.cells x.c 23 (0, 0))
  dv : Dv W g L d
theorem Lq.below {w W W' : World} {g q : Nat} {L : List Nat} {d : St} {x : Su} (h : Lq w g L d q x W) (hb : Below W.heap.size W W') : Lq w g L d q x W' :=
  ⟨h.be.trans (hb.mono h.be.size), (hb.block _ (Array.getElem?_eq_some_iff.1 h.r0).1).trans h.r0, (hb.block _ (Array.getElem?_eq_some_iff.1 h.bx).1).trans h.bx, h.dv.below hb⟩
set_option maxHeartbeats 1000000 in
set_option maxRecDepth 100000 in
theorem loadSuper_any (g : Nat) (L : List Nat) (d : St) (w : World) (h : Dv w g L d) : Calls Try.prog 48 #[ptr g] w fun e w' => e = .returned (.tuple #[(lS d).val, .int .i64 (lSe d)]) ∧ Below w.heap.size w w' := by
  obtain ⟨W0, hW0⟩ : ∃ W0, W0 = w.alloc (.cells su0.c 23) := ⟨_, rfl⟩
  have b0 : Below w.heap.size w W0 := by rw [hW0]; exact (Below.refl _ _).alloc (Nat.le_refl _) _
  have k0 : W0.heap[w.heap.size]? = some (.cells su0.c 23 (0, 0)) := by rw [hW0]; exact heap_alloc_new w _
  have K := sread_any g L d 0 W0 (h.below b0) (by omega) (by omega)
  have hB := rdB_size d 0
  have HE : Hid (lSe d = if rdE d 0 ≠ 0 then rdE d 0 else if gO (rdB d 0) && !decide ((d.n : Int) < sec (gS (rdB d 0))) then 0 else 2) := rfl
  have HS : Hid (lS d = if lSe d = 0 then gS (rdB d 0) else su0) := rfl
  unfold rdV at K
  generalize rdB d 0 = B at *
  generalize rdG d 0 = G at *
  generalize rdK d 0 = kk at *
  generalize rdE d 0 = E at *
  have KR := Lib.hid K
  have HB0 := Lib.hid b0
  have HK0 := Lib.hid k0
  have HD := Lib.hid h
  have hz0 : (w.alloc (.cells su0.c 23)) = w.alloc (.cells #[.int .i64 0, .int .i64 0, .int .i64 0, .int .i64 0, .int .i64 0, .int .i64 0, .int .i64 0] 23) := rfl
  rw [hz0] at hW0
  have HW0 := Lib.hid hW0
  clear K b0 k0 h hz0 hW0
  by_cases he : E = 0
  · subst he
    have KS := Lib.hid (fun (W : World) => getSuper_any B W (by omega))
    obtain ⟨x, hx⟩ : ∃ x, x = gS B := ⟨_, rfl⟩
    obtain ⟨o, ho⟩ : ∃ o, o = gO B := ⟨_, rfl⟩
    rw [← hx, ← ho] at KS HE
    rw [← hx] at HS
    have HE' : Hid (lSe d = if o && !decide ((d.n : Int) < sec x) then 0 else 2) := HE.out
    clear HE hx ho hB
    unfold Su.val at *
    unfold Su.c at KS
    unfold ptr at *
    go_enter Try.func48, Try.ntmps48
    go_wp2_with fail
    rw [← HW0.out]
    refine KR.out.mono ?_
    rintro e w1 ⟨rfl, b1⟩
    have HK1 : Hid (w1.heap[w.heap.size]? = some (.cells su0.c 23 (0, 0))) := (b1.block _ (Array.getElem?_eq_some_iff.1 HK0.out).1).trans HK0.out
    have HB1 := Lib.hid (HB0.out.trans (b1.mono HB0.out.size))
    clear b1 HK0 HB0 HW0 KR
    go_wp2_with fail
    refine (KS.out _).mono ?_
    rintro e w2 ⟨rfl, b2⟩
    have hK2 : w2.heap[w.heap.size]? = some (.cells su0.c 23 (0, 0)) := (b2.block _ (Array.getElem?_eq_some_iff.1 HK1.out).1).trans HK1.out
    have hB2 := HB1.out.trans (b2.mono HB1.out.size)
    obtain ⟨V, hV⟩ : ∃ V, V = w2.alloc (.cells x.c 23) := ⟨_, rfl⟩
    have HKV : Hid (V.heap[w.heap.size]? = some (.cells su0.c 23 (0, 0))) := by show _ = _; rw [hV]; exact (Lib.alloc_old _ _ _ (Array.getElem?_eq_some_iff.1 hK2).1).trans hK2
    have HXV : Hid (V.heap[w2.heap.size]? = some (.cells x.c 23 (0, 0))) := by show _ = _; rw [hV]; exact heap_alloc_new w2 _
    have HBV : Hid (Below w.heap.size w V) := by rw [hV]; exact hB2.alloc hB2.size _
    unfold Su.c at hV
    have HV := Lib.hid hV
    clear b2 hK2 hB2 hV KS HK1 HB1
    obtain ⟨Z0, hZ0⟩ : ∃ Z, Z = V.setRow w.heap.size su0.c := ⟨_, rfl⟩
    have B0 : Hid (Below w.heap.size w Z0) := by rw [hZ0]; exact HBV.out.trans ⟨rfl, rfl, rfl, by simp, fun k hk => setRow_other _ _ _ _ (by omega)⟩
    have K0 : Hid (Z0.heap[w.heap.size]? = some (.cells su0.c 23 (0, 0))) := by show _ = _; rw [hZ0]; exact setRow_heap _ _ _ _ 23 (0, 0) HKV.out
    have HZ0 := Lib.hid hZ0
    clear hZ0
    have HKVD : Hid (V.drew.heap[w.heap.size]? = some (.cells su0.c 23 (0, 0))) := HKV.out
    cases o with
    | false =>
      have HLE : Hid (lSe d = 2) := HE'.out
      have HLS : Hid (lS d = su0) := by show _ = _; rw [HS.out, HLE.out]; rfl
      clear HE' HS
      go_upto_region 5 with fail
      rw [← HV.out]
      go_quiet (fail)
      have HKN : Hid (∀ n, (V.drewN n).heap[w.heap.size]? = some (.cells su0.c 23 (0, 0))) := fun n => HKV.out
      have HBN : Hid (∀ n, Below w.heap.size w ((V.drewN n).setRow w.heap.size su0.c)) := fun n => (HBV.out.trans ⟨rfl, rfl, rfl, Nat.le_refl _, fun _ _ => rfl⟩ : Below w.heap.size w (V.drewN n)).trans ⟨rfl, rfl, rfl, by simp, fun k hk => setRow_other _ _ _ _ (by omega)⟩
      go_wp2_with (refine wpList_store_su rfl _ _ rfl _ _ su0 su0 rfl rfl (HKN.out _) ?_; go_frame)
      exact bodyPost_ret (v := _) (res48 _ _ w.heap.size su0 rfl (setRow_heap _ _ _ _ 23 (0, 0) (HKN.out _))) rfl ⟨by rw [HLS.out, HLE.out]; rfl, HBN.out _⟩
    | true =>
      have HQV : Hid (Lq w g L d w2.heap.size x V) := ⟨HBV.out, HKV.out, HXV.out, HD.out.below HBV.out⟩
      have KM := Lib.hid (fun (W : World) => sectors_any x W)
      obtain ⟨m, hm⟩ : ∃ m, m = sec x := ⟨_, rfl⟩
      rw [← hm] at KM HE'
      unfold Su.val at KM
      unfold Su.c at KM
      obtain ⟨q, hq⟩ : ∃ q, q = w2.heap.size := ⟨_, rfl⟩
      have HQQ := Lib.hid hq
      rw [← hq] at HQV
      clear hm hq B0 K0 HZ0 HKV HXV HBV HD
      have Qd : Lq w g L d q x V.drew := HQV.out.below (Below.refl _ V).drew
      have KD : Hid (∀ W, Lq w g L d q x W → Calls Try.prog 67 #[.pointer (some ⟨g, 0, none⟩)] W fun e w' => e = .returned (.int .i64 d.n) ∧ Lq w g L d q x w') := fun W hQ => (dsec_any g L d W hQ.dv).mono fun e w' ⟨h1, h2⟩ => ⟨h1, by rw [h2]; exact hQ⟩
      have hxc := su_cells HQV.out.bx
      obtain ⟨c0, c1, c2, c3, c4, c5, c6⟩ := hxc
      have HAL : Hid (∀ W, Lq w g L d q x W → W.cell? ⟨q, 0, none⟩ = some (.int .i64 x.v) ∧ W.cell? ⟨q, 1, none⟩ = some (.int .i64 x.sn) ∧ W.cell? ⟨q, 2, none⟩ = some (.int .i64 x.lg) ∧ W.cell? ⟨q, 3, none⟩ = some (.int .i64 x.ar) ∧ W.cell? ⟨q, 4, none⟩ = some (.int .i64 x.hf) ∧ W.cell? ⟨q, 5, none⟩ = some (.int .i64 x.gl) ∧ W.cell? ⟨q, 6, none⟩ = some (.int .i64 x.sp)) := fun W hQ => su_cells hQ.bx
      go_upto_region 5 with fail
      rw [← HV.out, ← HQQ.out]
      clear HV HQQ
      go_region_held3 (fun w' => w'.cell? ⟨q, 0, none⟩ = some (.int .i64 x.v) ∧ w'.cell? ⟨q, 1, none⟩ = some (.int .i64 x.sn) ∧ w'.cell? ⟨q, 2, none⟩ = some (.int .i64 x.lg) ∧ w'.cell? ⟨q, 3, none⟩ = some (.int .i64 x.ar) ∧ w'.cell? ⟨q, 4, none⟩ = some (.int .i64 x.hf) ∧ w'.cell? ⟨q, 5, none⟩ = some (.int .i64 x.gl) ∧ w'.cell? ⟨q, 6, none⟩ = some (.int .i64 x.sp)) (first | exact ⟨c0, c1, c2, c3, c4, c5, c6⟩ | exact (HAL.out _ (by assumption))) (first
        | (go_at_call 67; (with_reducible refine (KD.out _ Qd).mono ?_); rintro e v1 ⟨rfl, Q1⟩)
        | (go_at_call 21; (with_reducible refine (KM.out _).mono ?_); rintro e v2 ⟨rfl, t2⟩; (have Q2 := Q1.below t2)))
      have HK2 := Lib.hid Q2.r0
      have HX2 := Lib.hid Q2.bx
      have HB2 : Hid (∀ t : Su, Below w.heap.size w (v2.setRow w.heap.size t.c)) := fun t => Q2.be.trans ⟨rfl, rfl, rfl, by simp, fun k hk => setRow_other _ _ _ _ (by omega)⟩
      clear c0 c1 c2 c3 c4 c5 c6 Q1 Q2 t2 HQV Qd KD KM HAL
      by_cases hlt : (d.n : Int) < m
      · have HLE : Hid (lSe d = 2) := by show _ = _; rw [HE'.out, decide_eq_true hlt]; rfl
        have HLS : Hid (lS d = su0) := by show _ = _; rw [HS.out, HLE.out]; rfl
        clear HE' HS
        go_wp2_with (refine wpList_store_su rfl _ _ rfl _ _ su0 su0 rfl rfl HK2.out ?_; go_frame)
        exact bodyPost_ret (v := _) (res48 _ _ w.heap.size su0 rfl (setRow_heap _ _ _ _ 23 (0, 0) HK2.out)) rfl ⟨by rw [HLS.out, HLE.out]; rfl, HB2.out _⟩
      · have HLE : Hid (lSe d = 0) := by show _ = _; rw [HE'.out, decide_eq_false hlt]; rfl
        have HLS : Hid (lS d = x) := by show _ = _; rw [HS.out, HLE.out]; rfl
        clear HE' HS
        go_wp2_with (first | (refine wpList_load_su rfl _ rfl _ _ x rfl HX2.out ?_; go_frame) | (refine wpList_store_su rfl _ _ rfl _ _ x su0 rfl rfl HK2.out ?_; go_frame))
        exact bodyPost_ret (v := _) (res48 _ _ w.heap.size x rfl (setRow_heap _ _ _ _ 23 (0, 0) HK2.out)) rfl ⟨by rw [HLS.out, HLE.out]; rfl, HB2.out _⟩
  · have hne : (E != 0) = true := by simpa using he
    have HLE : Hid (lSe d = E) := by show _ = _; rw [HE.out, if_pos he]
    have HLS : Hid (lS d = su0) := by show _ = _; rw [HS.out, HLE.out, if_neg he]
    obtain ⟨Z0, hZ0⟩ : ∃ (Z : World → World), Z = fun W => W.setRow w.heap.size su0.c := ⟨_, rfl⟩
    clear HE HS hB he
    unfold Su.val at *
    unfold ptr at *
    go_enter Try.func48, Try.ntmps48
    go_wp2_with fail
    rw [← HW0.out]
    refine KR.out.mono ?_
    rintro e w1 ⟨rfl, b1⟩
    have HK1 : Hid (w1.heap[w.heap.size]? = some (.cells su0.c 23 (0, 0))) := (b1.block _ (Array.getElem?_eq_some_iff.1 HK0.out).1).trans HK0.out
    have HB1 := Lib.hid (HB0.out.trans (b1.mono HB0.out.size))
    obtain ⟨Z1, hZ1⟩ : ∃ Z, Z = w1.setRow w.heap.size su0.c := ⟨_, rfl⟩
    have B1 : Hid (Below w.heap.size w Z1) := by rw [hZ1]; exact HB1.out.trans ⟨rfl, rfl, rfl, by simp, fun k hk => setRow_other _ _ _ _ (by omega)⟩
    have K1 : Hid (Z1.heap[w.heap.size]? = some (.cells su0.c 23 (0, 0))) := by show _ = _; rw [hZ1]; exact setRow_heap _ _ _ _ 23 (0, 0) HK1.out
    have HZ1 := Lib.hid hZ1
    clear b1 HK0 HB0 HW0 KR hZ1 hZ0
    go_wp2_with (refine wpList_store_su rfl _ _ rfl _ _ su0 su0 rfl rfl HK1.out ?_; refine wpList_at HZ1.out.symm ?_; go_frame)
    exact bodyPost_ret (v := _) (res48 _ _ w.heap.size su0 rfl K1.out) rfl ⟨by rw [HLS.out, HLE.out]; rfl, B1.out⟩
set_option maxHeartbeats 1000000 in
set_option maxRecDepth 100000 in
theorem loadHard_any (g : Nat) (L : List Nat) (d : St) (w : World) (h : Dv w g L d) : Calls Try.prog 49 #[ptr g] w fun e w' => e = .returned (.tuple #[(lH d).val, .int .i64 (lHe d)]) ∧ Below w.heap.size w w' := by
  obtain ⟨W0, hW0⟩ : ∃ W0, W0 = w.alloc (.cells hd0.c 26) := ⟨_, rfl⟩
  have b0 : Below w.heap.size w W0 := by rw [hW0]; exact (Below.refl _ _).alloc (Nat.le_refl _) _
  have k0 : W0.heap[w.heap.size]? = some (.cells hd0.c 26 (0, 0)) := by rw [hW0]; exact heap_alloc_new w _
  have K := sread_any g L d 2 W0 (h.below b0) (by omega) (by omega)
  have hB := rdB_size d 2
  have HE : Hid (lHe d = if rdE d 2 = 6 then 0 else if rdE d 2 ≠ 0 then rdE d 2 else if jO (rdB d 2) then 0 else 2) := rfl
  have HS : Hid (lH d = if rdE d 2 = 0 then (if jO (rdB d 2) then jH (rdB d 2) else hd0) else hd0) := rfl
  unfold rdV at K
  generalize rdB d 2 = B at *
  generalize rdG d 2 = G at *
  generalize rdK d 2 = kk at *
  generalize rdE d 2 = E at *
  have KR := Lib.hid K
  have HB0 := Lib.hid b0
  have HK0 := Lib.hid k0
  have hz0 : (w.alloc (.cells hd0.c 26)) = w.alloc (.cells #[.int .u64 0, .int .i64 0, .int .u64 0] 26) := rfl
  rw [hz0] at hW0
  have HW0 := Lib.hid hW0
  clear K b0 k0 h hz0 hW0
  by_cases he : E = 0
  · subst he
    have KS := Lib.hid (fun (W : World) => getHard_any B W (by omega))
    obtain ⟨x, hx⟩ : ∃ x, x = jH B := ⟨_, rfl⟩
    obtain ⟨o, ho⟩ : ∃ o, o = jO B := ⟨_, rfl⟩
    obtain ⟨jv, hjv⟩ : ∃ o, o = jV B := ⟨_, rfl⟩
    rw [← hx, ← ho, ← hjv] at KS
    rw [← ho] at HE
    rw [← hx, ← ho] at HS
    have HE' : Hid (lHe d = if o then 0 else 2) := HE.out
    have HS' : Hid (lH d = if o then x else hd0) := HS.out
    clear HE HS hx ho hB hjv
    unfold Hd.val at *
    unfold Hd.c at KS
    unfold ptr at *
    go_enter Try.func49, Try.ntmps49
    go_wp2_with fail
    rw [← HW0.out]
    refine KR.out.mono ?_
    rintro e w1 ⟨rfl, b1⟩
    have HK1 : Hid (w1.heap[w.heap.size]? = some (.cells hd0.c 26 (0, 0))) := (b1.block _ (Array.getElem?_eq_some_iff.1 HK0.out).1).trans HK0.out
    have HB1 := Lib.hid (HB0.out.trans (b1.mono HB0.out.size))
    clear b1 HK0 HB0 HW0 KR
    go_wp2_with fail
    refine (KS.out _).mono ?_
    rintro e w2 ⟨rfl, b2⟩
    have hK2 : w2.heap[w.heap.size]? = some (.cells hd0.c 26 (0, 0)) := (b2.block _ (Array.getElem?_eq_some_iff.1 HK1.out).1).trans HK1.out
    have hB2 := HB1.out.trans (b2.mono HB1.out.size)
    have HX2 : Hid ((w2.alloc (.cells #[.int .u64 (x.tm : Nat), .int .i64 x.vo, .int .u64 (x.cm : Nat)] 26)).heap[w2.heap.size]? = some (.cells x.c 26 (0, 0))) := heap_alloc_new w2 _
    have HK2 : Hid ((w2.alloc (.cells #[.int .u64 (x.tm : Nat), .int .i64 x.vo, .int .u64 (x.cm : Nat)] 26)).heap[w.heap.size]? = some (.cells hd0.c 26 (0, 0))) := (Lib.alloc_old _ _ _ (Array.getElem?_eq_some_iff.1 hK2).1).trans hK2
    have HB2 : Hid (∀ t : Hd, Below w.heap.size w ((w2.alloc (.cells #[.int .u64 (x.tm : Nat), .int .i64 x.vo, .int .u64 (x.cm : Nat)] 26)).setRow w.heap.size t.c)) := fun t => (hB2.alloc hB2.size _).trans ⟨rfl, rfl, rfl, by simp, fun k hk => setRow_other _ _ _ _ (by omega)⟩
    clear b2 hK2 hB2 KS HK1 HB1
    cases o with
    | false =>
      have HLE : Hid (lHe d = 2) := HE'.out
      have HLS : Hid (lH d = hd0) := HS'.out
      clear HE' HS'
      go_wp2_with (refine wpList_store_hd rfl _ _ rfl _ _ hd0 hd0 rfl rfl HK2.out ?_; go_frame)
      exact bodyPost_ret (v := _) (res49 _ _ w.heap.size hd0 rfl (setRow_heap _ _ _ _ 26 (0, 0) HK2.out)) rfl ⟨by rw [HLS.out, HLE.out]; rfl, HB2.out _⟩
    | true =>
      have HLE : Hid (lHe d = 0) := HE'.out
      have HLS : Hid (lH d = x) := HS'.out
      clear HE' HS'
      go_wp2_with (first | (refine wpList_load_hd rfl _ rfl _ _ x rfl HX2.out ?_; go_frame) | (refine wpList_store_hd rfl _ _ rfl _ _ x hd0 rfl rfl HK2.out ?_; go_frame))
      exact bodyPost_ret (v := _) (res49 _ _ w.heap.size x rfl (setRow_heap _ _ _ _ 26 (0, 0) HK2.out)) rfl ⟨by rw [HLS.out, HLE.out]; rfl, HB2.out _⟩
  · have HLS : Hid (lH d = hd0) := by show _ = _; rw [HS.out, if_neg he]
    have HLE : Hid (lHe d = if E = 6 then 0 else E) := by show _ = _; rw [HE.out, if_pos he]
    have HEE := Lib.hid he
    clear HE HS hB he
    unfold Hd.val at *
    unfold ptr at *
    by_cases h6 : E = 6
    · subst h6
      go_enter Try.func49, Try.ntmps49
      go_wp2_with fail
      rw [← HW0.out]
      refine KR.out.mono ?_
      rintro e w1 ⟨rfl, b1⟩
      have HK1 : Hid (w1.heap[w.heap.size]? = some (.cells hd0.c 26 (0, 0))) := (b1.block _ (Array.getElem?_eq_some_iff.1 HK0.out).1).trans HK0.out
      have HB1 : Hid (Below w.heap.size w (w1.setRow w.heap.size hd0.c)) := (HB0.out.trans (b1.mono HB0.out.size)).trans ⟨rfl, rfl, rfl, by simp, fun k hk => setRow_other _ _ _ _ (by omega)⟩
      clear b1 HK0 HB0 HW0 KR
      go_wp2_with (refine wpList_store_hd rfl _ _ rfl _ _ hd0 hd0 rfl rfl HK1.out ?_; go_frame)
      exact bodyPost_ret (v := _) (res49 _ _ w.heap.size hd0 rfl (setRow_heap _ _ _ _ 26 (0, 0) HK1.out)) rfl ⟨by rw [HLS.out, HLE.out]; rfl, HB1.out⟩
    · have hne : (E != 0) = true := by simpa using HEE.out
      have hn6 : (E == 6) = false := by simpa using h6
      have HLE6 : Hid (lHe d = E) := by show _ = _; rw [HLE.out, if_neg h6]
      clear h6 HLE
      go_enter Try.func49, Try.ntmps49
      go_wp2_with fail
      rw [← HW0.out]
      refine KR.out.mono ?_
      rintro e w1 ⟨rfl, b1⟩
      have HK1 : Hid (w1.heap[w.heap.size]? = some (.cells hd0.c 26 (0, 0))) := (b1.block _ (Array.getElem?_eq_some_iff.1 HK0.out).1).trans HK0.out
      have HB1 : Hid (Below w.heap.size w (w1.setRow w.heap.size hd0.c)) := (HB0.out.trans (b1.mono HB0.out.size)).trans ⟨rfl, rfl, rfl, by simp, fun k hk => setRow_other _ _ _ _ (by omega)⟩
      clear b1 HK0 HB0 HW0 KR
      go_wp2_with (refine wpList_store_hd rfl _ _ rfl _ _ hd0 hd0 rfl rfl HK1.out ?_; go_frame)
      exact bodyPost_ret (v := _) (res49 _ _ w.heap.size hd0 rfl (setRow_heap _ _ _ _ 26 (0, 0) HK1.out)) rfl ⟨by rw [HLS.out, HLE6.out]; rfl, HB1.out⟩
end Go.Proofs.Ytdoombcihobejaa
