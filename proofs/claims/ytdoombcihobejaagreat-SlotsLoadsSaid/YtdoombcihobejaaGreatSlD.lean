/-
  Set and loaded on a device; the document on its own device; both in memory.
  Conditions: named in each theorem.
-/
import Derived.Test.YtdoombcihobejaaGreatSlA
import Derived.Test.YtdoombcihobejaaGreatSL
import Derived.Deep.RegionHeld3
import Derived.Deep.QuietTactic
import Derived.BigQuiet
import Derived.StillTailTactics
import Derived.Deep.CutRange
import Derived.Test.YtdoombcihobejaaGreatSlR
import Derived.Test.YtdoombcihobejaaGreatSX
import Derived.Test.YtdoombcihobejaaGreatST
import Derived.Test.YtdoombcihobejaaGreatIm
import Derived.Test.YtdoombcihobejaaGreatRq
namespace Go.Proofs.YtdoombcihobejaaGreat
open Go.RowKit Vi Sl Dk
set_option linter.unusedVariables false
set_option linter.unusedSimpArgs false
def setS (d : St) (s : Su) : St × Int := if rgt s then wr d 0 (supB s) else (d, 1)
def setH (d : St) (v : Int) (h : Hd) : St × Int := if hO v h then wr d 2 (hB v h) else (d, 1)
def lSe (d : St) : Int := if rdE d 0 ≠ 0 then rdE d 0 else if gO (rdB d 0) && !decide ((d.n : Int) < sec (gS (rdB d 0))) then 0 else 2
def lS (d : St) : Su := if lSe d = 0 then gS (rdB d 0) else su0
def lHe (d : St) : Int := if rdE d 2 = 6 then 0 else if rdE d 2 ≠ 0 then rdE d 2 else if jO (rdB d 2) then 0 else 2
def lH (d : St) : Hd := if rdE d 2 = 0 then (if jO (rdB d 2) then jH (rdB d 2) else hd0) else hd0
def ldE (d : St) : Int := if lSe d ≠ 0 then lSe d else lHe d
def ldS (d : St) : Su := if ldE d = 0 then lS d else su0
def ldH (d : St) : Hd := if ldE d = 0 then lH d else hd0
theorem setSuper_any (g : Nat) (L : List Nat) (d : St) (s : Su) (w : World) (h : Dv w g L d) : Calls Tryz.prog 18 #[ptr g, s.val] w fun e w' => e = .returned (.int .i64 (setS d s).2) ∧ Moves g L (setS d s).1 w w' := by
  have hb := sbx_below w s
  obtain ⟨W, hW⟩ : ∃ W, W = sbx w s := ⟨_, rfl⟩
  rw [← hW] at hb
  have hD : Dv W g L d := h.below hb
  have K := Lib.hid (fun (W : World) => putSuper_any s W)
  have KW := Lib.hid (fun (W : World) (h : Dv W g L d) => swrite_any g L d 0 (supB s) W h (by omega) (by omega))
  have HS : Hid (setS d s = if rgt s then wr d 0 (supB s) else (d, 1)) := rfl
  have HP : Hid (supS s = if rgt s then supB s else ⟨#[]⟩) := rfl
  obtain ⟨r, hr⟩ : ∃ r, r = rgt s := ⟨_, rfl⟩
  rw [← hr] at K HS HP
  have HD0 := Lib.hid h
  have HD := Lib.hid hD
  have HB := Lib.hid hb
  have HW := Lib.hid hW
  clear hr hb hD hW h
  unfold sbx Su.val at *
  unfold Su.c at HW K ⊢
  cases r with
  | false =>
    have hp : supS s = ⟨#[]⟩ := HP.out
    rw [hp] at K
    have hs : Hid (setS d s = (d, 1)) := HS.out
    clear hp HS HP KW
    unfold ptr at *
    go_enter Tryz.func18, Tryz.ntmps18
    go_wp2_with fail
    rw [← HW.out]
    refine (K.out _).mono ?_
    rintro e w1 ⟨rfl, b1⟩
    have HB1 := Lib.hid (HB.out.trans (b1.mono HB.out.size))
    clear b1 HB HW K HD
    go_wp2
    go_ret
    rw [hs.out]
    exact ⟨rfl, Moves.same HD0.out (Keep.of_below HB1.out) (HD0.out.below HB1.out)⟩
  | true =>
    have hp : supS s = supB s := HP.out
    rw [hp] at K
    have hs : Hid (setS d s = wr d 0 (supB s)) := HS.out
    clear hp HS HP
    generalize supB s = p at *
    unfold ptr at *
    go_enter Tryz.func18, Tryz.ntmps18
    go_wp2_with fail
    rw [← HW.out]
    refine (K.out _).mono ?_
    rintro e w1 ⟨rfl, b1⟩
    have HB1 := Lib.hid (HB.out.trans (b1.mono HB.out.size))
    have HD1 := Lib.hid (HD0.out.below HB1.out)
    clear b1 HB HW K HD
    go_wp2_with fail
    refine (KW.out _ HD1.out).mono ?_
    rintro e w2 ⟨rfl, M2⟩
    have HM := Lib.hid (Dk.Moves.after HB1.out M2)
    clear M2 KW HD1
    go_wp2
    go_ret
    rw [hs.out]
    exact ⟨rfl, HM.out⟩
theorem setHard_any (g : Nat) (L : List Nat) (d : St) (v : Int) (hh : Hd) (w : World) (h : Dv w g L d) (ho : hh.Ok) : Calls Tryz.prog 20 #[ptr g, .int .i64 v, hh.val] w fun e w' => e = .returned (.int .i64 (setH d v hh).2) ∧ Moves g L (setH d v hh).1 w w' := by
  have hb := hbx_below w hh
  obtain ⟨W, hW⟩ : ∃ W, W = hbx w hh := ⟨_, rfl⟩
  rw [← hW] at hb
  have hD : Dv W g L d := h.below hb
  have K := Lib.hid (fun (W : World) => putHard_any v hh W ho)
  have KW := Lib.hid (fun (W : World) (h : Dv W g L d) => swrite_any g L d 2 (hB v hh) W h (by omega) (by omega))
  have HS : Hid (setH d v hh = if hO v hh then wr d 2 (hB v hh) else (d, 1)) := rfl
  have HP : Hid (hS v hh = if hO v hh then hB v hh else ⟨#[]⟩) := rfl
  obtain ⟨r, hr⟩ : ∃ r, r = hO v hh := ⟨_, rfl⟩
  rw [← hr] at K HS HP
  have HD0 := Lib.hid h
  have HD := Lib.hid hD
  have HB := Lib.hid hb
  have HW := Lib.hid hW
  clear hr hb hD hW h ho
  unfold hbx Hd.val at *
  unfold Hd.c at HW K ⊢
  cases r with
  | false =>
    have hp : hS v hh = ⟨#[]⟩ := HP.out
    rw [hp] at K
    have hs : Hid (setH d v hh = (d, 1)) := HS.out
    clear hp HS HP KW
    unfold ptr at *
    go_enter Tryz.func20, Tryz.ntmps20
    go_wp2_with fail
    rw [← HW.out]
    refine (K.out _).mono ?_
    rintro e w1 ⟨rfl, b1⟩
    have HB1 := Lib.hid (HB.out.trans (b1.mono HB.out.size))
    clear b1 HB HW K HD
    go_wp2
    go_ret
    rw [hs.out]
    exact ⟨rfl, Moves.same HD0.out (Keep.of_below HB1.out) (HD0.out.below HB1.out)⟩
  | true =>
    have hp : hS v hh = hB v hh := HP.out
    rw [hp] at K
    have hs : Hid (setH d v hh = wr d 2 (hB v hh)) := HS.out
    clear hp HS HP
    generalize hB v hh = p at *
    unfold ptr at *
    go_enter Tryz.func20, Tryz.ntmps20
    go_wp2_with fail
    rw [← HW.out]
    refine (K.out _).mono ?_
    rintro e w1 ⟨rfl, b1⟩
    have HB1 := Lib.hid (HB.out.trans (b1.mono HB.out.size))
    have HD1 := Lib.hid (HD0.out.below HB1.out)
    clear b1 HB HW K HD
    go_wp2_with fail
    refine (KW.out _ HD1.out).mono ?_
    rintro e w2 ⟨rfl, M2⟩
    have HM := Lib.hid (Dk.Moves.after HB1.out M2)
    clear M2 KW HD1
    go_wp2
    go_ret
    rw [hs.out]
    exact ⟨rfl, HM.out⟩
theorem dsec_any (g : Nat) (L : List Nat) (d : St) (w : World) (h : Dv w g L d) : Calls Tryz.prog 74 #[ptr g] w fun e w' => e = .returned (.int .i64 d.n) ∧ w' = w := by
  obtain ⟨_, fb, mb, cap, _, hd⟩ := h
  have c0 := hd.c0
  clear hd
  unfold ptr
  go_enter Tryz.func74, Tryz.ntmps74
  go_wp2
  go_ret
  exact ⟨rfl, rfl⟩
theorem res48 (tmps : Array Value) (w : World) (p : Nat) (s : Su) (hp : tmps.getD 2 undef = .pointer (some ⟨p, 0, none⟩)) (hg : w.heap[p]? = some (.cells s.c 23 (0, 0))) :
    (results Tryz.f40 tmps).run Tryz.prog w = .ok (.tuple #[.agg s.c, tmps.getD 3 undef]) w := by
  rw [results_cell_tmp Tryz.results40, hp]
  simp [asAddr, run_loadVar_row w p 23 23 s.c (0, 0) _ hg Tryz.underlying23 rfl Tryz.su7]
theorem res49 (tmps : Array Value) (w : World) (p : Nat) (s : Hd) (hp : tmps.getD 2 undef = .pointer (some ⟨p, 0, none⟩)) (hg : w.heap[p]? = some (.cells s.c 26 (0, 0))) :
    (results Tryz.f41 tmps).run Tryz.prog w = .ok (.tuple #[.agg s.c, tmps.getD 3 undef]) w := by
  rw [results_cell_tmp Tryz.results41, hp]
  simp [asAddr, run_loadVar_row w p 26 26 s.c (0, 0) _ hg Tryz.underlying26 rfl Tryz.hd3]
theorem rdB_size (d : St) (a : Int) : (rdB d a).size ≤ 51 := by
  unfold rdB
  split
  · split
    · exact Sp.getB_size _
    · exact Sp.getB_size _
  · show 0 ≤ 51; omega
end Go.Proofs.YtdoombcihobejaaGreat
namespace Go.Proofs.YtdoombcihobejaaGreat
open Go.RowKit Vi Sl Dk
set_option linter.unusedVariables false
set_option linter.unusedSimpArgs false
structure Lq (w : World) (g : Nat) (L : List Nat) (d : St) (q : Nat) (x : Su) (W : World) : Prop where
  be : Below w.heap.size w W
  r0 : W.heap[w.heap.size]? = some (.cells su0.c 23 (0, 0))
  bx : W.heap[q]? = some (.cells x.c 23 (0, 0))
  dv : Dv W g L d
theorem Lq.below {w W W' : World} {g q : Nat} {L : List Nat} {d : St} {x : Su} (h : Lq w g L d q x W) (hb : Below W.heap.size W W') : Lq w g L d q x W' :=
  ⟨h.be.trans (hb.mono h.be.size), (hb.block _ (Array.getElem?_eq_some_iff.1 h.r0).1).trans h.r0, (hb.block _ (Array.getElem?_eq_some_iff.1 h.bx).1).trans h.bx, h.dv.below hb⟩
set_option maxHeartbeats 1000000 in
set_option maxRecDepth 100000 in
theorem loadSuper_any (g : Nat) (L : List Nat) (d : St) (w : World) (h : Dv w g L d) : Calls Tryz.prog 40 #[ptr g] w fun e w' => e = .returned (.tuple #[(lS d).val, .int .i64 (lSe d)]) ∧ Below w.heap.size w w' := by
  obtain ⟨W0, hW0⟩ : ∃ W0, W0 = w.alloc (.cells su0.c 23) := ⟨_, rfl⟩
  have b0 : Below w.heap.size w W0 := by rw [hW0]; exact (Below.refl _ _).alloc (Nat.le_refl _) _
  have k0 : W0.heap[w.heap.size]? = some (.cells su0.c 23 (0, 0)) := by rw [hW0]; exact heap_alloc_new w _
  have K := sread_any g L d 0 W0 (h.below b0) (by omega) (by omega)
  have hB := rdB_size d 0
  have HE : Hid (lSe d = if rdE d 0 ≠ 0 then rdE d 0 else if gO (rdB d 0) && !decide ((d.n : Int) < sec (gS (rdB d 0))) then 0 else 2) := rfl
  have HS : Hid (lS d = if lSe d = 0 then gS (rdB d 0) else su0) := rfl
  unfold rdV at K
  generalize rdB d 0 = B at *
  generalize rdG d 0 = G at *
  generalize rdK d 0 = kk at *
  generalize rdE d 0 = E at *
  have KR := Lib.hid K
  have HB0 := Lib.hid b0
  have HK0 := Lib.hid k0
  have HD := Lib.hid h
  have hz0 : (w.alloc (.cells su0.c 23)) = w.alloc (.cells #[.int .i64 0, .int .i64 0, .int .i64 0, .int .i64 0, .int .i64 0, .int .i64 0, .int .i64 0] 23) := rfl
  rw [hz0] at hW0
  have HW0 := Lib.hid hW0
  clear K b0 k0 h hz0 hW0
  by_cases he : E = 0
  · subst he
    have KS := Lib.hid (fun (W : World) => getSuper_any B W (by omega))
    obtain ⟨x, hx⟩ : ∃ x, x = gS B := ⟨_, rfl⟩
    obtain ⟨o, ho⟩ : ∃ o, o = gO B := ⟨_, rfl⟩
    rw [← hx, ← ho] at KS HE
    rw [← hx] at HS
    have HE' : Hid (lSe d = if o && !decide ((d.n : Int) < sec x) then 0 else 2) := HE.out
    clear HE hx ho hB
    unfold Su.val at *
    unfold Su.c at KS
    unfold ptr at *
    go_enter Tryz.func40, Tryz.ntmps40
    go_wp2_with fail
    rw [← HW0.out]
    refine KR.out.mono ?_
    rintro e w1 ⟨rfl, b1⟩
    have HK1 : Hid (w1.heap[w.heap.size]? = some (.cells su0.c 23 (0, 0))) := (b1.block _ (Array.getElem?_eq_some_iff.1 HK0.out).1).trans HK0.out
    have HB1 := Lib.hid (HB0.out.trans (b1.mono HB0.out.size))
    clear b1 HK0 HB0 HW0 KR
    go_wp2_with fail
    refine (KS.out _).mono ?_
    rintro e w2 ⟨rfl, b2⟩
    have hK2 : w2.heap[w.heap.size]? = some (.cells su0.c 23 (0, 0)) := (b2.block _ (Array.getElem?_eq_some_iff.1 HK1.out).1).trans HK1.out
    have hB2 := HB1.out.trans (b2.mono HB1.out.size)
    obtain ⟨V, hV⟩ : ∃ V, V = w2.alloc (.cells x.c 23) := ⟨_, rfl⟩
    have HKV : Hid (V.heap[w.heap.size]? = some (.cells su0.c 23 (0, 0))) := by show _ = _; rw [hV]; exact (Lib.alloc_old _ _ _ (Array.getElem?_eq_some_iff.1 hK2).1).trans hK2
    have HXV : Hid (V.heap[w2.heap.size]? = some (.cells x.c 23 (0, 0))) := by show _ = _; rw [hV]; exact heap_alloc_new w2 _
    have HBV : Hid (Below w.heap.size w V) := by rw [hV]; exact hB2.alloc hB2.size _
    unfold Su.c at hV
    have HV := Lib.hid hV
    clear b2 hK2 hB2 hV KS HK1 HB1
    obtain ⟨Z0, hZ0⟩ : ∃ Z, Z = V.setRow w.heap.size su0.c := ⟨_, rfl⟩
    have B0 : Hid (Below w.heap.size w Z0) := by rw [hZ0]; exact HBV.out.trans ⟨rfl, rfl, rfl, by simp, fun k hk => setRow_other _ _ _ _ (by omega)⟩
    have K0 : Hid (Z0.heap[w.heap.size]? = some (.cells su0.c 23 (0, 0))) := by show _ = _; rw [hZ0]; exact setRow_heap _ _ _ _ 23 (0, 0) HKV.out
    have HZ0 := Lib.hid hZ0
    clear hZ0
    have HKVD : Hid (V.drew.heap[w.heap.size]? = some (.cells su0.c 23 (0, 0))) := HKV.out
    cases o with
    | false =>
      have HLE : Hid (lSe d = 2) := HE'.out
      have HLS : Hid (lS d = su0) := by show _ = _; rw [HS.out, HLE.out]; rfl
      clear HE' HS
      go_upto_region 5 with fail
      rw [← HV.out]
      go_quiet (fail)
      have HKN : Hid (∀ n, (V.drewN n).heap[w.heap.size]? = some (.cells su0.c 23 (0, 0))) := fun n => HKV.out
      have HBN : Hid (∀ n, Below w.heap.size w ((V.drewN n).setRow w.heap.size su0.c)) := fun n => (HBV.out.trans ⟨rfl, rfl, rfl, Nat.le_refl _, fun _ _ => rfl⟩ : Below w.heap.size w (V.drewN n)).trans ⟨rfl, rfl, rfl, by simp, fun k hk => setRow_other _ _ _ _ (by omega)⟩
      go_wp2_with (refine wpList_store_su rfl _ _ rfl _ _ su0 su0 rfl rfl (HKN.out _) ?_; go_frame)
      exact bodyPost_ret (v := _) (res48 _ _ w.heap.size su0 rfl (setRow_heap _ _ _ _ 23 (0, 0) (HKN.out _))) rfl ⟨by rw [HLS.out, HLE.out]; rfl, HBN.out _⟩
    | true =>
      have HQV : Hid (Lq w g L d w2.heap.size x V) := ⟨HBV.out, HKV.out, HXV.out, HD.out.below HBV.out⟩
      have KM := Lib.hid (fun (W : World) => sectors_any x W)
      obtain ⟨m, hm⟩ : ∃ m, m = sec x := ⟨_, rfl⟩
      rw [← hm] at KM HE'
      unfold Su.val at KM
      unfold Su.c at KM
      obtain ⟨q, hq⟩ : ∃ q, q = w2.heap.size := ⟨_, rfl⟩
      have HQQ := Lib.hid hq
      rw [← hq] at HQV
      clear hm hq B0 K0 HZ0 HKV HXV HBV HD
      have Qd : Lq w g L d q x V.drew := HQV.out.below (Below.refl _ V).drew
      have KD : Hid (∀ W, Lq w g L d q x W → Calls Tryz.prog 74 #[.pointer (some ⟨g, 0, none⟩)] W fun e w' => e = .returned (.int .i64 d.n) ∧ Lq w g L d q x w') := fun W hQ => (dsec_any g L d W hQ.dv).mono fun e w' ⟨h1, h2⟩ => ⟨h1, by rw [h2]; exact hQ⟩
      have hxc := su_cells HQV.out.bx
      obtain ⟨c0, c1, c2, c3, c4, c5, c6⟩ := hxc
      have HAL : Hid (∀ W, Lq w g L d q x W → W.cell? ⟨q, 0, none⟩ = some (.int .i64 x.v) ∧ W.cell? ⟨q, 1, none⟩ = some (.int .i64 x.sn) ∧ W.cell? ⟨q, 2, none⟩ = some (.int .i64 x.lg) ∧ W.cell? ⟨q, 3, none⟩ = some (.int .i64 x.ar) ∧ W.cell? ⟨q, 4, none⟩ = some (.int .i64 x.hf) ∧ W.cell? ⟨q, 5, none⟩ = some (.int .i64 x.gl) ∧ W.cell? ⟨q, 6, none⟩ = some (.int .i64 x.sp)) := fun W hQ => su_cells hQ.bx
      go_upto_region 5 with fail
      rw [← HV.out, ← HQQ.out]
      clear HV HQQ
      go_region_held3 (fun w' => w'.cell? ⟨q, 0, none⟩ = some (.int .i64 x.v) ∧ w'.cell? ⟨q, 1, none⟩ = some (.int .i64 x.sn) ∧ w'.cell? ⟨q, 2, none⟩ = some (.int .i64 x.lg) ∧ w'.cell? ⟨q, 3, none⟩ = some (.int .i64 x.ar) ∧ w'.cell? ⟨q, 4, none⟩ = some (.int .i64 x.hf) ∧ w'.cell? ⟨q, 5, none⟩ = some (.int .i64 x.gl) ∧ w'.cell? ⟨q, 6, none⟩ = some (.int .i64 x.sp)) (first | exact ⟨c0, c1, c2, c3, c4, c5, c6⟩ | exact (HAL.out _ (by assumption))) (first
        | (go_at_call 74; (with_reducible refine (KD.out _ Qd).mono ?_); rintro e v1 ⟨rfl, Q1⟩)
        | (go_at_call 27; (with_reducible refine (KM.out _).mono ?_); rintro e v2 ⟨rfl, t2⟩; (have Q2 := Q1.below t2)))
      have HK2 := Lib.hid Q2.r0
      have HX2 := Lib.hid Q2.bx
      have HB2 : Hid (∀ t : Su, Below w.heap.size w (v2.setRow w.heap.size t.c)) := fun t => Q2.be.trans ⟨rfl, rfl, rfl, by simp, fun k hk => setRow_other _ _ _ _ (by omega)⟩
      clear c0 c1 c2 c3 c4 c5 c6 Q1 Q2 t2 HQV Qd KD KM HAL
      by_cases hlt : (d.n : Int) < m
      · have HLE : Hid (lSe d = 2) := by show _ = _; rw [HE'.out, decide_eq_true hlt]; rfl
        have HLS : Hid (lS d = su0) := by show _ = _; rw [HS.out, HLE.out]; rfl
        clear HE' HS
        go_wp2_with (refine wpList_store_su rfl _ _ rfl _ _ su0 su0 rfl rfl HK2.out ?_; go_frame)
        exact bodyPost_ret (v := _) (res48 _ _ w.heap.size su0 rfl (setRow_heap _ _ _ _ 23 (0, 0) HK2.out)) rfl ⟨by rw [HLS.out, HLE.out]; rfl, HB2.out _⟩
      · have HLE : Hid (lSe d = 0) := by show _ = _; rw [HE'.out, decide_eq_false hlt]; rfl
        have HLS : Hid (lS d = x) := by show _ = _; rw [HS.out, HLE.out]; rfl
        clear HE' HS
        go_wp2_with (first | (refine wpList_load_su rfl _ rfl _ _ x rfl HX2.out ?_; go_frame) | (refine wpList_store_su rfl _ _ rfl _ _ x su0 rfl rfl HK2.out ?_; go_frame))
        exact bodyPost_ret (v := _) (res48 _ _ w.heap.size x rfl (setRow_heap _ _ _ _ 23 (0, 0) HK2.out)) rfl ⟨by rw [HLS.out, HLE.out]; rfl, HB2.out _⟩
  · have hne : (E != 0) = true := by simpa using he
    have HLE : Hid (lSe d = E) := by show _ = _; rw [HE.out, if_pos he]
    have HLS : Hid (lS d = su0) := by show _ = _; rw [HS.out, HLE.out, if_neg he]
    obtain ⟨Z0, hZ0⟩ : ∃ (Z : World → World), Z = fun W => W.setRow w.heap.size su0.c := ⟨_, rfl⟩
    clear HE HS hB he
    unfold Su.val at *
    unfold ptr at *
    go_enter Tryz.func40, Tryz.ntmps40
    go_wp2_with fail
    rw [← HW0.out]
    refine KR.out.mono ?_
    rintro e w1 ⟨rfl, b1⟩
    have HK1 : Hid (w1.heap[w.heap.size]? = some (.cells su0.c 23 (0, 0))) := (b1.block _ (Array.getElem?_eq_some_iff.1 HK0.out).1).trans HK0.out
    have HB1 := Lib.hid (HB0.out.trans (b1.mono HB0.out.size))
    obtain ⟨Z1, hZ1⟩ : ∃ Z, Z = w1.setRow w.heap.size su0.c := ⟨_, rfl⟩
    have B1 : Hid (Below w.heap.size w Z1) := by rw [hZ1]; exact HB1.out.trans ⟨rfl, rfl, rfl, by simp, fun k hk => setRow_other _ _ _ _ (by omega)⟩
    have K1 : Hid (Z1.heap[w.heap.size]? = some (.cells su0.c 23 (0, 0))) := by show _ = _; rw [hZ1]; exact setRow_heap _ _ _ _ 23 (0, 0) HK1.out
    have HZ1 := Lib.hid hZ1
    clear b1 HK0 HB0 HW0 KR hZ1 hZ0
    go_wp2_with (refine wpList_store_su rfl _ _ rfl _ _ su0 su0 rfl rfl HK1.out ?_; refine wpList_at HZ1.out.symm ?_; go_frame)
    exact bodyPost_ret (v := _) (res48 _ _ w.heap.size su0 rfl K1.out) rfl ⟨by rw [HLS.out, HLE.out]; rfl, B1.out⟩
set_option maxHeartbeats 1000000 in
set_option maxRecDepth 100000 in
theorem loadHard_any (g : Nat) (L : List Nat) (d : St) (w : World) (h : Dv w g L d) : Calls Tryz.prog 41 #[ptr g] w fun e w' => e = .returned (.tuple #[(lH d).val, .int .i64 (lHe d)]) ∧ Below w.heap.size w w' := by
  obtain ⟨W0, hW0⟩ : ∃ W0, W0 = w.alloc (.cells hd0.c 26) := ⟨_, rfl⟩
  have b0 : Below w.heap.size w W0 := by rw [hW0]; exact (Below.refl _ _).alloc (Nat.le_refl _) _
  have k0 : W0.heap[w.heap.size]? = some (.cells hd0.c 26 (0, 0)) := by rw [hW0]; exact heap_alloc_new w _
  have K := sread_any g L d 2 W0 (h.below b0) (by omega) (by omega)
  have hB := rdB_size d 2
  have HE : Hid (lHe d = if rdE d 2 = 6 then 0 else if rdE d 2 ≠ 0 then rdE d 2 else if jO (rdB d 2) then 0 else 2) := rfl
  have HS : Hid (lH d = if rdE d 2 = 0 then (if jO (rdB d 2) then jH (rdB d 2) else hd0) else hd0) := rfl
  unfold rdV at K
  generalize rdB d 2 = B at *
  generalize rdG d 2 = G at *
  generalize rdK d 2 = kk at *
  generalize rdE d 2 = E at *
  have KR := Lib.hid K
  have HB0 := Lib.hid b0
  have HK0 := Lib.hid k0
  have hz0 : (w.alloc (.cells hd0.c 26)) = w.alloc (.cells #[.int .u64 0, .int .i64 0, .int .u64 0] 26) := rfl
  rw [hz0] at hW0
  have HW0 := Lib.hid hW0
  clear K b0 k0 h hz0 hW0
  by_cases he : E = 0
  · subst he
    have KS := Lib.hid (fun (W : World) => getHard_any B W (by omega))
    obtain ⟨x, hx⟩ : ∃ x, x = jH B := ⟨_, rfl⟩
    obtain ⟨o, ho⟩ : ∃ o, o = jO B := ⟨_, rfl⟩
    obtain ⟨jv, hjv⟩ : ∃ o, o = jV B := ⟨_, rfl⟩
    rw [← hx, ← ho, ← hjv] at KS
    rw [← ho] at HE
    rw [← hx, ← ho] at HS
    have HE' : Hid (lHe d = if o then 0 else 2) := HE.out
    have HS' : Hid (lH d = if o then x else hd0) := HS.out
    clear HE HS hx ho hB hjv
    unfold Hd.val at *
    unfold Hd.c at KS
    unfold ptr at *
    go_enter Tryz.func41, Tryz.ntmps41
    go_wp2_with fail
    rw [← HW0.out]
    refine KR.out.mono ?_
    rintro e w1 ⟨rfl, b1⟩
    have HK1 : Hid (w1.heap[w.heap.size]? = some (.cells hd0.c 26 (0, 0))) := (b1.block _ (Array.getElem?_eq_some_iff.1 HK0.out).1).trans HK0.out
    have HB1 := Lib.hid (HB0.out.trans (b1.mono HB0.out.size))
    clear b1 HK0 HB0 HW0 KR
    go_wp2_with fail
    refine (KS.out _).mono ?_
    rintro e w2 ⟨rfl, b2⟩
    have hK2 : w2.heap[w.heap.size]? = some (.cells hd0.c 26 (0, 0)) := (b2.block _ (Array.getElem?_eq_some_iff.1 HK1.out).1).trans HK1.out
    have hB2 := HB1.out.trans (b2.mono HB1.out.size)
    have HX2 : Hid ((w2.alloc (.cells #[.int .u64 (x.tm : Nat), .int .i64 x.vo, .int .u64 (x.cm : Nat)] 26)).heap[w2.heap.size]? = some (.cells x.c 26 (0, 0))) := heap_alloc_new w2 _
    have HK2 : Hid ((w2.alloc (.cells #[.int .u64 (x.tm : Nat), .int .i64 x.vo, .int .u64 (x.cm : Nat)] 26)).heap[w.heap.size]? = some (.cells hd0.c 26 (0, 0))) := (Lib.alloc_old _ _ _ (Array.getElem?_eq_some_iff.1 hK2).1).trans hK2
    have HB2 : Hid (∀ t : Hd, Below w.heap.size w ((w2.alloc (.cells #[.int .u64 (x.tm : Nat), .int .i64 x.vo, .int .u64 (x.cm : Nat)] 26)).setRow w.heap.size t.c)) := fun t => (hB2.alloc hB2.size _).trans ⟨rfl, rfl, rfl, by simp, fun k hk => setRow_other _ _ _ _ (by omega)⟩
    clear b2 hK2 hB2 KS HK1 HB1
    cases o with
    | false =>
      have HLE : Hid (lHe d = 2) := HE'.out
      have HLS : Hid (lH d = hd0) := HS'.out
      clear HE' HS'
      go_wp2_with (refine wpList_store_hd rfl _ _ rfl _ _ hd0 hd0 rfl rfl HK2.out ?_; go_frame)
      exact bodyPost_ret (v := _) (res49 _ _ w.heap.size hd0 rfl (setRow_heap _ _ _ _ 26 (0, 0) HK2.out)) rfl ⟨by rw [HLS.out, HLE.out]; rfl, HB2.out _⟩
    | true =>
      have HLE : Hid (lHe d = 0) := HE'.out
      have HLS : Hid (lH d = x) := HS'.out
      clear HE' HS'
      go_wp2_with (first | (refine wpList_load_hd rfl _ rfl _ _ x rfl HX2.out ?_; go_frame) | (refine wpList_store_hd rfl _ _ rfl _ _ x hd0 rfl rfl HK2.out ?_; go_frame))
      exact bodyPost_ret (v := _) (res49 _ _ w.heap.size x rfl (setRow_heap _ _ _ _ 26 (0, 0) HK2.out)) rfl ⟨by rw [HLS.out, HLE.out]; rfl, HB2.out _⟩
  · have HLS : Hid (lH d = hd0) := by show _ = _; rw [HS.out, if_neg he]
    have HLE : Hid (lHe d = if E = 6 then 0 else E) := by show _ = _; rw [HE.out, if_pos he]
    have HEE := Lib.hid he
    clear HE HS hB he
    unfold Hd.val at *
    unfold ptr at *
    by_cases h6 : E = 6
    · subst h6
      go_enter Tryz.func41, Tryz.ntmps41
      go_wp2_with fail
      rw [← HW0.out]
      refine KR.out.mono ?_
      rintro e w1 ⟨rfl, b1⟩
      have HK1 : Hid (w1.heap[w.heap.size]? = some (.cells hd0.c 26 (0, 0))) := (b1.block _ (Array.getElem?_eq_some_iff.1 HK0.out).1).trans HK0.out
      have HB1 : Hid (Below w.heap.size w (w1.setRow w.heap.size hd0.c)) := (HB0.out.trans (b1.mono HB0.out.size)).trans ⟨rfl, rfl, rfl, by simp, fun k hk => setRow_other _ _ _ _ (by omega)⟩
      clear b1 HK0 HB0 HW0 KR
      go_wp2_with (refine wpList_store_hd rfl _ _ rfl _ _ hd0 hd0 rfl rfl HK1.out ?_; go_frame)
      exact bodyPost_ret (v := _) (res49 _ _ w.heap.size hd0 rfl (setRow_heap _ _ _ _ 26 (0, 0) HK1.out)) rfl ⟨by rw [HLS.out, HLE.out]; rfl, HB1.out⟩
    · have hne : (E != 0) = true := by simpa using HEE.out
      have hn6 : (E == 6) = false := by simpa using h6
      have HLE6 : Hid (lHe d = E) := by show _ = _; rw [HLE.out, if_neg h6]
      clear h6 HLE
      go_enter Tryz.func41, Tryz.ntmps41
      go_wp2_with fail
      rw [← HW0.out]
      refine KR.out.mono ?_
      rintro e w1 ⟨rfl, b1⟩
      have HK1 : Hid (w1.heap[w.heap.size]? = some (.cells hd0.c 26 (0, 0))) := (b1.block _ (Array.getElem?_eq_some_iff.1 HK0.out).1).trans HK0.out
      have HB1 : Hid (Below w.heap.size w (w1.setRow w.heap.size hd0.c)) := (HB0.out.trans (b1.mono HB0.out.size)).trans ⟨rfl, rfl, rfl, by simp, fun k hk => setRow_other _ _ _ _ (by omega)⟩
      clear b1 HK0 HB0 HW0 KR
      go_wp2_with (refine wpList_store_hd rfl _ _ rfl _ _ hd0 hd0 rfl rfl HK1.out ?_; go_frame)
      exact bodyPost_ret (v := _) (res49 _ _ w.heap.size hd0 rfl (setRow_heap _ _ _ _ 26 (0, 0) HK1.out)) rfl ⟨by rw [HLS.out, HLE6.out]; rfl, HB1.out⟩
end Go.Proofs.YtdoombcihobejaaGreat
namespace Go.Proofs.YtdoombcihobejaaGreat
open Go.RowKit Vi Sl Dk
set_option linter.unusedVariables false
set_option linter.unusedSimpArgs false
theorem results_cell2_tmp {fn : Func} {p q u : Tmp} {ty ty2 : TypeId} (h : fn.results = #[.cell p ty, .cell q ty2, .tmp u]) (tmps : Array Value) (P : Program) (w : World) :
    (results fn tmps).run P w =
      ((asAddr (tmps.getD p undef)).run P w).andThen fun a w₁ => ((loadVar ty a).run P w₁).andThen fun x w₂ => ((asAddr (tmps.getD q undef)).run P w₂).andThen fun b w₃ => ((loadVar ty2 b).run P w₃).andThen fun y w₄ => .ok (.tuple #[x, y, tmps.getD u undef]) w₄ := by
  simp only [results, h]
  simp [Sem.run_bind, Result.andThen]
theorem res25 (tmps : Array Value) (w : World) (p q : Nat) (s : Su) (h : Hd) (hp : tmps.getD 2 undef = .pointer (some ⟨p, 0, none⟩)) (hq : tmps.getD 3 undef = .pointer (some ⟨q, 0, none⟩)) (hg : w.heap[p]? = some (.cells s.c 23 (0, 0))) (hh : w.heap[q]? = some (.cells h.c 26 (0, 0))) :
    (results Tryz.f16 tmps).run Tryz.prog w = .ok (.tuple #[.agg s.c, .agg h.c, tmps.getD 4 undef]) w := by
  rw [results_cell2_tmp Tryz.results16, hp, hq]
  simp [asAddr, run_loadVar_row w p 23 23 s.c (0, 0) _ hg Tryz.underlying23 rfl Tryz.su7, run_loadVar_row w q 26 26 h.c (0, 0) _ hh Tryz.underlying26 rfl Tryz.hd3]
/-- The two results' blocks, and what was loaded. -/
structure Ld (w : World) (g : Nat) (L : List Nat) (d : St) (W : World) : Prop where
  be : Below w.heap.size w W
  r2 : W.heap[w.heap.size]? = some (.cells su0.c 23 (0, 0))
  r3 : W.heap[w.heap.size + 1]? = some (.cells hd0.c 26 (0, 0))
  dv : Dv W g L d
theorem Ld.below {w W W' : World} {g : Nat} {L : List Nat} {d : St} (h : Ld w g L d W) (hb : Below W.heap.size W W') : Ld w g L d W' :=
  ⟨h.be.trans (hb.mono h.be.size), (hb.block _ (Array.getElem?_eq_some_iff.1 h.r2).1).trans h.r2, (hb.block _ (Array.getElem?_eq_some_iff.1 h.r3).1).trans h.r3, h.dv.below hb⟩
theorem Ld.alloc {w W : World} {g : Nat} {L : List Nat} {d : St} (h : Ld w g L d W) (o : Obj) : Ld w g L d (W.alloc o) := h.below ((Below.refl _ _).alloc (Nat.le_refl _) _)
structure Ldx (w : World) (g : Nat) (L : List Nat) (d : St) (q1 q2 : Nat) (s : Su) (h : Hd) (x : Su) (y : Hd) (W : World) : Prop where
  be : Below w.heap.size w W
  r2 : W.heap[w.heap.size]? = some (.cells s.c 23 (0, 0))
  r3 : W.heap[w.heap.size + 1]? = some (.cells h.c 26 (0, 0))
  bx : W.heap[q1]? = some (.cells x.c 23 (0, 0))
  by_ : W.heap[q2]? = some (.cells y.c 26 (0, 0))
  l1 : w.heap.size + 1 < q1
  l2 : w.heap.size + 1 < q2
theorem Ldx.drew {w W : World} {g : Nat} {L : List Nat} {d : St} {q1 q2 : Nat} {s : Su} {h : Hd} {x : Su} {y : Hd} (k : Ldx w g L d q1 q2 s h x y W) : Ldx w g L d q1 q2 s h x y W.drew := ⟨k.be.drew, k.r2, k.r3, k.bx, k.by_, k.l1, k.l2⟩
theorem below_putRow {B : Nat} {w W : World} (h : Below B w W) (z : Nat) (hz : B ≤ z) (cs : Array Value) : Below B w (W.setRow z cs) := h.trans ⟨rfl, rfl, rfl, by simp, fun k hk => setRow_other _ _ _ _ (by omega)⟩
abbrev set7 (W : World) (z : Nat) (s : Su) : World := (((((((W.setCell ⟨z, 0, none⟩ (.int .i64 s.v)).setCell ⟨z, 1, none⟩ (.int .i64 s.sn)).setCell ⟨z, 2, none⟩ (.int .i64 s.lg)).setCell ⟨z, 3, none⟩ (.int .i64 s.ar)).setCell ⟨z, 4, none⟩ (.int .i64 s.hf)).setCell ⟨z, 5, none⟩ (.int .i64 s.gl)).setCell ⟨z, 6, none⟩ (.int .i64 s.sp))
abbrev set3 (W : World) (z : Nat) (h : Hd) : World := (((W.setCell ⟨z, 0, none⟩ (.int .u64 (h.tm : Nat))).setCell ⟨z, 1, none⟩ (.int .i64 h.vo)).setCell ⟨z, 2, none⟩ (.int .u64 (h.cm : Nat)))
theorem set7_same {W : World} {z : Nat} {t : Su} (s : Su) (h : W.heap[z]? = some (.cells t.c 23 (0, 0))) : (set7 W z s).heap[z]? = some (.cells s.c 23 (0, 0)) := by
  have k0 : (W.setCell ⟨z, 0, none⟩ (.int .i64 s.v)).heap[z]? = some (.cells #[.int .i64 s.v, .int .i64 t.sn, .int .i64 t.lg, .int .i64 t.ar, .int .i64 t.hf, .int .i64 t.gl, .int .i64 t.sp] 23 (0, 0)) := heap_setCell_same _ z 0 _ 23 (.int .i64 s.v) h
  have k1 : ((W.setCell ⟨z, 0, none⟩ (.int .i64 s.v)).setCell ⟨z, 1, none⟩ (.int .i64 s.sn)).heap[z]? = some (.cells #[.int .i64 s.v, .int .i64 s.sn, .int .i64 t.lg, .int .i64 t.ar, .int .i64 t.hf, .int .i64 t.gl, .int .i64 t.sp] 23 (0, 0)) := heap_setCell_same _ z 1 _ 23 (.int .i64 s.sn) k0
  have k2 : (((W.setCell ⟨z, 0, none⟩ (.int .i64 s.v)).setCell ⟨z, 1, none⟩ (.int .i64 s.sn)).setCell ⟨z, 2, none⟩ (.int .i64 s.lg)).heap[z]? = some (.cells #[.int .i64 s.v, .int .i64 s.sn, .int .i64 s.lg, .int .i64 t.ar, .int .i64 t.hf, .int .i64 t.gl, .int .i64 t.sp] 23 (0, 0)) := heap_setCell_same _ z 2 _ 23 (.int .i64 s.lg) k1
  have k3 : ((((W.setCell ⟨z, 0, none⟩ (.int .i64 s.v)).setCell ⟨z, 1, none⟩ (.int .i64 s.sn)).setCell ⟨z, 2, none⟩ (.int .i64 s.lg)).setCell ⟨z, 3, none⟩ (.int .i64 s.ar)).heap[z]? = some (.cells #[.int .i64 s.v, .int .i64 s.sn, .int .i64 s.lg, .int .i64 s.ar, .int .i64 t.hf, .int .i64 t.gl, .int .i64 t.sp] 23 (0, 0)) := heap_setCell_same _ z 3 _ 23 (.int .i64 s.ar) k2
  have k4 : (((((W.setCell ⟨z, 0, none⟩ (.int .i64 s.v)).setCell ⟨z, 1, none⟩ (.int .i64 s.sn)).setCell ⟨z, 2, none⟩ (.int .i64 s.lg)).setCell ⟨z, 3, none⟩ (.int .i64 s.ar)).setCell ⟨z, 4, none⟩ (.int .i64 s.hf)).heap[z]? = some (.cells #[.int .i64 s.v, .int .i64 s.sn, .int .i64 s.lg, .int .i64 s.ar, .int .i64 s.hf, .int .i64 t.gl, .int .i64 t.sp] 23 (0, 0)) := heap_setCell_same _ z 4 _ 23 (.int .i64 s.hf) k3
  have k5 : ((((((W.setCell ⟨z, 0, none⟩ (.int .i64 s.v)).setCell ⟨z, 1, none⟩ (.int .i64 s.sn)).setCell ⟨z, 2, none⟩ (.int .i64 s.lg)).setCell ⟨z, 3, none⟩ (.int .i64 s.ar)).setCell ⟨z, 4, none⟩ (.int .i64 s.hf)).setCell ⟨z, 5, none⟩ (.int .i64 s.gl)).heap[z]? = some (.cells #[.int .i64 s.v, .int .i64 s.sn, .int .i64 s.lg, .int .i64 s.ar, .int .i64 s.hf, .int .i64 s.gl, .int .i64 t.sp] 23 (0, 0)) := heap_setCell_same _ z 5 _ 23 (.int .i64 s.gl) k4
  have k6 : (((((((W.setCell ⟨z, 0, none⟩ (.int .i64 s.v)).setCell ⟨z, 1, none⟩ (.int .i64 s.sn)).setCell ⟨z, 2, none⟩ (.int .i64 s.lg)).setCell ⟨z, 3, none⟩ (.int .i64 s.ar)).setCell ⟨z, 4, none⟩ (.int .i64 s.hf)).setCell ⟨z, 5, none⟩ (.int .i64 s.gl)).setCell ⟨z, 6, none⟩ (.int .i64 s.sp)).heap[z]? = some (.cells #[.int .i64 s.v, .int .i64 s.sn, .int .i64 s.lg, .int .i64 s.ar, .int .i64 s.hf, .int .i64 s.gl, .int .i64 s.sp] 23 (0, 0)) := heap_setCell_same _ z 6 _ 23 (.int .i64 s.sp) k5
  exact k6
theorem set7_other (W : World) (z : Nat) (s : Su) (k : Nat) (h : k ≠ z) : (set7 W z s).heap[k]? = W.heap[k]? := by
  have h' : ∀ i, (⟨z, i, none⟩ : Addr).block ≠ k := fun i e => h e.symm
  unfold set7
  rw [heap_setCell_other _ ⟨z, 6, none⟩ k _ (Ne.symm (h' 6)), heap_setCell_other _ ⟨z, 5, none⟩ k _ (Ne.symm (h' 5)), heap_setCell_other _ ⟨z, 4, none⟩ k _ (Ne.symm (h' 4)), heap_setCell_other _ ⟨z, 3, none⟩ k _ (Ne.symm (h' 3)), heap_setCell_other _ ⟨z, 2, none⟩ k _ (Ne.symm (h' 2)), heap_setCell_other _ ⟨z, 1, none⟩ k _ (Ne.symm (h' 1)), heap_setCell_other _ ⟨z, 0, none⟩ k _ (Ne.symm (h' 0))]
theorem set3_same {W : World} {z : Nat} {t : Hd} (h : Hd) (hz : W.heap[z]? = some (.cells t.c 26 (0, 0))) : (set3 W z h).heap[z]? = some (.cells h.c 26 (0, 0)) := by
  have k0 := heap_setCell_same W z 0 _ 26 (.int .u64 h.tm) hz
  have k1 := heap_setCell_same _ z 1 _ 26 (.int .i64 h.vo) k0
  exact heap_setCell_same _ z 2 _ 26 (.int .u64 h.cm) k1
theorem set3_other (W : World) (z : Nat) (h : Hd) (k : Nat) (hk : k ≠ z) : (set3 W z h).heap[k]? = W.heap[k]? := by
  have h' : ∀ i, (⟨z, i, none⟩ : Addr).block ≠ k := fun i e => hk e.symm
  unfold set3
  rw [heap_setCell_other _ ⟨z, 2, none⟩ k _ (Ne.symm (h' 2)), heap_setCell_other _ ⟨z, 1, none⟩ k _ (Ne.symm (h' 1)), heap_setCell_other _ ⟨z, 0, none⟩ k _ (Ne.symm (h' 0))]
theorem set7_below {B : Nat} {w W : World} {z : Nat} (s : Su) (h : Below B w W) (hz : B ≤ z) : Below B w (set7 W z s) := by
  unfold set7
  exact ((((((h.setCell (p := ⟨z, 0, none⟩) hz _).setCell (p := ⟨z, 1, none⟩) hz _).setCell (p := ⟨z, 2, none⟩) hz _).setCell (p := ⟨z, 3, none⟩) hz _).setCell (p := ⟨z, 4, none⟩) hz _).setCell (p := ⟨z, 5, none⟩) hz _).setCell (p := ⟨z, 6, none⟩) hz _
theorem set3_below {B : Nat} {w W : World} {z : Nat} (s : Hd) (h : Below B w W) (hz : B ≤ z) : Below B w (set3 W z s) := by
  unfold set3
  exact ((h.setCell (p := ⟨z, 0, none⟩) hz _).setCell (p := ⟨z, 1, none⟩) hz _).setCell (p := ⟨z, 2, none⟩) hz _
theorem Ldx.set7 {w W : World} {g : Nat} {L : List Nat} {d : St} {q1 q2 : Nat} {s : Su} {h : Hd} {x : Su} {y : Hd} (k : Ldx w g L d q1 q2 s h x y W) : Ldx w g L d q1 q2 x h x y (YtdoombcihobejaaGreat.set7 W w.heap.size x) :=
  ⟨set7_below _ k.be (Nat.le_refl _), set7_same _ k.r2, (set7_other _ _ _ _ (by omega)).trans k.r3, (set7_other _ _ _ _ (by have := k.l1; omega)).trans k.bx, (set7_other _ _ _ _ (by have := k.l2; omega)).trans k.by_, k.l1, k.l2⟩
theorem Ldx.set3 {w W : World} {g : Nat} {L : List Nat} {d : St} {q1 q2 : Nat} {s : Su} {h : Hd} {x : Su} {y : Hd} (k : Ldx w g L d q1 q2 s h x y W) : Ldx w g L d q1 q2 s y x y (YtdoombcihobejaaGreat.set3 W (w.heap.size + 1) y) :=
  ⟨set3_below _ k.be (by omega), (set3_other _ _ _ _ (by omega)).trans k.r2, set3_same _ k.r3, (set3_other _ _ _ _ (by have := k.l1; omega)).trans k.bx, (set3_other _ _ _ _ (by have := k.l2; omega)).trans k.by_, k.l1, k.l2⟩
theorem Ldx.all {w W : World} {g : Nat} {L : List Nat} {d : St} {q1 q2 : Nat} {s : Su} {h : Hd} {x : Su} {y : Hd} (k : Ldx w g L d q1 q2 s h x y W) : W.cell? ⟨q1, 0, none⟩ = some (.int .i64 x.v) ∧ W.cell? ⟨q1, 1, none⟩ = some (.int .i64 x.sn) ∧ W.cell? ⟨q1, 2, none⟩ = some (.int .i64 x.lg) ∧ W.cell? ⟨q1, 3, none⟩ = some (.int .i64 x.ar) ∧ W.cell? ⟨q1, 4, none⟩ = some (.int .i64 x.hf) ∧ W.cell? ⟨q1, 5, none⟩ = some (.int .i64 x.gl) ∧ W.cell? ⟨q1, 6, none⟩ = some (.int .i64 x.sp) ∧ W.cell? ⟨q2, 0, none⟩ = some (.int .u64 (y.tm : Nat)) ∧ W.cell? ⟨q2, 1, none⟩ = some (.int .i64 y.vo) ∧ W.cell? ⟨q2, 2, none⟩ = some (.int .u64 (y.cm : Nat)) := by
  obtain ⟨a0, a1, a2, a3, a4, a5, a6⟩ := su_cells k.bx
  obtain ⟨b0, b1, b2⟩ := hd_cells k.by_
  exact ⟨a0, a1, a2, a3, a4, a5, a6, b0, b1, b2⟩
set_option maxHeartbeats 1000000 in
set_option maxRecDepth 100000 in
theorem load_any (g : Nat) (L : List Nat) (d : St) (w : World) (h : Dv w g L d) : Calls Tryz.prog 16 #[ptr g] w fun e w' => e = .returned (.tuple #[(ldS d).val, (ldH d).val, .int .i64 (ldE d)]) ∧ Below w.heap.size w w' := by
  have hb0 : Below w.heap.size w ((w.alloc (.cells su0.c 23)).alloc (.cells hd0.c 26)) := ((Below.refl _ _).alloc (Nat.le_refl _) _).alloc (by simp) _
  have Q0 : Ld w g L d ((w.alloc (.cells su0.c 23)).alloc (.cells hd0.c 26)) := ⟨hb0, (Lib.alloc_old _ _ _ (by simp)).trans (heap_alloc_new w _), heap_alloc2_new w _ _, h.below hb0⟩
  obtain ⟨W0, hW0⟩ : ∃ W0, W0 = (w.alloc (.cells su0.c 23)).alloc (.cells hd0.c 26) := ⟨_, rfl⟩
  rw [← hW0] at Q0
  have hz0 : ((w.alloc (.cells su0.c 23)).alloc (.cells hd0.c 26)) = (w.alloc (.cells #[.int .i64 0, .int .i64 0, .int .i64 0, .int .i64 0, .int .i64 0, .int .i64 0, .int .i64 0] 23)).alloc (.cells #[.int .u64 0, .int .i64 0, .int .u64 0] 26) := rfl
  rw [hz0] at hW0
  have HW0 := Lib.hid hW0
  have HQ0 := Lib.hid Q0
  have KS := Lib.hid (fun (W : World) (hQ : Ld w g L d W) => loadSuper_any g L d W hQ.dv)
  have KH := Lib.hid (fun (W : World) (hQ : Ld w g L d W) => loadHard_any g L d W hQ.dv)
  have HE : Hid (ldE d = if lSe d ≠ 0 then lSe d else lHe d) := rfl
  have HS : Hid (ldS d = if ldE d = 0 then lS d else su0) := rfl
  have HH : Hid (ldH d = if ldE d = 0 then lH d else hd0) := rfl
  generalize lSe d = e1 at *
  generalize lHe d = e2 at *
  generalize lS d = x at *
  generalize lH d = y at *
  clear hb0 hW0 hz0 h Q0
  unfold Su.val Hd.val at *
  unfold Su.c at KS
  unfold Hd.c at KH
  unfold ptr at *
  go_enter Tryz.func16, Tryz.ntmps16
  go_wp2_with fail
  rw [← HW0.out]
  refine (KS.out _ HQ0.out).mono ?_
  rintro e w1 ⟨rfl, b1⟩
  have Q1 := HQ0.out.below b1
  have HL1 : Hid (w.heap.size + 1 < w1.heap.size) := (Array.getElem?_eq_some_iff.1 Q1.r3).1
  have Q1a := Lib.hid (Q1.alloc (.cells x.c 23))
  obtain ⟨V1, hV1⟩ : ∃ V, V = w1.alloc (.cells x.c 23) := ⟨_, rfl⟩
  have HX1 : Hid (V1.heap[w1.heap.size]? = some (.cells x.c 23 (0, 0))) := by show _ = _; rw [hV1]; exact heap_alloc_new w1 _
  rw [← hV1] at Q1a
  unfold Su.c at hV1
  have HV1 := Lib.hid hV1
  clear b1 Q1 hV1 HQ0 HW0 KS
  by_cases he1 : e1 = 0
  · subst he1
    go_wp2_with fail
    rw [← HV1.out]
    refine (KH.out _ Q1a.out).mono ?_
    rintro e w2 ⟨rfl, b2⟩
    have Q2 := Q1a.out.below b2
    have HL2' : Hid (w.heap.size + 1 < w2.heap.size) := (Array.getElem?_eq_some_iff.1 Q2.r3).1
    have hx2 := (b2.block _ (Array.getElem?_eq_some_iff.1 HX1.out).1).trans HX1.out
    have Q2a := Lib.hid (Q2.alloc (.cells y.c 26))
    obtain ⟨V2, hV2⟩ : ∃ V, V = w2.alloc (.cells y.c 26) := ⟨_, rfl⟩
    have HX2 : Hid (V2.heap[w1.heap.size]? = some (.cells x.c 23 (0, 0))) := by show _ = _; rw [hV2]; exact (Lib.alloc_old _ _ _ (Array.getElem?_eq_some_iff.1 hx2).1).trans hx2
    have HY2 : Hid (V2.heap[w2.heap.size]? = some (.cells y.c 26 (0, 0))) := by show _ = _; rw [hV2]; exact heap_alloc_new w2 _
    rw [← hV2] at Q2a
    unfold Hd.c at hV2
    have HV2 := Lib.hid hV2
    clear b2 Q2 hx2 hV2 Q1a HX1 HV1 KH
    have HL2 : Hid (w.heap.size + 1 < w2.heap.size) := HL2'.out
    generalize hq1 : w1.heap.size = q1 at *
    generalize hq2 : w2.heap.size = q2 at *
    have HQ2 := Lib.hid hq2
    clear hq1 hq2
    by_cases he2 : e2 = 0
    · subst he2
      go_upto_region 7 with fail
      rw [← HV2.out, HQ2.out]
      clear HV2 HQ2
      have QL : Ldx w g L d q1 q2 su0 hd0 x y V2.drew := (⟨Q2a.out.be, Q2a.out.r2, Q2a.out.r3, HX2.out, HY2.out, HL1.out, HL2.out⟩ : Ldx w g L d q1 q2 su0 hd0 x y V2).drew
      have QL0 : Ldx w g L d q1 q2 su0 hd0 x y V2 := ⟨Q2a.out.be, Q2a.out.r2, Q2a.out.r3, HX2.out, HY2.out, HL1.out, HL2.out⟩
      have HQL := Lib.hid QL0
      obtain ⟨a0, a1, a2, a3, a4, a5, a6⟩ := su_cells QL.bx
      obtain ⟨b0, b1, b2⟩ := hd_cells QL.by_
      obtain ⟨r0, r1, r2, r3, r4, r5, r6⟩ := su_cells QL0.r2
      obtain ⟨s0, s1, s2⟩ := hd_cells QL0.r3
      have f2 : ∀ i, V2.frozen? ⟨w.heap.size, i, none⟩ = false := fun i => Lib.frozen_of_heap QL0.r2 i
      have f3 : ∀ i, V2.frozen? ⟨w.heap.size + 1, i, none⟩ = false := fun i => Lib.frozen_of_heap QL0.r3 i
      dsimp only [hd0] at s0 s1 s2
      dsimp only [su0] at r0 r1 r2 r3 r4 r5 r6
      clear Q2a HX2 HY2 QL QL0
      refine wp_region_noPanic ?_
      refine wp_region_held_drew (S := (fun w' => w'.cell? ⟨q1, 0, none⟩ = some (.int .i64 x.v) ∧ w'.cell? ⟨q1, 1, none⟩ = some (.int .i64 x.sn) ∧ w'.cell? ⟨q1, 2, none⟩ = some (.int .i64 x.lg) ∧ w'.cell? ⟨q1, 3, none⟩ = some (.int .i64 x.ar) ∧ w'.cell? ⟨q1, 4, none⟩ = some (.int .i64 x.hf) ∧ w'.cell? ⟨q1, 5, none⟩ = some (.int .i64 x.gl) ∧ w'.cell? ⟨q1, 6, none⟩ = some (.int .i64 x.sp) ∧ w'.cell? ⟨q2, 0, none⟩ = some (.int .u64 (y.tm : Nat)) ∧ w'.cell? ⟨q2, 1, none⟩ = some (.int .i64 y.vo) ∧ w'.cell? ⟨q2, 2, none⟩ = some (.int .u64 (y.cm : Nat)))) (by kernel_rfl) (by exact ⟨a0, a1, a2, a3, a4, a5, a6, b0, b1, b2⟩) (fun hHeld => ?_)
      refine wpAnyH_take (v := ?v0) (i := 0) rfl (by kernel_rfl) (by kernel_rfl) (by kernel_rfl) (fun _ _ _ h => h) (Or.inl ⟨by kernel_rfl, ?hy0⟩) (by assumption) ?rest0
      case hy0 => (intro w hSw; (try dsimp only at hSw); go_simp; first | done | (with_reducible rfl))
      try simp only [Act.put, List.setIfInBounds_toArray, List.set_cons_zero, List.set_cons_succ]
      refine wpAnyH_take (v := ?v1) (i := 1) rfl (by kernel_rfl) (by kernel_rfl) (by kernel_rfl) (fun _ _ _ h => h) (Or.inl ⟨by kernel_rfl, ?hy1⟩) (by assumption) ?rest1
      case hy1 => (intro w hSw; (try dsimp only at hSw); go_simp; first | done | (with_reducible rfl))
      try simp only [Act.put, List.setIfInBounds_toArray, List.set_cons_zero, List.set_cons_succ]
      have g0 := f2 0
      have g1 := f2 1
      have g2 := f2 2
      have g3 := f2 3
      have g4 := f2 4
      have g5 := f2 5
      have g6 := f2 6
      have h0 := f3 0
      have h1 := f3 1
      have h2 := f3 2
      refine wpAnyH_ready (rs := [2]) (by kernel_rfl) (by simp) ?_
      refine AllReadyH.cons rfl (fun K hK => ?_) AllReadyH.nil
      go_simp
      refine hK.out _ _ ?_ (fun hHeld => ?_)
      · exact (HQL.out.set7.drew).all
      clear hK K
      try simp only [Act.put, List.setIfInBounds_toArray, List.set_cons_zero, List.set_cons_succ]
      refine wpAnyH_ready (rs := [3]) (by kernel_rfl) (by simp) ?_
      refine AllReadyH.cons rfl (fun K hK => ?_) AllReadyH.nil
      go_simp
      refine hK.out _ _ ?_ (fun hHeld => ?_)
      · exact (HQL.out.set7.set3.drew).all
      clear hK K
      try simp only [Act.put, List.setIfInBounds_toArray, List.set_cons_zero, List.set_cons_succ]
      refine wpAnyH_ready (rs := [4]) (by kernel_rfl) (by simp) ?_
      refine AllReadyH.cons rfl (fun K hK => ?_) AllReadyH.nil
      go_simp
      refine hK.out _ _ ?_ (fun hHeld => ?_)
      · exact (HQL.out.set7.set3.drew).all
      clear hK K
      try simp only [Act.put, List.setIfInBounds_toArray, List.set_cons_zero, List.set_cons_succ]
      refine wpAnyH_done (by kernel_rfl) ?_ _
      refine NoPanic.normal ?_
      have HF := Lib.hid HQL.out.set7.set3.drew
      have HE0 : Hid (ldE d = 0) := HE.out
      have HSx : Hid (ldS d = x) := by show _ = _; rw [HS.out, HE0.out]; rfl
      have HHy : Hid (ldH d = y) := by show _ = _; rw [HH.out, HE0.out]; rfl
      clear HE HS HH
      go_wp2_with fail
      exact bodyPost_ret (v := _) (res25 _ _ w.heap.size (w.heap.size + 1) x y rfl rfl HF.out.r2 HF.out.r3) rfl ⟨by rw [HSx.out, HHy.out, HE0.out]; rfl, HF.out.be⟩
    · have hne : (e2 != 0) = true := by simpa using he2
      have HE0 : Hid (ldE d = e2) := HE.out
      have HSx : Hid (ldS d = su0) := by show _ = _; rw [HS.out, HE0.out, if_neg he2]
      have HHy : Hid (ldH d = hd0) := by show _ = _; rw [HH.out, HE0.out, if_neg he2]
      have HW2 : Hid (∀ s h, Below w.heap.size w ((V2.setRow w.heap.size s).setRow (w.heap.size + 1) h)) := fun s h => below_putRow (below_putRow Q2a.out.be _ (Nat.le_refl _) s) _ (by omega) h
      have HR2 := Lib.hid Q2a.out.r2
      have HR3 : Hid ((V2.setRow w.heap.size su0.c).heap[w.heap.size + 1]? = some (.cells hd0.c 26 (0, 0))) := (setRow_other _ _ _ _ (by omega)).trans Q2a.out.r3
      have HG3 : Hid (((V2.setRow w.heap.size su0.c).setRow (w.heap.size + 1) hd0.c).heap[w.heap.size + 1]? = some (.cells hd0.c 26 (0, 0))) := setRow_heap _ _ _ _ 26 (0, 0) HR3.out
      have HG2 : Hid (((V2.setRow w.heap.size su0.c).setRow (w.heap.size + 1) hd0.c).heap[w.heap.size]? = some (.cells su0.c 23 (0, 0))) := (setRow_other _ _ _ _ (by omega)).trans (setRow_heap _ _ _ _ 23 (0, 0) HR2.out)
      clear HE HS HH Q2a HX2 HY2 he2
      go_upto_region 6 with fail
      rw [← HV2.out, HQ2.out]
      clear HV2 HQ2
      go_wp2_with (first | (refine wpList_store_su rfl _ _ rfl _ _ su0 su0 rfl rfl HR2.out ?_; go_frame) | (refine wpList_store_hd rfl _ _ rfl _ _ hd0 hd0 rfl rfl HR3.out ?_; go_frame))
      exact bodyPost_ret (v := _) (res25 _ _ w.heap.size (w.heap.size + 1) su0 hd0 rfl rfl HG2.out HG3.out) rfl ⟨by rw [HSx.out, HHy.out, HE0.out]; rfl, HW2.out _ _⟩
  · have hne : (e1 != 0) = true := by simpa using he1
    have HE0 : Hid (ldE d = e1) := by show _ = _; rw [HE.out, if_pos he1]
    have HSx : Hid (ldS d = su0) := by show _ = _; rw [HS.out, HE0.out, if_neg he1]
    have HHy : Hid (ldH d = hd0) := by show _ = _; rw [HH.out, HE0.out, if_neg he1]
    have HW2 : Hid (∀ s h, Below w.heap.size w ((V1.setRow w.heap.size s).setRow (w.heap.size + 1) h)) := fun s h => below_putRow (below_putRow Q1a.out.be _ (Nat.le_refl _) s) _ (by omega) h
    have HR2 := Lib.hid Q1a.out.r2
    have HR3 : Hid ((V1.setRow w.heap.size su0.c).heap[w.heap.size + 1]? = some (.cells hd0.c 26 (0, 0))) := (setRow_other _ _ _ _ (by omega)).trans Q1a.out.r3
    have HG3 : Hid (((V1.setRow w.heap.size su0.c).setRow (w.heap.size + 1) hd0.c).heap[w.heap.size + 1]? = some (.cells hd0.c 26 (0, 0))) := setRow_heap _ _ _ _ 26 (0, 0) HR3.out
    have HG2 : Hid (((V1.setRow w.heap.size su0.c).setRow (w.heap.size + 1) hd0.c).heap[w.heap.size]? = some (.cells su0.c 23 (0, 0))) := (setRow_other _ _ _ _ (by omega)).trans (setRow_heap _ _ _ _ 23 (0, 0) HR2.out)
    clear HE HS HH Q1a HX1 he1 KH
    go_upto_region 3 with fail
    rw [← HV1.out]
    clear HV1
    go_wp2_with (first | (refine wpList_store_su rfl _ _ rfl _ _ su0 su0 rfl rfl HR2.out ?_; go_frame) | (refine wpList_store_hd rfl _ _ rfl _ _ hd0 hd0 rfl rfl HR3.out ?_; go_frame))
    exact bodyPost_ret (v := _) (res25 _ _ w.heap.size (w.heap.size + 1) su0 hd0 rfl rfl HG2.out HG3.out) rfl ⟨by rw [HSx.out, HHy.out, HE0.out]; rfl, HW2.out _ _⟩
end Go.Proofs.YtdoombcihobejaaGreat
namespace Go.Proofs.YtdoombcihobejaaGreat
open Go.RowKit Vi Sl Dk
set_option linter.unusedVariables false
set_option linter.unusedSimpArgs false
def rsbx (w : World) (s : Su) : World := w.alloc (.cells s.c 37)
theorem rsbx_below (w : World) (s : Su) : Below w.heap.size w (rsbx w s) := (Below.refl _ _).alloc (Nat.le_refl _) _
def rhbx (w : World) (h : Hd) : World := w.alloc (.cells h.c 40)
theorem rhbx_below (w : World) (h : Hd) : Below w.heap.size w (rhbx w h) := (Below.refl _ _).alloc (Nat.le_refl _) _
theorem RMoves.after {B g : Nat} {L : List Nat} {d : St} {w w1 w2 : World} (b : Below w.heap.size w w1) (m : RMoves B g L d w1 w2) : RMoves B g L d w w2 := ⟨m.1, (Keep.of_below b).trans m.2⟩
theorem rsetSuper_any (B g : Nat) (L : List Nat) (d : St) (s : Su) (w : World) (h : Rf w B g L d) : Calls Tryz.prog 19 #[ptr g, s.val] w fun e w' => e = .returned (.int .i64 (setS d s).2) ∧ RMoves B g L (setS d s).1 w w' := by
  have hb := rsbx_below w s
  obtain ⟨W, hW⟩ : ∃ W, W = rsbx w s := ⟨_, rfl⟩
  rw [← hW] at hb
  have hD : Rf W B g L d := h.below hb
  have K := Lib.hid (fun (W : World) => rputSuper_any s W)
  have KW := Lib.hid (fun (W : World) (h : Rf W B g L d) => rswrite_any B g L d 0 (supB s) W h (by omega) (by omega))
  have HS : Hid (setS d s = if rgt s then wr d 0 (supB s) else (d, 1)) := rfl
  have HP : Hid (supS s = if rgt s then supB s else ⟨#[]⟩) := rfl
  obtain ⟨r, hr⟩ : ∃ r, r = rgt s := ⟨_, rfl⟩
  rw [← hr] at K HS HP
  have HD0 := Lib.hid h
  have HD := Lib.hid hD
  have HB := Lib.hid hb
  have HW := Lib.hid hW
  clear hr hb hD hW h
  unfold rsbx Su.val at *
  unfold Su.c at HW K ⊢
  cases r with
  | false =>
    have hp : supS s = ⟨#[]⟩ := HP.out
    rw [hp] at K
    have hs : Hid (setS d s = (d, 1)) := HS.out
    clear hp HS HP KW
    unfold ptr at *
    go_enter Tryz.func19, Tryz.ntmps19
    go_wp2_with fail
    rw [← HW.out]
    refine (K.out _).mono ?_
    rintro e w1 ⟨rfl, b1⟩
    have HB1 := Lib.hid (HB.out.trans (b1.mono HB.out.size))
    clear b1 HB HW K HD
    go_wp2
    go_ret
    rw [hs.out]
    exact ⟨rfl, ⟨HD0.out.below HB1.out, Keep.of_below HB1.out⟩⟩
  | true =>
    have hp : supS s = supB s := HP.out
    rw [hp] at K
    have hs : Hid (setS d s = wr d 0 (supB s)) := HS.out
    clear hp HS HP
    generalize supB s = p at *
    unfold ptr at *
    go_enter Tryz.func19, Tryz.ntmps19
    go_wp2_with fail
    rw [← HW.out]
    refine (K.out _).mono ?_
    rintro e w1 ⟨rfl, b1⟩
    have HB1 := Lib.hid (HB.out.trans (b1.mono HB.out.size))
    have HD1 := Lib.hid (HD0.out.below HB1.out)
    clear b1 HB HW K HD
    go_wp2_with fail
    refine (KW.out _ HD1.out).mono ?_
    rintro e w2 ⟨rfl, M2⟩
    have HM := Lib.hid (RMoves.after HB1.out M2)
    clear M2 KW HD1
    go_wp2
    go_ret
    rw [hs.out]
    exact ⟨rfl, HM.out⟩
theorem rsetHard_any (B g : Nat) (L : List Nat) (d : St) (v : Int) (hh : Hd) (w : World) (h : Rf w B g L d) (ho : hh.Ok) : Calls Tryz.prog 21 #[ptr g, .int .i64 v, hh.val] w fun e w' => e = .returned (.int .i64 (setH d v hh).2) ∧ RMoves B g L (setH d v hh).1 w w' := by
  have hb := rhbx_below w hh
  obtain ⟨W, hW⟩ : ∃ W, W = rhbx w hh := ⟨_, rfl⟩
  rw [← hW] at hb
  have hD : Rf W B g L d := h.below hb
  have K := Lib.hid (fun (W : World) => rputHard_any v hh W ho)
  have KW := Lib.hid (fun (W : World) (h : Rf W B g L d) => rswrite_any B g L d 2 (hB v hh) W h (by omega) (by omega))
  have HS : Hid (setH d v hh = if hO v hh then wr d 2 (hB v hh) else (d, 1)) := rfl
  have HP : Hid (hS v hh = if hO v hh then hB v hh else ⟨#[]⟩) := rfl
  obtain ⟨r, hr⟩ : ∃ r, r = hO v hh := ⟨_, rfl⟩
  rw [← hr] at K HS HP
  have HD0 := Lib.hid h
  have HD := Lib.hid hD
  have HB := Lib.hid hb
  have HW := Lib.hid hW
  clear hr hb hD hW h ho
  unfold rhbx Hd.val at *
  unfold Hd.c at HW K ⊢
  cases r with
  | false =>
    have hp : hS v hh = ⟨#[]⟩ := HP.out
    rw [hp] at K
    have hs : Hid (setH d v hh = (d, 1)) := HS.out
    clear hp HS HP KW
    unfold ptr at *
    go_enter Tryz.func21, Tryz.ntmps21
    go_wp2_with fail
    rw [← HW.out]
    refine (K.out _).mono ?_
    rintro e w1 ⟨rfl, b1⟩
    have HB1 := Lib.hid (HB.out.trans (b1.mono HB.out.size))
    clear b1 HB HW K HD
    go_wp2
    go_ret
    rw [hs.out]
    exact ⟨rfl, ⟨HD0.out.below HB1.out, Keep.of_below HB1.out⟩⟩
  | true =>
    have hp : hS v hh = hB v hh := HP.out
    rw [hp] at K
    have hs : Hid (setH d v hh = wr d 2 (hB v hh)) := HS.out
    clear hp HS HP
    generalize hB v hh = p at *
    unfold ptr at *
    go_enter Tryz.func21, Tryz.ntmps21
    go_wp2_with fail
    rw [← HW.out]
    refine (K.out _).mono ?_
    rintro e w1 ⟨rfl, b1⟩
    have HB1 := Lib.hid (HB.out.trans (b1.mono HB.out.size))
    have HD1 := Lib.hid (HD0.out.below HB1.out)
    clear b1 HB HW K HD
    go_wp2_with fail
    refine (KW.out _ HD1.out).mono ?_
    rintro e w2 ⟨rfl, M2⟩
    have HM := Lib.hid (RMoves.after HB1.out M2)
    clear M2 KW HD1
    go_wp2
    go_ret
    rw [hs.out]
    exact ⟨rfl, HM.out⟩
end Go.Proofs.YtdoombcihobejaaGreat
namespace Go.Proofs.YtdoombcihobejaaGreat
open Go.RowKit Vi Sl Dk
set_option linter.unusedVariables false
set_option linter.unusedSimpArgs false
theorem res17z (tmps : Array Value) (w : World) (p q : Nat) (s : Su) (h : Hd) (hp : tmps.getD 2 undef = .pointer (some ⟨p, 0, none⟩)) (hq : tmps.getD 3 undef = .pointer (some ⟨q, 0, none⟩)) (hg : w.heap[p]? = some (.cells s.c 37 (0, 0))) (hh : w.heap[q]? = some (.cells h.c 40 (0, 0))) :
    (results Tryz.f17 tmps).run Tryz.prog w = .ok (.tuple #[.agg s.c, .agg h.c, tmps.getD 4 undef]) w := by
  rw [results_cell2_tmp Tryz.results17, hp, hq]
  simp [asAddr, run_loadVar_row w p 37 37 s.c (0, 0) _ hg Tryz.underlying37 rfl Tryz.ru7, run_loadVar_row w q 40 40 h.c (0, 0) _ hh Tryz.underlying40 rfl Tryz.rd3]
structure Ldy (w : World) (g : Nat) (L : List Nat) (d : St) (q1 q2 : Nat) (s : Su) (h : Hd) (x : Su) (y : Hd) (W : World) : Prop where
  be : Below w.heap.size w W
  r2 : W.heap[w.heap.size]? = some (.cells s.c 37 (0, 0))
  r3 : W.heap[w.heap.size + 1]? = some (.cells h.c 40 (0, 0))
  bx : W.heap[q1]? = some (.cells x.c 37 (0, 0))
  by_ : W.heap[q2]? = some (.cells y.c 40 (0, 0))
  l1 : w.heap.size + 1 < q1
  l2 : w.heap.size + 1 < q2
theorem Ldy.drew {w W : World} {g : Nat} {L : List Nat} {d : St} {q1 q2 : Nat} {s : Su} {h : Hd} {x : Su} {y : Hd} (k : Ldy w g L d q1 q2 s h x y W) : Ldy w g L d q1 q2 s h x y W.drew := ⟨k.be.drew, k.r2, k.r3, k.bx, k.by_, k.l1, k.l2⟩
theorem set7r_same {W : World} {z : Nat} {t : Su} (s : Su) (h : W.heap[z]? = some (.cells t.c 37 (0, 0))) : (set7 W z s).heap[z]? = some (.cells s.c 37 (0, 0)) := by
  have k0 : (W.setCell ⟨z, 0, none⟩ (.int .i64 s.v)).heap[z]? = some (.cells #[.int .i64 s.v, .int .i64 t.sn, .int .i64 t.lg, .int .i64 t.ar, .int .i64 t.hf, .int .i64 t.gl, .int .i64 t.sp] 37 (0, 0)) := heap_setCell_same _ z 0 _ 37 (.int .i64 s.v) h
  have k1 : ((W.setCell ⟨z, 0, none⟩ (.int .i64 s.v)).setCell ⟨z, 1, none⟩ (.int .i64 s.sn)).heap[z]? = some (.cells #[.int .i64 s.v, .int .i64 s.sn, .int .i64 t.lg, .int .i64 t.ar, .int .i64 t.hf, .int .i64 t.gl, .int .i64 t.sp] 37 (0, 0)) := heap_setCell_same _ z 1 _ 37 (.int .i64 s.sn) k0
  have k2 : (((W.setCell ⟨z, 0, none⟩ (.int .i64 s.v)).setCell ⟨z, 1, none⟩ (.int .i64 s.sn)).setCell ⟨z, 2, none⟩ (.int .i64 s.lg)).heap[z]? = some (.cells #[.int .i64 s.v, .int .i64 s.sn, .int .i64 s.lg, .int .i64 t.ar, .int .i64 t.hf, .int .i64 t.gl, .int .i64 t.sp] 37 (0, 0)) := heap_setCell_same _ z 2 _ 37 (.int .i64 s.lg) k1
  have k3 : ((((W.setCell ⟨z, 0, none⟩ (.int .i64 s.v)).setCell ⟨z, 1, none⟩ (.int .i64 s.sn)).setCell ⟨z, 2, none⟩ (.int .i64 s.lg)).setCell ⟨z, 3, none⟩ (.int .i64 s.ar)).heap[z]? = some (.cells #[.int .i64 s.v, .int .i64 s.sn, .int .i64 s.lg, .int .i64 s.ar, .int .i64 t.hf, .int .i64 t.gl, .int .i64 t.sp] 37 (0, 0)) := heap_setCell_same _ z 3 _ 37 (.int .i64 s.ar) k2
  have k4 : (((((W.setCell ⟨z, 0, none⟩ (.int .i64 s.v)).setCell ⟨z, 1, none⟩ (.int .i64 s.sn)).setCell ⟨z, 2, none⟩ (.int .i64 s.lg)).setCell ⟨z, 3, none⟩ (.int .i64 s.ar)).setCell ⟨z, 4, none⟩ (.int .i64 s.hf)).heap[z]? = some (.cells #[.int .i64 s.v, .int .i64 s.sn, .int .i64 s.lg, .int .i64 s.ar, .int .i64 s.hf, .int .i64 t.gl, .int .i64 t.sp] 37 (0, 0)) := heap_setCell_same _ z 4 _ 37 (.int .i64 s.hf) k3
  have k5 : ((((((W.setCell ⟨z, 0, none⟩ (.int .i64 s.v)).setCell ⟨z, 1, none⟩ (.int .i64 s.sn)).setCell ⟨z, 2, none⟩ (.int .i64 s.lg)).setCell ⟨z, 3, none⟩ (.int .i64 s.ar)).setCell ⟨z, 4, none⟩ (.int .i64 s.hf)).setCell ⟨z, 5, none⟩ (.int .i64 s.gl)).heap[z]? = some (.cells #[.int .i64 s.v, .int .i64 s.sn, .int .i64 s.lg, .int .i64 s.ar, .int .i64 s.hf, .int .i64 s.gl, .int .i64 t.sp] 37 (0, 0)) := heap_setCell_same _ z 5 _ 37 (.int .i64 s.gl) k4
  have k6 : (((((((W.setCell ⟨z, 0, none⟩ (.int .i64 s.v)).setCell ⟨z, 1, none⟩ (.int .i64 s.sn)).setCell ⟨z, 2, none⟩ (.int .i64 s.lg)).setCell ⟨z, 3, none⟩ (.int .i64 s.ar)).setCell ⟨z, 4, none⟩ (.int .i64 s.hf)).setCell ⟨z, 5, none⟩ (.int .i64 s.gl)).setCell ⟨z, 6, none⟩ (.int .i64 s.sp)).heap[z]? = some (.cells #[.int .i64 s.v, .int .i64 s.sn, .int .i64 s.lg, .int .i64 s.ar, .int .i64 s.hf, .int .i64 s.gl, .int .i64 s.sp] 37 (0, 0)) := heap_setCell_same _ z 6 _ 37 (.int .i64 s.sp) k5
  exact k6
theorem set3r_same {W : World} {z : Nat} {t : Hd} (h : Hd) (hz : W.heap[z]? = some (.cells t.c 40 (0, 0))) : (set3 W z h).heap[z]? = some (.cells h.c 40 (0, 0)) := by
  have k0 := heap_setCell_same W z 0 _ 40 (.int .u64 h.tm) hz
  have k1 := heap_setCell_same _ z 1 _ 40 (.int .i64 h.vo) k0
  exact heap_setCell_same _ z 2 _ 40 (.int .u64 h.cm) k1
theorem Ldy.set7 {w W : World} {g : Nat} {L : List Nat} {d : St} {q1 q2 : Nat} {s : Su} {h : Hd} {x : Su} {y : Hd} (k : Ldy w g L d q1 q2 s h x y W) : Ldy w g L d q1 q2 x h x y (YtdoombcihobejaaGreat.set7 W w.heap.size x) :=
  ⟨set7_below _ k.be (Nat.le_refl _), set7r_same _ k.r2, (set7_other _ _ _ _ (by omega)).trans k.r3, (set7_other _ _ _ _ (by have := k.l1; omega)).trans k.bx, (set7_other _ _ _ _ (by have := k.l2; omega)).trans k.by_, k.l1, k.l2⟩
theorem Ldy.set3 {w W : World} {g : Nat} {L : List Nat} {d : St} {q1 q2 : Nat} {s : Su} {h : Hd} {x : Su} {y : Hd} (k : Ldy w g L d q1 q2 s h x y W) : Ldy w g L d q1 q2 s y x y (YtdoombcihobejaaGreat.set3 W (w.heap.size + 1) y) :=
  ⟨set3_below _ k.be (by omega), (set3_other _ _ _ _ (by omega)).trans k.r2, set3r_same _ k.r3, (set3_other _ _ _ _ (by have := k.l1; omega)).trans k.bx, (set3_other _ _ _ _ (by have := k.l2; omega)).trans k.by_, k.l1, k.l2⟩
theorem Ldy.all {w W : World} {g : Nat} {L : List Nat} {d : St} {q1 q2 : Nat} {s : Su} {h : Hd} {x : Su} {y : Hd} (k : Ldy w g L d q1 q2 s h x y W) : W.cell? ⟨q1, 0, none⟩ = some (.int .i64 x.v) ∧ W.cell? ⟨q1, 1, none⟩ = some (.int .i64 x.sn) ∧ W.cell? ⟨q1, 2, none⟩ = some (.int .i64 x.lg) ∧ W.cell? ⟨q1, 3, none⟩ = some (.int .i64 x.ar) ∧ W.cell? ⟨q1, 4, none⟩ = some (.int .i64 x.hf) ∧ W.cell? ⟨q1, 5, none⟩ = some (.int .i64 x.gl) ∧ W.cell? ⟨q1, 6, none⟩ = some (.int .i64 x.sp) ∧ W.cell? ⟨q2, 0, none⟩ = some (.int .u64 (y.tm : Nat)) ∧ W.cell? ⟨q2, 1, none⟩ = some (.int .i64 y.vo) ∧ W.cell? ⟨q2, 2, none⟩ = some (.int .u64 (y.cm : Nat)) := by
  obtain ⟨a0, a1, a2, a3, a4, a5, a6⟩ := ru_cells k.bx
  obtain ⟨b0, b1, b2⟩ := rh_cells k.by_
  exact ⟨a0, a1, a2, a3, a4, a5, a6, b0, b1, b2⟩
structure Lr (w : World) (B g : Nat) (L : List Nat) (d : St) (W : World) : Prop where
  be : Below w.heap.size w W
  r2 : W.heap[w.heap.size]? = some (.cells su0.c 37 (0, 0))
  r3 : W.heap[w.heap.size + 1]? = some (.cells hd0.c 40 (0, 0))
  rf : Rf W B g L d
section
variable {w W W' : World} {B g : Nat} {L : List Nat} {d : St}
theorem Lr.below (h : Lr w B g L d W) (hb : Below W.heap.size W W') : Lr w B g L d W' :=
  ⟨h.be.trans (hb.mono h.be.size), (hb.block _ (Array.getElem?_eq_some_iff.1 h.r2).1).trans h.r2, (hb.block _ (Array.getElem?_eq_some_iff.1 h.r3).1).trans h.r3, h.rf.below hb⟩
theorem Lr.alloc (h : Lr w B g L d W) (o : Obj) : Lr w B g L d (W.alloc o) := h.below ((Below.refl _ _).alloc (Nat.le_refl _) _)
theorem Lr.fr3 (h : Lr w B g L d W) (s : Su) : (W.setRow w.heap.size s.c).heap[w.heap.size + 1]? = some (.cells hd0.c 40 (0, 0)) := (setRow_other _ _ _ _ (by omega)).trans h.r3
theorem Lr.fg3 (h : Lr w B g L d W) (s : Su) (y : Hd) : ((W.setRow w.heap.size s.c).setRow (w.heap.size + 1) y.c).heap[w.heap.size + 1]? = some (.cells y.c 40 (0, 0)) := setRow_heap _ _ _ _ 40 (0, 0) (h.fr3 s)
theorem Lr.fg2 (h : Lr w B g L d W) (s : Su) (y : Hd) : ((W.setRow w.heap.size s.c).setRow (w.heap.size + 1) y.c).heap[w.heap.size]? = some (.cells s.c 37 (0, 0)) := (setRow_other _ _ _ _ (by omega)).trans (setRow_heap _ _ _ _ 37 (0, 0) h.r2)
theorem Lr.fb (h : Lr w B g L d W) (s : Su) (y : Hd) : Below w.heap.size w ((W.setRow w.heap.size s.c).setRow (w.heap.size + 1) y.c) := below_putRow (below_putRow h.be _ (Nat.le_refl _) _) _ (by omega) _
end
/-- .. and the Super that was read. -/
structure Lrx (w : World) (B g : Nat) (L : List Nat) (d : St) (q : Nat) (x : Su) (W : World) : Prop where
  lr : Lr w B g L d W
  bx : W.heap[q]? = some (.cells x.c 37 (0, 0))
theorem Lrx.below {w W W' : World} {B g q : Nat} {L : List Nat} {d : St} {x : Su} (h : Lrx w B g L d q x W) (hb : Below W.heap.size W W') : Lrx w B g L d q x W' :=
  ⟨h.lr.below hb, (hb.block _ (Array.getElem?_eq_some_iff.1 h.bx).1).trans h.bx⟩
/-- The device's first cell: its sectors. -/
theorem rf_c0 {w : World} {B g : Nat} {L : List Nat} {d : St} (h : Rf w B g L d) : ∃ g1 c1, L.getD 1 0 = g1 ∧ w.cell? ⟨g, 0, none⟩ = some (.slice (some ⟨g1, 0, none⟩) d.n c1) := by
  obtain ⟨g1, c1, g2, c2, g3, c3, rfl, hA⟩ := RAt.of_rf h
  exact ⟨g1, c1, rfl, hA.c 0⟩
theorem ldF1 {d : St} (h : rdE d 0 ≠ 0) : ldE d = rdE d 0 ∧ ldS d = su0 ∧ ldH d = hd0 := by
  have e1 : lSe d = rdE d 0 := by unfold lSe; rw [if_pos h]
  have e2 : ldE d = rdE d 0 := by unfold ldE; rw [e1, if_pos h]
  exact ⟨e2, by unfold ldS; rw [e2, if_neg h], by unfold ldH; rw [e2, if_neg h]⟩
theorem ldF2 {d : St} (h : rdE d 0 = 0) (h2 : gO (rdB d 0) = false ∨ (d.n : Int) < sec (gS (rdB d 0))) : ldE d = 2 ∧ ldS d = su0 ∧ ldH d = hd0 := by
  have e1 : lSe d = 2 := by
    unfold lSe
    rw [if_neg (by rw [h]; simp)]
    rcases h2 with h2 | h2
    · rw [h2]; rfl
    · rw [decide_eq_true h2]; simp
  have e2 : ldE d = 2 := by unfold ldE; rw [e1]; rfl
  exact ⟨e2, by unfold ldS; rw [e2]; rfl, by unfold ldH; rw [e2]; rfl⟩
theorem lSe_ok {d : St} (h : rdE d 0 = 0) (h2 : gO (rdB d 0) = true) (h3 : ¬ (d.n : Int) < sec (gS (rdB d 0))) : lSe d = 0 := by
  unfold lSe
  rw [if_neg (by rw [h]; simp), h2, decide_eq_false h3]; rfl
theorem ldF3 {d : St} (h : lSe d = 0) (h6 : rdE d 2 = 6) : ldE d = 0 ∧ ldS d = gS (rdB d 0) ∧ ldH d = hd0 := by
  have e2 : ldE d = 0 := by unfold ldE lHe; rw [h, h6]; rfl
  exact ⟨e2, by unfold ldS; rw [e2, if_pos rfl]; unfold lS; rw [h, if_pos rfl], by unfold ldH; rw [e2, if_pos rfl]; unfold lH; rw [h6]; rfl⟩
theorem ldF4 {d : St} (h : lSe d = 0) (h6 : rdE d 2 ≠ 6) (h0 : rdE d 2 ≠ 0) : ldE d = rdE d 2 ∧ ldS d = su0 ∧ ldH d = hd0 := by
  have e2 : ldE d = rdE d 2 := by unfold ldE lHe; rw [h, if_neg (by simp), if_neg h6, if_pos h0]
  exact ⟨e2, by unfold ldS; rw [e2, if_neg h0], by unfold ldH; rw [e2, if_neg h0]⟩
theorem ldF5 {d : St} (h : lSe d = 0) (h0 : rdE d 2 = 0) (ho : jO (rdB d 2) = false) : ldE d = 2 ∧ ldS d = su0 ∧ ldH d = hd0 := by
  have e2 : ldE d = 2 := by unfold ldE lHe; rw [h, h0, ho]; rfl
  exact ⟨e2, by unfold ldS; rw [e2]; rfl, by unfold ldH; rw [e2]; rfl⟩
theorem ldF6 {d : St} (h : lSe d = 0) (h0 : rdE d 2 = 0) (ho : jO (rdB d 2) = true) : ldE d = 0 ∧ ldS d = gS (rdB d 0) ∧ ldH d = jH (rdB d 2) := by
  have e2 : ldE d = 0 := by unfold ldE lHe; rw [h, h0, ho]; rfl
  exact ⟨e2, by unfold ldS; rw [e2, if_pos rfl]; unfold lS; rw [h, if_pos rfl], by unfold ldH; rw [e2, if_pos rfl]; unfold lH; rw [h0, if_pos rfl, ho, if_pos rfl]⟩
set_option maxHeartbeats 2000000 in
set_option maxRecDepth 100000 in
theorem rload_any (B g : Nat) (L : List Nat) (d : St) (w : World) (h : Rf w B g L d) : Calls Tryz.prog 17 #[ptr g] w fun e w' => e = .returned (.tuple #[(ldS d).val, (ldH d).val, .int .i64 (ldE d)]) ∧ Below w.heap.size w w' := by
  have hb0 : Below w.heap.size w ((w.alloc (.cells su0.c 37)).alloc (.cells hd0.c 40)) := ((Below.refl _ _).alloc (Nat.le_refl _) _).alloc (by simp) _
  have Q0 : Lr w B g L d ((w.alloc (.cells su0.c 37)).alloc (.cells hd0.c 40)) := ⟨hb0, (Lib.alloc_old _ _ _ (by simp)).trans (heap_alloc_new w _), heap_alloc2_new w _ _, h.below hb0⟩
  obtain ⟨W0, hW0⟩ : ∃ W0, W0 = (w.alloc (.cells su0.c 37)).alloc (.cells hd0.c 40) := ⟨_, rfl⟩
  rw [← hW0] at Q0
  have hz0 : ((w.alloc (.cells su0.c 37)).alloc (.cells hd0.c 40)) = (w.alloc (.cells #[.int .i64 0, .int .i64 0, .int .i64 0, .int .i64 0, .int .i64 0, .int .i64 0, .int .i64 0] 37)).alloc (.cells #[.int .u64 0, .int .i64 0, .int .u64 0] 40) := rfl
  rw [hz0] at hW0
  have HW0 := Lib.hid hW0
  have HQ0 := Lib.hid Q0
  have KR1 := Lib.hid (fun (W : World) (hQ : Lr w B g L d W) => rsread_any B g L d 0 W hQ.rf (by omega) (by omega))
  have KR2 := Lib.hid (fun (W : World) (hQ : Lr w B g L d W) => rsread_any B g L d 2 W hQ.rf (by omega) (by omega))
  have F1 := Lib.hid (@ldF1 d)
  have F2 := Lib.hid (@ldF2 d)
  have FS := Lib.hid (@lSe_ok d)
  have F3 := Lib.hid (@ldF3 d)
  have F4 := Lib.hid (@ldF4 d)
  have F5 := Lib.hid (@ldF5 d)
  have F6 := Lib.hid (@ldF6 d)
  have hB1 := rdB_size d 0
  have hB2 := rdB_size d 2
  unfold rdV at KR1 KR2
  generalize rdB d 0 = b1 at *
  generalize rdG d 0 = G1 at *
  generalize rdK d 0 = k1 at *
  generalize rdE d 0 = E at *
  generalize rdB d 2 = b2 at *
  generalize rdG d 2 = G2 at *
  generalize rdK d 2 = k2 at *
  generalize rdE d 2 = E2 at *
  generalize ldE d = rE at *
  generalize ldS d = rS at *
  generalize ldH d = rH at *
  generalize lSe d = sE at *
  clear hb0 hW0 hz0 h Q0
  unfold Su.val Hd.val at *
  unfold ptr at *
  by_cases he : E = 0
  · subst he
    have KS := Lib.hid (fun (W : World) => rgetSuper_any b1 W (by omega))
    obtain ⟨x, hx⟩ : ∃ x, x = gS b1 := ⟨_, rfl⟩
    obtain ⟨o, ho⟩ : ∃ o, o = gO b1 := ⟨_, rfl⟩
    rw [← hx, ← ho] at KS
    rw [← hx, ← ho] at F2 FS
    rw [← hx] at F3 F6
    clear hx ho hB1 F1
    unfold Su.val at KS
    unfold Su.c at KS
    go_enter Tryz.func17, Tryz.ntmps17
    go_wp2_with fail
    rw [← HW0.out]
    refine (KR1.out _ HQ0.out).mono ?_
    rintro e w1 ⟨rfl, t1⟩
    have Q1 := Lib.hid (HQ0.out.below t1)
    clear t1 HQ0 HW0 KR1
    go_wp2_with fail
    refine (KS.out _).mono ?_
    rintro e w2 ⟨rfl, t2⟩
    have Q2 := Q1.out.below t2
    obtain ⟨V, hV⟩ : ∃ V, V = w2.alloc (.cells x.c 37) := ⟨_, rfl⟩
    have HXV : Hid (V.heap[w2.heap.size]? = some (.cells x.c 37 (0, 0))) := by show _ = _; rw [hV]; exact heap_alloc_new w2 _
    have QV : Hid (Lr w B g L d V) := by show Lr _ _ _ _ _ _; rw [hV]; exact Q2.alloc _
    have HL1 : Hid (w.heap.size + 1 < w2.heap.size) := (Array.getElem?_eq_some_iff.1 Q2.r3).1
    unfold Su.c at hV
    have HV := Lib.hid hV
    clear t2 Q2 hV KS Q1
    cases o with
    | false =>
      have HR := Lib.hid (F2.out (by first | rfl | trivial | simp) (by first | exact .inl rfl | simp))
      clear F2 FS F3 F4 F5 F6 HXV KR2
      go_upto_region 5 with fail
      rw [← HV.out]
      go_quiet (fail)
      have QN : Hid (∀ n, Lr w B g L d (V.drewN n)) := fun n => QV.out.below (⟨rfl, rfl, rfl, Nat.le_refl _, fun _ _ => rfl⟩ : Below V.heap.size V (V.drewN n))
      have HR2 : Hid (∀ n, (V.drewN n).heap[w.heap.size]? = some (.cells su0.c 37 (0, 0))) := fun n => (QN.out n).r2
      have HR3 : Hid (∀ n, ((V.drewN n).setRow w.heap.size su0.c).heap[w.heap.size + 1]? = some (.cells hd0.c 40 (0, 0))) := fun n => (QN.out n).fr3 su0
      clear QV HL1
      go_wp2_with (first | (refine wpList_store_ru rfl _ _ rfl _ _ su0 su0 rfl rfl (HR2.out _) ?_; go_frame) | (refine wpList_store_rh rfl _ _ rfl _ _ hd0 hd0 rfl rfl (HR3.out _) ?_; go_frame))
      exact bodyPost_ret (v := _) (res17z _ _ w.heap.size (w.heap.size + 1) su0 hd0 rfl rfl ((QN.out _).fg2 su0 hd0) ((QN.out _).fg3 su0 hd0)) rfl ⟨by rw [HR.out.1, HR.out.2.1, HR.out.2.2]; rfl, (QN.out _).fb su0 hd0⟩
    | true =>
      have KM := Lib.hid (fun (W : World) => rsectors_any x W)
      obtain ⟨m, hm⟩ : ∃ m, m = sec x := ⟨_, rfl⟩
      rw [← hm] at KM F2 FS
      unfold Su.val at KM
      unfold Su.c at KM
      obtain ⟨q, hq⟩ : ∃ q, q = w2.heap.size := ⟨_, rfl⟩
      have HQQ := Lib.hid hq
      rw [← hq] at HXV HL1
      clear hm hq
      have QX0 : Lrx w B g L d q x V := ⟨QV.out, HXV.out⟩
      have Qd : Lrx w B g L d q x V.drew := QX0.below (Below.refl _ V).drew
      obtain ⟨g1, c1, hg1, z0⟩ := rf_c0 QV.out.rf
      have HZZ : Hid (∀ W, Lrx w B g L d q x W → Below V.heap.size V W → W.cell? ⟨g, 0, none⟩ = some (.slice (some ⟨g1, 0, none⟩) d.n c1)) := fun W hQ hb => (hb.cell (p := ⟨g, 0, none⟩) (World.block_lt_of_cell? V _ z0)).trans z0
      obtain ⟨c0, c1', c2, c3, c4, c5, c6⟩ := ru_cells HXV.out
      have KMX : Hid (∀ W, Lrx w B g L d q x W → Below V.heap.size V W → Calls Tryz.prog 43 _ W fun e w' => e = .returned (.int .i64 m) ∧ Lrx w B g L d q x w' ∧ Below V.heap.size V w') := fun W hQ hb => (KM.out W).mono fun e w' ⟨h1, h2⟩ => ⟨h1, hQ.below h2, hb.trans (h2.mono hb.size)⟩
      have bd : Below V.heap.size V V.drew := (Below.refl _ V).drew
      have HALL : Hid (∀ W, Lrx w B g L d q x W → Below V.heap.size V W → W.cell? ⟨g, 0, none⟩ = some (.slice (some ⟨g1, 0, none⟩) d.n c1) ∧ W.cell? ⟨q, 0, none⟩ = some (.int .i64 x.v) ∧ W.cell? ⟨q, 1, none⟩ = some (.int .i64 x.sn) ∧ W.cell? ⟨q, 2, none⟩ = some (.int .i64 x.lg) ∧ W.cell? ⟨q, 3, none⟩ = some (.int .i64 x.ar) ∧ W.cell? ⟨q, 4, none⟩ = some (.int .i64 x.hf) ∧ W.cell? ⟨q, 5, none⟩ = some (.int .i64 x.gl) ∧ W.cell? ⟨q, 6, none⟩ = some (.int .i64 x.sp)) := fun W hQ hb => ⟨HZZ.out W hQ hb, ru_cells hQ.bx⟩
      clear KM HXV QX0 hg1 HZZ
      go_upto_region 5 with fail
      rw [← HV.out, ← HQQ.out]
      clear HV HQQ
      go_region_held3 (fun w' => w'.cell? ⟨g, 0, none⟩ = some (.slice (some ⟨g1, 0, none⟩) d.n c1) ∧ w'.cell? ⟨q, 0, none⟩ = some (.int .i64 x.v) ∧ w'.cell? ⟨q, 1, none⟩ = some (.int .i64 x.sn) ∧ w'.cell? ⟨q, 2, none⟩ = some (.int .i64 x.lg) ∧ w'.cell? ⟨q, 3, none⟩ = some (.int .i64 x.ar) ∧ w'.cell? ⟨q, 4, none⟩ = some (.int .i64 x.hf) ∧ w'.cell? ⟨q, 5, none⟩ = some (.int .i64 x.gl) ∧ w'.cell? ⟨q, 6, none⟩ = some (.int .i64 x.sp)) (first | exact ⟨z0, c0, c1', c2, c3, c4, c5, c6⟩ | exact (HALL.out _ (by assumption) (by assumption))) (first
        | (go_at_call 43; (with_reducible refine (KMX.out _ Qd bd).mono ?_); rintro e v2 ⟨rfl, Q2, bz⟩))
      all_goals clear z0 c0 c1' c2 c3 c4 c5 c6 bd Qd KMX HALL QV
      have Q3 := Lib.hid Q2.lr
      have HX3 := Lib.hid Q2.bx
      clear Q2 bz
      by_cases hlt : (d.n : Int) < m
      · have HR := Lib.hid (F2.out (by first | rfl | trivial | simp) (by first | exact .inr hlt | simp [hlt]))
        clear F2 FS F3 F4 F5 F6 KR2 HX3 HL1
        go_upto_region 6 with fail
        have HR2 := Lib.hid Q3.out.r2
        have HR3 := Lib.hid (Q3.out.fr3 su0)
        have HG2 := Lib.hid (Q3.out.fg2 su0 hd0)
        have HG3 := Lib.hid (Q3.out.fg3 su0 hd0)
        have HFB := Lib.hid (Q3.out.fb su0 hd0)
        go_wp2_with (first | (refine wpList_store_ru rfl _ _ rfl _ _ su0 su0 rfl rfl HR2.out ?_; go_frame) | (refine wpList_store_rh rfl _ _ rfl _ _ hd0 hd0 rfl rfl HR3.out ?_; go_frame))
        exact bodyPost_ret (v := _) (res17z _ _ w.heap.size (w.heap.size + 1) su0 hd0 rfl rfl HG2.out HG3.out) rfl ⟨by rw [HR.out.1, HR.out.2.1, HR.out.2.2]; rfl, HFB.out⟩
      · have hse := FS.out (by first | rfl | trivial | simp) (by first | rfl | trivial | simp) (by omega)
        subst hse
        have hlt' : decide ((d.n : Int) < m) = false := decide_eq_false hlt
        clear F2 FS
        go_wp2_with fail
        refine (KR2.out _ Q3.out).mono ?_
        rintro e w3 ⟨rfl, t3⟩
        have Q4 := Lib.hid (Q3.out.below t3)
        have HX4 : Hid (w3.heap[q]? = some (.cells x.c 37 (0, 0))) := (t3.block _ (Array.getElem?_eq_some_iff.1 HX3.out).1).trans HX3.out
        clear t3 Q3 HX3 KR2 hlt hlt'
        by_cases h6 : E2 = 6
        · have HR := Lib.hid (F3.out (by first | rfl | trivial | simp) h6)
          subst h6
          clear F3 F4 F5 F6 HL1
          go_upto_region 9 with fail
          have HR2 := Lib.hid Q4.out.r2
          have HR3 := Lib.hid (Q4.out.fr3 x)
          have HG2 := Lib.hid (Q4.out.fg2 x hd0)
          have HG3 := Lib.hid (Q4.out.fg3 x hd0)
          have HFB := Lib.hid (Q4.out.fb x hd0)
          go_wp2_with (first | (refine wpList_load_ru rfl _ rfl _ _ x rfl HX4.out ?_; go_frame) | (refine wpList_store_ru rfl _ _ rfl _ _ x su0 rfl rfl HR2.out ?_; go_frame) | (refine wpList_store_rh rfl _ _ rfl _ _ hd0 hd0 rfl rfl HR3.out ?_; go_frame))
          exact bodyPost_ret (v := _) (res17z _ _ w.heap.size (w.heap.size + 1) x hd0 rfl rfl HG2.out HG3.out) rfl ⟨by rw [HR.out.1, HR.out.2.1, HR.out.2.2]; rfl, HFB.out⟩
        · have n6 : (E2 == 6) = false := by simpa using h6
          by_cases h0 : E2 = 0
          · subst h0
            have KH := Lib.hid (fun (W : World) => rgetHard_any b2 W (by omega))
            obtain ⟨y, hy⟩ : ∃ y, y = jH b2 := ⟨_, rfl⟩
            obtain ⟨o2, ho2⟩ : ∃ o, o = jO b2 := ⟨_, rfl⟩
            rw [← hy, ← ho2] at KH
            rw [← ho2] at F5
            rw [← hy, ← ho2] at F6
            generalize jV b2 = vv at *
            clear hy ho2 hB2 F3 F4
            unfold Hd.val at KH
            unfold Hd.c at KH
            go_wp2_with fail
            refine (KH.out _).mono ?_
            rintro e w4 ⟨rfl, t4⟩
            have Q5 := Q4.out.below t4
            have hx5 := (t4.block _ (Array.getElem?_eq_some_iff.1 HX4.out).1).trans HX4.out
            obtain ⟨V5, hV5⟩ : ∃ V, V = w4.alloc (.cells y.c 40) := ⟨_, rfl⟩
            have HY5 : Hid (V5.heap[w4.heap.size]? = some (.cells y.c 40 (0, 0))) := by show _ = _; rw [hV5]; exact heap_alloc_new w4 _
            have HX5 : Hid (V5.heap[q]? = some (.cells x.c 37 (0, 0))) := by show _ = _; rw [hV5]; exact (Lib.alloc_old _ _ _ (Array.getElem?_eq_some_iff.1 hx5).1).trans hx5
            have QV5 : Hid (Lr w B g L d V5) := by show Lr _ _ _ _ _ _; rw [hV5]; exact Q5.alloc _
            have HL2 : Hid (w.heap.size + 1 < w4.heap.size) := (Array.getElem?_eq_some_iff.1 Q5.r3).1
            unfold Hd.c at hV5
            have HV5 := Lib.hid hV5
            clear t4 Q5 hx5 hV5 KH Q4 HX4
            cases o2 with
            | false =>
              have HR := Lib.hid (F5.out (by first | rfl | trivial | simp) (by first | rfl | trivial | simp) (by first | rfl | trivial | simp))
              clear F5 F6 HX5 HY5 HL1 HL2
              go_upto_region 14 with fail
              rw [← HV5.out]
              have HR2 := Lib.hid QV5.out.r2
              have HR3 := Lib.hid (QV5.out.fr3 su0)
              have HG2 := Lib.hid (QV5.out.fg2 su0 hd0)
              have HG3 := Lib.hid (QV5.out.fg3 su0 hd0)
              have HFB := Lib.hid (QV5.out.fb su0 hd0)
              go_wp2_with (first | (refine wpList_store_ru rfl _ _ rfl _ _ su0 su0 rfl rfl HR2.out ?_; go_frame) | (refine wpList_store_rh rfl _ _ rfl _ _ hd0 hd0 rfl rfl HR3.out ?_; go_frame))
              exact bodyPost_ret (v := _) (res17z _ _ w.heap.size (w.heap.size + 1) su0 hd0 rfl rfl HG2.out HG3.out) rfl ⟨by rw [HR.out.1, HR.out.2.1, HR.out.2.2]; rfl, HFB.out⟩
            | true =>
              have HR := Lib.hid (F6.out (by first | rfl | trivial | simp) (by first | rfl | trivial | simp) (by first | rfl | trivial | simp))
              clear F5 F6
              obtain ⟨q2, hq2⟩ : ∃ q2, q2 = w4.heap.size := ⟨_, rfl⟩
              rw [← hq2] at HY5 HL2
              have HQ2 := Lib.hid hq2
              clear hq2
              go_upto_region 15 with fail
              rw [← HV5.out, ← HQ2.out]
              clear HV5 HQ2
              have QL0 : Ldy w g L d q q2 su0 hd0 x y V5 := ⟨QV5.out.be, QV5.out.r2, QV5.out.r3, HX5.out, HY5.out, HL1.out, HL2.out⟩
              have QL : Ldy w g L d q q2 su0 hd0 x y V5.drew := QL0.drew
              have HQL := Lib.hid QL0
              clear QV5 HX5 HY5 HL1 HL2
              obtain ⟨a0, a1, a2, a3, a4, a5, a6⟩ := ru_cells QL.bx
              obtain ⟨b0, b1, b2⟩ := rh_cells QL.by_
              obtain ⟨r0, r1, r2, r3, r4, r5, r6⟩ := ru_cells QL0.r2
              obtain ⟨s0, s1, s2⟩ := rh_cells QL0.r3
              have f2 : ∀ i, V5.frozen? ⟨w.heap.size, i, none⟩ = false := fun i => Lib.frozen_of_heap QL0.r2 i
              have f3 : ∀ i, V5.frozen? ⟨w.heap.size + 1, i, none⟩ = false := fun i => Lib.frozen_of_heap QL0.r3 i
              dsimp only [hd0] at s0 s1 s2
              dsimp only [su0] at r0 r1 r2 r3 r4 r5 r6
              clear QL QL0
              refine wp_region_noPanic ?_
              refine wp_region_held_drew (S := (fun w' => w'.cell? ⟨q, 0, none⟩ = some (.int .i64 x.v) ∧ w'.cell? ⟨q, 1, none⟩ = some (.int .i64 x.sn) ∧ w'.cell? ⟨q, 2, none⟩ = some (.int .i64 x.lg) ∧ w'.cell? ⟨q, 3, none⟩ = some (.int .i64 x.ar) ∧ w'.cell? ⟨q, 4, none⟩ = some (.int .i64 x.hf) ∧ w'.cell? ⟨q, 5, none⟩ = some (.int .i64 x.gl) ∧ w'.cell? ⟨q, 6, none⟩ = some (.int .i64 x.sp) ∧ w'.cell? ⟨q2, 0, none⟩ = some (.int .u64 (y.tm : Nat)) ∧ w'.cell? ⟨q2, 1, none⟩ = some (.int .i64 y.vo) ∧ w'.cell? ⟨q2, 2, none⟩ = some (.int .u64 (y.cm : Nat)))) (by kernel_rfl) (by exact ⟨a0, a1, a2, a3, a4, a5, a6, b0, b1, b2⟩) (fun hHeld => ?_)
              refine wpAnyH_take (v := ?v0) (i := 0) rfl (by kernel_rfl) (by kernel_rfl) (by kernel_rfl) (fun _ _ _ h => h) (Or.inl ⟨by kernel_rfl, ?hy0⟩) (by assumption) ?rest0
              case hy0 => (intro w hSw; (try dsimp only at hSw); go_simp; first | done | (with_reducible rfl))
              try simp only [Act.put, List.setIfInBounds_toArray, List.set_cons_zero, List.set_cons_succ]
              refine wpAnyH_take (v := ?v1) (i := 1) rfl (by kernel_rfl) (by kernel_rfl) (by kernel_rfl) (fun _ _ _ h => h) (Or.inl ⟨by kernel_rfl, ?hy1⟩) (by assumption) ?rest1
              case hy1 => (intro w hSw; (try dsimp only at hSw); go_simp; first | done | (with_reducible rfl))
              try simp only [Act.put, List.setIfInBounds_toArray, List.set_cons_zero, List.set_cons_succ]
              have g0 := f2 0
              have g1 := f2 1
              have g2 := f2 2
              have g3 := f2 3
              have g4 := f2 4
              have g5 := f2 5
              have g6 := f2 6
              have h0 := f3 0
              have h1 := f3 1
              have h2 := f3 2
              refine wpAnyH_ready (rs := [2]) (by kernel_rfl) (by simp) ?_
              refine AllReadyH.cons rfl (fun K hK => ?_) AllReadyH.nil
              go_simp
              refine hK.out _ _ ?_ (fun hHeld => ?_)
              · exact (HQL.out.set7.drew).all
              clear hK K
              try simp only [Act.put, List.setIfInBounds_toArray, List.set_cons_zero, List.set_cons_succ]
              refine wpAnyH_ready (rs := [3]) (by kernel_rfl) (by simp) ?_
              refine AllReadyH.cons rfl (fun K hK => ?_) AllReadyH.nil
              go_simp
              refine hK.out _ _ ?_ (fun hHeld => ?_)
              · exact (HQL.out.set7.set3.drew).all
              clear hK K
              try simp only [Act.put, List.setIfInBounds_toArray, List.set_cons_zero, List.set_cons_succ]
              refine wpAnyH_ready (rs := [4]) (by kernel_rfl) (by simp) ?_
              refine AllReadyH.cons rfl (fun K hK => ?_) AllReadyH.nil
              go_simp
              refine hK.out _ _ ?_ (fun hHeld => ?_)
              · exact (HQL.out.set7.set3.drew).all
              clear hK K
              try simp only [Act.put, List.setIfInBounds_toArray, List.set_cons_zero, List.set_cons_succ]
              refine wpAnyH_done (by kernel_rfl) ?_ _
              refine NoPanic.normal ?_
              have HF := Lib.hid HQL.out.set7.set3.drew
              go_wp2_with fail
              exact bodyPost_ret (v := _) (res17z _ _ w.heap.size (w.heap.size + 1) x y rfl rfl HF.out.r2 HF.out.r3) rfl ⟨by rw [HR.out.1, HR.out.2.1, HR.out.2.2]; rfl, HF.out.be⟩
          · have n0 : (E2 != 0) = true := by simpa using h0
            have HR := Lib.hid (F4.out (by first | rfl | trivial | simp) h6 h0)
            clear F3 F4 F5 F6 HX4 HL1 h6 h0
            go_upto_region 11 with fail
            have HR2 := Lib.hid Q4.out.r2
            have HR3 := Lib.hid (Q4.out.fr3 su0)
            have HG2 := Lib.hid (Q4.out.fg2 su0 hd0)
            have HG3 := Lib.hid (Q4.out.fg3 su0 hd0)
            have HFB := Lib.hid (Q4.out.fb su0 hd0)
            go_wp2_with (first | (refine wpList_store_ru rfl _ _ rfl _ _ su0 su0 rfl rfl HR2.out ?_; go_frame) | (refine wpList_store_rh rfl _ _ rfl _ _ hd0 hd0 rfl rfl HR3.out ?_; go_frame))
            exact bodyPost_ret (v := _) (res17z _ _ w.heap.size (w.heap.size + 1) su0 hd0 rfl rfl HG2.out HG3.out) rfl ⟨by rw [HR.out.1, HR.out.2.1, HR.out.2.2]; rfl, HFB.out⟩
  · have hne : (E != 0) = true := by simpa using he
    have HR := Lib.hid (F1.out he)
    clear F1 F2 FS F3 F4 F5 F6 KR2 he hB1 hB2
    go_enter Tryz.func17, Tryz.ntmps17
    go_wp2_with fail
    rw [← HW0.out]
    refine (KR1.out _ HQ0.out).mono ?_
    rintro e w1 ⟨rfl, t1⟩
    have Q1 := Lib.hid (HQ0.out.below t1)
    clear t1 HQ0 HW0 KR1
    go_upto_region 3 with fail
    have HR2 := Lib.hid Q1.out.r2
    have HR3 := Lib.hid (Q1.out.fr3 su0)
    have HG2 := Lib.hid (Q1.out.fg2 su0 hd0)
    have HG3 := Lib.hid (Q1.out.fg3 su0 hd0)
    have HFB := Lib.hid (Q1.out.fb su0 hd0)
    go_wp2_with (first | (refine wpList_store_ru rfl _ _ rfl _ _ su0 su0 rfl rfl HR2.out ?_; go_frame) | (refine wpList_store_rh rfl _ _ rfl _ _ hd0 hd0 rfl rfl HR3.out ?_; go_frame))
    exact bodyPost_ret (v := _) (res17z _ _ w.heap.size (w.heap.size + 1) su0 hd0 rfl rfl HG2.out HG3.out) rfl ⟨by rw [HR.out.1, HR.out.2.1, HR.out.2.2]; rfl, HFB.out⟩
end Go.Proofs.YtdoombcihobejaaGreat
namespace Go.Proofs.YtdoombcihobejaaGreat
open Go.RowKit Vi Sl Dk
set_option linter.unusedVariables false
/-- Two devices, the program's and the document's, above what stood, and blocks that neither holds. -/
def Px (w : World) (g gr : Nat) (K : List (Nat × Obj)) (d e : St) (W : World) : Prop :=
  ∃ L Lr, Dv W g L d ∧ Rf W w.heap.size gr Lr e ∧ (∀ x ∈ L, w.heap.size ≤ x) ∧ Below w.heap.size w W ∧ ∀ p ∈ K, W.heap[p.1]? = some p.2 ∧ p.1 ∉ L ∧ p.1 ∉ Lr
section
variable {w W W' : World} {g gr : Nat} {K : List (Nat × Obj)} {d e d' e' : St}
theorem Px.below (h : Px w g gr K d e W) (hb : Below W.heap.size W W') : Px w g gr K d e W' := by
  obtain ⟨L, Lr, h1, h2, h3, h4, h5⟩ := h
  exact ⟨L, Lr, h1.below hb, h2.below hb, h3, h4.trans (hb.mono h4.size), fun p hp => ⟨(hb.block _ (Array.getElem?_eq_some_iff.1 (h5 p hp).1).1).trans (h5 p hp).1, (h5 p hp).2⟩⟩
theorem Px.be (h : Px w g gr K d e W) : Below w.heap.size w W := by obtain ⟨L, Lr, h1, h2, h3, h4, h5⟩ := h; exact h4
theorem Px.drew (h : Px w g gr K d e W) : Px w g gr K d e W.drew := h.below (Below.refl _ W).drew
theorem Px.get (h : Px w g gr K d e W) {k : Nat} {o : Obj} (hm : (k, o) ∈ K) : W.heap[k]? = some o := by obtain ⟨L, Lr, h1, h2, h3, h4, h5⟩ := h; exact (h5 _ hm).1
theorem Px.add (h : Px w g gr K d e W) (hb : Below W.heap.size W W') {k : Nat} {o : Obj} (hk : W.heap.size ≤ k) (ho : W'.heap[k]? = some o) : Px w g gr ((k, o) :: K) d e W' := by
  obtain ⟨L, Lr, h1, h2, h3, h4, h5⟩ := h
  refine ⟨L, Lr, h1.below hb, h2.below hb, h3, h4.trans (hb.mono h4.size), fun p hp => ?_⟩
  rcases List.mem_cons.1 hp with rfl | hp
  · exact ⟨ho, fun hm => by have := h1.lt _ hm; simp at this; omega, fun hm => by have := h2.lt _ hm; simp at this; omega⟩
  · exact ⟨(hb.block _ (Array.getElem?_eq_some_iff.1 (h5 p hp).1).1).trans (h5 p hp).1, (h5 p hp).2⟩
theorem Px.put {k : Nat} {o o' : Obj} (h : Px w g gr ((k, o) :: K) d e W) (hn : ∀ p ∈ K, p.1 ≠ k) (hk : w.heap.size ≤ k) (h1 : W'.heap[k]? = some o') (h2 : ∀ j, j ≠ k → W'.heap[j]? = W.heap[j]?) (h3 : Below w.heap.size w W') : Px w g gr ((k, o') :: K) d e W' := by
  obtain ⟨L, Lr, a1, a2, a3, a4, a5⟩ := h
  have hk5 := (a5 (k, o) (by simp)).2
  refine ⟨L, Lr, a1.of_heap fun j hj => h2 j (fun e => hk5.1 (by subst e; exact hj)), a2.of_heap fun j hj => h2 j (fun e => hk5.2 (by subst e; exact hj)), a3, h3, fun p hp => ?_⟩
  rcases List.mem_cons.1 hp with rfl | hp
  · exact ⟨h1, hk5⟩
  · have := a5 p (by simp [hp]); exact ⟨(h2 _ (hn p hp)).trans this.1, this.2⟩
theorem Px.m1 (h : Px w g gr K d e W) (hm : ∀ L, Dv W g L d → Moves g L d' W W') : Px w g gr K d' e W' := by
  obtain ⟨L, Lr, h1, h2, h3, h4, h5⟩ := h
  obtain ⟨L', a1, a2, a3, a4, a5, a6⟩ := (hm L h1).below h4 h4.size h3
  refine ⟨L', Lr, a1, h2.keep a5 (rf_apart h2 h1), a2, a3, fun p hp => ?_⟩
  obtain ⟨b1, b2, b3⟩ := h5 p hp
  have hlt := (Array.getElem?_eq_some_iff.1 b1).1
  exact ⟨(a5.block _ hlt b2).trans b1, fun hx => (a6 _ hx).elim b2 (fun h => by omega), b3⟩
theorem Px.m2 (h : Px w g gr K d e W) (hm : ∀ L, Rf W w.heap.size gr L e → RMoves w.heap.size gr L e' W W') : Px w g gr K d e' W' := by
  obtain ⟨L, Lr, h1, h2, h3, h4, h5⟩ := h
  obtain ⟨a1, a2⟩ := hm Lr h2
  refine ⟨L, Lr, h1.keep a2 (fun j hj hx => rf_apart h2 h1 j hx hj), a1, h3, Keep.below h4 a2 h4.size h2.low, fun p hp => ?_⟩
  obtain ⟨b1, b2, b3⟩ := h5 p hp
  exact ⟨(a2.block _ (Array.getElem?_eq_some_iff.1 b1).1 b3).trans b1, b2, b3⟩
/-- A call on the program's device. -/
theorem Px.c1 {f : Nat} {xs : Array Value} {r : Ending} (h : Px w g gr K d e W) (hc : ∀ L, Dv W g L d → Calls Tryz.prog f xs W fun x w' => x = r ∧ Moves g L d' W w') :
    Calls Tryz.prog f xs W fun x w' => x = r ∧ Px w g gr K d' e w' := by
  have h0 := h
  obtain ⟨L, Lr, h1, h2, h3, h4, h5⟩ := h
  refine (hc L h1).mono fun x w' ⟨hx, hm⟩ => ⟨hx, ?_⟩
  obtain ⟨L', a1, a2, a3, a4, a5, a6⟩ := hm.below h4 h4.size h3
  refine ⟨L', Lr, a1, h2.keep a5 (rf_apart h2 h1), a2, a3, fun p hp => ?_⟩
  obtain ⟨b1, b2, b3⟩ := h5 p hp
  have hlt := (Array.getElem?_eq_some_iff.1 b1).1
  exact ⟨(a5.block _ hlt b2).trans b1, fun hx => (a6 _ hx).elim b2 (fun h => by omega), b3⟩
/-- .. on the document's. -/
theorem Px.c2 {f : Nat} {xs : Array Value} {r : Ending} (h : Px w g gr K d e W) (hc : ∀ L, Rf W w.heap.size gr L e → Calls Tryz.prog f xs W fun x w' => x = r ∧ RMoves w.heap.size gr L e' W w') :
    Calls Tryz.prog f xs W fun x w' => x = r ∧ Px w g gr K d e' w' := by
  obtain ⟨L, Lr, h1, h2, h3, h4, h5⟩ := h
  refine (hc Lr h2).mono fun x w' ⟨hx, a1, a2⟩ => ⟨hx, ?_⟩
  refine ⟨L, Lr, h1.keep a2 (fun j hj hx => rf_apart h2 h1 j hx hj), a1, h3, Keep.below h4 a2 h4.size h2.low, fun p hp => ?_⟩
  obtain ⟨b1, b2, b3⟩ := h5 p hp
  exact ⟨(a2.block _ (Array.getElem?_eq_some_iff.1 b1).1 b3).trans b1, b2, b3⟩
/-- A call that leaves all as it is, on either. -/
theorem Px.q1 {f : Nat} {xs : Array Value} {r : Ending} (h : Px w g gr K d e W) (hc : ∀ L, Dv W g L d → Calls Tryz.prog f xs W fun x w' => x = r ∧ Below W.heap.size W w') :
    Calls Tryz.prog f xs W fun x w' => x = r ∧ Px w g gr K d e w' ∧ Below W.heap.size W w' := by
  have h0 := h
  obtain ⟨L, Lr, h1, h2, h3, h4, h5⟩ := h
  exact (hc L h1).mono fun x w' ⟨hx, hm⟩ => ⟨hx, h0.below hm, hm⟩
theorem Px.q2 {f : Nat} {xs : Array Value} {r : Ending} (h : Px w g gr K d e W) (hc : ∀ L, Rf W w.heap.size gr L e → Calls Tryz.prog f xs W fun x w' => x = r ∧ Below W.heap.size W w') :
    Calls Tryz.prog f xs W fun x w' => x = r ∧ Px w g gr K d e w' ∧ Below W.heap.size W w' := by
  have h0 := h
  obtain ⟨L, Lr, h1, h2, h3, h4, h5⟩ := h
  exact (hc Lr h2).mono fun x w' ⟨hx, hm⟩ => ⟨hx, h0.below hm, hm⟩
end
end Go.Proofs.YtdoombcihobejaaGreat
