/-
  The document's own PutMsg: what it returns.
  Conditions: the numbers are those of their kinds; the texts' lengths below 2^47.
-/
import Derived.Test.YtiikgfcfceldmaaRPut
import Derived.Test.YtiikgfcfceldmaaPutM
import Derived.Test.YtiikgfcfceldmaaRMRight
namespace Go.Proofs.Ytiikgfcfceldmaa
open Go.RowKit
set_option linter.unusedVariables false
set_option linter.unusedSimpArgs false

theorem putS_of {m : Ms} (h : mmayB m = true) : ∀ e ∈ m.es, mayB e = true := by
  intro e he
  unfold mmayB mrightB at h
  simp only [Bool.and_eq_true, Bool.not_eq_true'] at h
  obtain ⟨⟨h1, h2⟩, h3⟩ := h
  unfold hasWrong at h2
  rw [List.any_eq_false] at h2
  have hr : rightB e = true := by simpa using h2 e he
  have hk : ¬ e.kind = 11 := by
    intro hk
    have hm : mlvl m = 2 := by
      unfold mlvl
      rw [if_pos]
      rw [Bool.or_eq_true]
      exact .inr (List.any_eq_true.2 ⟨e, he, by rw [hk]; rfl⟩)
    rw [hm] at h3
    exact absurd h3 (by decide)
  unfold mayB lvl
  rw [hr, if_neg hk]
  rfl

set_option maxHeartbeats 16000000 in
set_option maxRecDepth 100000 in
theorem rputM_any (m : Ms) (w : World) (hE : Ents w.heap.size m.A m.n m.es w) (wd : m.Wide) :
    Calls Try.prog 21 #[mv m] w fun q w' => q = .returned (.tuple #[.string (putM m), .bool (mmayB m)]) ∧ Below w.heap.size w w' := by
  obtain ⟨W0, hW0⟩ : ∃ W0, W0 = w.alloc (Obj.cells (mc m) 44) := ⟨_, rfl⟩
  have P0 : Pm w m W0 := hW0 ▸ Pm.start hE
  obtain ⟨rb, hrb⟩ : ∃ rb, rb = mrightB m := ⟨_, rfl⟩
  obtain ⟨lv, hlv⟩ : ∃ lv, lv = mlvl m := ⟨_, rfl⟩
  have hlo : lv = 1 ∨ lv = 2 := by have := mlvl_bounds m; omega
  have KR := Lib.hid (fun (W : World) (h : Pm w m W) => (rmright_any m W (h.en.mr h.sz) wd).mono fun q w' ⟨h1, h2⟩ => And.intro (show q = Ending.returned (.bool rb) by rw [h1, hrb]) (h.on h2).all)
  have KL := Lib.hid (fun (W : World) (h : Pm w m W) => (rmlevel_any m W (h.en.mr h.sz) (wide_n wd)).mono fun q w' ⟨h1, h2⟩ => And.intro (show q = Ending.returned (.int .i64 lv) by rw [h1, hlv]) (h.on h2).all)
  have KN := Lib.hid (fun (v k : Int) (W : World) (hv : 0 ≤ v ∧ v ≤ 18446744073709551615) (h : Pm w m W) => (rnum_any v k W hv).mono fun q w' ⟨h1, h2⟩ => And.intro h1 (h.on h2).all)
  have HM : Hid (mmayB m = (rb && (lv == 1))) := by show _ = _; unfold mmayB; rw [← hrb, ← hlv]
  have HRB := Lib.hid hrb
  have P1 := P0.all
  have HW0 := Lib.hid hW0
  rw [hW0] at P1
  obtain ⟨S, c0, c1, c2, c3, c4, c5, c6, c7, c8, c9, c10⟩ := P1
  rw [← hW0] at S
  have HE := Lib.hid hE
  have WD := Lib.hid wd
  clear hW0 P0 hrb hlv hE wd
  cases rb with
  | false =>
    have HB : Hid (mmayB m = false) := by show _ = _; rw [HM.out]; rfl
    have HP : Hid (putM m = ⟨#[]⟩) := by show _ = _; unfold putM; rw [HB.out]; rfl
    clear hlo
    go_enter Try.func21, Try.ntmps21
    go_wp2_with (first
      | (go_at_call 46; rw [← HW0.out]; (with_reducible refine (KR.out _ S).mono ?_); rintro q w1 ⟨rfl, T, d0, d1, d2, d3, d4, d5, d6, d7, d8, d9, d10⟩))
    go_ret2
    exact ⟨ret_pair HP.out.symm HB.out.symm, T.be⟩
  | true =>
    rcases hlo with rfl | rfl
    · have HB : Hid (mmayB m = true) := by show _ = _; rw [HM.out]; rfl
      have HP : Hid (putM m = pbm m) := by show _ = _; unfold putM; rw [HB.out]; rfl
      have HPS := Lib.hid (putS_of HB.out)
      have fw := mfew_of WD.out HRB.out.symm
      have q1 : 0 ≤ m.kind ∧ m.kind ≤ 18446744073709551615 := ⟨fw.k0, by have := fw.k1; omega⟩
      have q2 : 0 ≤ m.frm ∧ m.frm ≤ 18446744073709551615 := ⟨fw.f0, by have := fw.f1; omega⟩
      have q3 : 0 ≤ m.dst ∧ m.dst ≤ 18446744073709551615 := ⟨fw.o0, by have := fw.o1; omega⟩
      have q4 : 0 ≤ m.term ∧ m.term ≤ 18446744073709551615 := ⟨WD.out.t0, WD.out.t1⟩
      have q5 : 0 ≤ m.index ∧ m.index ≤ 18446744073709551615 := ⟨WD.out.i0, WD.out.i1⟩
      have q6 : 0 ≤ m.prev ∧ m.prev ≤ 18446744073709551615 := ⟨WD.out.p0, WD.out.p1⟩
      have q7 : 0 ≤ m.commit ∧ m.commit ≤ 18446744073709551615 := ⟨WD.out.c0, WD.out.c1⟩
      have q8 : 0 ≤ m.mark ∧ m.mark ≤ 18446744073709551615 := ⟨WD.out.m0, WD.out.m1⟩
      have hn64 : m.n ≤ 64 := fw.n1
      have q9 : 0 ≤ (m.n : Int) ∧ (m.n : Int) ≤ 18446744073709551615 := by omega
      have qa : 0 ≤ (0 : Int) ∧ (0 : Int) ≤ 18446744073709551615 := by decide
      have qb : 0 ≤ (1 : Int) ∧ (1 : Int) ≤ 18446744073709551615 := by decide
      have hs1 : m.snap.size ≤ 16384 := fw.s1
      have qc : 0 ≤ (m.snap.size : Int) ∧ (m.snap.size : Int) ≤ 18446744073709551615 := by omega
      have hk1 : IntKind.u64.wrap m.kind = m.kind := IntWalk.u64_in _ (by omega)
      have hk2 : IntKind.u64.wrap m.frm = m.frm := IntWalk.u64_in _ (by omega)
      have hk3 : IntKind.u64.wrap m.dst = m.dst := IntWalk.u64_in _ (by omega)
      have hk4 : IntKind.u64.wrap (m.n : Int) = (m.n : Int) := IntWalk.u64_in _ (by omega)
      have hk5 : IntKind.u64.wrap (m.snap.size : Int) = (m.snap.size : Int) := IntWalk.u64_in _ (by omega)
      have n1 : ∀ v, (fN v 1).size = 1 := fun v => fN_size v 1 (by omega) (by omega)
      have n8 : ∀ v, (fN v 8).size = 8 := fun v => fN_size v 8 (by omega) (by omega)
      have HEN := Lib.hid (fun (k : Nat) (e : En) (he : m.es[k]? = some e) => And.intro (WD.out.eo e (List.mem_of_getElem? he)) (fw.es e (List.mem_of_getElem? he)))
      have HLEN := Lib.hid HE.out.len
      obtain ⟨ob, hob⟩ : ∃ ob, ob = m.ok := ⟨_, rfl⟩
      have HOB := Lib.hid hob
      clear fw hob
      go_enter Try.func21, Try.ntmps21
      cases ob with
      | true =>
        go_upto_region 7 with (first
          | (go_at_call 46; rw [← HW0.out]; (with_reducible refine (KR.out _ S).mono ?_); rintro q w1 ⟨rfl, T, d0, d1, d2, d3, d4, d5, d6, d7, d8, d9, d10⟩)
          | (go_at_call 47; (with_reducible refine (KL.out _ T).mono ?_); rintro q w2 ⟨rfl, U, f0, f1, f2, f3, f4, f5, f6, f7, f8, f9, f10⟩; rw [← HOB.out] at f8))
        clear S T c0 c1 c2 c3 c4 c5 c6 c7 c8 c9 c10 d0 d1 d2 d3 d4 d5 d6 d7 d8 d9 d10
        have Ud : Hid (Pm w m w2.drew) := ⟨U.k, U.en.below (Below.refl _ w2).drew, U.be.drew, U.sz⟩
        obtain ⟨V, g0, g1, g2, g3, g4, g5, g6, g7, g8, g9, g10⟩ := Ud.out.all
        clear U f0 f1 f2 f3 f4 f5 f6 f7 f8 f9 f10 g8 g10 KR KL Ud
        go_region_held3 (fun w' => w'.cell? ⟨w.heap.size, 0, none⟩ = some (.int .i64 m.kind) ∧ w'.cell? ⟨w.heap.size, 1, none⟩ = some (.int .i64 m.frm) ∧ w'.cell? ⟨w.heap.size, 2, none⟩ = some (.int .i64 m.dst) ∧ w'.cell? ⟨w.heap.size, 3, none⟩ = some (.int .u64 m.term) ∧ w'.cell? ⟨w.heap.size, 4, none⟩ = some (.int .u64 m.index) ∧ w'.cell? ⟨w.heap.size, 5, none⟩ = some (.int .u64 m.prev) ∧ w'.cell? ⟨w.heap.size, 6, none⟩ = some (.int .u64 m.commit) ∧ w'.cell? ⟨w.heap.size, 7, none⟩ = some (.int .u64 m.mark) ∧ w'.cell? ⟨w.heap.size, 9, none⟩ = some (.slice m.A m.n m.c)) (first | exact ⟨g0, g1, g2, g3, g4, g5, g6, g7, g9⟩ | (refine ⟨?_, ?_, ?_, ?_, ?_, ?_, ?_, ?_, ?_⟩ <;> assumption)) (first
          | (go_at_call 34; (with_reducible refine (KN.out _ _ _ (by assumption) (by assumption)).mono ?_); rintro q w6 ⟨rfl, X, p0, p1, p2, p3, p4, p5, p6, p7, p8, p9, p10⟩))
        go_wp2_with fail
        obtain ⟨y, hy⟩ : ∃ y, y = fN m.kind 1 ++ fN m.frm 1 ++ fN m.dst 1 ++ fN m.term 8 ++ fN m.index 8 ++ fN m.prev 8 ++ fN m.commit 8 ++ fN m.mark 8 ++ fN 1 1 ++ fN m.n 1 := ⟨_, rfl⟩
        rw [← hy]
        have HYS : Hid (y.size = 45) := by
          show _ = _
          rw [hy]
          simp only [ByteArray.size_append, n1, n8]
        have HY := Lib.hid hy
        have HX := Lib.hid X
        clear hy X p0 p1 p2 p3 p4 p5 p6 p7 p8 p9 p10 n1 n8
        go_loopw [7, 6] (fun i s wr => ∃ k : Nat, k ≤ m.n ∧ i = .int .i64 k ∧ s = .string (y ++ pbs (m.es.take k)) ∧ Pm w m wr) (fun i _ _ => m.n - (intOf i).toNat)
        case atStart =>
          refine ⟨0, Nat.zero_le _, rfl, ?_, HX.out⟩
          have e0 : y ++ pbs (m.es.take 0) = y := by rw [List.take_zero]; show y ++ ⟨#[]⟩ = y; apply ByteArray.ext; simp
          rw [e0]
        case round =>
          obtain ⟨k, hk, rfl, rfl, hr⟩ := hrel
          have hps : (y ++ pbs (m.es.take k)).size ≤ 20000 := by
            rw [ByteArray.size_append, pbs_size _ (fun e' he' => by
              obtain ⟨j, hj, hje⟩ := List.getElem_of_mem (List.mem_of_mem_take he')
              exact (HEN.out j e' (by rw [← hje]; exact List.getElem?_eq_getElem hj)).2), List.length_take]
            have := HYS.out
            omega
          by_cases hlt : k < m.n
          · obtain ⟨e, he⟩ : ∃ e, m.es[k]? = some e := ⟨_, List.getElem?_eq_getElem (by rw [HLEN.out]; exact hlt)⟩
            obtain ⟨a, hA, hBl, hc⟩ := hr.en.at_ k e he
            have hef := HEN.out k e he
            have hme := HPS.out e (List.mem_of_getElem? he)
            have hst : Hid (y ++ pbs (m.es.take k) ++ pb e = y ++ pbs (m.es.take (k + 1))) := by
              show _ = _
              rw [take_snoc he, pbs_snoc, Vi.append_assoc3]
            obtain ⟨P, hP⟩ : ∃ P, P = pb e := ⟨_, rfl⟩
            obtain ⟨z, hz⟩ : ∃ z, z = y ++ pbs (m.es.take k) := ⟨_, rfl⟩
            have hPs : P.size = 110 := by rw [hP]; exact pb_size hef.2
            have KE := Lib.hid (fun (W : World) (h : Pm w m W) => (rput_any e W hef.1).mono fun q w' ⟨h1, h2⟩ => And.intro (show q = Ending.returned (.tuple #[.string P, .bool true]) by rw [h1, hme, hP]; unfold putS; rw [hme]; rfl) (h.on h2))
            rw [← hz] at hps hst ⊢
            rw [← hP] at hst
            have r9 : wr.cell? ⟨w.heap.size, 9, none⟩ = some (.slice m.A m.n m.c) := cell_of_row wr _ 9 _ 44 (0, 0) hr.k
            have d0 : wr.cell? (a.add (k * 11)) = some (.int .u64 e.term) := hc 0 (by omega)
            have d1 : wr.cell? ⟨(a.add (k * 11)).block, (a.add (k * 11)).off + 1, none⟩ = some (.int .u64 e.index) := hc 1 (by omega)
            have d2 : wr.cell? ⟨(a.add (k * 11)).block, (a.add (k * 11)).off + 2, none⟩ = some (.int .i64 e.kind) := hc 2 (by omega)
            have d3 : wr.cell? ⟨(a.add (k * 11)).block, (a.add (k * 11)).off + 3, none⟩ = some (.int .u64 e.client) := hc 3 (by omega)
            have d4 : wr.cell? ⟨(a.add (k * 11)).block, (a.add (k * 11)).off + 4, none⟩ = some (.int .u64 e.seq) := hc 4 (by omega)
            have d5 : wr.cell? ⟨(a.add (k * 11)).block, (a.add (k * 11)).off + 5, none⟩ = some (.int .u64 e.block) := hc 5 (by omega)
            have d6 : wr.cell? ⟨(a.add (k * 11)).block, (a.add (k * 11)).off + 6, none⟩ = some (.int .u64 e.many) := hc 6 (by omega)
            have d7 : wr.cell? ⟨(a.add (k * 11)).block, (a.add (k * 11)).off + 7, none⟩ = some (.int .i64 e.node) := hc 7 (by omega)
            have d8 : wr.cell? ⟨(a.add (k * 11)).block, (a.add (k * 11)).off + 8, none⟩ = some (.int .i64 e.level) := hc 8 (by omega)
            have d9 : wr.cell? ⟨(a.add (k * 11)).block, (a.add (k * 11)).off + 9, none⟩ = some (.string e.data) := hc 9 (by omega)
            have d10 : wr.cell? ⟨(a.add (k * 11)).block, (a.add (k * 11)).off + 10, none⟩ = some (.string e.old) := hc 10 (by omega)
            have HR := Lib.hid hr
            rw [hA] at r9
            clear hr hc hA hBl hef hme hP hz
            go_wp2_with (go_at_call 11; (with_reducible refine (KE.out _ HR.out).mono ?_); rintro q w3 ⟨rfl, S2⟩)
            go_roundw
            case rel => exact ⟨k + 1, by omega, by go_num, by rw [hst.out], S2⟩
            case measure => simp [intOf]; omega
          · have hkn : k = m.n := by omega
            have htk : m.es.take k = m.es := List.take_of_length_le (by rw [HLEN.out]; omega)
            rw [htk] at hps ⊢
            have n4 : ∀ v, (fN v 4).size = 4 := fun v => fN_size v 4 (by omega) (by omega)
            obtain ⟨z, hz⟩ : ∃ z, z = y ++ pbs m.es := ⟨_, rfl⟩
            rw [← hz] at hps ⊢
            have HZ := Lib.hid hz
            have r9 : wr.cell? ⟨w.heap.size, 9, none⟩ = some (.slice m.A m.n m.c) := cell_of_row wr _ 9 _ 44 (0, 0) hr.k
            have r10 : wr.cell? ⟨w.heap.size, 10, none⟩ = some (.string m.snap) := cell_of_row wr _ 10 _ 44 (0, 0) hr.k
            have hrd : Pm w m wr.drew := ⟨hr.k, hr.en.below (Below.refl _ wr).drew, hr.be.drew, hr.sz⟩
            have s10 : wr.drew.cell? ⟨w.heap.size, 10, none⟩ = some (.string m.snap) := r10
            have h6 : ¬ 9223372036854775807 < z.size + 4 := by omega
            have h6' : ¬ 9223372036854775807 < z.size + (fN (m.snap.size : Int) 4).size := by rw [n4]; omega
            have h9 : ¬ 9223372036854775807 < z.size + 4 + m.snap.size := by omega
            have h9' : ¬ 9223372036854775807 < (z ++ fN (m.snap.size : Int) 4).size + m.snap.size := by rw [ByteArray.size_append, n4]; omega
            clear hr hz htk
            go_upto_region 13 with fail
            go_region_held3 (fun w' => w'.cell? ⟨w.heap.size, 10, none⟩ = some (.string m.snap)) (first | exact s10 | assumption) (first
              | (go_at_call 34; (with_reducible refine (KN.out _ _ _ (by assumption) (by assumption)).mono ?_); rintro q w6 ⟨rfl, X, p0, p1, p2, p3, p4, p5, p6, p7, p8, p9, p10⟩))
            go_wp2_with fail
            go_ret2
            refine ⟨ret_pair ?_ HB.out.symm, X.be⟩
            rw [HP.out, HZ.out, HY.out]
            unfold pbm
            rw [← HOB.out]
            rfl
      | false =>
        go_upto_region 7 with (first
          | (go_at_call 46; rw [← HW0.out]; (with_reducible refine (KR.out _ S).mono ?_); rintro q w1 ⟨rfl, T, d0, d1, d2, d3, d4, d5, d6, d7, d8, d9, d10⟩)
          | (go_at_call 47; (with_reducible refine (KL.out _ T).mono ?_); rintro q w2 ⟨rfl, U, f0, f1, f2, f3, f4, f5, f6, f7, f8, f9, f10⟩; rw [← HOB.out] at f8))
        clear S T c0 c1 c2 c3 c4 c5 c6 c7 c8 c9 c10 d0 d1 d2 d3 d4 d5 d6 d7 d8 d9 d10
        have Ud : Hid (Pm w m w2.drew) := ⟨U.k, U.en.below (Below.refl _ w2).drew, U.be.drew, U.sz⟩
        obtain ⟨V, g0, g1, g2, g3, g4, g5, g6, g7, g8, g9, g10⟩ := Ud.out.all
        clear U f0 f1 f2 f3 f4 f5 f6 f7 f8 f9 f10 g8 g10 KR KL Ud
        go_region_held3 (fun w' => w'.cell? ⟨w.heap.size, 0, none⟩ = some (.int .i64 m.kind) ∧ w'.cell? ⟨w.heap.size, 1, none⟩ = some (.int .i64 m.frm) ∧ w'.cell? ⟨w.heap.size, 2, none⟩ = some (.int .i64 m.dst) ∧ w'.cell? ⟨w.heap.size, 3, none⟩ = some (.int .u64 m.term) ∧ w'.cell? ⟨w.heap.size, 4, none⟩ = some (.int .u64 m.index) ∧ w'.cell? ⟨w.heap.size, 5, none⟩ = some (.int .u64 m.prev) ∧ w'.cell? ⟨w.heap.size, 6, none⟩ = some (.int .u64 m.commit) ∧ w'.cell? ⟨w.heap.size, 7, none⟩ = some (.int .u64 m.mark) ∧ w'.cell? ⟨w.heap.size, 9, none⟩ = some (.slice m.A m.n m.c)) (first | exact ⟨g0, g1, g2, g3, g4, g5, g6, g7, g9⟩ | (refine ⟨?_, ?_, ?_, ?_, ?_, ?_, ?_, ?_, ?_⟩ <;> assumption)) (first
          | (go_at_call 34; (with_reducible refine (KN.out _ _ _ (by assumption) (by assumption)).mono ?_); rintro q w6 ⟨rfl, X, p0, p1, p2, p3, p4, p5, p6, p7, p8, p9, p10⟩))
        go_wp2_with fail
        obtain ⟨y, hy⟩ : ∃ y, y = fN m.kind 1 ++ fN m.frm 1 ++ fN m.dst 1 ++ fN m.term 8 ++ fN m.index 8 ++ fN m.prev 8 ++ fN m.commit 8 ++ fN m.mark 8 ++ fN 0 1 ++ fN m.n 1 := ⟨_, rfl⟩
        rw [← hy]
        have HYS : Hid (y.size = 45) := by
          show _ = _
          rw [hy]
          simp only [ByteArray.size_append, n1, n8]
        have HY := Lib.hid hy
        have HX := Lib.hid X
        clear hy X p0 p1 p2 p3 p4 p5 p6 p7 p8 p9 p10 n1 n8
        go_loopw [7, 6] (fun i s wr => ∃ k : Nat, k ≤ m.n ∧ i = .int .i64 k ∧ s = .string (y ++ pbs (m.es.take k)) ∧ Pm w m wr) (fun i _ _ => m.n - (intOf i).toNat)
        case atStart =>
          refine ⟨0, Nat.zero_le _, rfl, ?_, HX.out⟩
          have e0 : y ++ pbs (m.es.take 0) = y := by rw [List.take_zero]; show y ++ ⟨#[]⟩ = y; apply ByteArray.ext; simp
          rw [e0]
        case round =>
          obtain ⟨k, hk, rfl, rfl, hr⟩ := hrel
          have hps : (y ++ pbs (m.es.take k)).size ≤ 20000 := by
            rw [ByteArray.size_append, pbs_size _ (fun e' he' => by
              obtain ⟨j, hj, hje⟩ := List.getElem_of_mem (List.mem_of_mem_take he')
              exact (HEN.out j e' (by rw [← hje]; exact List.getElem?_eq_getElem hj)).2), List.length_take]
            have := HYS.out
            omega
          by_cases hlt : k < m.n
          · obtain ⟨e, he⟩ : ∃ e, m.es[k]? = some e := ⟨_, List.getElem?_eq_getElem (by rw [HLEN.out]; exact hlt)⟩
            obtain ⟨a, hA, hBl, hc⟩ := hr.en.at_ k e he
            have hef := HEN.out k e he
            have hme := HPS.out e (List.mem_of_getElem? he)
            have hst : Hid (y ++ pbs (m.es.take k) ++ pb e = y ++ pbs (m.es.take (k + 1))) := by
              show _ = _
              rw [take_snoc he, pbs_snoc, Vi.append_assoc3]
            obtain ⟨P, hP⟩ : ∃ P, P = pb e := ⟨_, rfl⟩
            obtain ⟨z, hz⟩ : ∃ z, z = y ++ pbs (m.es.take k) := ⟨_, rfl⟩
            have hPs : P.size = 110 := by rw [hP]; exact pb_size hef.2
            have KE := Lib.hid (fun (W : World) (h : Pm w m W) => (rput_any e W hef.1).mono fun q w' ⟨h1, h2⟩ => And.intro (show q = Ending.returned (.tuple #[.string P, .bool true]) by rw [h1, hme, hP]; unfold putS; rw [hme]; rfl) (h.on h2))
            rw [← hz] at hps hst ⊢
            rw [← hP] at hst
            have r9 : wr.cell? ⟨w.heap.size, 9, none⟩ = some (.slice m.A m.n m.c) := cell_of_row wr _ 9 _ 44 (0, 0) hr.k
            have d0 : wr.cell? (a.add (k * 11)) = some (.int .u64 e.term) := hc 0 (by omega)
            have d1 : wr.cell? ⟨(a.add (k * 11)).block, (a.add (k * 11)).off + 1, none⟩ = some (.int .u64 e.index) := hc 1 (by omega)
            have d2 : wr.cell? ⟨(a.add (k * 11)).block, (a.add (k * 11)).off + 2, none⟩ = some (.int .i64 e.kind) := hc 2 (by omega)
            have d3 : wr.cell? ⟨(a.add (k * 11)).block, (a.add (k * 11)).off + 3, none⟩ = some (.int .u64 e.client) := hc 3 (by omega)
            have d4 : wr.cell? ⟨(a.add (k * 11)).block, (a.add (k * 11)).off + 4, none⟩ = some (.int .u64 e.seq) := hc 4 (by omega)
            have d5 : wr.cell? ⟨(a.add (k * 11)).block, (a.add (k * 11)).off + 5, none⟩ = some (.int .u64 e.block) := hc 5 (by omega)
            have d6 : wr.cell? ⟨(a.add (k * 11)).block, (a.add (k * 11)).off + 6, none⟩ = some (.int .u64 e.many) := hc 6 (by omega)
            have d7 : wr.cell? ⟨(a.add (k * 11)).block, (a.add (k * 11)).off + 7, none⟩ = some (.int .i64 e.node) := hc 7 (by omega)
            have d8 : wr.cell? ⟨(a.add (k * 11)).block, (a.add (k * 11)).off + 8, none⟩ = some (.int .i64 e.level) := hc 8 (by omega)
            have d9 : wr.cell? ⟨(a.add (k * 11)).block, (a.add (k * 11)).off + 9, none⟩ = some (.string e.data) := hc 9 (by omega)
            have d10 : wr.cell? ⟨(a.add (k * 11)).block, (a.add (k * 11)).off + 10, none⟩ = some (.string e.old) := hc 10 (by omega)
            have HR := Lib.hid hr
            rw [hA] at r9
            clear hr hc hA hBl hef hme hP hz
            go_wp2_with (go_at_call 11; (with_reducible refine (KE.out _ HR.out).mono ?_); rintro q w3 ⟨rfl, S2⟩)
            go_roundw
            case rel => exact ⟨k + 1, by omega, by go_num, by rw [hst.out], S2⟩
            case measure => simp [intOf]; omega
          · have hkn : k = m.n := by omega
            have htk : m.es.take k = m.es := List.take_of_length_le (by rw [HLEN.out]; omega)
            rw [htk] at hps ⊢
            have n4 : ∀ v, (fN v 4).size = 4 := fun v => fN_size v 4 (by omega) (by omega)
            obtain ⟨z, hz⟩ : ∃ z, z = y ++ pbs m.es := ⟨_, rfl⟩
            rw [← hz] at hps ⊢
            have HZ := Lib.hid hz
            have r9 : wr.cell? ⟨w.heap.size, 9, none⟩ = some (.slice m.A m.n m.c) := cell_of_row wr _ 9 _ 44 (0, 0) hr.k
            have r10 : wr.cell? ⟨w.heap.size, 10, none⟩ = some (.string m.snap) := cell_of_row wr _ 10 _ 44 (0, 0) hr.k
            have hrd : Pm w m wr.drew := ⟨hr.k, hr.en.below (Below.refl _ wr).drew, hr.be.drew, hr.sz⟩
            have s10 : wr.drew.cell? ⟨w.heap.size, 10, none⟩ = some (.string m.snap) := r10
            have h6 : ¬ 9223372036854775807 < z.size + 4 := by omega
            have h6' : ¬ 9223372036854775807 < z.size + (fN (m.snap.size : Int) 4).size := by rw [n4]; omega
            have h9 : ¬ 9223372036854775807 < z.size + 4 + m.snap.size := by omega
            have h9' : ¬ 9223372036854775807 < (z ++ fN (m.snap.size : Int) 4).size + m.snap.size := by rw [ByteArray.size_append, n4]; omega
            clear hr hz htk
            go_upto_region 13 with fail
            go_region_held3 (fun w' => w'.cell? ⟨w.heap.size, 10, none⟩ = some (.string m.snap)) (first | exact s10 | assumption) (first
              | (go_at_call 34; (with_reducible refine (KN.out _ _ _ (by assumption) (by assumption)).mono ?_); rintro q w6 ⟨rfl, X, p0, p1, p2, p3, p4, p5, p6, p7, p8, p9, p10⟩))
            go_wp2_with fail
            go_ret2
            refine ⟨ret_pair ?_ HB.out.symm, X.be⟩
            rw [HP.out, HZ.out, HY.out]
            unfold pbm
            rw [← HOB.out]
            rfl
    · have HB : Hid (mmayB m = false) := by show _ = _; rw [HM.out]; rfl
      have HP : Hid (putM m = ⟨#[]⟩) := by show _ = _; unfold putM; rw [HB.out]; rfl
      go_enter Try.func21, Try.ntmps21
      go_wp2_with (first
        | (go_at_call 46; rw [← HW0.out]; (with_reducible refine (KR.out _ S).mono ?_); rintro q w1 ⟨rfl, T, d0, d1, d2, d3, d4, d5, d6, d7, d8, d9, d10⟩)
        | (go_at_call 47; (with_reducible refine (KL.out _ T).mono ?_); rintro q w2 ⟨rfl, U, f0, f1, f2, f3, f4, f5, f6, f7, f8, f9, f10⟩))
      go_ret2
      exact ⟨ret_pair HP.out.symm HB.out.symm, U.be⟩
end Go.Proofs.Ytiikgfcfceldmaa
