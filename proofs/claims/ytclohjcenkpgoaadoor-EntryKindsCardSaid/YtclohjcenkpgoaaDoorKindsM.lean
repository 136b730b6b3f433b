/-
  EntryKinds, walked: true for every input.
  Conditions: the table of powers of ten lies as its initialiser lays it.
-/
import Derived.Test.YtclohjcenkpgoaaDoorKinds
namespace Go.Proofs.YtclohjcenkpgoaaDoor
open Go.RowKit
set_option linter.unusedVariables false
set_option maxRecDepth 100000 in
set_option maxHeartbeats 16000000 in
theorem kinds_a (k : Int) (w : World) (hk : -128 ≤ k ∧ k ≤ 127) (hc : 1 ≤ k ∧ k ≤ 10) (ht : Tab w) : Calls Tryd.prog 6 #[.int .i8 k] w fun r w' => r = .returned (.bool true) ∧ Below w.heap.size w w' := by
  have hb1 : fb k = true := decide_eq_true (by omega)
  have hb2 : mfb k = true := decide_eq_true (by omega)
  have hF : ∀ W, Calls Tryd.prog 11 #[.int .i64 k] W fun r w' => r = .returned (.tuple #[.string (fl k), .bool true]) ∧ W = w' := fun W => (fields_any k W).mono fun r w' ⟨h1, h2⟩ => ⟨by rw [h1, hb1], h2⟩
  have hM : ∀ W, Calls Tryd.prog 22 #[.int .i64 k] W fun r w' => r = .returned (.tuple #[.string (mfl k), .bool true]) ∧ W = w' := fun W => (mfields_any k W).mono fun r w' ⟨h1, h2⟩ => ⟨by rw [h1, hb2], h2⟩
  have q1 := kr_eq k
  have q2 := km_eq k
  rw [hb1] at q1
  rw [hb2] at q2
  have hall : kpart k (fl k).data.toList = ke k (kc k) (kn k) (kl k) := by exact kpart_all k
  have ka : 0 ≤ kc k ∧ kc k ≤ 1 := by unfold kc; split <;> omega
  have kb : 0 ≤ kn k ∧ kn k ≤ 1 := by unfold kn; split <;> omega
  have kd : 0 ≤ kl k ∧ kl k ≤ 1 := by unfold kl; split <;> omega
  obtain ⟨C, hC0⟩ : ∃ C, C = kc k := ⟨_, rfl⟩
  obtain ⟨NN, hN0⟩ : ∃ NN, NN = kn k := ⟨_, rfl⟩
  obtain ⟨LL, hL0⟩ : ∃ LL, LL = kl k := ⟨_, rfl⟩
  rw [← hC0, ← hN0, ← hL0] at q1 hall
  rw [← hC0] at ka
  rw [← hN0] at kb
  rw [← hL0] at kd
  clear hC0 hN0 hL0
  have hA : ∀ (g gm : Nat) (M : Ms) (W : World), Kq w g gm (ke k C NN LL) M W → Calls Tryd.prog 13 #[ev (ke k C NN LL)] W fun r w' => r = .returned (.bool true) ∧ Kq w g gm (ke k C NN LL) M w' := fun g gm M W h => (right_any _ W (ke_ok k _ _ _ hk ka kb (by omega))).mono fun r w' ⟨h1, h2⟩ => ⟨by rw [h1, q1.1], h.on h2⟩
  have hB : ∀ (g gm : Nat) (M : Ms) (W : World), Kq w g gm (ke k C NN 3) M W → Calls Tryd.prog 13 #[ev (ke k C NN 3)] W fun r w' => r = .returned (.bool false) ∧ Kq w g gm (ke k C NN 3) M w' := fun g gm M W h => (right_any _ W (ke_ok k _ _ _ hk ka kb (by omega))).mono fun r w' ⟨h1, h2⟩ => ⟨by rw [h1, q1.2], h.on h2⟩
  have hC : ∀ (g gm : Nat) (E : En) (W : World), Kq w g gm E (km k 2) W → Calls Tryd.prog 24 #[mv (km k 2)] W fun r w' => r = .returned (.bool true) ∧ Kq w g gm E (km k 2) w' := fun g gm E W h => (kright k 2 (by omega) W).mono fun r w' ⟨h1, h2⟩ => ⟨by rw [h1, q2.1], h.on h2⟩
  have hD : ∀ (g gm : Nat) (E : En) (W : World), Kq w g gm E (km k 8) W → Calls Tryd.prog 24 #[mv (km k 8)] W fun r w' => r = .returned (.bool false) ∧ Kq w g gm E (km k 8) w' := fun g gm E W h => (kright k 8 (by omega) W).mono fun r w' ⟨h1, h2⟩ => ⟨by rw [h1, q2.2], h.on h2⟩
  have KF := Lib.hid hF
  have KM := Lib.hid hM
  have KA := Lib.hid hA
  have KB := Lib.hid hB
  have KC := Lib.hid hC
  have KD := Lib.hid hD
  have KE := Lib.hid (examples_any w ht)
  have HALL := Lib.hid hall
  have t1 : decide (0 ≤ k) = true := decide_eq_true (by omega)
  have t2 : decide (k ≤ 11) = true := decide_eq_true (by omega)
  have t3 : decide (1 ≤ k) = true := decide_eq_true (by omega)
  have t4 : decide (k ≤ 10) = true := decide_eq_true (by omega)
  have hfl : (fl k).size ≤ 4 := fl_size k
  have HC := Lib.hid hc
  clear hF hM q1 q2 ka kb kd hA hB hC hD hb1 hb2 ht hc hall
  go_enter Tryd.func6, Tryd.ntmps6
  go_wp2_with (first
    | (go_at_call 9; (with_reducible refine KE.out.mono ?_); rintro r w1 ⟨rfl, hb1⟩)
    | (go_at_call 11; (with_reducible refine (KF.out _).mono ?_); rintro r w' ⟨rfl, rfl⟩)
    | (go_at_call 22; (with_reducible refine (KM.out _).mono ?_); rintro r w' ⟨rfl, rfl⟩))
  have hd0 : Kd w k (fl k) w1.heap.size 0 (w1.alloc (Obj.cells (ec (ke k 0 0 0)) 24)) := ⟨heap_alloc_new w1 _, hb1.alloc hb1.size _, hb1.size⟩
  go_loopw [10] (fun i wr => ∃ j : Nat, j ≤ (fl k).size ∧ i = .int .i64 j ∧ Kd w k (fl k) w1.heap.size j wr) (fun i _ => (fl k).size - (intOf i).toNat)
  case atStart => exact ⟨0, Nat.zero_le _, rfl, hd0⟩
  case round =>
    obtain ⟨j, hj, rfl, hM⟩ := hrel
    by_cases hlt : j < (fl k).size
    · have htk : Hid ((fl k).data.toList.take (j + 1) = (fl k).data.toList.take j ++ [(fl k)[j]]) := by
        show _ = _
        rw [List.take_succ_eq_append_getElem (by simpa using hlt)]
        rfl
      have o3 := hM.oc 3
      have o7 := hM.oc 7
      have o8 := hM.oc 8
      simp only [ec, List.getElem?_toArray, List.getElem?_cons_succ, List.getElem?_cons_zero] at o3 o7 o8
      have fz : ∀ i, wr.frozen? ⟨w1.heap.size, i, none⟩ = false := fun i => Md.of hM.out
      have HMM := Lib.hid hM
      clear hM
      by_cases y99 : (((fl k)[j].toNat : Int) == 99) = true
      · have hx : ((fl k)[j].toNat : Int) = 99 := by simpa using y99
        have HX := Lib.hid hx
        clear hx
        go_wp2
        go_roundw
        case rel => exact ⟨j + 1, by omega, by go_num, HMM.out.set1 3 _ (by rw [htk.out]; exact kpart_99 k _ _ HX.out)⟩
        case measure => simp [intOf]; omega
      · have n99 : (((fl k)[j].toNat : Int) == 99) = false := by simpa using y99
        clear y99
        by_cases y110 : (((fl k)[j].toNat : Int) == 110) = true
        · have hx : ((fl k)[j].toNat : Int) = 110 := by simpa using y110
          have HX := Lib.hid hx
          clear hx
          go_wp2
          go_roundw
          case rel => exact ⟨j + 1, by omega, by go_num, HMM.out.set1 7 _ (by rw [htk.out]; exact kpart_110 k _ _ HX.out)⟩
          case measure => simp [intOf]; omega
        · have n110 : (((fl k)[j].toNat : Int) == 110) = false := by simpa using y110
          clear y110
          by_cases y108 : (((fl k)[j].toNat : Int) == 108) = true
          · have hx : ((fl k)[j].toNat : Int) = 108 := by simpa using y108
            have HX := Lib.hid hx
            clear hx
            go_wp2
            go_roundw
            case rel => exact ⟨j + 1, by omega, by go_num, HMM.out.set1 8 _ (by rw [htk.out]; exact kpart_108 k _ _ HX.out)⟩
            case measure => simp [intOf]; omega
          · have n108 : (((fl k)[j].toNat : Int) == 108) = false := by simpa using y108
            clear y108
            have hM2 : Kd w k (fl k) w1.heap.size (j + 1) wr := ⟨by rw [htk.out, kpart_other k _ _ n99 n110 n108]; exact HMM.out.out, HMM.out.be, HMM.out.l⟩
            go_wp2
            go_roundw
            case rel => exact ⟨j + 1, by omega, by go_num, hM2⟩
            case measure => simp [intOf]; omega
    · have hjn : j = (fl k).size := by omega
      have hout := hM.out
      rw [hjn, List.take_of_length_le (by simp), HALL.out] at hout
      have hgl : w1.heap.size < wr.heap.size := (Array.getElem?_eq_some_iff.1 hout).1
      have hk0 : Kq w w1.heap.size wr.heap.size (ke k C NN LL) (km k 2) (wr.alloc (Obj.cells (mc (km k 2)) 38)) :=
        ⟨(Lib.alloc_old wr _ _ hgl).trans hout, heap_alloc_new wr _, hM.be.alloc hM.be.size _, hM.l, hM.be.size, by omega⟩
      have HK0 := Lib.hid hk0
      have a0 := hk0.ecell 0
      have a1 := hk0.ecell 1
      have a2 := hk0.ecell 2
      have a3 := hk0.ecell 3
      have a4 := hk0.ecell 4
      have a5 := hk0.ecell 5
      have a6 := hk0.ecell 6
      have a7 := hk0.ecell 7
      have a8 := hk0.ecell 8
      have a9 := hk0.ecell 9
      have a10 := hk0.ecell 10
      simp only [ec, List.getElem?_toArray, List.getElem?_cons_succ, List.getElem?_cons_zero] at a0 a1 a2 a3 a4 a5 a6 a7 a8 a9 a10
      clear hout hM hk0 hd0 hjn
      go_wp2_with (first
        | (go_at_call 13; (with_reducible refine (KA.out w1.heap.size wr.heap.size (km k 2) _ HK0.out).mono ?_); rintro r w2 ⟨rfl, hs2⟩; have fz2 : ∀ i, w2.frozen? ⟨w1.heap.size, i, none⟩ = false := (fun i => Md.of hs2.e); have b0 := hs2.ecell 0; have b1 := hs2.ecell 1; have b2 := hs2.ecell 2; have b3 := hs2.ecell 3; have b4 := hs2.ecell 4; have b5 := hs2.ecell 5; have b6 := hs2.ecell 6; have b7 := hs2.ecell 7; have b8 := hs2.ecell 8; have b9 := hs2.ecell 9; have b10 := hs2.ecell 10; simp only [ec, List.getElem?_toArray, List.getElem?_cons_succ, List.getElem?_cons_zero] at b0 b1 b2 b3 b4 b5 b6 b7 b8 b9 b10; have HS2 : Hid (Kq w w1.heap.size wr.heap.size (ke k C NN 3) (km k 2) (w2.setCell ⟨w1.heap.size, 8, none⟩ (.int .i64 3))) := (hs2.sete 8 _ (by simp)); clear hs2)
        | (go_at_call 13; (with_reducible refine (KB.out w1.heap.size wr.heap.size (km k 2) _ HS2.out).mono ?_); rintro r w3 ⟨rfl, hs3⟩; have c0 := hs3.mcell 0; have c1 := hs3.mcell 1; have c2 := hs3.mcell 2; have c3 := hs3.mcell 3; have c4 := hs3.mcell 4; have c5 := hs3.mcell 5; have c6 := hs3.mcell 6; have c7 := hs3.mcell 7; have c8 := hs3.mcell 8; have c9 := hs3.mcell 9; have c10 := hs3.mcell 10; simp only [mc, List.getElem?_toArray, List.getElem?_cons_succ, List.getElem?_cons_zero] at c0 c1 c2 c3 c4 c5 c6 c7 c8 c9 c10; have HS3 := Lib.hid hs3; clear hs3)
        | (go_at_call 24; (with_reducible refine (KC.out w1.heap.size wr.heap.size (ke k C NN 3) _ HS3.out).mono ?_); rintro r w4 ⟨rfl, hs4⟩; have fz4 : ∀ i, w4.frozen? ⟨wr.heap.size, i, none⟩ = false := (fun i => Md.of hs4.m); have d0 := hs4.mcell 0; have d1 := hs4.mcell 1; have d2 := hs4.mcell 2; have d3 := hs4.mcell 3; have d4 := hs4.mcell 4; have d5 := hs4.mcell 5; have d6 := hs4.mcell 6; have d7 := hs4.mcell 7; have d8 := hs4.mcell 8; have d9 := hs4.mcell 9; have d10 := hs4.mcell 10; simp only [mc, List.getElem?_toArray, List.getElem?_cons_succ, List.getElem?_cons_zero] at d0 d1 d2 d3 d4 d5 d6 d7 d8 d9 d10; have HS4 : Hid (Kq w w1.heap.size wr.heap.size (ke k C NN 3) (km k 8) (w4.setCell ⟨wr.heap.size, 2, none⟩ (.int .i64 8))) := (hs4.setm 2 _ (by simp)); clear hs4)
        | (go_at_call 24; (with_reducible refine (KD.out w1.heap.size wr.heap.size (ke k C NN 3) _ HS4.out).mono ?_); rintro r w5 ⟨rfl, hs5⟩))
      go_ret
      exact ⟨rfl, hs5.be⟩

set_option maxRecDepth 100000 in
set_option maxHeartbeats 16000000 in
theorem kinds_b (k : Int) (w : World) (hk : -128 ≤ k ∧ k ≤ 127) (hc : k = 0) (ht : Tab w) : Calls Tryd.prog 6 #[.int .i8 k] w fun r w' => r = .returned (.bool true) ∧ Below w.heap.size w w' := by
  have hb1 : fb k = true := decide_eq_true (by omega)
  have hb2 : mfb k = false := decide_eq_false (by omega)
  have hl2 := mfl_none k (by omega)
  have hF : ∀ W, Calls Tryd.prog 11 #[.int .i64 k] W fun r w' => r = .returned (.tuple #[.string (fl k), .bool true]) ∧ W = w' := fun W => (fields_any k W).mono fun r w' ⟨h1, h2⟩ => ⟨by rw [h1, hb1], h2⟩
  have hM : ∀ W, Calls Tryd.prog 22 #[.int .i64 k] W fun r w' => r = .returned (.tuple #[.string ⟨#[]⟩, .bool false]) ∧ W = w' := fun W => (mfields_any k W).mono fun r w' ⟨h1, h2⟩ => ⟨by rw [h1, hb2, hl2], h2⟩
  have q1 := kr_eq k
  have q2 := km_eq k
  rw [hb1] at q1
  rw [hb2] at q2
  have hall : kpart k (fl k).data.toList = ke k (kc k) (kn k) (kl k) := by exact kpart_all k
  have ka : 0 ≤ kc k ∧ kc k ≤ 1 := by unfold kc; split <;> omega
  have kb : 0 ≤ kn k ∧ kn k ≤ 1 := by unfold kn; split <;> omega
  have kd : 0 ≤ kl k ∧ kl k ≤ 1 := by unfold kl; split <;> omega
  obtain ⟨C, hC0⟩ : ∃ C, C = kc k := ⟨_, rfl⟩
  obtain ⟨NN, hN0⟩ : ∃ NN, NN = kn k := ⟨_, rfl⟩
  obtain ⟨LL, hL0⟩ : ∃ LL, LL = kl k := ⟨_, rfl⟩
  rw [← hC0, ← hN0, ← hL0] at q1 hall
  rw [← hC0] at ka
  rw [← hN0] at kb
  rw [← hL0] at kd
  clear hC0 hN0 hL0
  have hA : ∀ (g gm : Nat) (M : Ms) (W : World), Kq w g gm (ke k C NN LL) M W → Calls Tryd.prog 13 #[ev (ke k C NN LL)] W fun r w' => r = .returned (.bool true) ∧ Kq w g gm (ke k C NN LL) M w' := fun g gm M W h => (right_any _ W (ke_ok k _ _ _ hk ka kb (by omega))).mono fun r w' ⟨h1, h2⟩ => ⟨by rw [h1, q1.1], h.on h2⟩
  have hB : ∀ (g gm : Nat) (M : Ms) (W : World), Kq w g gm (ke k C NN 3) M W → Calls Tryd.prog 13 #[ev (ke k C NN 3)] W fun r w' => r = .returned (.bool false) ∧ Kq w g gm (ke k C NN 3) M w' := fun g gm M W h => (right_any _ W (ke_ok k _ _ _ hk ka kb (by omega))).mono fun r w' ⟨h1, h2⟩ => ⟨by rw [h1, q1.2], h.on h2⟩
  have hC : ∀ (g gm : Nat) (E : En) (W : World), Kq w g gm E (km k 2) W → Calls Tryd.prog 24 #[mv (km k 2)] W fun r w' => r = .returned (.bool false) ∧ Kq w g gm E (km k 2) w' := fun g gm E W h => (kright k 2 (by omega) W).mono fun r w' ⟨h1, h2⟩ => ⟨by rw [h1, q2.1], h.on h2⟩
  have hD : ∀ (g gm : Nat) (E : En) (W : World), Kq w g gm E (km k 8) W → Calls Tryd.prog 24 #[mv (km k 8)] W fun r w' => r = .returned (.bool false) ∧ Kq w g gm E (km k 8) w' := fun g gm E W h => (kright k 8 (by omega) W).mono fun r w' ⟨h1, h2⟩ => ⟨by rw [h1, q2.2], h.on h2⟩
  have KF := Lib.hid hF
  have KM := Lib.hid hM
  have KA := Lib.hid hA
  have KB := Lib.hid hB
  have KC := Lib.hid hC
  have KD := Lib.hid hD
  have KE := Lib.hid (examples_any w ht)
  have HALL := Lib.hid hall
  have t1 : decide (0 ≤ k) = true := decide_eq_true (by omega)
  have t2 : decide (k ≤ 11) = true := decide_eq_true (by omega)
  have t3 : decide (1 ≤ k) = false := decide_eq_false (by omega)
  have t4 : decide (k ≤ 10) = true := decide_eq_true (by omega)
  have hfl : (fl k).size ≤ 4 := fl_size k
  have HC := Lib.hid hc
  clear hF hM q1 q2 ka kb kd hA hB hC hD hb1 hb2 ht hc hall
  go_enter Tryd.func6, Tryd.ntmps6
  go_wp2_with (first
    | (go_at_call 9; (with_reducible refine KE.out.mono ?_); rintro r w1 ⟨rfl, hb1⟩)
    | (go_at_call 11; (with_reducible refine (KF.out _).mono ?_); rintro r w' ⟨rfl, rfl⟩)
    | (go_at_call 22; (with_reducible refine (KM.out _).mono ?_); rintro r w' ⟨rfl, rfl⟩))
  have hd0 : Kd w k (fl k) w1.heap.size 0 (w1.alloc (Obj.cells (ec (ke k 0 0 0)) 24)) := ⟨heap_alloc_new w1 _, hb1.alloc hb1.size _, hb1.size⟩
  go_loopw [10] (fun i wr => ∃ j : Nat, j ≤ (fl k).size ∧ i = .int .i64 j ∧ Kd w k (fl k) w1.heap.size j wr) (fun i _ => (fl k).size - (intOf i).toNat)
  case atStart => exact ⟨0, Nat.zero_le _, rfl, hd0⟩
  case round =>
    obtain ⟨j, hj, rfl, hM⟩ := hrel
    by_cases hlt : j < (fl k).size
    · have htk : Hid ((fl k).data.toList.take (j + 1) = (fl k).data.toList.take j ++ [(fl k)[j]]) := by
        show _ = _
        rw [List.take_succ_eq_append_getElem (by simpa using hlt)]
        rfl
      have o3 := hM.oc 3
      have o7 := hM.oc 7
      have o8 := hM.oc 8
      simp only [ec, List.getElem?_toArray, List.getElem?_cons_succ, List.getElem?_cons_zero] at o3 o7 o8
      have fz : ∀ i, wr.frozen? ⟨w1.heap.size, i, none⟩ = false := fun i => Md.of hM.out
      have HMM := Lib.hid hM
      clear hM
      by_cases y99 : (((fl k)[j].toNat : Int) == 99) = true
      · have hx : ((fl k)[j].toNat : Int) = 99 := by simpa using y99
        have HX := Lib.hid hx
        clear hx
        go_wp2
        go_roundw
        case rel => exact ⟨j + 1, by omega, by go_num, HMM.out.set1 3 _ (by rw [htk.out]; exact kpart_99 k _ _ HX.out)⟩
        case measure => simp [intOf]; omega
      · have n99 : (((fl k)[j].toNat : Int) == 99) = false := by simpa using y99
        clear y99
        by_cases y110 : (((fl k)[j].toNat : Int) == 110) = true
        · have hx : ((fl k)[j].toNat : Int) = 110 := by simpa using y110
          have HX := Lib.hid hx
          clear hx
          go_wp2
          go_roundw
          case rel => exact ⟨j + 1, by omega, by go_num, HMM.out.set1 7 _ (by rw [htk.out]; exact kpart_110 k _ _ HX.out)⟩
          case measure => simp [intOf]; omega
        · have n110 : (((fl k)[j].toNat : Int) == 110) = false := by simpa using y110
          clear y110
          by_cases y108 : (((fl k)[j].toNat : Int) == 108) = true
          · have hx : ((fl k)[j].toNat : Int) = 108 := by simpa using y108
            have HX := Lib.hid hx
            clear hx
            go_wp2
            go_roundw
            case rel => exact ⟨j + 1, by omega, by go_num, HMM.out.set1 8 _ (by rw [htk.out]; exact kpart_108 k _ _ HX.out)⟩
            case measure => simp [intOf]; omega
          · have n108 : (((fl k)[j].toNat : Int) == 108) = false := by simpa using y108
            clear y108
            have hM2 : Kd w k (fl k) w1.heap.size (j + 1) wr := ⟨by rw [htk.out, kpart_other k _ _ n99 n110 n108]; exact HMM.out.out, HMM.out.be, HMM.out.l⟩
            go_wp2
            go_roundw
            case rel => exact ⟨j + 1, by omega, by go_num, hM2⟩
            case measure => simp [intOf]; omega
    · have hjn : j = (fl k).size := by omega
      have hout := hM.out
      rw [hjn, List.take_of_length_le (by simp), HALL.out] at hout
      have hgl : w1.heap.size < wr.heap.size := (Array.getElem?_eq_some_iff.1 hout).1
      have hk0 : Kq w w1.heap.size wr.heap.size (ke k C NN LL) (km k 2) (wr.alloc (Obj.cells (mc (km k 2)) 38)) :=
        ⟨(Lib.alloc_old wr _ _ hgl).trans hout, heap_alloc_new wr _, hM.be.alloc hM.be.size _, hM.l, hM.be.size, by omega⟩
      have HK0 := Lib.hid hk0
      have a0 := hk0.ecell 0
      have a1 := hk0.ecell 1
      have a2 := hk0.ecell 2
      have a3 := hk0.ecell 3
      have a4 := hk0.ecell 4
      have a5 := hk0.ecell 5
      have a6 := hk0.ecell 6
      have a7 := hk0.ecell 7
      have a8 := hk0.ecell 8
      have a9 := hk0.ecell 9
      have a10 := hk0.ecell 10
      simp only [ec, List.getElem?_toArray, List.getElem?_cons_succ, List.getElem?_cons_zero] at a0 a1 a2 a3 a4 a5 a6 a7 a8 a9 a10
      clear hout hM hk0 hd0 hjn
      go_wp2_with (first
        | (go_at_call 13; (with_reducible refine (KA.out w1.heap.size wr.heap.size (km k 2) _ HK0.out).mono ?_); rintro r w2 ⟨rfl, hs2⟩; have fz2 : ∀ i, w2.frozen? ⟨w1.heap.size, i, none⟩ = false := (fun i => Md.of hs2.e); have b0 := hs2.ecell 0; have b1 := hs2.ecell 1; have b2 := hs2.ecell 2; have b3 := hs2.ecell 3; have b4 := hs2.ecell 4; have b5 := hs2.ecell 5; have b6 := hs2.ecell 6; have b7 := hs2.ecell 7; have b8 := hs2.ecell 8; have b9 := hs2.ecell 9; have b10 := hs2.ecell 10; simp only [ec, List.getElem?_toArray, List.getElem?_cons_succ, List.getElem?_cons_zero] at b0 b1 b2 b3 b4 b5 b6 b7 b8 b9 b10; have HS2 : Hid (Kq w w1.heap.size wr.heap.size (ke k C NN 3) (km k 2) (w2.setCell ⟨w1.heap.size, 8, none⟩ (.int .i64 3))) := (hs2.sete 8 _ (by simp)); clear hs2)
        | (go_at_call 13; (with_reducible refine (KB.out w1.heap.size wr.heap.size (km k 2) _ HS2.out).mono ?_); rintro r w3 ⟨rfl, hs3⟩; have c0 := hs3.mcell 0; have c1 := hs3.mcell 1; have c2 := hs3.mcell 2; have c3 := hs3.mcell 3; have c4 := hs3.mcell 4; have c5 := hs3.mcell 5; have c6 := hs3.mcell 6; have c7 := hs3.mcell 7; have c8 := hs3.mcell 8; have c9 := hs3.mcell 9; have c10 := hs3.mcell 10; simp only [mc, List.getElem?_toArray, List.getElem?_cons_succ, List.getElem?_cons_zero] at c0 c1 c2 c3 c4 c5 c6 c7 c8 c9 c10; have HS3 := Lib.hid hs3; clear hs3)
        | (go_at_call 24; (with_reducible refine (KC.out w1.heap.size wr.heap.size (ke k C NN 3) _ HS3.out).mono ?_); rintro r w4 ⟨rfl, hs4⟩; have fz4 : ∀ i, w4.frozen? ⟨wr.heap.size, i, none⟩ = false := (fun i => Md.of hs4.m); have d0 := hs4.mcell 0; have d1 := hs4.mcell 1; have d2 := hs4.mcell 2; have d3 := hs4.mcell 3; have d4 := hs4.mcell 4; have d5 := hs4.mcell 5; have d6 := hs4.mcell 6; have d7 := hs4.mcell 7; have d8 := hs4.mcell 8; have d9 := hs4.mcell 9; have d10 := hs4.mcell 10; simp only [mc, List.getElem?_toArray, List.getElem?_cons_succ, List.getElem?_cons_zero] at d0 d1 d2 d3 d4 d5 d6 d7 d8 d9 d10; have HS4 : Hid (Kq w w1.heap.size wr.heap.size (ke k C NN 3) (km k 8) (w4.setCell ⟨wr.heap.size, 2, none⟩ (.int .i64 8))) := (hs4.setm 2 _ (by simp)); clear hs4)
        | (go_at_call 24; (with_reducible refine (KD.out w1.heap.size wr.heap.size (ke k C NN 3) _ HS4.out).mono ?_); rintro r w5 ⟨rfl, hs5⟩))
      go_ret
      exact ⟨rfl, hs5.be⟩

set_option maxRecDepth 100000 in
set_option maxHeartbeats 16000000 in
theorem kinds_c (k : Int) (w : World) (hk : -128 ≤ k ∧ k ≤ 127) (hc : k = 11) (ht : Tab w) : Calls Tryd.prog 6 #[.int .i8 k] w fun r w' => r = .returned (.bool true) ∧ Below w.heap.size w w' := by
  have hb1 : fb k = true := decide_eq_true (by omega)
  have hb2 : mfb k = false := decide_eq_false (by omega)
  have hl2 := mfl_none k (by omega)
  have hF : ∀ W, Calls Tryd.prog 11 #[.int .i64 k] W fun r w' => r = .returned (.tuple #[.string (fl k), .bool true]) ∧ W = w' := fun W => (fields_any k W).mono fun r w' ⟨h1, h2⟩ => ⟨by rw [h1, hb1], h2⟩
  have hM : ∀ W, Calls Tryd.prog 22 #[.int .i64 k] W fun r w' => r = .returned (.tuple #[.string ⟨#[]⟩, .bool false]) ∧ W = w' := fun W => (mfields_any k W).mono fun r w' ⟨h1, h2⟩ => ⟨by rw [h1, hb2, hl2], h2⟩
  have q1 := kr_eq k
  have q2 := km_eq k
  rw [hb1] at q1
  rw [hb2] at q2
  have hall : kpart k (fl k).data.toList = ke k (kc k) (kn k) (kl k) := by exact kpart_all k
  have ka : 0 ≤ kc k ∧ kc k ≤ 1 := by unfold kc; split <;> omega
  have kb : 0 ≤ kn k ∧ kn k ≤ 1 := by unfold kn; split <;> omega
  have kd : 0 ≤ kl k ∧ kl k ≤ 1 := by unfold kl; split <;> omega
  obtain ⟨C, hC0⟩ : ∃ C, C = kc k := ⟨_, rfl⟩
  obtain ⟨NN, hN0⟩ : ∃ NN, NN = kn k := ⟨_, rfl⟩
  obtain ⟨LL, hL0⟩ : ∃ LL, LL = kl k := ⟨_, rfl⟩
  rw [← hC0, ← hN0, ← hL0] at q1 hall
  rw [← hC0] at ka
  rw [← hN0] at kb
  rw [← hL0] at kd
  clear hC0 hN0 hL0
  have hA : ∀ (g gm : Nat) (M : Ms) (W : World), Kq w g gm (ke k C NN LL) M W → Calls Tryd.prog 13 #[ev (ke k C NN LL)] W fun r w' => r = .returned (.bool true) ∧ Kq w g gm (ke k C NN LL) M w' := fun g gm M W h => (right_any _ W (ke_ok k _ _ _ hk ka kb (by omega))).mono fun r w' ⟨h1, h2⟩ => ⟨by rw [h1, q1.1], h.on h2⟩
  have hB : ∀ (g gm : Nat) (M : Ms) (W : World), Kq w g gm (ke k C NN 3) M W → Calls Tryd.prog 13 #[ev (ke k C NN 3)] W fun r w' => r = .returned (.bool false) ∧ Kq w g gm (ke k C NN 3) M w' := fun g gm M W h => (right_any _ W (ke_ok k _ _ _ hk ka kb (by omega))).mono fun r w' ⟨h1, h2⟩ => ⟨by rw [h1, q1.2], h.on h2⟩
  have hC : ∀ (g gm : Nat) (E : En) (W : World), Kq w g gm E (km k 2) W → Calls Tryd.prog 24 #[mv (km k 2)] W fun r w' => r = .returned (.bool false) ∧ Kq w g gm E (km k 2) w' := fun g gm E W h => (kright k 2 (by omega) W).mono fun r w' ⟨h1, h2⟩ => ⟨by rw [h1, q2.1], h.on h2⟩
  have hD : ∀ (g gm : Nat) (E : En) (W : World), Kq w g gm E (km k 8) W → Calls Tryd.prog 24 #[mv (km k 8)] W fun r w' => r = .returned (.bool false) ∧ Kq w g gm E (km k 8) w' := fun g gm E W h => (kright k 8 (by omega) W).mono fun r w' ⟨h1, h2⟩ => ⟨by rw [h1, q2.2], h.on h2⟩
  have KF := Lib.hid hF
  have KM := Lib.hid hM
  have KA := Lib.hid hA
  have KB := Lib.hid hB
  have KC := Lib.hid hC
  have KD := Lib.hid hD
  have KE := Lib.hid (examples_any w ht)
  have HALL := Lib.hid hall
  have t1 : decide (0 ≤ k) = true := decide_eq_true (by omega)
  have t2 : decide (k ≤ 11) = true := decide_eq_true (by omega)
  have t3 : decide (1 ≤ k) = true := decide_eq_true (by omega)
  have t4 : decide (k ≤ 10) = false := decide_eq_false (by omega)
  have hfl : (fl k).size ≤ 4 := fl_size k
  have HC := Lib.hid hc
  clear hF hM q1 q2 ka kb kd hA hB hC hD hb1 hb2 ht hc hall
  go_enter Tryd.func6, Tryd.ntmps6
  go_wp2_with (first
    | (go_at_call 9; (with_reducible refine KE.out.mono ?_); rintro r w1 ⟨rfl, hb1⟩)
    | (go_at_call 11; (with_reducible refine (KF.out _).mono ?_); rintro r w' ⟨rfl, rfl⟩)
    | (go_at_call 22; (with_reducible refine (KM.out _).mono ?_); rintro r w' ⟨rfl, rfl⟩))
  have hd0 : Kd w k (fl k) w1.heap.size 0 (w1.alloc (Obj.cells (ec (ke k 0 0 0)) 24)) := ⟨heap_alloc_new w1 _, hb1.alloc hb1.size _, hb1.size⟩
  go_loopw [10] (fun i wr => ∃ j : Nat, j ≤ (fl k).size ∧ i = .int .i64 j ∧ Kd w k (fl k) w1.heap.size j wr) (fun i _ => (fl k).size - (intOf i).toNat)
  case atStart => exact ⟨0, Nat.zero_le _, rfl, hd0⟩
  case round =>
    obtain ⟨j, hj, rfl, hM⟩ := hrel
    by_cases hlt : j < (fl k).size
    · have htk : Hid ((fl k).data.toList.take (j + 1) = (fl k).data.toList.take j ++ [(fl k)[j]]) := by
        show _ = _
        rw [List.take_succ_eq_append_getElem (by simpa using hlt)]
        rfl
      have o3 := hM.oc 3
      have o7 := hM.oc 7
      have o8 := hM.oc 8
      simp only [ec, List.getElem?_toArray, List.getElem?_cons_succ, List.getElem?_cons_zero] at o3 o7 o8
      have fz : ∀ i, wr.frozen? ⟨w1.heap.size, i, none⟩ = false := fun i => Md.of hM.out
      have HMM := Lib.hid hM
      clear hM
      by_cases y99 : (((fl k)[j].toNat : Int) == 99) = true
      · have hx : ((fl k)[j].toNat : Int) = 99 := by simpa using y99
        have HX := Lib.hid hx
        clear hx
        go_wp2
        go_roundw
        case rel => exact ⟨j + 1, by omega, by go_num, HMM.out.set1 3 _ (by rw [htk.out]; exact kpart_99 k _ _ HX.out)⟩
        case measure => simp [intOf]; omega
      · have n99 : (((fl k)[j].toNat : Int) == 99) = false := by simpa using y99
        clear y99
        by_cases y110 : (((fl k)[j].toNat : Int) == 110) = true
        · have hx : ((fl k)[j].toNat : Int) = 110 := by simpa using y110
          have HX := Lib.hid hx
          clear hx
          go_wp2
          go_roundw
          case rel => exact ⟨j + 1, by omega, by go_num, HMM.out.set1 7 _ (by rw [htk.out]; exact kpart_110 k _ _ HX.out)⟩
          case measure => simp [intOf]; omega
        · have n110 : (((fl k)[j].toNat : Int) == 110) = false := by simpa using y110
          clear y110
          by_cases y108 : (((fl k)[j].toNat : Int) == 108) = true
          · have hx : ((fl k)[j].toNat : Int) = 108 := by simpa using y108
            have HX := Lib.hid hx
            clear hx
            go_wp2
            go_roundw
            case rel => exact ⟨j + 1, by omega, by go_num, HMM.out.set1 8 _ (by rw [htk.out]; exact kpart_108 k _ _ HX.out)⟩
            case measure => simp [intOf]; omega
          · have n108 : (((fl k)[j].toNat : Int) == 108) = false := by simpa using y108
            clear y108
            have hM2 : Kd w k (fl k) w1.heap.size (j + 1) wr := ⟨by rw [htk.out, kpart_other k _ _ n99 n110 n108]; exact HMM.out.out, HMM.out.be, HMM.out.l⟩
            go_wp2
            go_roundw
            case rel => exact ⟨j + 1, by omega, by go_num, hM2⟩
            case measure => simp [intOf]; omega
    · have hjn : j = (fl k).size := by omega
      have hout := hM.out
      rw [hjn, List.take_of_length_le (by simp), HALL.out] at hout
      have hgl : w1.heap.size < wr.heap.size := (Array.getElem?_eq_some_iff.1 hout).1
      have hk0 : Kq w w1.heap.size wr.heap.size (ke k C NN LL) (km k 2) (wr.alloc (Obj.cells (mc (km k 2)) 38)) :=
        ⟨(Lib.alloc_old wr _ _ hgl).trans hout, heap_alloc_new wr _, hM.be.alloc hM.be.size _, hM.l, hM.be.size, by omega⟩
      have HK0 := Lib.hid hk0
      have a0 := hk0.ecell 0
      have a1 := hk0.ecell 1
      have a2 := hk0.ecell 2
      have a3 := hk0.ecell 3
      have a4 := hk0.ecell 4
      have a5 := hk0.ecell 5
      have a6 := hk0.ecell 6
      have a7 := hk0.ecell 7
      have a8 := hk0.ecell 8
      have a9 := hk0.ecell 9
      have a10 := hk0.ecell 10
      simp only [ec, List.getElem?_toArray, List.getElem?_cons_succ, List.getElem?_cons_zero] at a0 a1 a2 a3 a4 a5 a6 a7 a8 a9 a10
      clear hout hM hk0 hd0 hjn
      go_wp2_with (first
        | (go_at_call 13; (with_reducible refine (KA.out w1.heap.size wr.heap.size (km k 2) _ HK0.out).mono ?_); rintro r w2 ⟨rfl, hs2⟩; have fz2 : ∀ i, w2.frozen? ⟨w1.heap.size, i, none⟩ = false := (fun i => Md.of hs2.e); have b0 := hs2.ecell 0; have b1 := hs2.ecell 1; have b2 := hs2.ecell 2; have b3 := hs2.ecell 3; have b4 := hs2.ecell 4; have b5 := hs2.ecell 5; have b6 := hs2.ecell 6; have b7 := hs2.ecell 7; have b8 := hs2.ecell 8; have b9 := hs2.ecell 9; have b10 := hs2.ecell 10; simp only [ec, List.getElem?_toArray, List.getElem?_cons_succ, List.getElem?_cons_zero] at b0 b1 b2 b3 b4 b5 b6 b7 b8 b9 b10; have HS2 : Hid (Kq w w1.heap.size wr.heap.size (ke k C NN 3) (km k 2) (w2.setCell ⟨w1.heap.size, 8, none⟩ (.int .i64 3))) := (hs2.sete 8 _ (by simp)); clear hs2)
        | (go_at_call 13; (with_reducible refine (KB.out w1.heap.size wr.heap.size (km k 2) _ HS2.out).mono ?_); rintro r w3 ⟨rfl, hs3⟩; have c0 := hs3.mcell 0; have c1 := hs3.mcell 1; have c2 := hs3.mcell 2; have c3 := hs3.mcell 3; have c4 := hs3.mcell 4; have c5 := hs3.mcell 5; have c6 := hs3.mcell 6; have c7 := hs3.mcell 7; have c8 := hs3.mcell 8; have c9 := hs3.mcell 9; have c10 := hs3.mcell 10; simp only [mc, List.getElem?_toArray, List.getElem?_cons_succ, List.getElem?_cons_zero] at c0 c1 c2 c3 c4 c5 c6 c7 c8 c9 c10; have HS3 := Lib.hid hs3; clear hs3)
        | (go_at_call 24; (with_reducible refine (KC.out w1.heap.size wr.heap.size (ke k C NN 3) _ HS3.out).mono ?_); rintro r w4 ⟨rfl, hs4⟩; have fz4 : ∀ i, w4.frozen? ⟨wr.heap.size, i, none⟩ = false := (fun i => Md.of hs4.m); have d0 := hs4.mcell 0; have d1 := hs4.mcell 1; have d2 := hs4.mcell 2; have d3 := hs4.mcell 3; have d4 := hs4.mcell 4; have d5 := hs4.mcell 5; have d6 := hs4.mcell 6; have d7 := hs4.mcell 7; have d8 := hs4.mcell 8; have d9 := hs4.mcell 9; have d10 := hs4.mcell 10; simp only [mc, List.getElem?_toArray, List.getElem?_cons_succ, List.getElem?_cons_zero] at d0 d1 d2 d3 d4 d5 d6 d7 d8 d9 d10; have HS4 : Hid (Kq w w1.heap.size wr.heap.size (ke k C NN 3) (km k 8) (w4.setCell ⟨wr.heap.size, 2, none⟩ (.int .i64 8))) := (hs4.setm 2 _ (by simp)); clear hs4)
        | (go_at_call 24; (with_reducible refine (KD.out w1.heap.size wr.heap.size (ke k C NN 3) _ HS4.out).mono ?_); rintro r w5 ⟨rfl, hs5⟩))
      go_ret
      exact ⟨rfl, hs5.be⟩

set_option maxRecDepth 100000 in
set_option maxHeartbeats 16000000 in
theorem kinds_d (k : Int) (w : World) (hk : -128 ≤ k ∧ k ≤ 127) (hc : k < 0) (ht : Tab w) : Calls Tryd.prog 6 #[.int .i8 k] w fun r w' => r = .returned (.bool true) ∧ Below w.heap.size w w' := by
  have hb1 : fb k = false := decide_eq_false (by omega)
  have hb2 : mfb k = false := decide_eq_false (by omega)
  have hl1 := fl_none k (by omega)
  have hl2 := mfl_none k (by omega)
  have hF : ∀ W, Calls Tryd.prog 11 #[.int .i64 k] W fun r w' => r = .returned (.tuple #[.string (⟨#[]⟩ : ByteArray), .bool false]) ∧ W = w' := fun W => (fields_any k W).mono fun r w' ⟨h1, h2⟩ => ⟨by rw [h1, hb1, hl1], h2⟩
  have hM : ∀ W, Calls Tryd.prog 22 #[.int .i64 k] W fun r w' => r = .returned (.tuple #[.string ⟨#[]⟩, .bool false]) ∧ W = w' := fun W => (mfields_any k W).mono fun r w' ⟨h1, h2⟩ => ⟨by rw [h1, hb2, hl2], h2⟩
  have q1 := kr_eq k
  have q2 := km_eq k
  rw [hb1] at q1
  rw [hb2] at q2
  have hall : kpart k (⟨#[]⟩ : ByteArray).data.toList = ke k (kc k) (kn k) (kl k) := by rw [← hl1]; exact kpart_all k
  have ka : 0 ≤ kc k ∧ kc k ≤ 1 := by unfold kc; split <;> omega
  have kb : 0 ≤ kn k ∧ kn k ≤ 1 := by unfold kn; split <;> omega
  have kd : 0 ≤ kl k ∧ kl k ≤ 1 := by unfold kl; split <;> omega
  obtain ⟨C, hC0⟩ : ∃ C, C = kc k := ⟨_, rfl⟩
  obtain ⟨NN, hN0⟩ : ∃ NN, NN = kn k := ⟨_, rfl⟩
  obtain ⟨LL, hL0⟩ : ∃ LL, LL = kl k := ⟨_, rfl⟩
  rw [← hC0, ← hN0, ← hL0] at q1 hall
  rw [← hC0] at ka
  rw [← hN0] at kb
  rw [← hL0] at kd
  clear hC0 hN0 hL0
  have hA : ∀ (g gm : Nat) (M : Ms) (W : World), Kq w g gm (ke k C NN LL) M W → Calls Tryd.prog 13 #[ev (ke k C NN LL)] W fun r w' => r = .returned (.bool false) ∧ Kq w g gm (ke k C NN LL) M w' := fun g gm M W h => (right_any _ W (ke_ok k _ _ _ hk ka kb (by omega))).mono fun r w' ⟨h1, h2⟩ => ⟨by rw [h1, q1.1], h.on h2⟩
  have hB : ∀ (g gm : Nat) (M : Ms) (W : World), Kq w g gm (ke k C NN 3) M W → Calls Tryd.prog 13 #[ev (ke k C NN 3)] W fun r w' => r = .returned (.bool false) ∧ Kq w g gm (ke k C NN 3) M w' := fun g gm M W h => (right_any _ W (ke_ok k _ _ _ hk ka kb (by omega))).mono fun r w' ⟨h1, h2⟩ => ⟨by rw [h1, q1.2], h.on h2⟩
  have hC : ∀ (g gm : Nat) (E : En) (W : World), Kq w g gm E (km k 2) W → Calls Tryd.prog 24 #[mv (km k 2)] W fun r w' => r = .returned (.bool false) ∧ Kq w g gm E (km k 2) w' := fun g gm E W h => (kright k 2 (by omega) W).mono fun r w' ⟨h1, h2⟩ => ⟨by rw [h1, q2.1], h.on h2⟩
  have hD : ∀ (g gm : Nat) (E : En) (W : World), Kq w g gm E (km k 8) W → Calls Tryd.prog 24 #[mv (km k 8)] W fun r w' => r = .returned (.bool false) ∧ Kq w g gm E (km k 8) w' := fun g gm E W h => (kright k 8 (by omega) W).mono fun r w' ⟨h1, h2⟩ => ⟨by rw [h1, q2.2], h.on h2⟩
  have KF := Lib.hid hF
  have KM := Lib.hid hM
  have KA := Lib.hid hA
  have KB := Lib.hid hB
  have KC := Lib.hid hC
  have KD := Lib.hid hD
  have KE := Lib.hid (examples_any w ht)
  have HALL := Lib.hid hall
  have t1 : decide (0 ≤ k) = false := decide_eq_false (by omega)
  have t2 : decide (k ≤ 11) = true := decide_eq_true (by omega)
  have t3 : decide (1 ≤ k) = false := decide_eq_false (by omega)
  have t4 : decide (k ≤ 10) = true := decide_eq_true (by omega)
  have hfl : (⟨#[]⟩ : ByteArray).size ≤ 4 := by decide
  have HC := Lib.hid hc
  clear hF hM q1 q2 ka kb kd hA hB hC hD hb1 hb2 ht hc hall
  go_enter Tryd.func6, Tryd.ntmps6
  go_wp2_with (first
    | (go_at_call 9; (with_reducible refine KE.out.mono ?_); rintro r w1 ⟨rfl, hb1⟩)
    | (go_at_call 11; (with_reducible refine (KF.out _).mono ?_); rintro r w' ⟨rfl, rfl⟩)
    | (go_at_call 22; (with_reducible refine (KM.out _).mono ?_); rintro r w' ⟨rfl, rfl⟩))
  have hd0 : Kd w k (⟨#[]⟩ : ByteArray) w1.heap.size 0 (w1.alloc (Obj.cells (ec (ke k 0 0 0)) 24)) := ⟨heap_alloc_new w1 _, hb1.alloc hb1.size _, hb1.size⟩
  go_loopw [10] (fun i wr => ∃ j : Nat, j ≤ (⟨#[]⟩ : ByteArray).size ∧ i = .int .i64 j ∧ Kd w k (⟨#[]⟩ : ByteArray) w1.heap.size j wr) (fun i _ => (⟨#[]⟩ : ByteArray).size - (intOf i).toNat)
  case atStart => exact ⟨0, Nat.zero_le _, rfl, hd0⟩
  case round =>
    obtain ⟨j, hj, rfl, hM⟩ := hrel
    by_cases hlt : j < (⟨#[]⟩ : ByteArray).size
    · exact absurd hlt (by show ¬ j < 0; omega)
    · have hjn : j = (⟨#[]⟩ : ByteArray).size := by omega
      have hout := hM.out
      rw [hjn, List.take_of_length_le (by simp), HALL.out] at hout
      have hgl : w1.heap.size < wr.heap.size := (Array.getElem?_eq_some_iff.1 hout).1
      have hk0 : Kq w w1.heap.size wr.heap.size (ke k C NN LL) (km k 2) (wr.alloc (Obj.cells (mc (km k 2)) 38)) :=
        ⟨(Lib.alloc_old wr _ _ hgl).trans hout, heap_alloc_new wr _, hM.be.alloc hM.be.size _, hM.l, hM.be.size, by omega⟩
      have HK0 := Lib.hid hk0
      have a0 := hk0.ecell 0
      have a1 := hk0.ecell 1
      have a2 := hk0.ecell 2
      have a3 := hk0.ecell 3
      have a4 := hk0.ecell 4
      have a5 := hk0.ecell 5
      have a6 := hk0.ecell 6
      have a7 := hk0.ecell 7
      have a8 := hk0.ecell 8
      have a9 := hk0.ecell 9
      have a10 := hk0.ecell 10
      simp only [ec, List.getElem?_toArray, List.getElem?_cons_succ, List.getElem?_cons_zero] at a0 a1 a2 a3 a4 a5 a6 a7 a8 a9 a10
      clear hout hM hk0 hd0 hjn
      go_wp2_with (first
        | (go_at_call 13; (with_reducible refine (KA.out w1.heap.size wr.heap.size (km k 2) _ HK0.out).mono ?_); rintro r w2 ⟨rfl, hs2⟩; have fz2 : ∀ i, w2.frozen? ⟨w1.heap.size, i, none⟩ = false := (fun i => Md.of hs2.e); have b0 := hs2.ecell 0; have b1 := hs2.ecell 1; have b2 := hs2.ecell 2; have b3 := hs2.ecell 3; have b4 := hs2.ecell 4; have b5 := hs2.ecell 5; have b6 := hs2.ecell 6; have b7 := hs2.ecell 7; have b8 := hs2.ecell 8; have b9 := hs2.ecell 9; have b10 := hs2.ecell 10; simp only [ec, List.getElem?_toArray, List.getElem?_cons_succ, List.getElem?_cons_zero] at b0 b1 b2 b3 b4 b5 b6 b7 b8 b9 b10; have HS2 : Hid (Kq w w1.heap.size wr.heap.size (ke k C NN 3) (km k 2) (w2.setCell ⟨w1.heap.size, 8, none⟩ (.int .i64 3))) := (hs2.sete 8 _ (by simp)); clear hs2)
        | (go_at_call 13; (with_reducible refine (KB.out w1.heap.size wr.heap.size (km k 2) _ HS2.out).mono ?_); rintro r w3 ⟨rfl, hs3⟩; have c0 := hs3.mcell 0; have c1 := hs3.mcell 1; have c2 := hs3.mcell 2; have c3 := hs3.mcell 3; have c4 := hs3.mcell 4; have c5 := hs3.mcell 5; have c6 := hs3.mcell 6; have c7 := hs3.mcell 7; have c8 := hs3.mcell 8; have c9 := hs3.mcell 9; have c10 := hs3.mcell 10; simp only [mc, List.getElem?_toArray, List.getElem?_cons_succ, List.getElem?_cons_zero] at c0 c1 c2 c3 c4 c5 c6 c7 c8 c9 c10; have HS3 := Lib.hid hs3; clear hs3)
        | (go_at_call 24; (with_reducible refine (KC.out w1.heap.size wr.heap.size (ke k C NN 3) _ HS3.out).mono ?_); rintro r w4 ⟨rfl, hs4⟩; have fz4 : ∀ i, w4.frozen? ⟨wr.heap.size, i, none⟩ = false := (fun i => Md.of hs4.m); have d0 := hs4.mcell 0; have d1 := hs4.mcell 1; have d2 := hs4.mcell 2; have d3 := hs4.mcell 3; have d4 := hs4.mcell 4; have d5 := hs4.mcell 5; have d6 := hs4.mcell 6; have d7 := hs4.mcell 7; have d8 := hs4.mcell 8; have d9 := hs4.mcell 9; have d10 := hs4.mcell 10; simp only [mc, List.getElem?_toArray, List.getElem?_cons_succ, List.getElem?_cons_zero] at d0 d1 d2 d3 d4 d5 d6 d7 d8 d9 d10; have HS4 : Hid (Kq w w1.heap.size wr.heap.size (ke k C NN 3) (km k 8) (w4.setCell ⟨wr.heap.size, 2, none⟩ (.int .i64 8))) := (hs4.setm 2 _ (by simp)); clear hs4)
        | (go_at_call 24; (with_reducible refine (KD.out w1.heap.size wr.heap.size (ke k C NN 3) _ HS4.out).mono ?_); rintro r w5 ⟨rfl, hs5⟩))
      go_ret
      exact ⟨rfl, hs5.be⟩

set_option maxRecDepth 100000 in
set_option maxHeartbeats 16000000 in
theorem kinds_e (k : Int) (w : World) (hk : -128 ≤ k ∧ k ≤ 127) (hc : 11 < k) (ht : Tab w) : Calls Tryd.prog 6 #[.int .i8 k] w fun r w' => r = .returned (.bool true) ∧ Below w.heap.size w w' := by
  have hb1 : fb k = false := decide_eq_false (by omega)
  have hb2 : mfb k = false := decide_eq_false (by omega)
  have hl1 := fl_none k (by omega)
  have hl2 := mfl_none k (by omega)
  have hF : ∀ W, Calls Tryd.prog 11 #[.int .i64 k] W fun r w' => r = .returned (.tuple #[.string (⟨#[]⟩ : ByteArray), .bool false]) ∧ W = w' := fun W => (fields_any k W).mono fun r w' ⟨h1, h2⟩ => ⟨by rw [h1, hb1, hl1], h2⟩
  have hM : ∀ W, Calls Tryd.prog 22 #[.int .i64 k] W fun r w' => r = .returned (.tuple #[.string ⟨#[]⟩, .bool false]) ∧ W = w' := fun W => (mfields_any k W).mono fun r w' ⟨h1, h2⟩ => ⟨by rw [h1, hb2, hl2], h2⟩
  have q1 := kr_eq k
  have q2 := km_eq k
  rw [hb1] at q1
  rw [hb2] at q2
  have hall : kpart k (⟨#[]⟩ : ByteArray).data.toList = ke k (kc k) (kn k) (kl k) := by rw [← hl1]; exact kpart_all k
  have ka : 0 ≤ kc k ∧ kc k ≤ 1 := by unfold kc; split <;> omega
  have kb : 0 ≤ kn k ∧ kn k ≤ 1 := by unfold kn; split <;> omega
  have kd : 0 ≤ kl k ∧ kl k ≤ 1 := by unfold kl; split <;> omega
  obtain ⟨C, hC0⟩ : ∃ C, C = kc k := ⟨_, rfl⟩
  obtain ⟨NN, hN0⟩ : ∃ NN, NN = kn k := ⟨_, rfl⟩
  obtain ⟨LL, hL0⟩ : ∃ LL, LL = kl k := ⟨_, rfl⟩
  rw [← hC0, ← hN0, ← hL0] at q1 hall
  rw [← hC0] at ka
  rw [← hN0] at kb
  rw [← hL0] at kd
  clear hC0 hN0 hL0
  have hA : ∀ (g gm : Nat) (M : Ms) (W : World), Kq w g gm (ke k C NN LL) M W → Calls Tryd.prog 13 #[ev (ke k C NN LL)] W fun r w' => r = .returned (.bool false) ∧ Kq w g gm (ke k C NN LL) M w' := fun g gm M W h => (right_any _ W (ke_ok k _ _ _ hk ka kb (by omega))).mono fun r w' ⟨h1, h2⟩ => ⟨by rw [h1, q1.1], h.on h2⟩
  have hB : ∀ (g gm : Nat) (M : Ms) (W : World), Kq w g gm (ke k C NN 3) M W → Calls Tryd.prog 13 #[ev (ke k C NN 3)] W fun r w' => r = .returned (.bool false) ∧ Kq w g gm (ke k C NN 3) M w' := fun g gm M W h => (right_any _ W (ke_ok k _ _ _ hk ka kb (by omega))).mono fun r w' ⟨h1, h2⟩ => ⟨by rw [h1, q1.2], h.on h2⟩
  have hC : ∀ (g gm : Nat) (E : En) (W : World), Kq w g gm E (km k 2) W → Calls Tryd.prog 24 #[mv (km k 2)] W fun r w' => r = .returned (.bool false) ∧ Kq w g gm E (km k 2) w' := fun g gm E W h => (kright k 2 (by omega) W).mono fun r w' ⟨h1, h2⟩ => ⟨by rw [h1, q2.1], h.on h2⟩
  have hD : ∀ (g gm : Nat) (E : En) (W : World), Kq w g gm E (km k 8) W → Calls Tryd.prog 24 #[mv (km k 8)] W fun r w' => r = .returned (.bool false) ∧ Kq w g gm E (km k 8) w' := fun g gm E W h => (kright k 8 (by omega) W).mono fun r w' ⟨h1, h2⟩ => ⟨by rw [h1, q2.2], h.on h2⟩
  have KF := Lib.hid hF
  have KM := Lib.hid hM
  have KA := Lib.hid hA
  have KB := Lib.hid hB
  have KC := Lib.hid hC
  have KD := Lib.hid hD
  have KE := Lib.hid (examples_any w ht)
  have HALL := Lib.hid hall
  have t1 : decide (0 ≤ k) = true := decide_eq_true (by omega)
  have t2 : decide (k ≤ 11) = false := decide_eq_false (by omega)
  have t3 : decide (1 ≤ k) = true := decide_eq_true (by omega)
  have t4 : decide (k ≤ 10) = false := decide_eq_false (by omega)
  have hfl : (⟨#[]⟩ : ByteArray).size ≤ 4 := by decide
  have HC := Lib.hid hc
  clear hF hM q1 q2 ka kb kd hA hB hC hD hb1 hb2 ht hc hall
  go_enter Tryd.func6, Tryd.ntmps6
  go_wp2_with (first
    | (go_at_call 9; (with_reducible refine KE.out.mono ?_); rintro r w1 ⟨rfl, hb1⟩)
    | (go_at_call 11; (with_reducible refine (KF.out _).mono ?_); rintro r w' ⟨rfl, rfl⟩)
    | (go_at_call 22; (with_reducible refine (KM.out _).mono ?_); rintro r w' ⟨rfl, rfl⟩))
  have hd0 : Kd w k (⟨#[]⟩ : ByteArray) w1.heap.size 0 (w1.alloc (Obj.cells (ec (ke k 0 0 0)) 24)) := ⟨heap_alloc_new w1 _, hb1.alloc hb1.size _, hb1.size⟩
  go_loopw [10] (fun i wr => ∃ j : Nat, j ≤ (⟨#[]⟩ : ByteArray).size ∧ i = .int .i64 j ∧ Kd w k (⟨#[]⟩ : ByteArray) w1.heap.size j wr) (fun i _ => (⟨#[]⟩ : ByteArray).size - (intOf i).toNat)
  case atStart => exact ⟨0, Nat.zero_le _, rfl, hd0⟩
  case round =>
    obtain ⟨j, hj, rfl, hM⟩ := hrel
    by_cases hlt : j < (⟨#[]⟩ : ByteArray).size
    · exact absurd hlt (by show ¬ j < 0; omega)
    · have hjn : j = (⟨#[]⟩ : ByteArray).size := by omega
      have hout := hM.out
      rw [hjn, List.take_of_length_le (by simp), HALL.out] at hout
      have hgl : w1.heap.size < wr.heap.size := (Array.getElem?_eq_some_iff.1 hout).1
      have hk0 : Kq w w1.heap.size wr.heap.size (ke k C NN LL) (km k 2) (wr.alloc (Obj.cells (mc (km k 2)) 38)) :=
        ⟨(Lib.alloc_old wr _ _ hgl).trans hout, heap_alloc_new wr _, hM.be.alloc hM.be.size _, hM.l, hM.be.size, by omega⟩
      have HK0 := Lib.hid hk0
      have a0 := hk0.ecell 0
      have a1 := hk0.ecell 1
      have a2 := hk0.ecell 2
      have a3 := hk0.ecell 3
      have a4 := hk0.ecell 4
      have a5 := hk0.ecell 5
      have a6 := hk0.ecell 6
      have a7 := hk0.ecell 7
      have a8 := hk0.ecell 8
      have a9 := hk0.ecell 9
      have a10 := hk0.ecell 10
      simp only [ec, List.getElem?_toArray, List.getElem?_cons_succ, List.getElem?_cons_zero] at a0 a1 a2 a3 a4 a5 a6 a7 a8 a9 a10
      clear hout hM hk0 hd0 hjn
      go_wp2_with (first
        | (go_at_call 13; (with_reducible refine (KA.out w1.heap.size wr.heap.size (km k 2) _ HK0.out).mono ?_); rintro r w2 ⟨rfl, hs2⟩; have fz2 : ∀ i, w2.frozen? ⟨w1.heap.size, i, none⟩ = false := (fun i => Md.of hs2.e); have b0 := hs2.ecell 0; have b1 := hs2.ecell 1; have b2 := hs2.ecell 2; have b3 := hs2.ecell 3; have b4 := hs2.ecell 4; have b5 := hs2.ecell 5; have b6 := hs2.ecell 6; have b7 := hs2.ecell 7; have b8 := hs2.ecell 8; have b9 := hs2.ecell 9; have b10 := hs2.ecell 10; simp only [ec, List.getElem?_toArray, List.getElem?_cons_succ, List.getElem?_cons_zero] at b0 b1 b2 b3 b4 b5 b6 b7 b8 b9 b10; have HS2 : Hid (Kq w w1.heap.size wr.heap.size (ke k C NN 3) (km k 2) (w2.setCell ⟨w1.heap.size, 8, none⟩ (.int .i64 3))) := (hs2.sete 8 _ (by simp)); clear hs2)
        | (go_at_call 13; (with_reducible refine (KB.out w1.heap.size wr.heap.size (km k 2) _ HS2.out).mono ?_); rintro r w3 ⟨rfl, hs3⟩; have c0 := hs3.mcell 0; have c1 := hs3.mcell 1; have c2 := hs3.mcell 2; have c3 := hs3.mcell 3; have c4 := hs3.mcell 4; have c5 := hs3.mcell 5; have c6 := hs3.mcell 6; have c7 := hs3.mcell 7; have c8 := hs3.mcell 8; have c9 := hs3.mcell 9; have c10 := hs3.mcell 10; simp only [mc, List.getElem?_toArray, List.getElem?_cons_succ, List.getElem?_cons_zero] at c0 c1 c2 c3 c4 c5 c6 c7 c8 c9 c10; have HS3 := Lib.hid hs3; clear hs3)
        | (go_at_call 24; (with_reducible refine (KC.out w1.heap.size wr.heap.size (ke k C NN 3) _ HS3.out).mono ?_); rintro r w4 ⟨rfl, hs4⟩; have fz4 : ∀ i, w4.frozen? ⟨wr.heap.size, i, none⟩ = false := (fun i => Md.of hs4.m); have d0 := hs4.mcell 0; have d1 := hs4.mcell 1; have d2 := hs4.mcell 2; have d3 := hs4.mcell 3; have d4 := hs4.mcell 4; have d5 := hs4.mcell 5; have d6 := hs4.mcell 6; have d7 := hs4.mcell 7; have d8 := hs4.mcell 8; have d9 := hs4.mcell 9; have d10 := hs4.mcell 10; simp only [mc, List.getElem?_toArray, List.getElem?_cons_succ, List.getElem?_cons_zero] at d0 d1 d2 d3 d4 d5 d6 d7 d8 d9 d10; have HS4 : Hid (Kq w w1.heap.size wr.heap.size (ke k C NN 3) (km k 8) (w4.setCell ⟨wr.heap.size, 2, none⟩ (.int .i64 8))) := (hs4.setm 2 _ (by simp)); clear hs4)
        | (go_at_call 24; (with_reducible refine (KD.out w1.heap.size wr.heap.size (ke k C NN 3) _ HS4.out).mono ?_); rintro r w5 ⟨rfl, hs5⟩))
      go_ret
      exact ⟨rfl, hs5.be⟩

theorem kinds_any (k : Int) (w : World) (hk : -128 ≤ k ∧ k ≤ 127) (ht : Tab w) : Calls Tryd.prog 6 #[.int .i8 k] w fun r w' => r = .returned (.bool true) ∧ Below w.heap.size w w' := by
  rcases (show (1 ≤ k ∧ k ≤ 10) ∨ k = 0 ∨ k = 11 ∨ k < 0 ∨ 11 < k by omega) with h | h | h | h | h
  · exact kinds_a k w hk h ht
  · exact kinds_b k w hk h ht
  · exact kinds_c k w hk h ht
  · exact kinds_d k w hk h ht
  · exact kinds_e k w hk h ht
end Go.Proofs.YtclohjcenkpgoaaDoor
