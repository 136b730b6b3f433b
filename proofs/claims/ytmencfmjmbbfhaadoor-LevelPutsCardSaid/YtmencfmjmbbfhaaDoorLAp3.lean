/-
  What an entry makes of a config: Apply, kinds five to ten.
  Conditions: the config is right; the entry's numbers are of their kinds, its texts below 2^47.
-/
import Derived.Test.YtmencfmjmbbfhaaDoorLAp
namespace Go.Proofs.YtmencfmjmbbfhaaDoor
open Go.RowKit
set_option linter.unusedVariables false
set_option linter.unusedSimpArgs false
section
variable {bm cm bh ch : Nat} {c : Cf} {e : En} {w : World}
set_option maxHeartbeats 4000000 in
set_option maxRecDepth 100000 in
theorem apply_9 (hm : Rw w bm cm c.m) (hh : Rw w bh ch c.h) (hr : RightC c) (ok : e.Ok) (hR : rightB e = true) (hk : e.kind = 9) :
    Calls Tryd.prog 10 #[cvl bm cm bh ch c, ev e] w fun r w' => ∃ b1 c1 b2 c2, r = .returned (.tuple #[cvl b1 c1 b2 c2 (lowC c).1, .int .i64 (lowC c).2]) ∧ Rw w' b1 c1 ((lowC c).1).m ∧ Rw w' b2 c2 ((lowC c).1).h ∧ w.heap.size ≤ b1 ∧ w.heap.size ≤ b2 ∧ b1 ≠ b2 ∧ Below w.heap.size w w' := by
  have A0 := as_new hm hh e
  obtain ⟨W0, hW0⟩ : ∃ W0, W0 = ((w.alloc (.cells (cvc bm cm bh ch c) 25)).alloc (.cells (ec e) 31)).alloc (.cells zc 25) := ⟨_, rfl⟩
  rw [← hW0] at A0
  have hl := hr.len
  have hn := hr.hn
  have KR := Lib.hid ((lright_any bm cm bh ch c W0 A0.m A0.h (by omega) (by omega)).mono fun r W' ⟨h1, h2⟩ => (⟨h1, A0.below h2⟩ : _ ∧ As bm cm bh ch c e w W'))
  rw [(rightC_iff c).2 hr] at KR
  have KE : Hid (∀ W, As bm cm bh ch c e w W → Calls Tryd.prog 23 #[ev e] W fun r W' => r = .returned (.bool true) ∧ As bm cm bh ch c e w W') := Lib.hid fun W h => (right_any e W ok).mono fun r W' ⟨h1, h2⟩ => ⟨by rw [← hR]; exact h1, h.below h2⟩
  have KM : Hid (∀ W, As bm cm bh ch c e w W → Calls Tryd.prog 24 #[.slice (some ⟨bm, 0, none⟩) c.m.length cm] W fun r W' => ∃ b1 c1, r = .returned (.slice (some ⟨b1, 0, none⟩) c.m.length c1) ∧ As bm cm bh ch c e w W' ∧ Rw W' b1 c1 c.m ∧ w.heap.size + 2 < b1) := Lib.hid fun W h => cl_m hr W h
  have KH : Hid (∀ b1 c1 W, As bm cm bh ch c e w W → Rw W b1 c1 c.m → w.heap.size + 2 < b1 → Calls Tryd.prog 24 #[.slice (some ⟨bh, 0, none⟩) c.h.length ch] W fun r W' => ∃ b2 c2, r = .returned (.slice (some ⟨b2, 0, none⟩) c.h.length c2) ∧ As bm cm bh ch c e w W' ∧ Hid (Az b1 c1 b2 c2 c e w ((W'.setCell ⟨w.heap.size, 0, none⟩ (.slice (some ⟨b1, 0, none⟩) c.m.length c1)).setCell ⟨w.heap.size, 1, none⟩ (.slice (some ⟨b2, 0, none⟩) c.h.length c2)))) := Lib.hid fun b1 c1 W h h1 h2 => cl_h hr b1 c1 W h h1 h2
  have HKD := Lib.hid hk
  clear hk
  obtain ⟨D, hD⟩ : ∃ D, D = lowC c := ⟨_, rfl⟩
  have KG : Hid (∀ b1 c1 b2 c2 W, Cx w.heap.size w.heap.size b1 c1 b2 c2 c W → w.heap.size ≤ W.heap.size → Calls Tryd.prog 50 #[.pointer (some ⟨w.heap.size, 0, none⟩), ev e] W (Md1 w.heap.size w.heap.size D W)) := Lib.hid fun b1 c1 b2 c2 W h hB => by rw [hD]; exact lower_any e W h hB
  rw [← hD]
  clear hD
  have HA := Lib.hid A0
  have HW := Lib.hid hW0
  clear A0 hW0 hm hh hr ok hR hl hn
  go_enter Tryd.func10, Tryd.ntmps10
  go_upto_region 1 with fail
  refine wp_at (w := W0) HW.out.symm ?_
  have ha := HA.out.a
  have he := HA.out.e
  go_upto_region 2 with (first
    | (go_at_call 16; refine KR.out.mono ?_; rintro r w1 ⟨rfl, A1⟩; obtain ⟨c0, c1, c2, c3, c4, c5, c6, c7, c8, c9, c10⟩ := A1.ces; have H1 := Lib.hid A1; clear A1)
    | (go_at_call 23; refine (KE.out _ H1.out).mono ?_; rintro r w2 ⟨rfl, A2⟩; have H2 := Lib.hid A2; clear A2)
    | (refine wpList_load_cf rfl _ rfl _ w.heap.size (cvc bm cm bh ch c) rfl rfl ha ?_))
  clear c0 c1 c2 c3 c4 c5 c6 c7 c8 c9 c10 ha he
  have A2 := H2.out.drew
  have a0 : w2.cell? ⟨w.heap.size, 0, none⟩ = some (.slice (some ⟨bm, 0, none⟩) c.m.length cm) := A2.ca 0
  have a1 : w2.cell? ⟨w.heap.size, 1, none⟩ = some (.slice (some ⟨bh, 0, none⟩) c.h.length ch) := A2.ca 1
  go_cut [] from 10 to 23 (fun wx => ∃ b1 c1 b2 c2, Hid (Az b1 c1 b2 c2 c e w wx))
  case first =>
    go_region_with (first
      | (go_at_call 24; refine (KM.out _ A2).mono ?_; clear KM; rintro r w3 ⟨b1, c1, rfl, A3, R1, l1⟩; have a31 : w3.cell? ⟨w.heap.size, 1, none⟩ = some (.slice (some ⟨bh, 0, none⟩) c.h.length ch) := A3.ca 1)
      | (go_at_call 24; refine (KH.out _ _ _ A3 R1 l1).mono ?_; clear KH; rintro r w4 ⟨b2, c2, rfl, A4, HZ⟩; have a40 : w4.cell? ⟨w.heap.size, 0, none⟩ = some (.slice (some ⟨bm, 0, none⟩) c.m.length cm) := A4.ca 0; have a41 : w4.cell? ⟨w.heap.size, 1, none⟩ = some (.slice (some ⟨bh, 0, none⟩) c.h.length ch) := A4.ca 1; have f40 : w4.frozen? ⟨w.heap.size, 0, none⟩ = false := (by simp [World.frozen?, A4.a]); have f41 : w4.frozen? ⟨w.heap.size, 1, none⟩ = false := (by simp [World.frozen?, A4.a])))
    all_goals
      go_wp2_with fail
      go_meet
      exact ⟨_, _, _, _, HZ⟩
  case rest =>
    obtain ⟨b1, c1, b2, c2, HZ⟩ := hcut
    clear KM KH KR KE A2 a0 a1
    have b2_ : w.heap.size + 1 < wc.heap.size := (Array.getElem?_eq_some_iff.1 HZ.out.e).1
    have k2 : wc.cell? ⟨w.heap.size + 1, 2, none⟩ = some (.int .i64 e.kind) := HZ.out.ce 2
    have KC : Hid (Calls Tryd.prog 25 #[] wc.drew fun r w' => ∃ m, r = .returned (.map (some m)) ∧ Hid (Az b1 c1 b2 c2 c e w w') ∧ (Instr.lookup 59 (.map (some m)) (.int .i64 e.kind) true).run Tryd.prog w' = .ok (.tuple #[fv 50, .bool true]) w' ∧ w'.cell? ⟨w.heap.size + 1, 2, none⟩ = some (.int .i64 e.kind)) := by
      have HD : Az b1 c1 b2 c2 c e w wc.drew := ⟨HZ.out.x.at rfl, HZ.out.e, HZ.out.r, HZ.out.be.drew⟩
      refine (changes_any wc.drew).mono ?_
      rintro r w' ⟨rfl, hm, hb⟩
      have HE := HD.below hb
      exact ⟨_, rfl, HE, look_step e.kind (fv 50) Tryd.underlying59 hm (by rw [HKD.out]; rfl), HE.ce 2⟩
    clear HZ
    go_upto_region 5 with fail
    go_region_with (go_at_call 25; refine KC.out.mono ?_; clear KC; rintro r w6 ⟨m, rfl, Z6, hlook, k6⟩)
    all_goals
      clear k2
      have he := Z6.out.e
      have KF : Hid (Calls Tryd.prog 50 #[.pointer (some ⟨w.heap.size, 0, none⟩), ev e] w6 fun r w' => r = .returned (.int .i64 D.2) ∧ ∃ b3 c3 b4 c4, Hid (Ay b3 c3 b4 c4 D.1 w w')) := by
        have hZ := Z6.out
        refine (KG.out b1 c1 b2 c2 w6 hZ.x hZ.be.size).mono ?_
        rintro r w' ⟨rfl, ⟨b3, c3, b4, c4, hX⟩, hB, hK⟩
        exact ⟨rfl, b3, c3, b4, c4, ⟨hX, hK _ _ (by omega) hZ.r, hZ.be.trans hB⟩⟩
      clear KG
      go_upto_region 9 with (first
        | (refine wpList_load_en rfl _ rfl _ (w.heap.size + 1) e rfl he ?_)
        | (go_at_call 50; refine KF.out.mono ?_; rintro r w7 ⟨rfl, b3, c3, b4, c4, HY⟩))
      have hx := HY.out.x.bx
      have hz := HY.out.r
      go_wp2_with (first
        | (refine wpList_load_cf rfl _ rfl _ w.heap.size (cvc b3 c3 b4 c4 D.1) rfl rfl hx ?_)
        | (refine wpList_store_cf rfl _ _ rfl _ (w.heap.size + 1 + 1) (cvc b3 c3 b4 c4 D.1) zc rfl (by simp [Value.oneCell']) rfl rfl hz rfl ?_))
      obtain ⟨q1, q2, q3, q4, q5, q6, q7⟩ := HY.out.fin
      exact bodyPost_ret (v := .tuple #[.agg (cvc b3 c3 b4 c4 D.1), .int .i64 D.2]) (res10 _ _ (w.heap.size + 1 + 1) _ rfl q1 rfl) rfl ⟨_, _, _, _, rfl, q2, q3, q4, q5, q6, q7⟩
set_option maxHeartbeats 4000000 in
set_option maxRecDepth 100000 in
theorem apply_10 (hm : Rw w bm cm c.m) (hh : Rw w bh ch c.h) (hr : RightC c) (ok : e.Ok) (hR : rightB e = true) (hk : e.kind = 10) :
    Calls Tryd.prog 10 #[cvl bm cm bh ch c, ev e] w fun r w' => ∃ b1 c1 b2 c2, r = .returned (.tuple #[cvl b1 c1 b2 c2 (finC c).1, .int .i64 (finC c).2]) ∧ Rw w' b1 c1 ((finC c).1).m ∧ Rw w' b2 c2 ((finC c).1).h ∧ w.heap.size ≤ b1 ∧ w.heap.size ≤ b2 ∧ b1 ≠ b2 ∧ Below w.heap.size w w' := by
  have A0 := as_new hm hh e
  obtain ⟨W0, hW0⟩ : ∃ W0, W0 = ((w.alloc (.cells (cvc bm cm bh ch c) 25)).alloc (.cells (ec e) 31)).alloc (.cells zc 25) := ⟨_, rfl⟩
  rw [← hW0] at A0
  have hl := hr.len
  have hn := hr.hn
  have KR := Lib.hid ((lright_any bm cm bh ch c W0 A0.m A0.h (by omega) (by omega)).mono fun r W' ⟨h1, h2⟩ => (⟨h1, A0.below h2⟩ : _ ∧ As bm cm bh ch c e w W'))
  rw [(rightC_iff c).2 hr] at KR
  have KE : Hid (∀ W, As bm cm bh ch c e w W → Calls Tryd.prog 23 #[ev e] W fun r W' => r = .returned (.bool true) ∧ As bm cm bh ch c e w W') := Lib.hid fun W h => (right_any e W ok).mono fun r W' ⟨h1, h2⟩ => ⟨by rw [← hR]; exact h1, h.below h2⟩
  have KM : Hid (∀ W, As bm cm bh ch c e w W → Calls Tryd.prog 24 #[.slice (some ⟨bm, 0, none⟩) c.m.length cm] W fun r W' => ∃ b1 c1, r = .returned (.slice (some ⟨b1, 0, none⟩) c.m.length c1) ∧ As bm cm bh ch c e w W' ∧ Rw W' b1 c1 c.m ∧ w.heap.size + 2 < b1) := Lib.hid fun W h => cl_m hr W h
  have KH : Hid (∀ b1 c1 W, As bm cm bh ch c e w W → Rw W b1 c1 c.m → w.heap.size + 2 < b1 → Calls Tryd.prog 24 #[.slice (some ⟨bh, 0, none⟩) c.h.length ch] W fun r W' => ∃ b2 c2, r = .returned (.slice (some ⟨b2, 0, none⟩) c.h.length c2) ∧ As bm cm bh ch c e w W' ∧ Hid (Az b1 c1 b2 c2 c e w ((W'.setCell ⟨w.heap.size, 0, none⟩ (.slice (some ⟨b1, 0, none⟩) c.m.length c1)).setCell ⟨w.heap.size, 1, none⟩ (.slice (some ⟨b2, 0, none⟩) c.h.length c2)))) := Lib.hid fun b1 c1 W h h1 h2 => cl_h hr b1 c1 W h h1 h2
  have HKD := Lib.hid hk
  clear hk
  obtain ⟨D, hD⟩ : ∃ D, D = finC c := ⟨_, rfl⟩
  have KG : Hid (∀ b1 c1 b2 c2 W, Cx w.heap.size w.heap.size b1 c1 b2 c2 c W → w.heap.size ≤ W.heap.size → Calls Tryd.prog 51 #[.pointer (some ⟨w.heap.size, 0, none⟩), ev e] W (Md1 w.heap.size w.heap.size D W)) := Lib.hid fun b1 c1 b2 c2 W h hB => by rw [hD]; exact finalise_any e W h hB
  rw [← hD]
  clear hD
  have HA := Lib.hid A0
  have HW := Lib.hid hW0
  clear A0 hW0 hm hh hr ok hR hl hn
  go_enter Tryd.func10, Tryd.ntmps10
  go_upto_region 1 with fail
  refine wp_at (w := W0) HW.out.symm ?_
  have ha := HA.out.a
  have he := HA.out.e
  go_upto_region 2 with (first
    | (go_at_call 16; refine KR.out.mono ?_; rintro r w1 ⟨rfl, A1⟩; obtain ⟨c0, c1, c2, c3, c4, c5, c6, c7, c8, c9, c10⟩ := A1.ces; have H1 := Lib.hid A1; clear A1)
    | (go_at_call 23; refine (KE.out _ H1.out).mono ?_; rintro r w2 ⟨rfl, A2⟩; have H2 := Lib.hid A2; clear A2)
    | (refine wpList_load_cf rfl _ rfl _ w.heap.size (cvc bm cm bh ch c) rfl rfl ha ?_))
  clear c0 c1 c2 c3 c4 c5 c6 c7 c8 c9 c10 ha he
  have A2 := H2.out.drew
  have a0 : w2.cell? ⟨w.heap.size, 0, none⟩ = some (.slice (some ⟨bm, 0, none⟩) c.m.length cm) := A2.ca 0
  have a1 : w2.cell? ⟨w.heap.size, 1, none⟩ = some (.slice (some ⟨bh, 0, none⟩) c.h.length ch) := A2.ca 1
  go_cut [] from 10 to 23 (fun wx => ∃ b1 c1 b2 c2, Hid (Az b1 c1 b2 c2 c e w wx))
  case first =>
    go_region_with (first
      | (go_at_call 24; refine (KM.out _ A2).mono ?_; clear KM; rintro r w3 ⟨b1, c1, rfl, A3, R1, l1⟩; have a31 : w3.cell? ⟨w.heap.size, 1, none⟩ = some (.slice (some ⟨bh, 0, none⟩) c.h.length ch) := A3.ca 1)
      | (go_at_call 24; refine (KH.out _ _ _ A3 R1 l1).mono ?_; clear KH; rintro r w4 ⟨b2, c2, rfl, A4, HZ⟩; have a40 : w4.cell? ⟨w.heap.size, 0, none⟩ = some (.slice (some ⟨bm, 0, none⟩) c.m.length cm) := A4.ca 0; have a41 : w4.cell? ⟨w.heap.size, 1, none⟩ = some (.slice (some ⟨bh, 0, none⟩) c.h.length ch) := A4.ca 1; have f40 : w4.frozen? ⟨w.heap.size, 0, none⟩ = false := (by simp [World.frozen?, A4.a]); have f41 : w4.frozen? ⟨w.heap.size, 1, none⟩ = false := (by simp [World.frozen?, A4.a])))
    all_goals
      go_wp2_with fail
      go_meet
      exact ⟨_, _, _, _, HZ⟩
  case rest =>
    obtain ⟨b1, c1, b2, c2, HZ⟩ := hcut
    clear KM KH KR KE A2 a0 a1
    have b2_ : w.heap.size + 1 < wc.heap.size := (Array.getElem?_eq_some_iff.1 HZ.out.e).1
    have k2 : wc.cell? ⟨w.heap.size + 1, 2, none⟩ = some (.int .i64 e.kind) := HZ.out.ce 2
    have KC : Hid (Calls Tryd.prog 25 #[] wc.drew fun r w' => ∃ m, r = .returned (.map (some m)) ∧ Hid (Az b1 c1 b2 c2 c e w w') ∧ (Instr.lookup 59 (.map (some m)) (.int .i64 e.kind) true).run Tryd.prog w' = .ok (.tuple #[fv 51, .bool true]) w' ∧ w'.cell? ⟨w.heap.size + 1, 2, none⟩ = some (.int .i64 e.kind)) := by
      have HD : Az b1 c1 b2 c2 c e w wc.drew := ⟨HZ.out.x.at rfl, HZ.out.e, HZ.out.r, HZ.out.be.drew⟩
      refine (changes_any wc.drew).mono ?_
      rintro r w' ⟨rfl, hm, hb⟩
      have HE := HD.below hb
      exact ⟨_, rfl, HE, look_step e.kind (fv 51) Tryd.underlying59 hm (by rw [HKD.out]; rfl), HE.ce 2⟩
    clear HZ
    go_upto_region 5 with fail
    go_region_with (go_at_call 25; refine KC.out.mono ?_; clear KC; rintro r w6 ⟨m, rfl, Z6, hlook, k6⟩)
    all_goals
      clear k2
      have he := Z6.out.e
      have KF : Hid (Calls Tryd.prog 51 #[.pointer (some ⟨w.heap.size, 0, none⟩), ev e] w6 fun r w' => r = .returned (.int .i64 D.2) ∧ ∃ b3 c3 b4 c4, Hid (Ay b3 c3 b4 c4 D.1 w w')) := by
        have hZ := Z6.out
        refine (KG.out b1 c1 b2 c2 w6 hZ.x hZ.be.size).mono ?_
        rintro r w' ⟨rfl, ⟨b3, c3, b4, c4, hX⟩, hB, hK⟩
        exact ⟨rfl, b3, c3, b4, c4, ⟨hX, hK _ _ (by omega) hZ.r, hZ.be.trans hB⟩⟩
      clear KG
      go_upto_region 9 with (first
        | (refine wpList_load_en rfl _ rfl _ (w.heap.size + 1) e rfl he ?_)
        | (go_at_call 51; refine KF.out.mono ?_; rintro r w7 ⟨rfl, b3, c3, b4, c4, HY⟩))
      have hx := HY.out.x.bx
      have hz := HY.out.r
      go_wp2_with (first
        | (refine wpList_load_cf rfl _ rfl _ w.heap.size (cvc b3 c3 b4 c4 D.1) rfl rfl hx ?_)
        | (refine wpList_store_cf rfl _ _ rfl _ (w.heap.size + 1 + 1) (cvc b3 c3 b4 c4 D.1) zc rfl (by simp [Value.oneCell']) rfl rfl hz rfl ?_))
      obtain ⟨q1, q2, q3, q4, q5, q6, q7⟩ := HY.out.fin
      exact bodyPost_ret (v := .tuple #[.agg (cvc b3 c3 b4 c4 D.1), .int .i64 D.2]) (res10 _ _ (w.heap.size + 1 + 1) _ rfl q1 rfl) rfl ⟨_, _, _, _, rfl, q2, q3, q4, q5, q6, q7⟩
end
end Go.Proofs.YtmencfmjmbbfhaaDoor
