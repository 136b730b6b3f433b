/-
  The contract of the document's own Get: what a sector holds.
  Conditions: texts within the lengths that each theorem names.
-/
import Derived.Test.YtdoombcihobejaaGreatSG
import Derived.Test.YtdoombcihobejaaGreatSQ
namespace Go.Proofs.YtdoombcihobejaaGreat
open Go.RowKit Vi Sp
set_option linter.unusedVariables false
set_option maxHeartbeats 2000000 in
set_option maxRecDepth 100000 in
theorem rsget_any (s : ByteArray) (w : World) (hm : s.size ≤ 281474976710656) :
    Calls Tryz.prog 71 #[.string s] w fun e w' => e = .returned (.tuple #[.int .u64 (getG s), .string (getB s), .bool (gO s)]) ∧ Below w.heap.size w w' := by
  by_cases h64 : s.size = 64
  · have hx4 : Hid (s.extract 4 64 = t4 s) := by
      show _ = _
      unfold t4 bytT
      rw [if_pos (show hasB s 4 = true from decide_eq_true (by omega)), h64]; rfl
    have z1 : (t4 s).size ≤ 281474976710656 := Nat.le_trans (bytT_le _ _) hm
    have z2 : (fixT (t4 s) 8).size ≤ 281474976710656 := Nat.le_trans (fixT_le _ _) z1
    have z3 : (gR s).size ≤ 281474976710656 := Nat.le_trans (fixT_le _ _) z2
    have z4 : (gB2 s).size ≤ 281474976710656 := Nat.le_trans (bytV_le _ _) z3
    have hn := gN_lt s
    have hG := gG_lt s
    have hN := Lib.hid (fun W => rnew_any (t4 s) W)
    have y1 : Sane (t4 s) false := fun h => by cases h
    have K2 := Lib.hid (fun (W : World) (h : Rd 156 w.heap.size (t4 s) false W) => rfixedr_any w.heap.size (t4 s) false 8 W h y1 z1)
    have y2 := Lib.hid (Vi.sane_fix _ _ 8 y1)
    have K3 := Lib.hid (fun (b : Bool) (hb : Sane (fixT (t4 s) 8) b) (W : World) (h : Rd 156 w.heap.size (fixT (t4 s) 8) b W) => rfixedr_any w.heap.size (fixT (t4 s) 8) b 1 W h hb z2)
    have y3 := Lib.hid (fun (b : Bool) (hb : Sane (fixT (t4 s) 8) b) => Vi.sane_fix _ _ 1 hb)
    have K4 := Lib.hid (fun (b : Bool) (hb : Sane (gR s) b) (W : World) (h : Rd 156 w.heap.size (gR s) b W) => rbytes_any w.heap.size (gR s) b (if 51 < gN s then 51 else gN s : Nat) W h hb z3)
    have K5 := Lib.hid (fun W => rsput_any (gG s) (gB2 s) W hG z4)
    have E2 : Hid (fixV (t4 s) 8 = gG s) := rfl
    have E3 : Hid (fixV (fixT (t4 s) 8) 1 = gN s) := rfl
    have E4 : Hid (bytV (gR s) (if 51 < gN s then 51 else gN s : Nat) = gB2 s) := by
      show _ = _; unfold gB2; split <;> rfl
    have E5 : Hid (fixT (fixT (t4 s) 8) 1 = gR s) := rfl
    obtain ⟨o, ho⟩ : ∃ o, cO (gG s) (gB2 s) = o := ⟨_, rfl⟩
    obtain ⟨te, hte⟩ : ∃ te, ((cS (gG s) (gB2 s)).toList == s.toList) = te := ⟨_, rfl⟩
    obtain ⟨e1, e2⟩ := gO2_eq s
    have hgo : Hid (gO s = (o && te)) := by show _ = _; rw [← e1]; unfold gO2; rw [ho, hte]
    have HG : Hid (getG s = if (o && te) = true then gG s else 0) := by show _ = _; unfold getG; rw [hgo.out]
    have HB : Hid (getB s = if (o && te) = true then gB2 s else ⟨#[]⟩) := by
      show _ = _
      unfold getB
      rw [hgo.out]
      split
      · rename_i hh; rw [e2 (by rw [hgo.out]; exact hh)]
      · rfl
    rw [ho] at K5
    rw [E2.out] at K2
    rw [E3.out, E5.out] at K3
    rw [E4.out] at K4
    rw [E5.out] at y3
    obtain ⟨x, hx⟩ : ∃ x, x = cS (gG s) (gB2 s) := ⟨_, rfl⟩
    rw [← hx] at K5 hte
    obtain ⟨G, hGe⟩ : ∃ G, G = gG s := ⟨_, rfl⟩
    obtain ⟨N, hNe⟩ : ∃ N, N = gN s := ⟨_, rfl⟩
    obtain ⟨B, hBe⟩ : ∃ B, B = gB2 s := ⟨_, rfl⟩
    obtain ⟨T, hT⟩ : ∃ T, T = t4 s := ⟨_, rfl⟩
    obtain ⟨m, hmm⟩ : ∃ m : Nat, m = (if 51 < gN s then 51 else gN s) := ⟨_, rfl⟩
    rw [← hmm] at K4
    have hmn : min (N : Int) 51 = (m : Int) := by rw [hmm, hNe]; split <;> omega
    have hw : IntKind.i64.wrap (N : Int) = (N : Int) := IntWalk.i64_in _ (by omega)
    rw [← hGe] at K2 K5 HG
    rw [← hNe] at K3
    rw [← hBe] at K4 K5 HB
    rw [← hT] at hx4 hN K2 K3 y2 y3
    obtain ⟨p, hp⟩ : ∃ p, p = w.heap.size := ⟨_, rfl⟩
    rw [← hp] at K2 K3 K4
    have R0 : Rd 156 p T false (w.alloc (.cells #[.string T, .bool false] 156)) := by rw [hp]; exact Rd.new w _ _ _
    have B0 : Below p w (w.alloc (.cells #[.string T, .bool false] 156)) := by rw [hp]; exact (Below.refl _ _).alloc (Nat.le_refl _) _
    have HR0 := Lib.hid R0
    have HB0 := Lib.hid B0
    have HP := Lib.hid hp
    have hs4 : ¬ (s.size : Int) < 4 := by omega
    have hs64 : (s.size : Int) = 64 := by omega
    have hsb : ((s.size : Int) != 64) = false := by rw [hs64]; rfl
    have H64 := Lib.hid h64
    rw [← HP.out]
    clear z1 z2 z3 z4 hn hG E2 E3 E4 E5 hx hGe hNe hBe ho hT hmm R0 B0 hp y1 e1 e2
    unfold rdp at *
    go_enter Tryz.func71, Tryz.ntmps71
    go_wp2_with fail
    rw [hx4.out]
    refine (hN.out _).mono ?_
    rintro e w1 ⟨rfl, rfl⟩
    rw [← HP.out]
    have R0 := HR0.out
    have B0 := HB0.out
    have L0 : p ≤ (w.alloc (.cells #[.string T, .bool false] 156)).heap.size := by rw [HP.out]; simp
    clear HR0 HB0 hN hs64 hsb hs4 h64 hx4
    generalize w.alloc (.cells #[.string T, .bool false] 156) = w1 at *
    go_wp2_with fail
    refine (K2.out _ R0).mono ?_
    rintro e w3 ⟨rfl, R2, g2⟩
    have B2 := below_grownBy B0 g2 L0 (Nat.le_refl _)
    have L2 := Nat.le_trans L0 g2.size
    have y2 := y2.out
    generalize (false || !hasF T 8) = b2 at *
    go_wp2_with fail
    refine (K3.out _ y2 _ R2).mono ?_
    rintro e w4 ⟨rfl, R3, g3⟩
    have B3 := below_grownBy B2 g3 L2 (Nat.le_refl _)
    have L3 := Nat.le_trans L2 g3.size
    have y3 := y3.out b2 y2
    generalize (b2 || !hasF (fixT T 8) 1) = b3 at *
    clear y2
    have Y3 := Lib.hid y3
    clear y3
    go_wp2_with fail
    refine (K4.out _ Y3.out _ R3).mono ?_
    rintro e w5 ⟨rfl, R4, g4⟩
    have B4 := below_grownBy B3 g4 L3 (Nat.le_refl _)
    have L4 := Nat.le_trans L3 g4.size
    clear R0 R2 R3 R4 g2 g3 g4 B0 B2 B3 L0 L2 L3 K2 K3 K4 Y3
    have HTE := Lib.hid hte
    clear hte
    go_wp2_with fail
    refine (K5.out _).mono ?_
    rintro e w6 ⟨rfl, b5⟩
    have B5 := Lib.hid (B4.trans (b5.mono L4))
    have hte := HTE.out
    clear B4 b5 K5 HTE
    cases o with
    | false =>
      clear hte
      go_wp2
      go_ret3
      exact ⟨by rw [HG.out, HB.out, hgo.out]; rfl, HP.out ▸ B5.out⟩
    | true =>
      cases te with
      | false =>
        have hne : (x.toList == s.toList) = false := hte
        clear hte
        go_wp2
        go_ret3
        exact ⟨by rw [HG.out, HB.out, hgo.out]; rfl, HP.out ▸ B5.out⟩
      | true =>
        have hne : (x.toList == s.toList) = true := hte
        clear hte
        go_wp2
        go_ret3
        exact ⟨by rw [HG.out, HB.out, hgo.out]; rfl, HP.out ▸ B5.out⟩
  · have hno : Hid (gO s = false) := gO_short h64
    have HG : Hid (getG s = 0) := getG_zero.2 hno.out
    have HB : Hid (getB s = ⟨#[]⟩) := getB_zero HG.out
    have hsb : ((s.size : Int) != 64) = true := by simpa using fun h => h64 (by omega)
    go_enter Tryz.func71, Tryz.ntmps71
    go_wp2
    go_ret3
    exact ⟨by rw [HG.out, HB.out, hno.out]; rfl, Below.refl _ _⟩
end Go.Proofs.YtdoombcihobejaaGreat
