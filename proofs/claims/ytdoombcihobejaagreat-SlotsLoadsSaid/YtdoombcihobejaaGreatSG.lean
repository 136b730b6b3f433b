/-
  The contracts of super.Get and of the document's own: what a sector holds.
  Conditions: texts within the lengths that each theorem names.
-/
import Derived.Test.YtdoombcihobejaaGreatSP
import Derived.Test.YtdoombcihobejaaGreatVGet
namespace Go.Proofs.YtdoombcihobejaaGreat
open Go.RowKit Vi Sp
set_option linter.unusedVariables false
theorem bytV_le (s : ByteArray) (n : Int) : (bytV s n).size ≤ s.size := by
  unfold bytV
  split
  · rw [ByteArray.size_extract]; omega
  · exact Nat.zero_le _
theorem bytT_le (s : ByteArray) (n : Int) : (bytT s n).size ≤ s.size := bytT_size s n
theorem fixT_le (s : ByteArray) (k : Int) : (fixT s k).size ≤ s.size := fixT_size s k
set_option maxHeartbeats 2000000 in
set_option maxRecDepth 100000 in
theorem sget_any (s : ByteArray) (w : World) (hm : s.size ≤ 281474976710656) :
    Calls Tryz.prog 90 #[.string s] w fun e w' => e = .returned (.tuple #[.int .u64 (getG s), .string (getB s), .bool (gO s)]) ∧ Below w.heap.size w w' := by
  have z1 : (t4 s).size ≤ 281474976710656 := Nat.le_trans (bytT_le _ _) hm
  have z2 : (fixT (t4 s) 8).size ≤ 281474976710656 := Nat.le_trans (fixT_le _ _) z1
  have z3 : (gR s).size ≤ 281474976710656 := Nat.le_trans (fixT_le _ _) z2
  have z4 : (gB s).size ≤ 281474976710656 := Nat.le_trans (bytV_le _ _) z3
  have hn := gN_lt s
  have hG := gG_lt s
  have hN := Lib.hid (fun W => new_any s W)
  have K1 := Lib.hid (fun (W : World) (h : Rd 142 w.heap.size s false W) => bytes_any w.heap.size s false 4 W h hm)
  have K2 := Lib.hid (fun (b : Bool) (W : World) (h : Rd 142 w.heap.size (t4 s) b W) => fixedr_any w.heap.size (t4 s) b 8 W h z1)
  have K3 := Lib.hid (fun (b : Bool) (W : World) (h : Rd 142 w.heap.size (fixT (t4 s) 8) b W) => fixedr_any w.heap.size (fixT (t4 s) 8) b 1 W h z2)
  have K4 := Lib.hid (fun (b : Bool) (W : World) (h : Rd 142 w.heap.size (gR s) b W) => bytes_any w.heap.size (gR s) b (gN s) W h z3)
  have K5 := Lib.hid (fun W => sput_any (gG s) (gB s) W hG z4)
  have E1 : Hid (bytT s 4 = t4 s) := rfl
  have E2 : Hid (fixV (t4 s) 8 = gG s) := rfl
  have E3 : Hid (fixV (fixT (t4 s) 8) 1 = gN s) := rfl
  have E4 : Hid (bytV (gR s) (gN s) = gB s) := rfl
  have E5 : Hid (fixT (fixT (t4 s) 8) 1 = gR s) := rfl
  obtain ⟨o, ho⟩ : ∃ o, cO (gG s) (gB s) = o := ⟨_, rfl⟩
  obtain ⟨te, hte⟩ : ∃ te, ((cS (gG s) (gB s)).toList == s.toList) = te := ⟨_, rfl⟩
  have hgo : Hid (gO s = (o && te)) := by show _ = _; unfold gO; rw [ho, hte]
  have HG : Hid (getG s = if (o && te) = true then gG s else 0) := by show _ = _; unfold getG; rw [hgo.out]
  have HB : Hid (getB s = if (o && te) = true then gB s else ⟨#[]⟩) := by show _ = _; unfold getB; rw [hgo.out]
  rw [ho] at K5
  rw [E1.out] at K1
  rw [E2.out] at K2
  rw [E3.out, E5.out] at K3
  rw [E4.out] at K4
  obtain ⟨x, hx⟩ : ∃ x, x = cS (gG s) (gB s) := ⟨_, rfl⟩
  rw [← hx] at K5 hte
  obtain ⟨G, hGe⟩ : ∃ G, G = gG s := ⟨_, rfl⟩
  obtain ⟨N, hNe⟩ : ∃ N, N = gN s := ⟨_, rfl⟩
  obtain ⟨B, hBe⟩ : ∃ B, B = gB s := ⟨_, rfl⟩
  have hw : IntKind.i64.wrap (N : Int) = (N : Int) := IntWalk.i64_in _ (by omega)
  rw [← hGe] at K2 K5 HG
  rw [← hNe] at K3 K4
  rw [← hBe] at K4 K5 HB
  obtain ⟨p, hp⟩ : ∃ p, p = w.heap.size := ⟨_, rfl⟩
  rw [← hp] at K1 K2 K3 K4
  have R0 : Rd 142 p s false (w.alloc (.cells #[.string s, .bool false] 142)) := by rw [hp]; exact Rd.new w _ _ _
  have B0 : Below p w (w.alloc (.cells #[.string s, .bool false] 142)) := by rw [hp]; exact (Below.refl _ _).alloc (Nat.le_refl _) _
  have HR0 := Lib.hid R0
  have HB0 := Lib.hid B0
  have HP := Lib.hid hp
  clear z1 z2 z3 z4 hn hG E1 E2 E3 E4 E5 hx hGe hNe hBe ho R0 B0 hp
  unfold rdp at *
  rw [← HP.out]
  go_enter Tryz.func90, Tryz.ntmps90
  go_wp2_with fail
  refine (hN.out _).mono ?_
  rintro e w1 ⟨rfl, rfl⟩
  rw [← HP.out]
  have R0 := HR0.out
  have B0 := HB0.out
  have L0 : p ≤ (w.alloc (.cells #[.string s, .bool false] 142)).heap.size := by rw [HP.out]; simp
  clear HR0 HB0 hN
  generalize w.alloc (.cells #[.string s, .bool false] 142) = w1 at *
  go_wp2_with fail
  refine (K1.out _ R0).mono ?_
  rintro e w2 ⟨rfl, R1, g1⟩
  have B1 := below_grownBy B0 g1 L0 (Nat.le_refl _)
  have L1 := Nat.le_trans L0 g1.size
  generalize (false || !hasB s 4) = b1 at *
  go_wp2_with fail
  refine (K2.out _ _ R1).mono ?_
  rintro e w3 ⟨rfl, R2, g2⟩
  have B2 := below_grownBy B1 g2 L1 (Nat.le_refl _)
  have L2 := Nat.le_trans L1 g2.size
  generalize (b1 || !hasF (t4 s) 8) = b2 at *
  go_wp2_with fail
  refine (K3.out _ _ R2).mono ?_
  rintro e w4 ⟨rfl, R3, g3⟩
  have B3 := below_grownBy B2 g3 L2 (Nat.le_refl _)
  have L3 := Nat.le_trans L2 g3.size
  generalize (b2 || !hasF (fixT (t4 s) 8) 1) = b3 at *
  go_wp2_with fail
  refine (K4.out _ _ R3).mono ?_
  rintro e w5 ⟨rfl, R4, g4⟩
  have B4 := below_grownBy B3 g4 L3 (Nat.le_refl _)
  have L4 := Nat.le_trans L3 g4.size
  clear R0 R1 R2 R3 R4 g1 g2 g3 g4 B0 B1 B2 B3 L0 L1 L2 L3 K1 K2 K3 K4
  have HTE := Lib.hid hte
  clear hte
  go_wp2_with fail
  refine (K5.out _).mono ?_
  rintro e w6 ⟨rfl, b5⟩
  have B5 := Lib.hid (B4.trans (b5.mono L4))
  have hte := HTE.out
  clear B4 b5 K5 HTE
  cases o with
  | false =>
    clear hte
    go_wp2
    go_ret3
    exact ⟨by rw [HG.out, HB.out, hgo.out]; rfl, B5.out⟩
  | true =>
    cases te with
    | false =>
      have hne : (x.toList == s.toList) = false := hte
      clear hte
      go_wp2
      go_ret3
      exact ⟨by rw [HG.out, HB.out, hgo.out]; rfl, B5.out⟩
    | true =>
      have hne : (x.toList == s.toList) = true := hte
      clear hte
      go_wp2
      go_ret3
      exact ⟨by rw [HG.out, HB.out, hgo.out]; rfl, B5.out⟩
end Go.Proofs.YtdoombcihobejaaGreat
