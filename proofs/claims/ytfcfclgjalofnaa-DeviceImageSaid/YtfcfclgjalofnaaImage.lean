/-
  The walk of the law DeviceImage.
  Conditions: none but the strings' bounds.
-/
import Derived.Test.YtfcfclgjalofnaaOf
import Derived.Test.YtfcfclgjalofnaaTwice
import Derived.Test.YtfcfclgjalofnaaKeeps
import Derived.Test.YtfcfclgjalofnaaBounds
namespace Go.Proofs.Ytfcfclgjalofnaa
open Go.RowKit Dk
set_option linter.unusedVariables false
theorem image2 {d : St} (h : d.n = 2) : txt d.image = txt (d.now 0) ++ txt (d.now 1) := by
  rw [txt_append]
  congr 1
  unfold St.image
  rw [h]
  show ([] ++ d.now 0) ++ d.now 1 = _
  rw [List.nil_append]
set_option maxHeartbeats 4000000 in
set_option maxRecDepth 100000 in
theorem limage_any (s t u : ByteArray) (w : World) (hs : s.size ≤ 140737488351232) (ht : t.size ≤ 140737488351232) (hu : u.size ≤ 140737488351232) :
    Calls Try.prog 7 #[.string s, .string t, .string u] w fun e w' => e = .returned (.bool true) ∧ Below w.heap.size w w' := by
  obtain ⟨a, ha, he1⟩ := cut_of s
  obtain ⟨b, hb, he2⟩ := cut_of t
  obtain ⟨c, hc, he3⟩ := cut_of u
  have HE1 := Lib.hid he1
  have HE2 := Lib.hid he2
  have HE3 := Lib.hid he3
  clear he1 he2 he3
  go_enter Try.func7, Try.ntmps7
  go_wp2_with fail
  refine (examples_any w).mono ?_
  rintro e w0 ⟨rfl, hb0⟩
  go_wp2_with fail
  refine (new_yes 2 w0 (by omega) (by omega)).mono ?_
  rintro e w1 ⟨g, L, rfl, hD1, hL1, hb1⟩
  have hb01 := hb0.trans (hb1.mono hb0.size)
  have hLB : ∀ k ∈ L, w.heap.size ≤ k := fun k hk => Nat.le_trans hb0.size (hL1 k hk)
  rw [HE1.out, HE2.out, HE3.out]
  clear HE1 HE2 HE3
  have HW1 := Lib.hid (write_any g L _ 0 a w1 hD1)
  rw [show ((0 : Int) = ((0 : Nat) : Int)) from rfl, write_ok_eq (by decide) rfl (by decide) ha] at HW1
  unfold ptr at *
  go_wp2_with fail
  refine HW1.out.mono ?_
  rintro e w2 ⟨rfl, hMv⟩
  obtain ⟨L2, hD2, hL2, hb2, hs2, _, _⟩ := hMv.below hb01 hb01.size hLB
  clear hMv HW1
  have HW2 := Lib.hid (write_any g L2 _ 1 b w2 hD2)
  rw [show ((1 : Int) = ((1 : Nat) : Int)) from rfl, write_ok_eq (by show (-1 : Int) < 0; decide) rfl (by show 1 < 2; decide) hb] at HW2
  obtain ⟨d1, hd1⟩ : ∃ d1, d1 = (((St.fresh 2 fun x => zsec).put 0 (pad a)).put 1 (pad b)) := ⟨_, rfl⟩
  rw [← hd1] at HW2
  unfold ptr at *
  go_wp2_with fail
  refine HW2.out.mono ?_
  rintro e w3 ⟨rfl, hMv⟩
  obtain ⟨L3, hD3, hL3, hb3, hs3, _, _⟩ := hMv.below hb2 hs2 hL2
  clear hMv HW2 hD1 hD2
  have f1 : d1.n = 2 := by rw [hd1]; rfl
  have f2 : d1.dead = false := by rw [hd1]; rfl
  have f3 : d1.now 0 = pad a := by rw [hd1, put_now_other _ _ _ _ (by omega)]; exact put_now_same _ _ _
  have f4 : d1.now 1 = pad b := by rw [hd1]; exact put_now_same _ _ _
  have F1 := Lib.hid f1
  have F2 := Lib.hid f2
  have F3 := Lib.hid f3
  have F4 := Lib.hid f4
  clear f1 f2 f3 f4 hd1
  -- the image, and a device of it
  have HIM := Lib.hid (fun w1 (h1 : Dv w1 g L3 d1) => image_any g L3 d1 w1 h1)
  obtain ⟨l, hl⟩ : ∃ l, l = d1.image := ⟨_, rfl⟩
  rw [← hl] at HIM
  have hlen : l.length = 2 * 64 := by rw [hl, image_length hD3.1, F1.out]
  have hlt : Hid (txt l = txt (pad a) ++ txt (pad b)) := by show _ = _; rw [hl, image2 F1.out, F3.out, F4.out]
  have hl2 : l = pad a ++ pad b := by
    have h1 := hlt.out
    rw [txt_append] at h1
    have h2 := congrArg (fun t : ByteArray => t.data.toList) h1
    simpa [txt_list] using h2
  have hsg : segS l 1 = pad b := by
    unfold segS
    rw [hl2, List.drop_left' (by rw [pad_length a ha]), List.take_of_length_le (by rw [pad_length b hb]; exact Nat.le_refl _)]
  have HSG := Lib.hid hsg
  have HLEN := Lib.hid hlen
  clear hl hlen hl2 hsg
  unfold ptr at *
  go_wp2_with fail
  refine (HIM.out _ hD3).mono ?_
  rintro e w4 ⟨rfl, hb4⟩
  have hD4 := hD3.below hb4
  have hbb4 := hb3.trans (hb4.mono hs3)
  go_wp2_with fail
  refine (of_yes l 2 w4 HLEN.out (by omega) (by omega)).mono ?_
  rintro e w5 ⟨gx, Lx, rfl, hDx, hLx, hb5⟩
  have hD5 := hD4.below hb5
  have hbb5 := hbb4.trans (hb5.mono hbb4.size)
  have hLxB : ∀ k ∈ Lx, w.heap.size ≤ k := fun k hk => Nat.le_trans hbb4.size (hLx k hk)
  have hap : ∀ k ∈ L3, k ∉ Lx := fun k hk hm => by
    have h1 := hD4.lt k hk
    have h2 := hLx k hm
    omega
  have HAP := Lib.hid hap
  have HW3 := Lib.hid (write_any gx Lx _ 0 c w5 hDx)
  rw [show ((0 : Int) = ((0 : Nat) : Int)) from rfl, write_ok_eq (by show (-1 : Int) < 0; decide) rfl (by show 0 < 2; decide) hc] at HW3
  obtain ⟨d2, hd2⟩ : ∃ d2, d2 = (St.fresh 2 (segF l 2)).put 0 (pad c) := ⟨_, rfl⟩
  rw [← hd2] at HW3
  clear hap
  unfold ptr at *
  go_wp2_with fail
  refine HW3.out.mono ?_
  rintro e w6 ⟨rfl, hMv⟩
  obtain ⟨L6, hD6, hL6, hb6, hs6, hK6, _⟩ := hMv.below hbb5 hbb5.size hLxB
  have hDd6 := hD5.keep hK6 HAP.out
  clear hMv HW3 hDx hD3 hD4 hD5
  have g1 : d2.n = 2 := by rw [hd2]; rfl
  have g2 : d2.dead = false := by rw [hd2]; rfl
  have g3 : d2.now 0 = pad c := by rw [hd2]; exact put_now_same _ _ _
  have g4 : d2.now 1 = pad b := by
    rw [hd2, put_now_other _ _ _ _ (by omega)]
    show segF l 2 1 = _
    unfold segF
    rw [if_pos (by omega), HSG.out]
  have G1 := Lib.hid g1
  have G2 := Lib.hid g2
  have G3 := Lib.hid g3
  have G4 := Lib.hid g4
  clear g1 g2 g3 g4 hd2
  have HR1 := Lib.hid (read_any g L3 d1 0 w6 hDd6)
  rw [show ((0 : Int) = ((0 : Nat) : Int)) from rfl, readS_eq F2.out (by rw [F1.out]; omega), refuses_yes_eq F2.out (by omega) (by rw [F1.out]; decide), F3.out] at HR1
  have HR2 := Lib.hid (fun w1 (h1 : Dv w1 gx L6 d2) => read_any gx L6 d2 0 w1 h1)
  rw [show ((0 : Int) = ((0 : Nat) : Int)) from rfl, readS_eq G2.out (by rw [G1.out]; omega), refuses_yes_eq G2.out (by omega) (by rw [G1.out]; decide), G3.out] at HR2
  have HIX := Lib.hid (fun w1 (h1 : Dv w1 gx L6 d2) => image_any gx L6 d2 w1 h1)
  rw [image2 G1.out, G3.out, G4.out] at HIX
  rw [hlt.out] at HIM
  unfold ptr at *
  go_wp2_with fail
  refine HR1.out.mono ?_
  rintro e w7 ⟨rfl, hb7⟩
  go_wp2_with fail
  refine (HR2.out w7 (hD6.below hb7)).mono ?_
  rintro e w8 ⟨rfl, hb8⟩
  have hbb8 := (hb6.trans (hb7.mono hs6)).trans (hb8.mono (Nat.le_trans hs6 hb7.size))
  have hD8 := (hDd6.below hb7).below hb8
  have hX8 := (hD6.below hb7).below hb8
  clear HR1 HR2
  have hpa : (txt (pad a)).size = 64 := by rw [txt_size, pad_length a ha]
  have hpb : (txt (pad b)).size = 64 := by rw [txt_size, pad_length b hb]
  have hpc : (txt (pad c)).size = 64 := by rw [txt_size, pad_length c hc]
  go_wp2_with fail
  refine (HIM.out w8 hD8).mono ?_
  rintro e w9 ⟨rfl, hb9⟩
  go_wp2_with fail
  refine (lwhole_any a _ ha).mono ?_
  rintro e w10 ⟨rfl, hb10⟩
  go_wp2_with fail
  refine (lwhole_any b _ hb).mono ?_
  rintro e w11 ⟨rfl, hb11⟩
  have hb811 : Below w8.heap.size w8 w11 := (hb9.trans (hb10.mono hb9.size)).trans (hb11.mono (Nat.le_trans hb9.size hb10.size))
  go_wp2_with fail
  refine (lwhole_any a _ ha).mono ?_
  rintro e w12 ⟨rfl, hb12⟩
  go_wp2_with fail
  refine (lwhole_any c _ hc).mono ?_
  rintro e w13 ⟨rfl, hb13⟩
  have hb813 : Below w8.heap.size w8 w13 := (hb811.trans (hb12.mono hb811.size)).trans (hb13.mono (Nat.le_trans hb811.size hb12.size))
  go_wp2_with fail
  refine (HIX.out w13 (hX8.below hb813)).mono ?_
  rintro e w14 ⟨rfl, hb14⟩
  go_wp2_with fail
  refine (lwhole_any c _ hc).mono ?_
  rintro e w15 ⟨rfl, hb15⟩
  go_wp2_with fail
  refine (lwhole_any b _ hb).mono ?_
  rintro e w16 ⟨rfl, hb16⟩
  have hb816 : Below w8.heap.size w8 w16 := ((hb813.trans (hb14.mono hb813.size)).trans (hb15.mono (Nat.le_trans hb813.size hb14.size))).trans (hb16.mono (Nat.le_trans hb813.size (Nat.le_trans hb14.size hb15.size)))
  go_wp2
  go_ret
  exact ⟨rfl, hbb8.trans (hb816.mono hbb8.size)⟩
end Go.Proofs.Ytfcfclgjalofnaa
