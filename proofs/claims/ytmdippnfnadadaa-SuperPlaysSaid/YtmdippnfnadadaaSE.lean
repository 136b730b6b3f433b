/-
  The examples that each law asks first come out so.
  Conditions: none.
-/
import Derived.Test.YtmdippnfnadadaaSL
import Derived.Test.YtmdippnfnadadaaNew
namespace Go.Proofs.Ytmdippnfnadadaa
open Go.RowKit Vi Sp Dk
set_option linter.unusedVariables false
set_option maxHeartbeats 4000000 in
set_option maxRecDepth 100000 in
theorem examples_any (w : World) : Calls Try.prog 9 #[] w fun e w' => e = .returned (.bool true) ∧ Below w.heap.size w w' := by
  obtain ⟨ab, hab⟩ : ∃ x : ByteArray, x = ⟨#[97, 98]⟩ := ⟨_, rfl⟩
  obtain ⟨xx, hxx⟩ : ∃ x : ByteArray, x = ⟨#[120]⟩ := ⟨_, rfl⟩
  have o1 : cO 1 ab = true := by rw [hab]; decide +kernel
  have o0 : cO 0 ⟨#[]⟩ = false := by decide +kernel
  have hxs : xx.size ≤ 51 := by rw [hxx]; decide
  have P1 := Lib.hid (fun W => sput_any 1 ab W (by omega) (by rw [hab]; decide))
  have P0 := Lib.hid (fun W => sput_any 0 ⟨#[]⟩ W (by omega) (by decide))
  rw [o1] at P1
  rw [o0] at P0
  have hsz : (cS 1 ab).size = 64 := by rw [cS_yes o1, cell_size 1 ab ((cO_iff _ _).1 o1).2]
  have hg := get_cell 1 ab (by omega) o1
  have hgo := gO_cell 1 ab (by omega) o1
  rw [← cS_yes o1] at hg hgo
  have G1 := Lib.hid (fun W => sget_any (cS 1 ab) W (by rw [hsz]; omega))
  rw [hg.1, hg.2, hgo] at G1
  obtain ⟨c, hc⟩ : ∃ c, c = cS 1 ab := ⟨_, rfl⟩
  rw [← hc] at P1 G1 hsz
  have hsz' : (c.size : Int) = 64 := by omega
  obtain ⟨d, hd⟩ : ∃ d, d = St.fresh 2 fun _ => zsec := ⟨_, rfl⟩
  obtain ⟨f1, f2, f3, f4⟩ := rd_fresh 2 0 (by omega)
  rw [← hd] at f1 f2 f3 f4
  have hw : Well d := by rw [hd]; exact well_fresh _ _
  have hn : 0 + 1 < d.n := by rw [hd]; show 0 + 1 < 2; omega
  have hgf : rdG d ((0 : Nat) : Int) ≠ 18446744073709551615 := by rw [f2]; omega
  have hwr := wr_ok hw hn hxs hgf
  obtain ⟨r1, r2, r3, r4⟩ := rd_after hw hn hxs hgf
  have e1 : rdV d 0 = .returned (.tuple #[.string ⟨#[]⟩, .int .u64 (0 : Nat), .int .i64 (0 : Nat), .int .i64 6]) := by
    unfold rdV; rw [show ((0 : Int)) = ((0 : Nat) : Int) from rfl, f1, f2, f3, f4]
  obtain ⟨d1, hd1⟩ : ∃ d1, d1 = wrD d (0 : Nat) xx := ⟨_, rfl⟩
  rw [← hd1] at hwr r1 r2 r3 r4
  have ho : wrO d ((0 : Nat) : Int) = 0 := by unfold wrO; rw [f1, if_pos rfl]
  have e2 : rdV d1 0 = .returned (.tuple #[.string xx, .int .u64 (1 : Nat), .int .i64 (0 : Nat), .int .i64 0]) := by
    rw [ho] at r4
    have r5 : rdK d1 ((0 : Nat) : Int) = 0 := by omega
    unfold rdV; rw [show ((0 : Int)) = ((0 : Nat) : Int) from rfl, r1, r2, r3, r5, f2]; rfl
  have HN := Lib.hid (fun W => new_yes 2 W (by omega) (by omega))
  rw [← hd] at HN
  have HR := Lib.hid (fun (g : Nat) (L : List Nat) (W : World) (h : Dv W g L d) => sread_any g L d 0 W h (by omega) (by omega))
  rw [e1] at HR
  have HR2 := Lib.hid (fun (g : Nat) (L : List Nat) (W : World) (h : Dv W g L d1) => sread_any g L d1 0 W h (by omega) (by omega))
  rw [e2] at HR2
  have HW := Lib.hid (fun (g : Nat) (L : List Nat) (W : World) (h : Dv W g L d) => swrite_any g L d 0 xx W h (by omega) (by omega))
  rw [show ((0 : Int)) = ((0 : Nat) : Int) from rfl, hwr] at HW
  have HAB := Lib.hid hab
  have HXX := Lib.hid hxx
  have q1 : ab.toList = [97, 98] := by rw [hab]; decide +kernel
  have q2 : xx.toList = [120] := by rw [hxx]; decide +kernel
  clear o1 o0 hxs hg hgo hc hd f1 f2 f3 f4 hw hn hgf hwr r1 r2 r3 r4 e1 e2 hd1 ho hab hxx hsz
  unfold ptr at *
  go_enter Try.func9, Try.ntmps9
  go_wp2_with fail
  rw [← HAB.out]
  refine (P1.out _).mono ?_
  rintro e w1 ⟨rfl, b1⟩
  go_wp2_with fail
  refine (G1.out _).mono ?_
  rintro e w2 ⟨rfl, b2⟩
  go_wp2_with fail
  refine (P0.out _).mono ?_
  rintro e w3 ⟨rfl, b3⟩
  go_wp2_with fail
  refine (HN.out _).mono ?_
  rintro e w4 ⟨g, L, rfl, D4, L4, b4⟩
  have b02 := b1.trans (b2.mono b1.size)
  have b03 := b02.trans (b3.mono b02.size)
  have b04 := b03.trans (b4.mono b03.size)
  have LL : ∀ k ∈ L, w.heap.size ≤ k := fun k hk => Nat.le_trans b03.size (L4 k hk)
  clear P1 G1 P0 HN b1 b2 b3 b4 b02 b03 L4
  unfold ptr at *
  go_wp2_with fail
  refine (HR.out g L w4 D4).mono ?_
  rintro e w5 ⟨rfl, b5⟩
  have D5 := D4.below b5
  have b05 := b04.trans (b5.mono b04.size)
  clear HR D4 b04 b5
  go_wp2_with fail
  rw [← HXX.out]
  refine (HW.out g L w5 D5).mono ?_
  rintro e w6 ⟨rfl, M6⟩
  obtain ⟨L6, D6, LL6, b06, s6, _, _⟩ := M6.below b05 b05.size LL
  clear HW D5 b05 M6
  go_wp2_with fail
  refine (HR2.out g L6 w6 D6).mono ?_
  rintro e w7 ⟨rfl, b7⟩
  have B := Lib.hid (b06.trans (b7.mono s6))
  clear HR2 D6 b06 s6 b7 LL LL6
  go_wp2
  go_ret
  exact ⟨rfl, B.out⟩
end Go.Proofs.Ytmdippnfnadadaa
