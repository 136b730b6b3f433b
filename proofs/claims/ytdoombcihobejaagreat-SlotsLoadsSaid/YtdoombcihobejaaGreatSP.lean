/-
  The contracts of super.Put and of the document's own: a sector that holds a body.
  Conditions: texts within the lengths that each theorem names.
-/
import Derived.Test.YtdoombcihobejaaGreatSM
import Derived.Test.YtdoombcihobejaaGreatCP
import Derived.Test.YtdoombcihobejaaGreatShelfR
import Derived.Test.YtdoombcihobejaaGreatRd
import Derived.Deep.RegionHeld3
namespace Go.Proofs.YtdoombcihobejaaGreat
open Go.RowKit Vi Sp
set_option linter.unusedVariables false
theorem zB_rep (n : Nat) : (⟨(Lib.repeatL (⟨#[0]⟩ : ByteArray).data.toList n).toArray⟩ : ByteArray) = zB n := by
  have h : ∀ n, Lib.repeatL ([0] : List UInt8) n = List.replicate n 0 := by
    intro n
    induction n with
    | zero => rfl
    | succ n ih => rw [List.replicate_succ]; show [0] ++ Lib.repeatL [0] n = _; rw [ih]; rfl
  show (⟨(Lib.repeatL [0] n).toArray⟩ : ByteArray) = zB n
  rw [h]; rfl
set_option maxHeartbeats 1000000 in
set_option maxRecDepth 100000 in
theorem sput_any (g : Nat) (b : ByteArray) (w : World) (hg : g < 18446744073709551616) (hb : b.size ≤ 281474976710656) :
    Calls Tryz.prog 33 #[.int .u64 g, .string b] w fun e w' => e = .returned (.tuple #[.string (cS g b), .bool (cO g b)]) ∧ Below w.heap.size w w' := by
  by_cases h0 : g = 0
  · subst h0
    have ho : Hid (cO 0 b = false) := by show _ = _; unfold cO; simp
    have hs : Hid (cS 0 b = ⟨#[]⟩) := cS_no ho.out
    go_enter Tryz.func33, Tryz.ntmps33
    go_wp2
    go_ret2
    exact ⟨by rw [ho.out, hs.out]; rfl, Below.refl _ _⟩
  · have hz : decide (g = 0) = false := decide_eq_false h0
    have hz' : ((g : Int) == 0) = false := by simpa using h0
    by_cases h51 : 51 < b.size
    · have ho : Hid (cO g b = false) := by
        show _ = _
        cases e : cO g b
        · rfl
        · have := (cO_iff g b).1 e; omega
      have hs : Hid (cS g b = ⟨#[]⟩) := cS_no ho.out
      have h51' : (51 : Int) < b.size := by omega
      go_enter Tryz.func33, Tryz.ntmps33
      go_wp2
      go_ret2
      exact ⟨by rw [ho.out, hs.out]; rfl, Below.refl _ _⟩
    · have ho : Hid (cO g b = true) := (cO_iff g b).2 ⟨h0, by omega⟩
      have hs : Hid (cS g b = cell g b) := cS_yes ho.out
      have h51' : ¬ (51 : Int) < b.size := by omega
      have hbb : (b.size : Int) ≤ 51 := by omega
      obtain ⟨m, hm⟩ : ∃ m, m = 51 - b.size := ⟨_, rfl⟩
      have hmi : IntKind.i64.wrap ((51 : Int) - b.size) = (m : Int) := (IntWalk.i64_in _ (by omega)).trans (by omega)
      have hmi' : (51 : Int) - b.size = (m : Int) := by omega
      have hwm : IntKind.i64.wrap (m : Int) = (m : Int) := IntWalk.i64_in _ (by omega)
      have hwb : IntKind.u64.wrap (b.size : Int) = (b.size : Int) := IntWalk.u64_in _ (by omega)
      have F8 := Lib.hid (fun W => fixed_any g 8 W)
      have F1 := Lib.hid (fun W => fixed_any b.size 1 W)
      have HR : Hid (∀ W : World, Calls Tryz.prog 65 #[.string ⟨#[0]⟩, .int .i64 m] W fun e w' => e = .returned (.string (zB m)) ∧ Below W.heap.size W w') := fun W => by
        have h := Tryz.strings_Repeat ⟨#[0]⟩ m W (by omega) (by show 1 * m ≤ _; omega)
        rw [zB_rep] at h
        exact h
      have s8 : (fxB g (8 : Int)).size = 8 := fxB_size g 8 (by omega)
      have s1 : (fxB b.size (1 : Int)).size = 1 := fxB_size b.size 1 (by omega)
      have szm : (zB m).size = m := zB_size m
      have HRe : Hid (rest g b = fxB g 8 ++ fxB b.size 1 ++ b ++ zB m) := by show _ = _; rw [hm]; rfl
      have HC := Lib.hid (fun W => cput_any (rest g b) W (by rw [rest_size g b (by omega)]; omega))
      rw [HRe.out] at HC
      have HF : Hid (Crc.putB (fxB g 8 ++ fxB b.size 1 ++ b ++ zB m) = cell g b) := by show _ = _; unfold cell; rw [HRe.out]
      clear hm h0
      generalize fxB g (8 : Int) = x8 at *
      generalize fxB b.size (1 : Int) = x1 at *
      generalize zB m = z at *
      have q1 : ¬ 9223372036854775807 < x8.size + x1.size := by omega
      have q2 : ¬ 9223372036854775807 < x8.size + x1.size + b.size := by omega
      have q3 : ¬ 9223372036854775807 < x8.size + x1.size + b.size + z.size := by omega
      go_enter Tryz.func33, Tryz.ntmps33
      go_wp2_with fail
      refine (F8.out _).mono ?_
      rintro e w1 ⟨rfl, hb1⟩
      go_wp2_with fail
      refine (F1.out _).mono ?_
      rintro e w2 ⟨rfl, hb2⟩
      go_wp2_with fail
      refine (HR.out _).mono ?_
      rintro e w3 ⟨rfl, hb3⟩
      go_wp2_with fail
      refine (HC.out _).mono ?_
      rintro e w4 ⟨rfl, hb4⟩
      go_wp2
      go_ret2
      have hb01 := hb1.trans (hb2.mono hb1.size)
      have hb03 := hb01.trans (hb3.mono hb01.size)
      exact ⟨by rw [HF.out, hs.out, ho.out]; rfl, hb03.trans (hb4.mono hb03.size)⟩
end Go.Proofs.YtdoombcihobejaaGreat
