/-
  Is an entry right: the document's own way.
  Conditions: the numbers are those of their kinds, the texts' lengths below 2^47.
-/
import Derived.Test.YtpdbeijfchmlgaaGreatSmall
import Derived.Test.YtpdbeijfchmlgaaGreatRFacts
import Derived.Test.YtpdbeijfchmlgaaGreatMade
import Derived.Deep.CutRange
namespace Go.Proofs.YtpdbeijfchmlgaaGreat
open Go.RowKit
set_option linter.unusedVariables false
theorem not_asked {e : En} (ok : e.Ok) (h : ¬ Asked e) : rightB e = false := by
  rw [Bool.eq_false_iff]
  exact fun h1 => h ((asked_iff e ok).1 h1)
theorem toList_nil (s : ByteArray) : s.toList = [] ↔ (s.size : Int) = 0 := by
  rw [ByteArray.toList_eq]
  show s.data.toList = [] ↔ (s.data.size : Int) = 0
  rw [← Array.length_toList, ← List.length_eq_zero_iff]
  omega
/-- The last question decides. -/
theorem asked_close {e : En} (ok : e.Ok) {b : Bool} (f : fb e.kind = true) (t : 1 ≤ e.term) (i : 1 ≤ e.index) (d : (e.data.size : Int) ≤ 64) (o : (e.old.size : Int) ≤ 64) (bl : e.block < 4294967296) (m : e.many < 4294967296)
    (F4 : (hasL (fl e.kind) 99 = true → 1 ≤ e.client) ∧ (hasL (fl e.kind) 99 = false → e.client = 0 ∧ e.seq = 0))
    (F6 : (hasL (fl e.kind) 98 = false → e.block = 0) ∧ (hasL (fl e.kind) 109 = false → e.many = 0) ∧ (hasL (fl e.kind) 100 = false → (e.data.size : Int) = 0) ∧ (hasL (fl e.kind) 111 = false → (e.old.size : Int) = 0))
    (F8 : (hasL (fl e.kind) 110 = true → 1 ≤ e.node ∧ e.node ≤ 7) ∧ (hasL (fl e.kind) 110 = false → e.node = 0))
    (hl : b = true ↔ ((hasL (fl e.kind) 108 = true → 1 ≤ e.level ∧ e.level ≤ 2) ∧ (hasL (fl e.kind) 108 = false → e.level = 0))) : b = rightB e := by
  rw [Bool.eq_iff_iff, asked_iff e ok, hl]
  constructor
  · rintro ⟨l1, l0⟩
    exact ⟨f, t, i, F4.1, fun h => (F4.2 h).1, fun h => (F4.2 h).2, by omega, F6.1, by omega, F6.2.1, F8.1, F8.2, l1, l0, d, F6.2.2.1, o, F6.2.2.2⟩
  · intro A
    exact ⟨A.l1, A.l0⟩
/-- What a part of the document's test tells: its answer, what holds where it says no; the memory. -/
structure Qx (B : Nat) (e : En) (w : World) (P : Prop) (b : Bool) (wx : World) : Prop where
  no : b = true → ¬ Asked e
  yes : b = false → P
  bx : Bx B e 24 wx
  be : Below B w wx
theorem drew_on {B : Nat} {w wx : World} (h : Below B w wx) : Below B w wx.drew := ⟨h.os, h.tape, h.output, h.size, h.block⟩
theorem drewN_on {B : Nat} {w wx : World} (n : Nat) (h : Below B w wx) : Below B w (wx.drewN n) := ⟨h.os, h.tape, h.output, h.size, h.block⟩
theorem bx_drewN {B : Nat} {e : En} {wx : World} (n : Nat) (h : Bx B e 24 wx) : Bx B e 24 (wx.drewN n) := ⟨h.bx⟩
theorem bx_drew {B : Nat} {e : En} {wx : World} (h : Bx B e 24 wx) : Bx B e 24 wx.drew := ⟨h.bx⟩
set_option maxRecDepth 100000 in
set_option maxHeartbeats 4000000 in
theorem rright_any (e : En) (w : World) (ok : e.Ok) :
    Calls Tryz.prog 65 #[ev e] w fun r w' => r = .returned (.bool (rightB e)) ∧ Below w.heap.size w w' := by
  have hs : (fl e.kind).size ≤ 140737488355328 := by have := fl_size e.kind; omega
  have hd1 := ok.d1
  have ho1 := ok.o1
  have HF : Hid (∀ W : World, Bx w.heap.size e 24 W → Below w.heap.size w W → Calls Tryz.prog 27 #[.int .i64 e.kind] W fun r w' => r = .returned (.tuple #[.string (fl e.kind), .bool (fb e.kind)]) ∧ Bx w.heap.size e 24 w' ∧ Below w.heap.size w w') :=
    fun W g1 g2 => (rfields_any e.kind W).mono fun r w' ⟨h1, h2⟩ => ⟨h1, g1.below h2, g2.trans (h2.mono g2.size)⟩
  have HH : Hid (∀ (c : Int) (W : World), Calls Tryz.prog 127 #[.string (fl e.kind), .int .u8 c] W fun r w' => r = .returned (.bool (hasL (fl e.kind) c)) ∧ w' = W) :=
    fun c W => (has_any _ c W hs).mono fun r w' ⟨h1, h2⟩ => ⟨h1, h2.symm⟩
  have hb0 : Below w.heap.size w (w.alloc (Obj.cells (ec e) 24)) := (Below.refl _ _).alloc (Nat.le_refl _) _
  have hbx : Bx w.heap.size e 24 (w.alloc (Obj.cells (ec e) 24)) := ⟨heap_alloc_new w _⟩
  have d2 := hbx.cell 2
  simp only [ec, List.getElem?_toArray, List.getElem?_cons_succ, List.getElem?_cons_zero] at d2
  have HB := Lib.hid hb0
  have HX := Lib.hid hbx
  have OK := Lib.hid ok
  have k1 := ok.c0
  have k2 := ok.s0
  have k3 := ok.b0
  have k4 := ok.m0
  clear hb0 hbx ok
  go_enter Tryz.func65, Tryz.ntmps65
  go_wp2_with (first
    | (go_at_call 27; (with_reducible refine (HF.out _ HX.out HB.out).mono ?_); rintro r w1 ⟨rfl, hx1, hb1⟩; have c0 := hx1.cell 0; have c1 := hx1.cell 1; have c3 := hx1.cell 3; have c4 := hx1.cell 4; have c5 := hx1.cell 5; have c6 := hx1.cell 6; have c7 := hx1.cell 7; have c8 := hx1.cell 8; have c9 := hx1.cell 9; have c10 := hx1.cell 10; simp only [ec, List.getElem?_toArray, List.getElem?_cons_succ, List.getElem?_cons_zero] at c0 c1 c3 c4 c5 c6 c7 c8 c9 c10))
  all_goals try (go_ret; exact ⟨ret_bool (not_asked OK.out (fun A => by have A1 := A.f; have A2 := A.t; have A3 := A.i; have A4 := A.b1; have A5 := A.m1; have A6 := A.d1; have A7 := A.o1; first | omega | simp_all)).symm, by assumption⟩)
  go_cut [60] from 45 to 60 (fun s wx => ∃ b : Bool, s = .bool b ∧ Qx w.heap.size e w ((hasL (fl e.kind) 99 = true → 1 ≤ e.client) ∧ (hasL (fl e.kind) 99 = false → e.client = 0 ∧ e.seq = 0)) b wx)
  case first =>
    rcases hC : hasL (fl e.kind) 99 with _ | _ <;> rcases hp : decide (0 < e.client) with _ | _ <;> rcases hq : decide (0 < e.seq) with _ | _
    all_goals
      go_quiet ((go_at_call 127; exact Calls.quiet_of_same (HH.out _ _)))
      go_wp2
      go_meet
      have hp' := hp
      have hq' := hq
      simp only [decide_eq_false_iff_not, decide_eq_true_eq] at hp' hq'
      refine ⟨_, rfl, ⟨?_, ?_, by first | assumption | exact bx_drew (by assumption) | exact bx_drewN _ (by assumption), by first | assumption | exact drew_on (by assumption) | exact drewN_on _ (by assumption)⟩⟩
      · intro hb A
        have A1 := A.c1
        have A2 := A.c0
        have A3 := A.s0
        simp [hC] at A1 A2 A3 hb <;> omega
      · intro hb; constructor <;> intro h <;> simp_all <;> omega
  case rest =>
    obtain ⟨b, rfl, hq4⟩ := hcut
    have hx2 := hq4.bx
    have hb2 := hq4.be
    have N4 := Lib.hid hq4.no
    have Y4 := Lib.hid hq4.yes
    clear hq4
    have e5 := hx2.cell 5
    have e6 := hx2.cell 6
    have e7 := hx2.cell 7
    have e8 := hx2.cell 8
    have e9 := hx2.cell 9
    have e10 := hx2.cell 10
    simp only [ec, List.getElem?_toArray, List.getElem?_cons_succ, List.getElem?_cons_zero] at e5 e6 e7 e8 e9 e10
    cases b with
    | true =>
      have NA := Lib.hid (not_asked OK.out (N4.out rfl))
      clear N4 Y4
      go_wp2
      go_ret
      exact ⟨ret_bool NA.out.symm, hb2⟩
    | false =>
      have F4 := Lib.hid (Y4.out rfl)
      clear N4 Y4
      go_upto_region 6 with fail
      go_cut [98] from 61 to 98 (fun s wx => ∃ b : Bool, s = .bool b ∧ Qx w.heap.size e w ((hasL (fl e.kind) 98 = false → e.block = 0) ∧ (hasL (fl e.kind) 109 = false → e.many = 0) ∧ (hasL (fl e.kind) 100 = false → (e.data.size : Int) = 0) ∧ (hasL (fl e.kind) 111 = false → (e.old.size : Int) = 0)) b wx)
      case first =>
        go_wp2_with (go_at_call 127; (with_reducible refine (HH.out _ _).mono ?_); rintro r w' ⟨rfl, rfl⟩)
        all_goals
          go_meet
          refine ⟨_, rfl, ⟨?_, ?_, hx2, hb2⟩⟩
          · intro hb A
            have A1 := A.b0
            have A2 := A.m0
            have A3 := A.d0
            have A4 := A.o0
            have T1 := toList_nil e.data
            have T2 := toList_nil e.old
            simp_all <;> omega
          · intro hb
            have T1 := toList_nil e.data
            have T2 := toList_nil e.old
            refine ⟨fun h => ?_, fun h => ?_, fun h => ?_, fun h => ?_⟩ <;> simp_all <;> omega
      case rest =>
        obtain ⟨b, rfl, hq6⟩ := hcut
        have hx3 := hq6.bx
        have hb3 := hq6.be
        have N6 := Lib.hid hq6.no
        have Y6 := Lib.hid hq6.yes
        clear hq6
        have f7 := hx3.cell 7
        have f8 := hx3.cell 8
        simp only [ec, List.getElem?_toArray, List.getElem?_cons_succ, List.getElem?_cons_zero] at f7 f8
        cases b with
        | true =>
          have NA := Lib.hid (not_asked OK.out (N6.out rfl))
          clear N6 Y6
          go_wp2
          go_ret
          exact ⟨ret_bool NA.out.symm, hb3⟩
        | false =>
          have F6 := Lib.hid (Y6.out rfl)
          clear N6 Y6
          go_upto_region 8 with fail
          go_cut [120] from 99 to 120 (fun s wx => ∃ b : Bool, s = .bool b ∧ Qx w.heap.size e w ((hasL (fl e.kind) 110 = true → 1 ≤ e.node ∧ e.node ≤ 7) ∧ (hasL (fl e.kind) 110 = false → e.node = 0)) b wx)
          case first =>
            go_wp2_with (go_at_call 127; (with_reducible refine (HH.out _ _).mono ?_); rintro r w' ⟨rfl, rfl⟩)
            all_goals
              go_meet
              refine ⟨_, rfl, ⟨?_, ?_, hx3, hb3⟩⟩
              · intro hb A
                have A1 := A.n1
                have A2 := A.n0
                simp_all <;> omega
              · intro hb
                refine ⟨fun h => ?_, fun h => ?_⟩ <;> simp_all <;> omega
          case rest =>
            obtain ⟨b, rfl, hq8⟩ := hcut
            have hx4 := hq8.bx
            have hb4 := hq8.be
            have N8 := Lib.hid hq8.no
            have Y8 := Lib.hid hq8.yes
            clear hq8
            have g8 := hx4.cell 8
            simp only [ec, List.getElem?_toArray, List.getElem?_cons_succ, List.getElem?_cons_zero] at g8
            cases b with
            | true =>
              have NA := Lib.hid (not_asked OK.out (N8.out rfl))
              clear N8 Y8
              go_wp2
              go_ret
              exact ⟨ret_bool NA.out.symm, hb4⟩
            | false =>
              have F8 := Lib.hid (Y8.out rfl)
              clear N8 Y8
              go_wp2_with (go_at_call 127; (with_reducible refine (HH.out _ _).mono ?_); rintro r w' ⟨rfl, rfl⟩)
              all_goals
                go_ret
                refine ⟨ret_bool ?_, hb4⟩
                refine asked_close OK.out (by assumption) (by omega) (by omega) (by omega) (by omega) (by omega) (by omega) F4.out F6.out F8.out ?_
                clear HF HH d2 HB HX OK F4 F6 F8
                first | (simp_all; done) | (simp_all; omega) | (constructor <;> simp_all <;> omega)
end Go.Proofs.YtpdbeijfchmlgaaGreat
