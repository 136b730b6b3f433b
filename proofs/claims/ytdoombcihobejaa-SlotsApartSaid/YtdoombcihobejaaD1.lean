/-
  A Super and a Hard set on a device, and loaded: SetSuper, SetHard, loadSuper, loadHard.
  Conditions: a device that lies in memory.
-/
import Derived.Test.YtdoombcihobejaaL8
import Derived.Test.YtdoombcihobejaaSL
import Derived.Deep.RegionHeld3
import Derived.Deep.QuietTactic
import Derived.BigQuiet
namespace Go.Proofs.Ytdoombcihobejaa
open Go.RowKit Vi Sl Dk
set_option linter.unusedVariables false
set_option linter.unusedSimpArgs false
def setS (d : St) (s : Su) : St × Int := if rgt s then wr d 0 (supB s) else (d, 1)
def setH (d : St) (v : Int) (h : Hd) : St × Int := if hO v h then wr d 2 (hB v h) else (d, 1)
def lSe (d : St) : Int := if rdE d 0 ≠ 0 then rdE d 0 else if gO (rdB d 0) && !decide ((d.n : Int) < sec (gS (rdB d 0))) then 0 else 2
def lS (d : St) : Su := if lSe d = 0 then gS (rdB d 0) else su0
def lHe (d : St) : Int := if rdE d 2 = 6 then 0 else if rdE d 2 ≠ 0 then rdE d 2 else if jO (rdB d 2) then 0 else 2
def lH (d : St) : Hd := if rdE d 2 = 0 then (if jO (rdB d 2) then jH (rdB d 2) else hd0) else hd0
def ldE (d : St) : Int := if lSe d ≠ 0 then lSe d else lHe d
def ldS (d : St) : Su := if ldE d = 0 then lS d else su0
def ldH (d : St) : Hd := if ldE d = 0 then lH d else hd0
theorem setSuper_any (g : Nat) (L : List Nat) (d : St) (s : Su) (w : World) (h : Dv w g L d) : Calls Try.prog 24 #[ptr g, s.val] w fun e w' => e = .returned (.int .i64 (setS d s).2) ∧ Moves g L (setS d s).1 w w' := by
  have hb := sbx_below w s
  obtain ⟨W, hW⟩ : ∃ W, W = sbx w s := ⟨_, rfl⟩
  rw [← hW] at hb
  have hD : Dv W g L d := h.below hb
  have K := Lib.hid (fun (W : World) => putSuper_any s W)
  have KW := Lib.hid (fun (W : World) (h : Dv W g L d) => swrite_any g L d 0 (supB s) W h (by omega) (by omega))
  have HS : Hid (setS d s = if rgt s then wr d 0 (supB s) else (d, 1)) := rfl
  have HP : Hid (supS s = if rgt s then supB s else ⟨#[]⟩) := rfl
  obtain ⟨r, hr⟩ : ∃ r, r = rgt s := ⟨_, rfl⟩
  rw [← hr] at K HS HP
  have HD0 := Lib.hid h
  have HD := Lib.hid hD
  have HB := Lib.hid hb
  have HW := Lib.hid hW
  clear hr hb hD hW h
  unfold sbx Su.val at *
  unfold Su.c at HW K ⊢
  cases r with
  | false =>
    have hp : supS s = ⟨#[]⟩ := HP.out
    rw [hp] at K
    have hs : Hid (setS d s = (d, 1)) := HS.out
    clear hp HS HP KW
    unfold ptr at *
    go_enter Try.func24, Try.ntmps24
    go_wp2_with fail
    rw [← HW.out]
    refine (K.out _).mono ?_
    rintro e w1 ⟨rfl, b1⟩
    have HB1 := Lib.hid (HB.out.trans (b1.mono HB.out.size))
    clear b1 HB HW K HD
    go_wp2
    go_ret
    rw [hs.out]
    exact ⟨rfl, Moves.same HD0.out (Keep.of_below HB1.out) (HD0.out.below HB1.out)⟩
  | true =>
    have hp : supS s = supB s := HP.out
    rw [hp] at K
    have hs : Hid (setS d s = wr d 0 (supB s)) := HS.out
    clear hp HS HP
    generalize supB s = p at *
    unfold ptr at *
    go_enter Try.func24, Try.ntmps24
    go_wp2_with fail
    rw [← HW.out]
    refine (K.out _).mono ?_
    rintro e w1 ⟨rfl, b1⟩
    have HB1 := Lib.hid (HB.out.trans (b1.mono HB.out.size))
    have HD1 := Lib.hid (HD0.out.below HB1.out)
    clear b1 HB HW K HD
    go_wp2_with fail
    refine (KW.out _ HD1.out).mono ?_
    rintro e w2 ⟨rfl, M2⟩
    have HM := Lib.hid (Dk.Moves.after HB1.out M2)
    clear M2 KW HD1
    go_wp2
    go_ret
    rw [hs.out]
    exact ⟨rfl, HM.out⟩
theorem setHard_any (g : Nat) (L : List Nat) (d : St) (v : Int) (hh : Hd) (w : World) (h : Dv w g L d) (ho : hh.Ok) : Calls Try.prog 26 #[ptr g, .int .i64 v, hh.val] w fun e w' => e = .returned (.int .i64 (setH d v hh).2) ∧ Moves g L (setH d v hh).1 w w' := by
  have hb := hbx_below w hh
  obtain ⟨W, hW⟩ : ∃ W, W = hbx w hh := ⟨_, rfl⟩
  rw [← hW] at hb
  have hD : Dv W g L d := h.below hb
  have K := Lib.hid (fun (W : World) => putHard_any v hh W ho)
  have KW := Lib.hid (fun (W : World) (h : Dv W g L d) => swrite_any g L d 2 (hB v hh) W h (by omega) (by omega))
  have HS : Hid (setH d v hh = if hO v hh then wr d 2 (hB v hh) else (d, 1)) := rfl
  have HP : Hid (hS v hh = if hO v hh then hB v hh else ⟨#[]⟩) := rfl
  obtain ⟨r, hr⟩ : ∃ r, r = hO v hh := ⟨_, rfl⟩
  rw [← hr] at K HS HP
  have HD0 := Lib.hid h
  have HD := Lib.hid hD
  have HB := Lib.hid hb
  have HW := Lib.hid hW
  clear hr hb hD hW h ho
  unfold hbx Hd.val at *
  unfold Hd.c at HW K ⊢
  cases r with
  | false =>
    have hp : hS v hh = ⟨#[]⟩ := HP.out
    rw [hp] at K
    have hs : Hid (setH d v hh = (d, 1)) := HS.out
    clear hp HS HP KW
    unfold ptr at *
    go_enter Try.func26, Try.ntmps26
    go_wp2_with fail
    rw [← HW.out]
    refine (K.out _).mono ?_
    rintro e w1 ⟨rfl, b1⟩
    have HB1 := Lib.hid (HB.out.trans (b1.mono HB.out.size))
    clear b1 HB HW K HD
    go_wp2
    go_ret
    rw [hs.out]
    exact ⟨rfl, Moves.same HD0.out (Keep.of_below HB1.out) (HD0.out.below HB1.out)⟩
  | true =>
    have hp : hS v hh = hB v hh := HP.out
    rw [hp] at K
    have hs : Hid (setH d v hh = wr d 2 (hB v hh)) := HS.out
    clear hp HS HP
    generalize hB v hh = p at *
    unfold ptr at *
    go_enter Try.func26, Try.ntmps26
    go_wp2_with fail
    rw [← HW.out]
    refine (K.out _).mono ?_
    rintro e w1 ⟨rfl, b1⟩
    have HB1 := Lib.hid (HB.out.trans (b1.mono HB.out.size))
    have HD1 := Lib.hid (HD0.out.below HB1.out)
    clear b1 HB HW K HD
    go_wp2_with fail
    refine (KW.out _ HD1.out).mono ?_
    rintro e w2 ⟨rfl, M2⟩
    have HM := Lib.hid (Dk.Moves.after HB1.out M2)
    clear M2 KW HD1
    go_wp2
    go_ret
    rw [hs.out]
    exact ⟨rfl, HM.out⟩
theorem dsec_any (g : Nat) (L : List Nat) (d : St) (w : World) (h : Dv w g L d) : Calls Try.prog 67 #[ptr g] w fun e w' => e = .returned (.int .i64 d.n) ∧ w' = w := by
  obtain ⟨_, fb, mb, cap, _, hd⟩ := h
  have c0 := hd.c0
  clear hd
  unfold ptr
  go_enter Try.func67, Try.ntmps67
  go_wp2
  go_ret
  exact ⟨rfl, rfl⟩
theorem res48 (tmps : Array Value) (w : World) (p : Nat) (s : Su) (hp : tmps.getD 2 undef = .pointer (some ⟨p, 0, none⟩)) (hg : w.heap[p]? = some (.cells s.c 23 (0, 0))) :
    (results Try.f48 tmps).run Try.prog w = .ok (.tuple #[.agg s.c, tmps.getD 3 undef]) w := by
  rw [results_cell_tmp Try.results48, hp]
  simp [asAddr, run_loadVar_row w p 23 23 s.c (0, 0) _ hg Try.underlying23 rfl Try.su7]
theorem res49 (tmps : Array Value) (w : World) (p : Nat) (s : Hd) (hp : tmps.getD 2 undef = .pointer (some ⟨p, 0, none⟩)) (hg : w.heap[p]? = some (.cells s.c 26 (0, 0))) :
    (results Try.f49 tmps).run Try.prog w = .ok (.tuple #[.agg s.c, tmps.getD 3 undef]) w := by
  rw [results_cell_tmp Try.results49, hp]
  simp [asAddr, run_loadVar_row w p 26 26 s.c (0, 0) _ hg Try.underlying26 rfl Try.hd3]
theorem rdB_size (d : St) (a : Int) : (rdB d a).size ≤ 51 := by
  unfold rdB
  split
  · split
    · exact Sp.getB_size _
    · exact Sp.getB_size _
  · show 0 ≤ 51; omega
end Go.Proofs.Ytdoombcihobejaa
