/-
  Texts, as varint puts and reads them, and as the document does.
  Conditions: named in each theorem.
-/
import Derived.Test.YtpdbeijfchmlgaaGreatVRef
namespace Go.Proofs.YtpdbeijfchmlgaaGreat
open Go.RowKit
set_option linter.unusedVariables false
set_option linter.unusedSimpArgs false
set_option maxHeartbeats 400000 in
theorem text_any (s : ByteArray) (w : World) (hs : s.size ≤ 140737488355328) :
    Calls Tryz.prog 175 #[.string s] w fun e w' => e = .returned (.string (Vi.putB s.size ++ s)) ∧ Below w.heap.size w w' := by
  have hp := putB_size s.size (by omega)
  go_enter Tryz.func175, Tryz.ntmps175
  go_wp2_with fail
  refine (put_any s.size w (by omega)).mono ?_
  rintro e w1 ⟨rfl, hb⟩
  go_wp2
  go_ret
  exact ⟨rfl, hb⟩
set_option maxHeartbeats 400000 in
theorem rtext_any (s : ByteArray) (w : World) (hs : s.size ≤ 140737488355328) :
    Calls Tryz.prog 128 #[.string s] w fun e w' => e = .returned (.string (Vi.putB s.size ++ s)) ∧ Below w.heap.size w w' := by
  have hp := putB_size s.size (by omega)
  go_enter Tryz.func128, Tryz.ntmps128
  go_wp2_with fail
  refine (rput_any s.size w (by omega)).mono ?_
  rintro e w1 ⟨rfl, hb⟩
  go_wp2
  go_ret
  exact ⟨rfl, hb⟩

namespace Vi
def texV (s : ByteArray) : ByteArray := bytV (varT s) (varV s)
def texT (s : ByteArray) : ByteArray := bytT (varT s) (varV s)
def texO (s : ByteArray) : Bool := varO s && hasB (varT s) (varV s)

end Vi
set_option maxHeartbeats 400000 in
set_option maxRecDepth 100000 in
theorem textr_any (g : Nat) (s : ByteArray) (bad : Bool) (w : World) (h : Rd 178 g s bad w) (hm : s.size ≤ 281474976710656) :
    Calls Tryz.prog 202 #[rdp g] w fun e w' => e = .returned (.string (Vi.texV s)) ∧ Rd 178 g (Vi.texT s) (bad || !Vi.texO s) w' ∧ w.grownBy w' (some g) := by
  have hmf : ∀ (fn : Fn) (first cap : Array Value) (w : World), (Instr.makeFunc fn first cap).run Tryz.prog w = .ok (.func fn first cap) w := fun _ _ _ _ => rfl
  have hV := Lib.hid (var_any g s bad w h hm)
  have hvl := Vi.varV_lt s
  have hts := Vi.varT_size s
  unfold Vi.texV Vi.texT Vi.texO
  generalize Vi.varV s = n at *
  generalize Vi.varT s = t at *
  have hw : Hid (IntKind.u64.wrap (t.size : Int) = (t.size : Int)) := IntWalk.u64_in _ (by omega)
  have HVL := Lib.hid hvl
  clear hvl
  by_cases hn : n ≤ t.size
  · have HN : Hid (IntKind.i64.wrap (n : Int) = (n : Int)) := IntWalk.i64_in _ (by omega)
    unfold rdp at *
    go_enter Tryz.func202, Tryz.ntmps202
    go_wp2_with fail
    refine hV.out.mono ?_
    rintro e w1 ⟨rfl, h1, h2⟩
    clear hV
    go_wp2_with fail
    refine (left_any g t _ w1 h1).mono ?_
    rintro e w2 ⟨rfl, rfl⟩
    go_wp2_with fail
    refine (bytes_any g t _ n w1 h1 (by omega)).mono ?_
    rintro e w2 ⟨rfl, h3, h4⟩
    go_wp2
    go_ret
    rw [bools3] at h3
    exact ⟨rfl, h3, h2.trans h4⟩
  · have hh : Vi.hasB t n = false := decide_eq_false (by omega)
    have e1 : Vi.bytV t n = ⟨#[]⟩ := by unfold Vi.bytV; rw [hh, if_neg (by decide)]
    have e2 : Vi.bytT t n = ⟨#[]⟩ := by unfold Vi.bytT; rw [hh, if_neg (by decide)]
    rw [e1, e2, hh, Bool.and_false, Bool.not_false, Bool.or_true]
    clear e1 e2 hh
    unfold rdp at *
    go_enter Tryz.func202, Tryz.ntmps202
    go_wp2_with fail
    refine hV.out.mono ?_
    rintro e w1 ⟨rfl, h1, h2⟩
    clear hV
    go_wp2_with fail
    refine (left_any g t _ w1 h1).mono ?_
    rintro e w2 ⟨rfl, rfl⟩
    go_wp2_with fail
    refine (fail_any g t _ w1 h1).mono ?_
    rintro e w2 ⟨rfl, h3, h4⟩
    go_wp2
    go_ret
    exact ⟨rfl, h3, h2.trans h4⟩

theorem Vi.sane_tex (s : ByteArray) (bad : Bool) (h : Vi.Sane s bad) : Vi.Sane (Vi.texT s) (bad || !Vi.texO s) := by
  have := Vi.sane_byt _ _ (Vi.varV s) (Vi.sane_var s bad h)
  rw [bools3] at this
  exact this
set_option maxHeartbeats 400000 in
set_option maxRecDepth 100000 in
theorem rtextr_any (g : Nat) (s : ByteArray) (bad : Bool) (w : World) (h : Rd 72 g s bad w) (hs : Vi.Sane s bad) (hm : s.size ≤ 281474976710656) :
    Calls Tryz.prog 156 #[rdp g] w fun e w' => e = .returned (.string (Vi.texV s)) ∧ Rd 72 g (Vi.texT s) (bad || !Vi.texO s) w' ∧ w.grownBy w' (some g) := by
  have hV := Lib.hid (rvar_any g s bad w h hm)
  have HSane := Lib.hid (Vi.sane_var s bad hs)
  have hvl := Vi.varV_lt s
  have hts := Vi.varT_size s
  unfold Vi.texV Vi.texT Vi.texO
  generalize Vi.varV s = n at *
  generalize Vi.varT s = t at *
  have hw : Hid (IntKind.u64.wrap (t.size : Int) = (t.size : Int)) := IntWalk.u64_in _ (by omega)
  have HVL := Lib.hid hvl
  clear hvl
  by_cases hn : n ≤ t.size
  · have HN : Hid (IntKind.i64.wrap (n : Int) = (n : Int)) := IntWalk.i64_in _ (by omega)
    unfold rdp at *
    go_enter Tryz.func156, Tryz.ntmps156
    go_wp2_with fail
    refine hV.out.mono ?_
    rintro e w1 ⟨rfl, h1, h2⟩
    clear hV
    have c1 := h1.cell0
    go_wp2_with fail
    refine (rbytes_any g t _ n w1 h1 HSane.out (by omega)).mono ?_
    rintro e w2 ⟨rfl, h3, h4⟩
    go_wp2
    go_ret
    rw [bools3] at h3
    exact ⟨rfl, h3, h2.trans h4⟩
  · have hh : Vi.hasB t n = false := decide_eq_false (by omega)
    have e1 : Vi.bytV t n = ⟨#[]⟩ := by unfold Vi.bytV; rw [hh, if_neg (by decide)]
    have e2 : Vi.bytT t n = ⟨#[]⟩ := by unfold Vi.bytT; rw [hh, if_neg (by decide)]
    rw [e1, e2, hh, Bool.and_false, Bool.not_false, Bool.or_true]
    clear e1 e2 hh
    unfold rdp at *
    go_enter Tryz.func156, Tryz.ntmps156
    go_wp2_with fail
    refine hV.out.mono ?_
    rintro e w1 ⟨rfl, h1, h2⟩
    clear hV
    have c1 := h1.cell0
    go_wp2_with fail
    refine (rfail_any g t _ w1 h1).mono ?_
    rintro e w2 ⟨rfl, h3, h4⟩
    go_wp2
    go_ret
    exact ⟨rfl, h3, h2.trans h4⟩

end Go.Proofs.YtpdbeijfchmlgaaGreat
