/-
  The walk of the law SuperCells: what is put, and what is got of any sector, as the document says.
  Conditions: the arguments' bounds.
-/
import Derived.Test.YtmdippnfnadadaaSE
import Derived.Test.YtmdippnfnadadaaSH
import Derived.Test.YtmdippnfnadadaaBend
namespace Go.Proofs.Ytmdippnfnadadaa
open Go.RowKit Vi Sp Dk
set_option linter.unusedVariables false
set_option maxHeartbeats 4000000 in
set_option maxRecDepth 100000 in
theorem lcells_any (g : Nat) (body s : ByteArray) (own : Bool) (at_ : Int) (by_ : Nat) (w : World) (hg : g < 18446744073709551616) (hb : body.size ≤ 140737488351232) (hs : s.size ≤ 140737488351232)
    (hat : -9223372036854775808 ≤ at_ ∧ at_ ≤ 9223372036854775807) (hby : by_ < 256) :
    Calls Try.prog 3 #[.int .u64 g, .string body, .string s, .bool own, .int .i64 at_, .int .u8 by_] w fun e w' => e = .returned (.bool true) ∧ Below w.heap.size w w' := by
  have P1 := Lib.hid (fun W => sput_any g body W hg (by omega))
  have P2 := Lib.hid (fun W => rsput_any g body W hg (by omega))
  have hcs := cS_size g body
  have PB := Lib.hid (fun W => bend_any (cS g body) at_ by_ W (by omega) hat hby)
  have G1 := Lib.hid (fun (t : ByteArray) (ht : t.size ≤ 140737488351232) (W : World) => sget_any t W (by omega))
  have G2 := Lib.hid (fun (t : ByteArray) (ht : t.size ≤ 140737488351232) (W : World) => rsget_any t W (by omega))
  have HS := Lib.hid hs
  have HC := Lib.hid hcs
  obtain ⟨c, hc⟩ : ∃ c, c = cS g body := ⟨_, rfl⟩
  obtain ⟨o, ho⟩ : ∃ o, o = cO g body := ⟨_, rfl⟩
  rw [← hc] at P1 P2 PB HC
  rw [← ho] at P1 P2
  have qc : (c.toList == c.toList) = true := beq_self_eq_true _
  have qo : (o == o) = true := beq_self_eq_true _
  clear hc ho hcs hat hby hg hb hs
  cases own with
  | false =>
    have G1 := Lib.hid (G1.out s HS.out)
    have G2 := Lib.hid (G2.out s HS.out)
    have qg : (getG s == getG s) = true := beq_self_eq_true _
    have qb : ((getB s).toList == (getB s).toList) = true := beq_self_eq_true _
    have qf : (gO s == gO s) = true := beq_self_eq_true _
    generalize getG s = a at *
    generalize getB s = b at *
    generalize gO s = f at *
    go_enter Try.func3, Try.ntmps3
    go_wp2_with fail
    refine (examples_any w).mono ?_
    rintro e w1 ⟨rfl, b1⟩
    go_wp2_with fail
    refine (P1.out _).mono ?_
    rintro e w2 ⟨rfl, b2⟩
    have b02 := b1.trans (b2.mono b1.size)
    go_wp2_with fail
    refine (P2.out _).mono ?_
    rintro e w3 ⟨rfl, b3⟩
    have b03 := b02.trans (b3.mono b02.size)
    go_wp2_with fail
    refine (G1.out _).mono ?_
    rintro e w4 ⟨rfl, b4⟩
    have b04 := b03.trans (b4.mono b03.size)
    go_wp2_with fail
    refine (G2.out _).mono ?_
    rintro e w5 ⟨rfl, b5⟩
    have b05 := b04.trans (b5.mono b04.size)
    clear b1 b2 b3 b4 b5 b02 b03 b04
    have B := Lib.hid b05
    clear b05
    go_wp2
    go_ret
    exact ⟨rfl, B.out⟩
  | true =>
    go_enter Try.func3, Try.ntmps3
    go_wp2_with fail
    refine (examples_any w).mono ?_
    rintro e w1 ⟨rfl, b1⟩
    go_wp2_with fail
    refine (P1.out _).mono ?_
    rintro e w2 ⟨rfl, b2⟩
    have b02 := b1.trans (b2.mono b1.size)
    go_wp2_with fail
    refine (P2.out _).mono ?_
    rintro e w3 ⟨rfl, b3⟩
    have b03 := b02.trans (b3.mono b02.size)
    go_wp2_with fail
    refine (PB.out _).mono ?_
    rintro e w4 ⟨t, rfl, ht, b4⟩
    have b04 := b03.trans (b4.mono b03.size)
    have G1 := Lib.hid (G1.out t (by rw [ht]; have := HC.out; omega))
    have G2 := Lib.hid (G2.out t (by rw [ht]; have := HC.out; omega))
    have qg : (getG t == getG t) = true := beq_self_eq_true _
    have qb : ((getB t).toList == (getB t).toList) = true := beq_self_eq_true _
    have qf : (gO t == gO t) = true := beq_self_eq_true _
    clear ht
    generalize getG t = a at *
    generalize getB t = b at *
    generalize gO t = f at *
    go_wp2_with fail
    refine (G1.out _).mono ?_
    rintro e w5 ⟨rfl, b5⟩
    have b05 := b04.trans (b5.mono b04.size)
    go_wp2_with fail
    refine (G2.out _).mono ?_
    rintro e w6 ⟨rfl, b6⟩
    have b06 := b05.trans (b6.mono b05.size)
    clear b1 b2 b3 b4 b5 b02 b03 b04 b05 b6
    have B := Lib.hid b06
    clear b06
    go_wp2
    go_ret
    exact ⟨rfl, B.out⟩
end Go.Proofs.Ytmdippnfnadadaa
