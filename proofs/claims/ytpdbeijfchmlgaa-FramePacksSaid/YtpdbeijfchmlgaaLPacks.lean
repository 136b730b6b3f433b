/-
  FramePacks, walked: true for every input.
  Conditions: what came in is as its types say.
-/
import Derived.Test.YtpdbeijfchmlgaaFX
import Derived.Test.YtpdbeijfchmlgaaFR
import Derived.Test.YtpdbeijfchmlgaaBend
namespace Go.Proofs.Ytpdbeijfchmlgaa
open Go.RowKit
open Vi
set_option linter.unusedVariables false
set_option linter.unusedSimpArgs false
set_option maxHeartbeats 4000000 in
set_option maxRecDepth 100000 in
theorem lpacks_any (v0 : Int) (known : Bool) (body s : ByteArray) (own : Bool) (at_ : Int) (by_ : Nat) (w : World) (hv0 : -9223372036854775808 ≤ v0 ∧ v0 ≤ 9223372036854775807) (hb : body.size ≤ 140737488351232) (hs : s.size ≤ 140737488351232) (hat : -9223372036854775808 ≤ at_ ∧ at_ ≤ 9223372036854775807) (hby : by_ < 256) :
    Calls Try.prog 3 #[.int .i64 v0, .bool known, .string body, .string s, .bool own, .int .i64 at_, .int .u8 by_] w fun r w' => r = .returned (.bool true) ∧ Below w.heap.size w w' := by
  have KE := Lib.hid (fun (W : World) => examples_any W)
  cases known with
  | false =>
    clear hv0
    go_enter Try.func3, Try.ntmps3
    go_wp2_with fail
    refine (KE.out _).mono ?_
    rintro q w1 ⟨rfl, b1⟩
    have B1 := Lib.hid b1
    clear b1
    obtain ⟨v, hv⟩ : ∃ v, v = v0 := ⟨_, rfl⟩
    rw [← hv]
    clear hv
    obtain ⟨P, hP⟩ : ∃ P, P = pkS v body := ⟨_, rfl⟩
    obtain ⟨po, hpo⟩ : ∃ po, po = pkO v body := ⟨_, rfl⟩
    have hpz := pkS_size v body
    rw [← hP] at hpz
    have KP := Lib.hid (fun (W : World) => pack_any v body W)
    have KQ := Lib.hid (fun (W : World) => rpack_any v body W)
    rw [← hP, ← hpo] at KP KQ
    have KE2 := Lib.hid (fun (W : World) => bend_any P at_ by_ W (by omega) hat hby)
    have HPZ := Lib.hid hpz
    clear hP hpo hpz hat hby
    go_wp2_with fail
    refine (KP.out _).mono ?_
    rintro q w2 ⟨rfl, b2⟩
    have B2 : Hid (Below w.heap.size w w2) := B1.out.trans (b2.mono B1.out.size)
    clear b2
    go_wp2_with fail
    refine (KQ.out _).mono ?_
    rintro q w3 ⟨rfl, b3⟩
    have B3 : Hid (Below w.heap.size w w3) := B2.out.trans (b3.mono B2.out.size)
    clear b3
    cases own with
    | false =>
      obtain ⟨u, hu⟩ : ∃ u, u = s := ⟨_, rfl⟩
      have HU : Hid (u.size ≤ 281474976710656) := by show _ ≤ _; rw [hu]; omega
      rw [← hu]
      clear hu hs
      obtain ⟨w4, hw4⟩ : ∃ w4, w4 = w3 := ⟨_, rfl⟩
      have B4 : Hid (Below w.heap.size w w4) := by rw [hw4]; exact B3
      rw [← hw4]
      clear hw4 B3
      have hU := HU.out
      have KA := Lib.hid (fun (W : World) => next_any u W hU)
      have KB := Lib.hid (fun (W : World) => rnext_any u W hU)
      have KC := Lib.hid (fun (W : World) => unpack_any u W hU)
      have KD := Lib.hid (fun (W : World) => runpack_any u W hU)
      obtain ⟨n1, hn1⟩ : ∃ n1, n1 = nxV u := ⟨_, rfl⟩
      obtain ⟨n2, hn2⟩ : ∃ n2, n2 = nxB u := ⟨_, rfl⟩
      obtain ⟨n3, hn3⟩ : ∃ n3, n3 = nxN u := ⟨_, rfl⟩
      obtain ⟨n4, hn4⟩ : ∃ n4, n4 = nOk u := ⟨_, rfl⟩
      obtain ⟨m1, hm1⟩ : ∃ m1, m1 = uV u := ⟨_, rfl⟩
      obtain ⟨m2, hm2⟩ : ∃ m2, m2 = uB u := ⟨_, rfl⟩
      obtain ⟨m3, hm3⟩ : ∃ m3, m3 = uO u := ⟨_, rfl⟩
      rw [← hn1, ← hn2, ← hn3, ← hn4] at KA KB
      rw [← hm1, ← hm2, ← hm3] at KC KD
      clear hn1 hn2 hn3 hn4 hm1 hm2 hm3 hU HU
      go_wp2_with fail
      refine (KA.out _).mono ?_
      rintro q w5 ⟨rfl, b5⟩
      have B5 : Hid (Below w.heap.size w w5) := B4.out.trans (b5.mono B4.out.size)
      clear b5
      go_wp2_with fail
      refine (KB.out _).mono ?_
      rintro q w6 ⟨rfl, b6⟩
      have B6 : Hid (Below w.heap.size w w6) := B5.out.trans (b6.mono B5.out.size)
      clear b6
      go_wp2_with fail
      refine (KC.out _).mono ?_
      rintro q w7 ⟨rfl, b7⟩
      have B7 : Hid (Below w.heap.size w w7) := B6.out.trans (b7.mono B6.out.size)
      clear b7
      go_wp2_with fail
      refine (KD.out _).mono ?_
      rintro q w8 ⟨rfl, b8⟩
      have B8 : Hid (Below w.heap.size w w8) := B7.out.trans (b8.mono B7.out.size)
      clear b8
      go_wp2
      go_ret
      exact ⟨rfl, B8.out⟩
    | true =>
      go_wp2_with fail
      refine (KE2.out _).mono ?_
      rintro q w4 ⟨t, rfl, ht, b4⟩
      have B4 : Hid (Below w.heap.size w w4) := B3.out.trans (b4.mono B3.out.size)
      have hpz := HPZ.out
      have hadd : ¬ 9223372036854775807 < t.size + s.size := by omega
      clear b4
      go_upto_region 10 with fail
      obtain ⟨u, hu⟩ : ∃ u, u = t ++ s := ⟨_, rfl⟩
      have HU : Hid (u.size ≤ 281474976710656) := by show _ ≤ _; rw [hu, ByteArray.size_append]; omega
      rw [← hu]
      clear hu hs ht hpz hadd
      have hU := HU.out
      have KA := Lib.hid (fun (W : World) => next_any u W hU)
      have KB := Lib.hid (fun (W : World) => rnext_any u W hU)
      have KC := Lib.hid (fun (W : World) => unpack_any u W hU)
      have KD := Lib.hid (fun (W : World) => runpack_any u W hU)
      obtain ⟨n1, hn1⟩ : ∃ n1, n1 = nxV u := ⟨_, rfl⟩
      obtain ⟨n2, hn2⟩ : ∃ n2, n2 = nxB u := ⟨_, rfl⟩
      obtain ⟨n3, hn3⟩ : ∃ n3, n3 = nxN u := ⟨_, rfl⟩
      obtain ⟨n4, hn4⟩ : ∃ n4, n4 = nOk u := ⟨_, rfl⟩
      obtain ⟨m1, hm1⟩ : ∃ m1, m1 = uV u := ⟨_, rfl⟩
      obtain ⟨m2, hm2⟩ : ∃ m2, m2 = uB u := ⟨_, rfl⟩
      obtain ⟨m3, hm3⟩ : ∃ m3, m3 = uO u := ⟨_, rfl⟩
      rw [← hn1, ← hn2, ← hn3, ← hn4] at KA KB
      rw [← hm1, ← hm2, ← hm3] at KC KD
      clear hn1 hn2 hn3 hn4 hm1 hm2 hm3 hU HU
      go_wp2_with fail
      refine (KA.out _).mono ?_
      rintro q w5 ⟨rfl, b5⟩
      have B5 : Hid (Below w.heap.size w w5) := B4.out.trans (b5.mono B4.out.size)
      clear b5
      go_wp2_with fail
      refine (KB.out _).mono ?_
      rintro q w6 ⟨rfl, b6⟩
      have B6 : Hid (Below w.heap.size w w6) := B5.out.trans (b6.mono B5.out.size)
      clear b6
      go_wp2_with fail
      refine (KC.out _).mono ?_
      rintro q w7 ⟨rfl, b7⟩
      have B7 : Hid (Below w.heap.size w w7) := B6.out.trans (b7.mono B6.out.size)
      clear b7
      go_wp2_with fail
      refine (KD.out _).mono ?_
      rintro q w8 ⟨rfl, b8⟩
      have B8 : Hid (Below w.heap.size w w8) := B7.out.trans (b8.mono B7.out.size)
      clear b8
      go_wp2
      go_ret
      exact ⟨rfl, B8.out⟩
  | true =>
    clear hv0
    go_enter Try.func3, Try.ntmps3
    go_wp2_with fail
    refine (KE.out _).mono ?_
    rintro q w1 ⟨rfl, b1⟩
    have B1 := Lib.hid b1
    clear b1
    go_upto_region 6 with fail
    obtain ⟨v, hv⟩ : ∃ v, v = wrap64 (1 + wrap64 ((IntKind.u64.wrap v0).tmod 2)) := ⟨_, rfl⟩
    rw [← hv]
    clear hv
    obtain ⟨P, hP⟩ : ∃ P, P = pkS v body := ⟨_, rfl⟩
    obtain ⟨po, hpo⟩ : ∃ po, po = pkO v body := ⟨_, rfl⟩
    have hpz := pkS_size v body
    rw [← hP] at hpz
    have KP := Lib.hid (fun (W : World) => pack_any v body W)
    have KQ := Lib.hid (fun (W : World) => rpack_any v body W)
    rw [← hP, ← hpo] at KP KQ
    have KE2 := Lib.hid (fun (W : World) => bend_any P at_ by_ W (by omega) hat hby)
    have HPZ := Lib.hid hpz
    clear hP hpo hpz hat hby
    go_wp2_with fail
    refine (KP.out _).mono ?_
    rintro q w2 ⟨rfl, b2⟩
    have B2 : Hid (Below w.heap.size w w2) := B1.out.trans (b2.mono B1.out.size)
    clear b2
    go_wp2_with fail
    refine (KQ.out _).mono ?_
    rintro q w3 ⟨rfl, b3⟩
    have B3 : Hid (Below w.heap.size w w3) := B2.out.trans (b3.mono B2.out.size)
    clear b3
    cases own with
    | false =>
      obtain ⟨u, hu⟩ : ∃ u, u = s := ⟨_, rfl⟩
      have HU : Hid (u.size ≤ 281474976710656) := by show _ ≤ _; rw [hu]; omega
      rw [← hu]
      clear hu hs
      obtain ⟨w4, hw4⟩ : ∃ w4, w4 = w3 := ⟨_, rfl⟩
      have B4 : Hid (Below w.heap.size w w4) := by rw [hw4]; exact B3
      rw [← hw4]
      clear hw4 B3
      have hU := HU.out
      have KA := Lib.hid (fun (W : World) => next_any u W hU)
      have KB := Lib.hid (fun (W : World) => rnext_any u W hU)
      have KC := Lib.hid (fun (W : World) => unpack_any u W hU)
      have KD := Lib.hid (fun (W : World) => runpack_any u W hU)
      obtain ⟨n1, hn1⟩ : ∃ n1, n1 = nxV u := ⟨_, rfl⟩
      obtain ⟨n2, hn2⟩ : ∃ n2, n2 = nxB u := ⟨_, rfl⟩
      obtain ⟨n3, hn3⟩ : ∃ n3, n3 = nxN u := ⟨_, rfl⟩
      obtain ⟨n4, hn4⟩ : ∃ n4, n4 = nOk u := ⟨_, rfl⟩
      obtain ⟨m1, hm1⟩ : ∃ m1, m1 = uV u := ⟨_, rfl⟩
      obtain ⟨m2, hm2⟩ : ∃ m2, m2 = uB u := ⟨_, rfl⟩
      obtain ⟨m3, hm3⟩ : ∃ m3, m3 = uO u := ⟨_, rfl⟩
      rw [← hn1, ← hn2, ← hn3, ← hn4] at KA KB
      rw [← hm1, ← hm2, ← hm3] at KC KD
      clear hn1 hn2 hn3 hn4 hm1 hm2 hm3 hU HU
      go_wp2_with fail
      refine (KA.out _).mono ?_
      rintro q w5 ⟨rfl, b5⟩
      have B5 : Hid (Below w.heap.size w w5) := B4.out.trans (b5.mono B4.out.size)
      clear b5
      go_wp2_with fail
      refine (KB.out _).mono ?_
      rintro q w6 ⟨rfl, b6⟩
      have B6 : Hid (Below w.heap.size w w6) := B5.out.trans (b6.mono B5.out.size)
      clear b6
      go_wp2_with fail
      refine (KC.out _).mono ?_
      rintro q w7 ⟨rfl, b7⟩
      have B7 : Hid (Below w.heap.size w w7) := B6.out.trans (b7.mono B6.out.size)
      clear b7
      go_wp2_with fail
      refine (KD.out _).mono ?_
      rintro q w8 ⟨rfl, b8⟩
      have B8 : Hid (Below w.heap.size w w8) := B7.out.trans (b8.mono B7.out.size)
      clear b8
      go_wp2
      go_ret
      exact ⟨rfl, B8.out⟩
    | true =>
      go_wp2_with fail
      refine (KE2.out _).mono ?_
      rintro q w4 ⟨t, rfl, ht, b4⟩
      have B4 : Hid (Below w.heap.size w w4) := B3.out.trans (b4.mono B3.out.size)
      have hpz := HPZ.out
      have hadd : ¬ 9223372036854775807 < t.size + s.size := by omega
      clear b4
      go_upto_region 10 with fail
      obtain ⟨u, hu⟩ : ∃ u, u = t ++ s := ⟨_, rfl⟩
      have HU : Hid (u.size ≤ 281474976710656) := by show _ ≤ _; rw [hu, ByteArray.size_append]; omega
      rw [← hu]
      clear hu hs ht hpz hadd
      have hU := HU.out
      have KA := Lib.hid (fun (W : World) => next_any u W hU)
      have KB := Lib.hid (fun (W : World) => rnext_any u W hU)
      have KC := Lib.hid (fun (W : World) => unpack_any u W hU)
      have KD := Lib.hid (fun (W : World) => runpack_any u W hU)
      obtain ⟨n1, hn1⟩ : ∃ n1, n1 = nxV u := ⟨_, rfl⟩
      obtain ⟨n2, hn2⟩ : ∃ n2, n2 = nxB u := ⟨_, rfl⟩
      obtain ⟨n3, hn3⟩ : ∃ n3, n3 = nxN u := ⟨_, rfl⟩
      obtain ⟨n4, hn4⟩ : ∃ n4, n4 = nOk u := ⟨_, rfl⟩
      obtain ⟨m1, hm1⟩ : ∃ m1, m1 = uV u := ⟨_, rfl⟩
      obtain ⟨m2, hm2⟩ : ∃ m2, m2 = uB u := ⟨_, rfl⟩
      obtain ⟨m3, hm3⟩ : ∃ m3, m3 = uO u := ⟨_, rfl⟩
      rw [← hn1, ← hn2, ← hn3, ← hn4] at KA KB
      rw [← hm1, ← hm2, ← hm3] at KC KD
      clear hn1 hn2 hn3 hn4 hm1 hm2 hm3 hU HU
      go_wp2_with fail
      refine (KA.out _).mono ?_
      rintro q w5 ⟨rfl, b5⟩
      have B5 : Hid (Below w.heap.size w w5) := B4.out.trans (b5.mono B4.out.size)
      clear b5
      go_wp2_with fail
      refine (KB.out _).mono ?_
      rintro q w6 ⟨rfl, b6⟩
      have B6 : Hid (Below w.heap.size w w6) := B5.out.trans (b6.mono B5.out.size)
      clear b6
      go_wp2_with fail
      refine (KC.out _).mono ?_
      rintro q w7 ⟨rfl, b7⟩
      have B7 : Hid (Below w.heap.size w w7) := B6.out.trans (b7.mono B6.out.size)
      clear b7
      go_wp2_with fail
      refine (KD.out _).mono ?_
      rintro q w8 ⟨rfl, b8⟩
      have B8 : Hid (Below w.heap.size w w8) := B7.out.trans (b8.mono B7.out.size)
      clear b8
      go_wp2
      go_ret
      exact ⟨rfl, B8.out⟩
end Go.Proofs.Ytpdbeijfchmlgaa
