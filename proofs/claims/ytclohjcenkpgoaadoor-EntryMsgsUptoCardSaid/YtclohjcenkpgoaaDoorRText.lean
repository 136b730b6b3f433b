/-
  What an entry tells: the document's way.
  Conditions: the numbers are those of their kinds; the texts are of at most 2^40 bytes.
-/
import Derived.Test.YtclohjcenkpgoaaDoorMade
import Derived.Deep.RegionHeld3
import Derived.Deep.CutRange
namespace Go.Proofs.YtclohjcenkpgoaaDoor
open Go.RowKit
set_option linter.unusedVariables false

/-- What is told so far, and that the letter is told. -/
theorem told_yes {T : ByteArray} {e : En} {i : Nat} {c : Int} (x : List UInt8) (hT : T = headS e ++ str (bodyL (fl e.kind) e i)) (hc : ordL[i]? = some c) (hx : x = [32, UInt8.ofNat c.toNat, 61]) (hh : hasL (fl e.kind) c = true) : T ++ str x ++ tell c e = headS e ++ str (bodyL (fl e.kind) e (i + 1)) := by
  rw [piece_step _ _ _ _ hc, hT, ← str_app, ByteArray.append_assoc, ByteArray.append_assoc]
  unfold piece
  rw [if_pos hh, hx, ← str_app]
  rfl
theorem told_no {T : ByteArray} {e : En} {i : Nat} {c : Int} (hT : T = headS e ++ str (bodyL (fl e.kind) e i)) (hc : ordL[i]? = some c) (hh : hasL (fl e.kind) c = false) : T = headS e ++ str (bodyL (fl e.kind) e (i + 1)) := by
  rw [piece_step _ _ _ _ hc, hT]
  unfold piece
  rw [if_neg (by rw [hh]; simp), List.append_nil]
theorem told_size {T : ByteArray} {e : En} {i : Nat} (ok : e.Ok) (hd : e.data.size ≤ 1099511627776) (ho : e.old.size ≤ 1099511627776) (hT : T = headS e ++ str (bodyL (fl e.kind) e i)) (hi : i ≤ 7) : T.size ≤ 15393162789284 := by
  have h1 := head_size e ok
  have h2 := body_length (fl e.kind) e ok hd ho i
  have h3 : i * 2199023255603 ≤ 7 * 2199023255603 := Nat.mul_le_mul_right _ hi
  rw [hT, size_app, str_size]
  omega

/-- The document's Text underway. -/
structure Tw (w0 : World) (e : En) (w : World) : Prop where
  bx : Bx w0.heap.size e 24 w
  be : Below w0.heap.size w0 w
theorem Tw.on {w0 w w1 : World} {e : En} (h : Tw w0 e w) (hb : Below w.heap.size w w1) : Tw w0 e w1 := ⟨h.bx.below hb, h.be.trans (hb.mono h.be.size)⟩
theorem Tw.drew {w0 w : World} {e : En} (h : Tw w0 e w) : Tw w0 e w.drew := ⟨⟨h.bx.bx⟩, h.be.drew⟩

set_option maxRecDepth 100000 in
set_option maxHeartbeats 8000000 in
theorem rtext_any (e : En) (w : World) (ok : e.Ok) (hd : e.data.size ≤ 1099511627776) (ho : e.old.size ≤ 1099511627776) :
    Calls Tryd.prog 18 #[ev e] w fun r w' => r = .returned (.string (textS e)) ∧ Below w.heap.size w w' := by
  obtain ⟨wr, hW⟩ : ∃ wr, wr = w.alloc (Obj.cells (ec e) 24) := ⟨_, rfl⟩
  have hb0 : Below w.heap.size w wr := by rw [hW]; exact (Below.refl _ _).alloc (Nat.le_refl _) _
  have hbx : Bx w.heap.size e 24 wr := ⟨by rw [hW]; exact heap_alloc_new w _⟩
  have KN := Lib.hid (fun (W : World) (h : Tw w e W) => (rnum_any e.kind W ok.k0 ok.k1).mono fun r w1 ⟨hr, hb⟩ => And.intro hr (And.intro (h.on hb) (And.intro ((h.on hb).bx.cell 0) (And.intro ((h.on hb).bx.cell 1) ((h.on hb).bx.cell 2)))))
  have KT := Lib.hid (fun (W : World) (h : Tw w e W) => (rdigits_any e.term W ok.t0 ok.t1).mono fun r w1 ⟨hr, hb⟩ => And.intro hr (And.intro (h.on hb) (And.intro ((h.on hb).bx.cell 0) (And.intro ((h.on hb).bx.cell 1) ((h.on hb).bx.cell 2)))))
  have KX := Lib.hid (fun (W : World) (h : Tw w e W) => (rdigits_any e.index W ok.i0 ok.i1).mono fun r w1 ⟨hr, hb⟩ => And.intro hr (And.intro (h.on hb) (And.intro ((h.on hb).bx.cell 0) (And.intro ((h.on hb).bx.cell 1) ((h.on hb).bx.cell 2)))))
  have KC := Lib.hid (fun (W : World) (h : Tw w e W) => (rdigits_any e.client W ok.c0 ok.c1).mono fun r w1 ⟨hr, hb⟩ => And.intro hr (And.intro (h.on hb) (And.intro ((h.on hb).bx.cell 3) ((h.on hb).bx.cell 4))))
  have KQ := Lib.hid (fun (W : World) (h : Tw w e W) => (rdigits_any e.seq W ok.s0 ok.s1).mono fun r w1 ⟨hr, hb⟩ => And.intro hr (And.intro (h.on hb) (And.intro ((h.on hb).bx.cell 3) ((h.on hb).bx.cell 4))))
  have KB := Lib.hid (fun (W : World) (h : Tw w e W) => (rdigits_any e.block W ok.b0 ok.b1).mono fun r w1 ⟨hr, hb⟩ => And.intro hr (h.on hb))
  have KM := Lib.hid (fun (W : World) (h : Tw w e W) => (rdigits_any e.many W ok.m0 ok.m1).mono fun r w1 ⟨hr, hb⟩ => And.intro hr (h.on hb))
  have KD := Lib.hid (fun (W : World) (h : Tw w e W) => (rnum_any e.node W ok.n0 ok.n1).mono fun r w1 ⟨hr, hb⟩ => And.intro hr (h.on hb))
  have KL := Lib.hid (fun (W : World) (h : Tw w e W) => (rnum_any e.level W ok.l0 ok.l1).mono fun r w1 ⟨hr, hb⟩ => And.intro hr (h.on hb))
  have KA := Lib.hid (fun (W : World) (h : Tw w e W) => (rhex_any e.data W (Nat.le_trans hd (by omega))).mono fun r w1 ⟨hr, hb⟩ => And.intro hr (h.on hb))
  have KO := Lib.hid (fun (W : World) (h : Tw w e W) => (rhex_any e.old W (Nat.le_trans ho (by omega))).mono fun r w1 ⟨hr, hb⟩ => And.intro hr (h.on hb))
  have KF := Lib.hid (fun (W : World) (h : Tw w e W) => (rfields_any e.kind W).mono fun r w1 ⟨hr, hb⟩ => And.intro hr (h.on hb))
  have KH := Lib.hid (fun (c : Int) (W : World) => has_any (fl e.kind) c W (by have := fl_size e.kind; omega))
  have SZ := Lib.hid (fun (T : ByteArray) (i : Nat) (hT : T = headS e ++ str (bodyL (fl e.kind) e i)) (hi : i ≤ 7) => told_size ok hd ho hT hi)
  have n1 := num_size e.kind ok.k0 ok.k1
  have n2 := dec_size e.term ok.t1
  have n3 := dec_size e.index ok.i1
  have n4 := dec_size e.client ok.c1
  have n5 := dec_size e.seq ok.s1
  have n6 := dec_size e.block ok.b1
  have n7 := dec_size e.many ok.m1
  have n8 := num_size e.node ok.n0 ok.n1
  have n9 := num_size e.level ok.l0 ok.l1
  have n10 := hex_size e.data
  have n11 := hex_size e.old
  have q1 : ¬ 9223372036854775807 < (num e.kind).size + 1 := by omega
  have q2 : ¬ 9223372036854775807 < (num e.kind).size + 1 + (dec e.term).size := by omega
  have q3 : ¬ 9223372036854775807 < (num e.kind).size + 1 + (dec e.term).size + 1 := by omega
  have q4 : ¬ 9223372036854775807 < (num e.kind).size + 1 + (dec e.term).size + 1 + (dec e.index).size := by omega
  have T99 : Hid (tell 99 e = dec e.client ++ str [47] ++ dec e.seq) := by show _ = _; simp [tell]
  have T98 : Hid (tell 98 e = dec e.block) := by show _ = _; simp [tell]
  have T109 : Hid (tell 109 e = dec e.many) := by show _ = _; simp [tell]
  have T110 : Hid (tell 110 e = num e.node) := by show _ = _; simp [tell]
  have T108 : Hid (tell 108 e = num e.level) := by show _ = _; simp [tell]
  have T100 : Hid (tell 100 e = hex e.data) := by show _ = _; simp [tell]
  have T111 : Hid (tell 111 e = hex e.old) := by show _ = _; simp [tell]
  have HH0 : Hid (num e.kind ++ str [32] ++ dec e.term ++ str [46] ++ dec e.index = headS e ++ str (bodyL (fl e.kind) e 0)) := by
    show headS e = _
    have h : str (bodyL (fl e.kind) e 0) = ByteArray.empty := rfl
    rw [h, ByteArray.append_empty]
  have HD := Lib.hid hd
  have HO := Lib.hid ho
  have HW := Lib.hid hW
  have H0 : Hid (Tw w e wr) := ⟨hbx, hb0⟩
  clear ok hb0 hbx hd ho
  go_enter Tryd.func18, Tryd.ntmps18
  go_wp2_with (go_at_call 12; (fail))
  rw [← hW]
  clear hW
  with_reducible refine (KF.out _ H0.out).mono ?_
  rintro r w1 ⟨rfl, h1⟩
  have c0 : w1.cell? ⟨w.heap.size, 0, none⟩ = some (.int .u64 e.term) := h1.bx.cell 0
  have c1 : w1.cell? ⟨w.heap.size, 1, none⟩ = some (.int .u64 e.index) := h1.bx.cell 1
  have c2 : w1.cell? ⟨w.heap.size, 2, none⟩ = some (.int .i64 e.kind) := h1.bx.cell 2
  have h1d := h1.drew
  go_upto_region 2 with fail
  go_cut [5] from 12 to 24 (fun s wx => s = .string (headS e ++ str (bodyL (fl e.kind) e 0)) ∧ Tw w e wx)
  case first =>
    go_region_held3 (fun w' => Tw w e w' ∧ w'.cell? ⟨w.heap.size, 0, none⟩ = some (.int .u64 e.term) ∧ w'.cell? ⟨w.heap.size, 1, none⟩ = some (.int .u64 e.index) ∧ w'.cell? ⟨w.heap.size, 2, none⟩ = some (.int .i64 e.kind))
      (first | exact ⟨h1d, c0, c1, c2⟩ | exact ⟨by assumption, by assumption, by assumption, by assumption⟩)
      (first
        | (go_at_call 37; (with_reducible refine (KN.out _ ?_).mono ?_); (assumption); rintro r w2 ⟨rfl, k1, k2, k3, k4⟩)
        | (go_at_call 38; (with_reducible refine (KT.out _ ?_).mono ?_); (assumption); rintro r w2 ⟨rfl, k1, k2, k3, k4⟩)
        | (go_at_call 38; (with_reducible refine (KX.out _ ?_).mono ?_); (assumption); rintro r w2 ⟨rfl, k1, k2, k3, k4⟩))
    all_goals
      rename_i hk
      go_wp2_with fail
      go_meet
      exact ⟨congrArg Value.string HH0.out, hk.1⟩
  case rest =>
    obtain ⟨rfl, h2⟩ := hcut
    clear h1 h1d c0 c1 c2
    obtain ⟨T0, hT0⟩ : ∃ T, T = headS e ++ str (bodyL (fl e.kind) e 0) := ⟨_, rfl⟩
    rw [← hT0]
    have HT0 := Lib.hid hT0
    clear hT0
    have s0 := SZ.out T0 0 HT0.out (by omega)
    go_upto_if 26 with (go_at_call 34; (with_reducible refine (KH.out 99 _).mono ?_); rintro r w2 ⟨rfl, rfl⟩)
    go_cut [5] from 26 to 37 (fun s wx => s = .string (headS e ++ str (bodyL (fl e.kind) e 1)) ∧ Tw w e wx)
    case first =>
      cases hh : hasL (fl e.kind) 99 with
      | false =>
        have hn : Hid (T0 = headS e ++ str (bodyL (fl e.kind) e 1)) := told_no HT0.out rfl hh
        clear hh
        go_wp2_with fail
        go_meet
        exact ⟨congrArg Value.string hn.out, h2⟩
      | true =>
        have hn : Hid (T0 ++ str [32, 99, 61] ++ (dec e.client ++ str [47] ++ dec e.seq) = headS e ++ str (bodyL (fl e.kind) e 1)) := by have h := told_yes [32, 99, 61] HT0.out rfl rfl hh; rw [T99.out] at h; exact h
        clear hh
        have d3 : wc.cell? ⟨w.heap.size, 3, none⟩ = some (.int .u64 e.client) := h2.bx.cell 3
        have d4 : wc.cell? ⟨w.heap.size, 4, none⟩ = some (.int .u64 e.seq) := h2.bx.cell 4
        have hxd := h2.drew
        have z1 : ¬ 9223372036854775807 < T0.size + 3 := by omega
        have z2 : ¬ 9223372036854775807 < T0.size + 3 + (dec e.client).size := by omega
        have z3 : ¬ 9223372036854775807 < T0.size + 3 + (dec e.client).size + 1 := by omega
        have z4 : ¬ 9223372036854775807 < T0.size + 3 + (dec e.client).size + 1 + (dec e.seq).size := by omega
        go_wp2_with fail
        go_region_held3 (fun w' => Tw w e w' ∧ w'.cell? ⟨w.heap.size, 3, none⟩ = some (.int .u64 e.client) ∧ w'.cell? ⟨w.heap.size, 4, none⟩ = some (.int .u64 e.seq))
          (first | exact ⟨hxd, d3, d4⟩ | exact ⟨by assumption, by assumption, by assumption⟩)
          (first
            | (go_at_call 38; (with_reducible refine (KC.out _ ?_).mono ?_); (assumption); rintro r w2 ⟨rfl, k1, k2, k3⟩)
            | (go_at_call 38; (with_reducible refine (KQ.out _ ?_).mono ?_); (assumption); rintro r w2 ⟨rfl, k1, k2, k3⟩))
        all_goals
          rename_i hk
          go_wp2_with fail
          go_meet
          refine ⟨congrArg Value.string ?_, hk.1⟩
          rw [← hn.out, ← ByteArray.append_assoc, ← ByteArray.append_assoc]
          rfl
    case rest =>
      obtain ⟨rfl, h3⟩ := hcut
      obtain ⟨T1, hT1⟩ : ∃ T, T = headS e ++ str (bodyL (fl e.kind) e 1) := ⟨_, rfl⟩
      rw [← hT1]
      have HT1 := Lib.hid hT1
      clear hT1 HT0 s0 h2
      have s1 := SZ.out T1 1 HT1.out (by omega)
      go_upto_if 39 with (go_at_call 34; (with_reducible refine (KH.out 98 _).mono ?_); rintro r w2 ⟨rfl, rfl⟩)
      go_cut [5] from 39 to 45 (fun s wx => s = .string (headS e ++ str (bodyL (fl e.kind) e 2)) ∧ Tw w e wx)
      case first =>
        cases hh : hasL (fl e.kind) 98 with
        | false =>
          have hn : Hid (T1 = headS e ++ str (bodyL (fl e.kind) e 2)) := told_no HT1.out rfl hh
          clear hh
          go_wp2_with fail
          go_meet
          exact ⟨congrArg Value.string hn.out, h3⟩
        | true =>
          have hn : Hid (T1 ++ str [32, 98, 61] ++ dec e.block = headS e ++ str (bodyL (fl e.kind) e 2)) := by have h := told_yes [32, 98, 61] HT1.out rfl rfl hh; rw [T98.out] at h; exact h
          clear hh
          have d : wc.cell? ⟨w.heap.size, 5, none⟩ = some (.int .u64 e.block) := h3.bx.cell 5
          have z1 : ¬ 9223372036854775807 < T1.size + 3 := by omega
          have z2 : ¬ 9223372036854775807 < T1.size + 3 + (dec e.block).size := by have := HD.out; have := HO.out; omega
          go_wp2_with (go_at_call 38; (with_reducible refine (KB.out _ h3).mono ?_); rintro r w2 ⟨rfl, hx2⟩)
          go_meet
          exact ⟨congrArg Value.string hn.out, hx2⟩
      case rest =>
        obtain ⟨rfl, h4⟩ := hcut
        obtain ⟨T2, hT2⟩ : ∃ T, T = headS e ++ str (bodyL (fl e.kind) e 2) := ⟨_, rfl⟩
        rw [← hT2]
        have HT2 := Lib.hid hT2
        clear hT2 HT1 s1 h3
        have s2 := SZ.out T2 2 HT2.out (by omega)
        go_upto_if 47 with (go_at_call 34; (with_reducible refine (KH.out 109 _).mono ?_); rintro r w2 ⟨rfl, rfl⟩)
        go_cut [5] from 47 to 53 (fun s wx => s = .string (headS e ++ str (bodyL (fl e.kind) e 3)) ∧ Tw w e wx)
        case first =>
          cases hh : hasL (fl e.kind) 109 with
          | false =>
            have hn : Hid (T2 = headS e ++ str (bodyL (fl e.kind) e 3)) := told_no HT2.out rfl hh
            clear hh
            go_wp2_with fail
            go_meet
            exact ⟨congrArg Value.string hn.out, h4⟩
          | true =>
            have hn : Hid (T2 ++ str [32, 109, 61] ++ dec e.many = headS e ++ str (bodyL (fl e.kind) e 3)) := by have h := told_yes [32, 109, 61] HT2.out rfl rfl hh; rw [T109.out] at h; exact h
            clear hh
            have d : wc.cell? ⟨w.heap.size, 6, none⟩ = some (.int .u64 e.many) := h4.bx.cell 6
            have z1 : ¬ 9223372036854775807 < T2.size + 3 := by omega
            have z2 : ¬ 9223372036854775807 < T2.size + 3 + (dec e.many).size := by have := HD.out; have := HO.out; omega
            go_wp2_with (go_at_call 38; (with_reducible refine (KM.out _ h4).mono ?_); rintro r w2 ⟨rfl, hx2⟩)
            go_meet
            exact ⟨congrArg Value.string hn.out, hx2⟩
        case rest =>
          obtain ⟨rfl, h5⟩ := hcut
          obtain ⟨T3, hT3⟩ : ∃ T, T = headS e ++ str (bodyL (fl e.kind) e 3) := ⟨_, rfl⟩
          rw [← hT3]
          have HT3 := Lib.hid hT3
          clear hT3 HT2 s2 h4
          have s3 := SZ.out T3 3 HT3.out (by omega)
          go_upto_if 55 with (go_at_call 34; (with_reducible refine (KH.out 110 _).mono ?_); rintro r w2 ⟨rfl, rfl⟩)
          go_cut [5] from 55 to 61 (fun s wx => s = .string (headS e ++ str (bodyL (fl e.kind) e 4)) ∧ Tw w e wx)
          case first =>
            cases hh : hasL (fl e.kind) 110 with
            | false =>
              have hn : Hid (T3 = headS e ++ str (bodyL (fl e.kind) e 4)) := told_no HT3.out rfl hh
              clear hh
              go_wp2_with fail
              go_meet
              exact ⟨congrArg Value.string hn.out, h5⟩
            | true =>
              have hn : Hid (T3 ++ str [32, 110, 61] ++ num e.node = headS e ++ str (bodyL (fl e.kind) e 4)) := by have h := told_yes [32, 110, 61] HT3.out rfl rfl hh; rw [T110.out] at h; exact h
              clear hh
              have d : wc.cell? ⟨w.heap.size, 7, none⟩ = some (.int .i64 e.node) := h5.bx.cell 7
              have z1 : ¬ 9223372036854775807 < T3.size + 3 := by omega
              have z2 : ¬ 9223372036854775807 < T3.size + 3 + (num e.node).size := by have := HD.out; have := HO.out; omega
              go_wp2_with (go_at_call 37; (with_reducible refine (KD.out _ h5).mono ?_); rintro r w2 ⟨rfl, hx2⟩)
              go_meet
              exact ⟨congrArg Value.string hn.out, hx2⟩
          case rest =>
            obtain ⟨rfl, h6⟩ := hcut
            obtain ⟨T4, hT4⟩ : ∃ T, T = headS e ++ str (bodyL (fl e.kind) e 4) := ⟨_, rfl⟩
            rw [← hT4]
            have HT4 := Lib.hid hT4
            clear hT4 HT3 s3 h5
            have s4 := SZ.out T4 4 HT4.out (by omega)
            go_upto_if 63 with (go_at_call 34; (with_reducible refine (KH.out 108 _).mono ?_); rintro r w2 ⟨rfl, rfl⟩)
            go_cut [5] from 63 to 69 (fun s wx => s = .string (headS e ++ str (bodyL (fl e.kind) e 5)) ∧ Tw w e wx)
            case first =>
              cases hh : hasL (fl e.kind) 108 with
              | false =>
                have hn : Hid (T4 = headS e ++ str (bodyL (fl e.kind) e 5)) := told_no HT4.out rfl hh
                clear hh
                go_wp2_with fail
                go_meet
                exact ⟨congrArg Value.string hn.out, h6⟩
              | true =>
                have hn : Hid (T4 ++ str [32, 108, 61] ++ num e.level = headS e ++ str (bodyL (fl e.kind) e 5)) := by have h := told_yes [32, 108, 61] HT4.out rfl rfl hh; rw [T108.out] at h; exact h
                clear hh
                have d : wc.cell? ⟨w.heap.size, 8, none⟩ = some (.int .i64 e.level) := h6.bx.cell 8
                have z1 : ¬ 9223372036854775807 < T4.size + 3 := by omega
                have z2 : ¬ 9223372036854775807 < T4.size + 3 + (num e.level).size := by have := HD.out; have := HO.out; omega
                go_wp2_with (go_at_call 37; (with_reducible refine (KL.out _ h6).mono ?_); rintro r w2 ⟨rfl, hx2⟩)
                go_meet
                exact ⟨congrArg Value.string hn.out, hx2⟩
            case rest =>
              obtain ⟨rfl, h7⟩ := hcut
              obtain ⟨T5, hT5⟩ : ∃ T, T = headS e ++ str (bodyL (fl e.kind) e 5) := ⟨_, rfl⟩
              rw [← hT5]
              have HT5 := Lib.hid hT5
              clear hT5 HT4 s4 h6
              have s5 := SZ.out T5 5 HT5.out (by omega)
              go_upto_if 71 with (go_at_call 34; (with_reducible refine (KH.out 100 _).mono ?_); rintro r w2 ⟨rfl, rfl⟩)
              go_cut [5] from 71 to 77 (fun s wx => s = .string (headS e ++ str (bodyL (fl e.kind) e 6)) ∧ Tw w e wx)
              case first =>
                cases hh : hasL (fl e.kind) 100 with
                | false =>
                  have hn : Hid (T5 = headS e ++ str (bodyL (fl e.kind) e 6)) := told_no HT5.out rfl hh
                  clear hh
                  go_wp2_with fail
                  go_meet
                  exact ⟨congrArg Value.string hn.out, h7⟩
                | true =>
                  have hn : Hid (T5 ++ str [32, 100, 61] ++ hex e.data = headS e ++ str (bodyL (fl e.kind) e 6)) := by have h := told_yes [32, 100, 61] HT5.out rfl rfl hh; rw [T100.out] at h; exact h
                  clear hh
                  have d : wc.cell? ⟨w.heap.size, 9, none⟩ = some (.string e.data) := h7.bx.cell 9
                  have z1 : ¬ 9223372036854775807 < T5.size + 3 := by omega
                  have z2 : ¬ 9223372036854775807 < T5.size + 3 + (hex e.data).size := by have := HD.out; have := HO.out; omega
                  go_wp2_with (go_at_call 39; (with_reducible refine (KA.out _ h7).mono ?_); rintro r w2 ⟨rfl, hx2⟩)
                  go_meet
                  exact ⟨congrArg Value.string hn.out, hx2⟩
              case rest =>
                obtain ⟨rfl, h8⟩ := hcut
                obtain ⟨T6, hT6⟩ : ∃ T, T = headS e ++ str (bodyL (fl e.kind) e 6) := ⟨_, rfl⟩
                rw [← hT6]
                have HT6 := Lib.hid hT6
                clear hT6 HT5 s5 h7
                have s6 := SZ.out T6 6 HT6.out (by omega)
                go_upto_if 79 with (go_at_call 34; (with_reducible refine (KH.out 111 _).mono ?_); rintro r w2 ⟨rfl, rfl⟩)
                go_cut [5] from 79 to 85 (fun s wx => s = .string (headS e ++ str (bodyL (fl e.kind) e 7)) ∧ Tw w e wx)
                case first =>
                  cases hh : hasL (fl e.kind) 111 with
                  | false =>
                    have hn : Hid (T6 = headS e ++ str (bodyL (fl e.kind) e 7)) := told_no HT6.out rfl hh
                    clear hh
                    go_wp2_with fail
                    go_meet
                    exact ⟨congrArg Value.string hn.out, h8⟩
                  | true =>
                    have hn : Hid (T6 ++ str [32, 111, 61] ++ hex e.old = headS e ++ str (bodyL (fl e.kind) e 7)) := by have h := told_yes [32, 111, 61] HT6.out rfl rfl hh; rw [T111.out] at h; exact h
                    clear hh
                    have d : wc.cell? ⟨w.heap.size, 10, none⟩ = some (.string e.old) := h8.bx.cell 10
                    have z1 : ¬ 9223372036854775807 < T6.size + 3 := by omega
                    have z2 : ¬ 9223372036854775807 < T6.size + 3 + (hex e.old).size := by have := HD.out; have := HO.out; omega
                    go_wp2_with (go_at_call 39; (with_reducible refine (KO.out _ h8).mono ?_); rintro r w2 ⟨rfl, hx2⟩)
                    go_meet
                    exact ⟨congrArg Value.string hn.out, hx2⟩
                case rest =>
                  obtain ⟨rfl, h9⟩ := hcut
                  obtain ⟨T7, hT7⟩ : ∃ T, T = headS e ++ str (bodyL (fl e.kind) e 7) := ⟨_, rfl⟩
                  rw [← hT7]
                  have HT7 := Lib.hid hT7
                  clear hT7 HT6 s6 h8
                  go_wp2
                  go_ret
                  exact ⟨ret_str (by rw [HT7.out]; rfl), h9.be⟩
end Go.Proofs.YtclohjcenkpgoaaDoor
