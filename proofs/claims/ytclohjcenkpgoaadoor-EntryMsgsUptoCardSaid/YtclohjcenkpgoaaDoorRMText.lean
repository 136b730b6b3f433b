/-
  What a message tells: the document's way.
  Conditions: the numbers are those of their kinds; the texts are of at most 2^20 bytes.
-/
import Derived.Test.YtclohjcenkpgoaaDoorRText
import Derived.Test.YtclohjcenkpgoaaDoorMTxt
import Derived.Test.YtclohjcenkpgoaaDoorMRight
import Derived.Test.YtclohjcenkpgoaaDoorNMath
import Derived.Deep.RegionHeld3
import Derived.Deep.CutRange
namespace Go.Proofs.YtclohjcenkpgoaaDoor
open Go.RowKit
set_option linter.unusedVariables false

theorem mfl_size0 (r : Int) : (mfl r).size ≤ 5 := by
  unfold mfl
  repeat' split
  all_goals decide
theorem mtold_yes {T : ByteArray} {m : Ms} {i : Nat} {c : Int} (x : List UInt8) (hT : T = mheadS m ++ str (mbodyL (mfl m.kind) m i)) (hc : mordL[i]? = some c) (hx : x = [32, UInt8.ofNat c.toNat, 61]) (hh : hasL (mfl m.kind) c = true) : T ++ str x ++ mtell c m = mheadS m ++ str (mbodyL (mfl m.kind) m (i + 1)) := by
  rw [mpiece_step _ _ _ _ hc, hT, ← str_app, ByteArray.append_assoc, ByteArray.append_assoc]
  unfold mpiece
  rw [if_pos hh, hx, ← str_app]
  rfl
theorem mtold_no {T : ByteArray} {m : Ms} {i : Nat} {c : Int} (hT : T = mheadS m ++ str (mbodyL (mfl m.kind) m i)) (hc : mordL[i]? = some c) (hh : hasL (mfl m.kind) c = false) : T = mheadS m ++ str (mbodyL (mfl m.kind) m (i + 1)) := by
  rw [mpiece_step _ _ _ _ hc, hT]
  unfold mpiece
  rw [if_neg (by rw [hh]; simp), List.append_nil]
theorem mtold_size {T : ByteArray} {m : Ms} {i : Nat} (ok : m.Ok) (hl : m.es.length = m.n) (hT : T = mheadS m ++ str (mbodyL (mfl m.kind) m i)) (hi : i ≤ 7) : T.size ≤ 107800000000121 := by
  have h1 := mhead_size m ok
  have h2 := mbody_length (mfl m.kind) m ok hl i
  have h3 : i * 15400000000005 ≤ 7 * 15400000000005 := Nat.mul_le_mul_right _ hi
  rw [hT, size_app, str_size]
  omega
/-- The texts of the first k entries, joined. -/
def jnT (es : List En) (k : Nat) : List UInt8 := Lib.join ((es.take k).map fun e => (textS e).data.toList) [59]
theorem jnT_first (es : List En) (e : En) (h : es[0]? = some e) : jnT es 1 = (textS e).data.toList := by
  unfold jnT
  rw [List.take_add_one, h]
  exact Lib.join_one _ _
theorem jnT_next (es : List En) (k : Nat) (e : En) (hk : 0 < k) (h : es[k]? = some e) : jnT es (k + 1) = jnT es k ++ [59] ++ (textS e).data.toList := by
  unfold jnT
  cases es with
  | nil => cases h
  | cons a r =>
    obtain ⟨j, rfl⟩ : ∃ j, k = j + 1 := ⟨k - 1, by omega⟩
    rw [List.take_succ_cons, List.take_succ_cons, List.map_cons, List.map_cons, Lib.join_cons, Lib.join_cons, List.map_take, List.map_take, Lib.joinTail_take_succ [59] (r.map fun e => (textS e).data.toList) j (textS e).data.toList (by rw [List.getElem?_map]; rw [List.getElem?_cons_succ] at h; rw [h]; rfl)]
    simp only [List.append_assoc]
theorem jnT_size (m : Ms) (ok : m.Ok) (hl : m.es.length = m.n) (k : Nat) (hk : k ≤ m.n) : (jnT m.es k).length ≤ 15400000000000 := by
  have h := join_le ((m.es.take k).map fun e => (textS e).data.toList) 14680148 (fun x hx => by
    obtain ⟨e, he, rfl⟩ := List.mem_map.1 hx
    have he := List.mem_of_mem_take he
    exact textS_size2 e (ok.eo e he) (ok.ed e he) (ok.ee e he))
  have hn := ok.n1
  rw [List.length_map, List.length_take, hl] at h
  have h2 : min k m.n ≤ 1048576 := by omega
  unfold jnT
  have h3 : min k m.n * 14680148 ≤ 1048576 * 14680148 := Nat.mul_le_mul_right _ h2
  omega
theorem jnT_all (m : Ms) (k : Nat) (h : m.es.length ≤ k) : str ([91] ++ jnT m.es k ++ [93]) = str (entsL m.es) := by
  unfold jnT entsL
  rw [List.take_of_length_le h]

/-- The document's MsgText underway. -/
structure Tm (w0 : World) (m : Ms) (w : World) : Prop where
  bx : By w0.heap.size m 38 w
  en : Ents w.heap.size m.A m.n m.es w
  be : Below w0.heap.size w0 w
theorem Tm.on {w0 w w1 : World} {m : Ms} (h : Tm w0 m w) (hb : Below w.heap.size w w1) : Tm w0 m w1 := ⟨h.bx.below hb, (h.en.below hb).mr hb.size, h.be.trans (hb.mono h.be.size)⟩
theorem Tm.drew {w0 w : World} {m : Ms} (h : Tm w0 m w) : Tm w0 m w.drew := ⟨⟨h.bx.bx⟩, h.en.below (Below.refl _ w).drew, h.be.drew⟩

set_option maxRecDepth 100000 in
set_option maxHeartbeats 8000000 in
theorem rmtext_any (m : Ms) (w : World) (ok : m.Ok) (hE : Ents w.heap.size m.A m.n m.es w) :
    Calls Tryd.prog 29 #[mv m] w fun r w' => r = .returned (.string (mtextS m)) ∧ Below w.heap.size w w' := by
  obtain ⟨wr, hW⟩ : ∃ wr, wr = w.alloc (Obj.cells (mc m) 38) := ⟨_, rfl⟩
  have hb0 : Below w.heap.size w wr := by rw [hW]; exact (Below.refl _ _).alloc (Nat.le_refl _) _
  have hbx : By w.heap.size m 38 wr := ⟨by rw [hW]; exact heap_alloc_new w _⟩
  have hle := hE.len
  have k4 : ∀ {r : Ending} {R : Ending} {W w1 : World}, r = R → Below W.heap.size W w1 → Tm w m W → r = R ∧ Tm w m w1 ∧ w1.cell? ⟨w.heap.size, 0, none⟩ = some (.int .i64 m.kind) ∧ w1.cell? ⟨w.heap.size, 1, none⟩ = some (.int .i64 m.frm) ∧ w1.cell? ⟨w.heap.size, 2, none⟩ = some (.int .i64 m.to) ∧ w1.cell? ⟨w.heap.size, 3, none⟩ = some (.int .u64 m.term) := fun hr hb h => ⟨hr, h.on hb, (h.on hb).bx.cell 0, (h.on hb).bx.cell 1, (h.on hb).bx.cell 2, (h.on hb).bx.cell 3⟩
  have KN := Lib.hid (fun (W : World) (h : Tm w m W) => (rnum_any m.kind W ok.k0 ok.k1).mono fun r w1 ⟨hr, hb⟩ => k4 hr hb h)
  have KR := Lib.hid (fun (W : World) (h : Tm w m W) => (rnum_any m.frm W ok.f0 ok.f1).mono fun r w1 ⟨hr, hb⟩ => k4 hr hb h)
  have KU := Lib.hid (fun (W : World) (h : Tm w m W) => (rnum_any m.to W ok.o0 ok.o1).mono fun r w1 ⟨hr, hb⟩ => k4 hr hb h)
  have KT := Lib.hid (fun (W : World) (h : Tm w m W) => (rdigits_any m.term W ok.t0 ok.t1).mono fun r w1 ⟨hr, hb⟩ => k4 hr hb h)
  have KI := Lib.hid (fun (W : World) (h : Tm w m W) => (rdigits_any m.index W ok.i0 ok.i1).mono fun r w1 ⟨hr, hb⟩ => And.intro hr (h.on hb))
  have KP := Lib.hid (fun (W : World) (h : Tm w m W) => (rdigits_any m.prev W ok.p0 ok.p1).mono fun r w1 ⟨hr, hb⟩ => And.intro hr (h.on hb))
  have KC := Lib.hid (fun (W : World) (h : Tm w m W) => (rdigits_any m.commit W ok.c0 ok.c1).mono fun r w1 ⟨hr, hb⟩ => And.intro hr (h.on hb))
  have KK := Lib.hid (fun (W : World) (h : Tm w m W) => (rdigits_any m.mark W ok.m0 ok.m1).mono fun r w1 ⟨hr, hb⟩ => And.intro hr (h.on hb))
  have KS := Lib.hid (fun (W : World) (h : Tm w m W) => (rhex_any m.snap W (Nat.le_trans ok.s1 (by omega))).mono fun r w1 ⟨hr, hb⟩ => And.intro hr (h.on hb))
  have KF := Lib.hid (fun (W : World) (h : Tm w m W) => (rmfields_any m.kind W).mono fun r w1 ⟨hr, hb⟩ => And.intro hr (h.on hb))
  have KE := Lib.hid (fun (e : En) (he : e ∈ m.es) (W : World) (h : Tm w m W) => (rtext_any e W (ok.eo e he) (Nat.le_trans (ok.ed e he) (by omega)) (Nat.le_trans (ok.ee e he) (by omega))).mono fun r w1 ⟨hr, hb⟩ => And.intro hr (h.on hb))
  have KH := Lib.hid (fun (c : Int) (W : World) => has_any (mfl m.kind) c W (by have := mfl_size0 m.kind; omega))
  have SZ := Lib.hid (fun (T : ByteArray) (i : Nat) (hT : T = mheadS m ++ str (mbodyL (mfl m.kind) m i)) (hi : i ≤ 7) => mtold_size ok hle hT hi)
  have JZ := Lib.hid (fun (k : Nat) (hk : k ≤ m.n) => jnT_size m ok hle k hk)
  have TZ := Lib.hid (fun (e : En) (he : e ∈ m.es) => textS_size2 e (ok.eo e he) (ok.ed e he) (ok.ee e he))
  have n1 := num_size m.kind ok.k0 ok.k1
  have n2 := num_size m.frm ok.f0 ok.f1
  have n3 := num_size m.to ok.o0 ok.o1
  have n4 := dec_size m.term ok.t1
  have n5 := dec_size m.index ok.i1
  have n6 := dec_size m.prev ok.p1
  have n7 := dec_size m.commit ok.c1
  have n8 := dec_size m.mark ok.m1
  have n9 := hex_size m.snap
  have n10 := ok.s1
  have hn1 := ok.n1
  have q1 : ¬ 9223372036854775807 < (num m.kind).size + 1 := by omega
  have q2 : ¬ 9223372036854775807 < (num m.kind).size + 1 + (num m.frm).size := by omega
  have q3 : ¬ 9223372036854775807 < (num m.kind).size + 1 + (num m.frm).size + 1 := by omega
  have q4 : ¬ 9223372036854775807 < (num m.kind).size + 1 + (num m.frm).size + 1 + (num m.to).size := by omega
  have q5 : ¬ 9223372036854775807 < (num m.kind).size + 1 + (num m.frm).size + 1 + (num m.to).size + 1 := by omega
  have q6 : ¬ 9223372036854775807 < (num m.kind).size + 1 + (num m.frm).size + 1 + (num m.to).size + 1 + (dec m.term).size := by omega
  have T105 : Hid (mtell 105 m = dec m.index) := by show _ = _; simp [mtell]
  have T112 : Hid (mtell 112 m = dec m.prev) := by show _ = _; simp [mtell]
  have T116 : Hid (mtell 116 m = dec m.commit) := by show _ = _; simp [mtell]
  have T107 : Hid (mtell 107 m = dec m.mark) := by show _ = _; simp [mtell]
  have T121 : Hid (mtell 121 m = dec (bitI m.ok)) := by show _ = _; simp [mtell]
  have T101 : Hid (mtell 101 m = str (entsL m.es)) := by show _ = _; simp [mtell]
  have T115 : Hid (mtell 115 m = hex m.snap) := by show _ = _; simp [mtell]
  have HH0 : Hid (num m.kind ++ str [32] ++ num m.frm ++ str [62] ++ num m.to ++ str [32] ++ dec m.term = mheadS m ++ str (mbodyL (mfl m.kind) m 0)) := by
    show mheadS m = _
    have h : str (mbodyL (mfl m.kind) m 0) = ByteArray.empty := rfl
    rw [h, ByteArray.append_empty]
  have HW := Lib.hid hW
  have HLE := Lib.hid hle
  have H0 : Hid (Tm w m wr) := ⟨hbx, (hE.below hb0).mr hb0.size, hb0⟩
  clear ok hb0 hbx hE hle k4
  go_enter Tryd.func29, Tryd.ntmps29
  go_wp2_with (go_at_call 23; (fail))
  rw [← hW]
  clear hW
  with_reducible refine (KF.out _ H0.out).mono ?_
  rintro r w1 ⟨rfl, h1⟩
  have c0 : w1.cell? ⟨w.heap.size, 0, none⟩ = some (.int .i64 m.kind) := h1.bx.cell 0
  have c1 : w1.cell? ⟨w.heap.size, 1, none⟩ = some (.int .i64 m.frm) := h1.bx.cell 1
  have c2 : w1.cell? ⟨w.heap.size, 2, none⟩ = some (.int .i64 m.to) := h1.bx.cell 2
  have c3 : w1.cell? ⟨w.heap.size, 3, none⟩ = some (.int .u64 m.term) := h1.bx.cell 3
  have h1d := h1.drew
  go_upto_region 2 with fail
  go_cut [5] from 13 to 30 (fun s wx => s = .string (mheadS m ++ str (mbodyL (mfl m.kind) m 0)) ∧ Tm w m wx)
  case first =>
    go_region_held3 (fun w' => Tm w m w' ∧ w'.cell? ⟨w.heap.size, 0, none⟩ = some (.int .i64 m.kind) ∧ w'.cell? ⟨w.heap.size, 1, none⟩ = some (.int .i64 m.frm) ∧ w'.cell? ⟨w.heap.size, 2, none⟩ = some (.int .i64 m.to) ∧ w'.cell? ⟨w.heap.size, 3, none⟩ = some (.int .u64 m.term))
      (first | exact ⟨h1d, c0, c1, c2, c3⟩ | exact ⟨by assumption, by assumption, by assumption, by assumption, by assumption⟩)
      (first
        | (go_at_call 37; (with_reducible refine (KN.out _ ?_).mono ?_); (assumption); rintro r w2 ⟨rfl, k1, k2, k3, k4, k5⟩)
        | (go_at_call 37; (with_reducible refine (KR.out _ ?_).mono ?_); (assumption); rintro r w2 ⟨rfl, k1, k2, k3, k4, k5⟩)
        | (go_at_call 37; (with_reducible refine (KU.out _ ?_).mono ?_); (assumption); rintro r w2 ⟨rfl, k1, k2, k3, k4, k5⟩)
        | (go_at_call 38; (with_reducible refine (KT.out _ ?_).mono ?_); (assumption); rintro r w2 ⟨rfl, k1, k2, k3, k4, k5⟩))
    all_goals
      rename_i hk
      go_wp2_with fail
      go_meet
      exact ⟨congrArg Value.string HH0.out, hk.1⟩
  case rest =>
    obtain ⟨rfl, h2⟩ := hcut
    clear h1 h1d c0 c1 c2 c3 q1 q2 q3 q4 q5 q6 n1 n2 n3 n4
    obtain ⟨T0, hT0⟩ : ∃ T, T = mheadS m ++ str (mbodyL (mfl m.kind) m 0) := ⟨_, rfl⟩
    rw [← hT0]
    have HT0 := Lib.hid hT0
    clear hT0
    have s0 := SZ.out T0 0 HT0.out (by omega)
    go_upto_if 32 with (go_at_call 34; (with_reducible refine (KH.out 105 _).mono ?_); rintro r w2 ⟨rfl, rfl⟩)
    go_cut [5] from 32 to 38 (fun s wx => s = .string (mheadS m ++ str (mbodyL (mfl m.kind) m 1)) ∧ Tm w m wx)
    case first =>
      cases hh : hasL (mfl m.kind) 105 with
      | false =>
        have hn : Hid (T0 = mheadS m ++ str (mbodyL (mfl m.kind) m 1)) := mtold_no HT0.out rfl hh
        clear hh
        go_wp2_with fail
        go_meet
        exact ⟨congrArg Value.string hn.out, h2⟩
      | true =>
        have hn : Hid (T0 ++ str [32, 105, 61] ++ dec m.index = mheadS m ++ str (mbodyL (mfl m.kind) m 1)) := by have h := mtold_yes [32, 105, 61] HT0.out rfl rfl hh; rw [T105.out] at h; exact h
        clear hh
        have d : wc.cell? ⟨w.heap.size, 4, none⟩ = some (.int .u64 m.index) := h2.bx.cell 4
        have z1 : ¬ 9223372036854775807 < T0.size + 3 := by omega
        have z2 : ¬ 9223372036854775807 < T0.size + 3 + (dec m.index).size := by omega
        go_wp2_with (go_at_call 38; (with_reducible refine (KI.out _ h2).mono ?_); rintro r w2 ⟨rfl, hx2⟩)
        go_meet
        exact ⟨congrArg Value.string hn.out, hx2⟩
    case rest =>
      obtain ⟨rfl, h3⟩ := hcut
      obtain ⟨T1, hT1⟩ : ∃ T, T = mheadS m ++ str (mbodyL (mfl m.kind) m 1) := ⟨_, rfl⟩
      rw [← hT1]
      have HT1 := Lib.hid hT1
      clear hT1 HT0 s0 h2
      have s1 := SZ.out T1 1 HT1.out (by omega)
      go_upto_if 40 with (go_at_call 34; (with_reducible refine (KH.out 112 _).mono ?_); rintro r w2 ⟨rfl, rfl⟩)
      go_cut [5] from 40 to 46 (fun s wx => s = .string (mheadS m ++ str (mbodyL (mfl m.kind) m 2)) ∧ Tm w m wx)
      case first =>
        cases hh : hasL (mfl m.kind) 112 with
        | false =>
          have hn : Hid (T1 = mheadS m ++ str (mbodyL (mfl m.kind) m 2)) := mtold_no HT1.out rfl hh
          clear hh
          go_wp2_with fail
          go_meet
          exact ⟨congrArg Value.string hn.out, h3⟩
        | true =>
          have hn : Hid (T1 ++ str [32, 112, 61] ++ dec m.prev = mheadS m ++ str (mbodyL (mfl m.kind) m 2)) := by have h := mtold_yes [32, 112, 61] HT1.out rfl rfl hh; rw [T112.out] at h; exact h
          clear hh
          have d : wc.cell? ⟨w.heap.size, 5, none⟩ = some (.int .u64 m.prev) := h3.bx.cell 5
          have z1 : ¬ 9223372036854775807 < T1.size + 3 := by omega
          have z2 : ¬ 9223372036854775807 < T1.size + 3 + (dec m.prev).size := by omega
          go_wp2_with (go_at_call 38; (with_reducible refine (KP.out _ h3).mono ?_); rintro r w2 ⟨rfl, hx2⟩)
          go_meet
          exact ⟨congrArg Value.string hn.out, hx2⟩
      case rest =>
        obtain ⟨rfl, h4⟩ := hcut
        obtain ⟨T2, hT2⟩ : ∃ T, T = mheadS m ++ str (mbodyL (mfl m.kind) m 2) := ⟨_, rfl⟩
        rw [← hT2]
        have HT2 := Lib.hid hT2
        clear hT2 HT1 s1 h3
        have s2 := SZ.out T2 2 HT2.out (by omega)
        go_upto_if 48 with (go_at_call 34; (with_reducible refine (KH.out 116 _).mono ?_); rintro r w2 ⟨rfl, rfl⟩)
        go_cut [5] from 48 to 54 (fun s wx => s = .string (mheadS m ++ str (mbodyL (mfl m.kind) m 3)) ∧ Tm w m wx)
        case first =>
          cases hh : hasL (mfl m.kind) 116 with
          | false =>
            have hn : Hid (T2 = mheadS m ++ str (mbodyL (mfl m.kind) m 3)) := mtold_no HT2.out rfl hh
            clear hh
            go_wp2_with fail
            go_meet
            exact ⟨congrArg Value.string hn.out, h4⟩
          | true =>
            have hn : Hid (T2 ++ str [32, 116, 61] ++ dec m.commit = mheadS m ++ str (mbodyL (mfl m.kind) m 3)) := by have h := mtold_yes [32, 116, 61] HT2.out rfl rfl hh; rw [T116.out] at h; exact h
            clear hh
            have d : wc.cell? ⟨w.heap.size, 6, none⟩ = some (.int .u64 m.commit) := h4.bx.cell 6
            have z1 : ¬ 9223372036854775807 < T2.size + 3 := by omega
            have z2 : ¬ 9223372036854775807 < T2.size + 3 + (dec m.commit).size := by omega
            go_wp2_with (go_at_call 38; (with_reducible refine (KC.out _ h4).mono ?_); rintro r w2 ⟨rfl, hx2⟩)
            go_meet
            exact ⟨congrArg Value.string hn.out, hx2⟩
        case rest =>
          obtain ⟨rfl, h5⟩ := hcut
          obtain ⟨T3, hT3⟩ : ∃ T, T = mheadS m ++ str (mbodyL (mfl m.kind) m 3) := ⟨_, rfl⟩
          rw [← hT3]
          have HT3 := Lib.hid hT3
          clear hT3 HT2 s2 h4
          have s3 := SZ.out T3 3 HT3.out (by omega)
          go_upto_if 56 with (go_at_call 34; (with_reducible refine (KH.out 107 _).mono ?_); rintro r w2 ⟨rfl, rfl⟩)
          go_cut [5] from 56 to 62 (fun s wx => s = .string (mheadS m ++ str (mbodyL (mfl m.kind) m 4)) ∧ Tm w m wx)
          case first =>
            cases hh : hasL (mfl m.kind) 107 with
            | false =>
              have hn : Hid (T3 = mheadS m ++ str (mbodyL (mfl m.kind) m 4)) := mtold_no HT3.out rfl hh
              clear hh
              go_wp2_with fail
              go_meet
              exact ⟨congrArg Value.string hn.out, h5⟩
            | true =>
              have hn : Hid (T3 ++ str [32, 107, 61] ++ dec m.mark = mheadS m ++ str (mbodyL (mfl m.kind) m 4)) := by have h := mtold_yes [32, 107, 61] HT3.out rfl rfl hh; rw [T107.out] at h; exact h
              clear hh
              have d : wc.cell? ⟨w.heap.size, 7, none⟩ = some (.int .u64 m.mark) := h5.bx.cell 7
              have z1 : ¬ 9223372036854775807 < T3.size + 3 := by omega
              have z2 : ¬ 9223372036854775807 < T3.size + 3 + (dec m.mark).size := by omega
              go_wp2_with (go_at_call 38; (with_reducible refine (KK.out _ h5).mono ?_); rintro r w2 ⟨rfl, hx2⟩)
              go_meet
              exact ⟨congrArg Value.string hn.out, hx2⟩
          case rest =>
            obtain ⟨rfl, h6⟩ := hcut
            obtain ⟨T4, hT4⟩ : ∃ T, T = mheadS m ++ str (mbodyL (mfl m.kind) m 4) := ⟨_, rfl⟩
            rw [← hT4]
            have HT4 := Lib.hid hT4
            clear hT4 HT3 s3 h5
            have s4 := SZ.out T4 4 HT4.out (by omega)
            have d8 : wc.cell? ⟨w.heap.size, 8, none⟩ = some (.bool m.ok) := h6.bx.cell 8
            obtain ⟨T4b, hT4b⟩ : ∃ T, T = if (hasL (mfl m.kind) 121 && m.ok) = true then T4 ++ str [32, 121, 61, 49] else T4 := ⟨_, rfl⟩
            have z1 : ¬ 9223372036854775807 < T4.size + 4 := by omega
            go_upto_region 11 with fail
            go_cut [68] from 63 to 68 (fun s wx => s = .bool (hasL (mfl m.kind) 121 && m.ok) ∧ wx = wc)
            case first =>
              have KHb := KH.out 121
              cases hh : hasL (mfl m.kind) 121 <;> cases hk : m.ok
              all_goals
                rw [hh] at KHb
                rw [hk] at d8
                have KHh := Lib.hid KHb
                have HHb := Lib.hid hh
                have HKb := Lib.hid hk
                clear KHb hh hk
                go_wp2_with (go_at_call 34; (with_reducible refine (KHh.out _).mono ?_); rintro r w2 ⟨rfl, rfl⟩)
                go_meet
                exact ⟨congrArg Value.bool (by rw [HHb.out, HKb.out]; rfl), rfl⟩
            case rest =>
              obtain ⟨rfl, rfl⟩ := hcut
              go_upto_if 68 with fail
              go_cut [5] from 68 to 70 (fun s wx => s = .string T4b ∧ wx = wc)
              case first =>
                rcases hh : (hasL (mfl m.kind) 121 && m.ok) with _ | _
                · have hn : Hid (T4 = T4b) := by show _ = _; rw [hT4b, hh, if_neg (by simp)]
                  clear hh
                  go_wp2_with fail
                  go_meet
                  exact ⟨congrArg Value.string hn.out, rfl⟩
                · have hn : Hid (T4 ++ str [32, 121, 61, 49] = T4b) := by show _ = _; rw [hT4b, hh, if_pos rfl]
                  clear hh
                  go_wp2_with fail
                  go_meet
                  exact ⟨congrArg Value.string hn.out, rfl⟩
              case rest =>
                obtain ⟨rfl, rfl⟩ := hcut
                have hW5 : Hid ((if (hasL (mfl m.kind) 121 && !m.ok) = true then T4b ++ str [32, 121, 61, 48] else T4b) = mheadS m ++ str (mbodyL (mfl m.kind) m 5)) := by
                  show _ = _
                  cases hh : hasL (mfl m.kind) 121 with
                  | false =>
                    rw [hT4b, hh]
                    simp only [Bool.false_and, Bool.false_eq_true, if_false]
                    exact mtold_no HT4.out rfl hh
                  | true =>
                    have h := mtold_yes [32, 121, 61] HT4.out rfl rfl hh
                    rw [T121.out] at h
                    rw [hT4b, hh]
                    cases hk : m.ok with
                    | false =>
                      rw [hk] at h
                      have hd : dec (bitI false) = str [48] := dec_small 0 (by omega)
                      rw [hd, ByteArray.append_assoc, str_app] at h
                      simpa using h
                    | true =>
                      rw [hk] at h
                      have hd : dec (bitI true) = str [49] := dec_small 1 (by omega)
                      rw [hd, ByteArray.append_assoc, str_app] at h
                      simpa using h
                have s4b : T4b.size ≤ 107800000000125 := by
                  rw [hT4b]
                  split
                  · rw [size_app, str_size]; simp only [List.length_cons, List.length_nil]; omega
                  · omega
                have HT4b := Lib.hid hT4b
                have z2 : ¬ 9223372036854775807 < T4b.size + 4 := by omega
                clear hT4b
                go_upto_region 13 with fail
                go_cut [77] from 71 to 77 (fun s wx => s = .bool (hasL (mfl m.kind) 121 && !m.ok) ∧ wx = wc)
                case first =>
                  have KHb := KH.out 121
                  cases hh : hasL (mfl m.kind) 121 <;> cases hk : m.ok
                  all_goals
                    rw [hh] at KHb
                    rw [hk] at d8
                    have KHh := Lib.hid KHb
                    have HHb := Lib.hid hh
                    have HKb := Lib.hid hk
                    clear KHb hh hk
                    go_wp2_with (go_at_call 34; (with_reducible refine (KHh.out _).mono ?_); rintro r w2 ⟨rfl, rfl⟩)
                    go_meet
                    exact ⟨congrArg Value.bool (by rw [HHb.out, HKb.out]; rfl), rfl⟩
                case rest =>
                  obtain ⟨rfl, rfl⟩ := hcut
                  go_upto_if 77 with fail
                  go_cut [5] from 77 to 79 (fun s wx => s = .string (mheadS m ++ str (mbodyL (mfl m.kind) m 5)) ∧ Tm w m wx)
                  case first =>
                    rcases hh : (hasL (mfl m.kind) 121 && !m.ok) with _ | _
                    · have hn : Hid (T4b = mheadS m ++ str (mbodyL (mfl m.kind) m 5)) := by show _ = _; rw [← hW5.out, hh, if_neg (by simp)]
                      clear hh
                      go_wp2_with fail
                      go_meet
                      exact ⟨congrArg Value.string hn.out, h6⟩
                    · have hn : Hid (T4b ++ str [32, 121, 61, 48] = mheadS m ++ str (mbodyL (mfl m.kind) m 5)) := by show _ = _; rw [← hW5.out, hh, if_pos rfl]
                      clear hh
                      go_wp2_with fail
                      go_meet
                      exact ⟨congrArg Value.string hn.out, h6⟩
                  case rest =>
                    obtain ⟨rfl, h7⟩ := hcut
                    obtain ⟨T5, hT5⟩ : ∃ T, T = mheadS m ++ str (mbodyL (mfl m.kind) m 5) := ⟨_, rfl⟩
                    rw [← hT5]
                    have HT5 := Lib.hid hT5
                    clear hT5 HT4 s4 h6 d8 z1 z2 s4b HT4b hW5
                    have s5 := SZ.out T5 5 HT5.out (by omega)
                    go_upto_if 81 with (go_at_call 34; (with_reducible refine (KH.out 101 _).mono ?_); rintro r w2 ⟨rfl, rfl⟩)
                    go_cut [5] from 81 to 104 (fun s wx => s = .string (mheadS m ++ str (mbodyL (mfl m.kind) m 6)) ∧ Tm w m wx)
                    case first =>
                      cases hh : hasL (mfl m.kind) 101 with
                      | false =>
                        have hn : Hid (T5 = mheadS m ++ str (mbodyL (mfl m.kind) m 6)) := mtold_no HT5.out rfl hh
                        clear hh
                        go_wp2_with fail
                        go_meet
                        exact ⟨congrArg Value.string hn.out, h7⟩
                      | true =>
                        have hn : Hid (T5 ++ str [32, 101, 61] ++ str (entsL m.es) = mheadS m ++ str (mbodyL (mfl m.kind) m 6)) := by have h := mtold_yes [32, 101, 61] HT5.out rfl rfl hh; rw [T101.out] at h; exact h
                        clear hh
                        have z1 : ¬ 9223372036854775807 < T5.size + 4 := by omega
                        have HY := Lib.hid h7
                        clear h7
                        go_wp2_with fail
                        go_loopw [6, 5] (fun i s wr => ∃ (k : Nat) (J : List UInt8), k ≤ m.n ∧ i = .int .i64 k ∧ Hid (J = jnT m.es k) ∧ s = .string (T5 ++ str [32, 101, 61, 91] ++ str J) ∧ Tm w m wr) (fun i _ _ => m.n - (intOf i).toNat)
                        case atStart => exact ⟨0, [], Nat.zero_le _, rfl, rfl, by rw [show str [] = ByteArray.empty from rfl, ByteArray.append_empty]; rfl, HY.out⟩
                        case round =>
                          obtain ⟨k, J, hk, rfl, hJ, rfl, hr⟩ := hrel
                          clear HY
                          have e9 : wr.cell? ⟨w.heap.size, 9, none⟩ = some (.slice m.A m.n m.c) := hr.bx.cell 9
                          have sJ : (str J).size ≤ 15400000000000 := by rw [str_size, hJ.out]; exact JZ.out k hk
                          have sU : (T5 ++ str [32, 101, 61, 91] ++ str J).size ≤ 123200000000200 := by rw [size_app, size_app, str_size]; simp only [List.length_cons, List.length_nil]; omega
                          obtain ⟨U, hU⟩ : ∃ U, U = T5 ++ str [32, 101, 61, 91] ++ str J := ⟨_, rfl⟩
                          rw [← hU] at sU
                          rw [← hU]
                          have HU := Lib.hid hU
                          have HR := Lib.hid hr
                          clear hU
                          by_cases hlt : k < m.n
                          · obtain ⟨y, hy⟩ : ∃ y, m.es[k]? = some y := ⟨_, List.getElem?_eq_getElem (by rw [HLE.out]; exact hlt)⟩
                            obtain ⟨a, hA, hB, hc⟩ := hr.en.at_ k y hy
                            have d0 : wr.cell? (a.add (k * 11)) = some (.int .u64 y.term) := hc 0 (by omega)
                            have d1 : wr.cell? ⟨(a.add (k * 11)).block, (a.add (k * 11)).off + 1, none⟩ = some (.int .u64 y.index) := hc 1 (by omega)
                            have d2 : wr.cell? ⟨(a.add (k * 11)).block, (a.add (k * 11)).off + 2, none⟩ = some (.int .i64 y.kind) := hc 2 (by omega)
                            have d3 : wr.cell? ⟨(a.add (k * 11)).block, (a.add (k * 11)).off + 3, none⟩ = some (.int .u64 y.client) := hc 3 (by omega)
                            have d4 : wr.cell? ⟨(a.add (k * 11)).block, (a.add (k * 11)).off + 4, none⟩ = some (.int .u64 y.seq) := hc 4 (by omega)
                            have d5 : wr.cell? ⟨(a.add (k * 11)).block, (a.add (k * 11)).off + 5, none⟩ = some (.int .u64 y.block) := hc 5 (by omega)
                            have d6 : wr.cell? ⟨(a.add (k * 11)).block, (a.add (k * 11)).off + 6, none⟩ = some (.int .u64 y.many) := hc 6 (by omega)
                            have d7 : wr.cell? ⟨(a.add (k * 11)).block, (a.add (k * 11)).off + 7, none⟩ = some (.int .i64 y.node) := hc 7 (by omega)
                            have d8 : wr.cell? ⟨(a.add (k * 11)).block, (a.add (k * 11)).off + 8, none⟩ = some (.int .i64 y.level) := hc 8 (by omega)
                            have d9 : wr.cell? ⟨(a.add (k * 11)).block, (a.add (k * 11)).off + 9, none⟩ = some (.string y.data) := hc 9 (by omega)
                            have d10 : wr.cell? ⟨(a.add (k * 11)).block, (a.add (k * 11)).off + 10, none⟩ = some (.string y.old) := hc 10 (by omega)
                            have hmem := List.mem_of_getElem? hy
                            have K18 := Lib.hid (KE.out y hmem wr hr)
                            have sy := TZ.out y hmem
                            have z2 : ¬ 9223372036854775807 < U.size + 1 := by omega
                            have z3 : ¬ 9223372036854775807 < U.size + (textS y).size := by omega
                            have z4 : ¬ 9223372036854775807 < U.size + 1 + (textS y).size := by omega
                            have HYK := Lib.hid hy
                            rw [hA] at e9
                            clear hr hc hA hB hy hmem
                            by_cases hk0 : k = 0
                            · have g0 : decide (0 < (k : Int)) = false := decide_eq_false (by omega)
                              have hnx : Hid (U ++ textS y = T5 ++ str [32, 101, 61, 91] ++ str (jnT m.es (k + 1))) := by
                                show _ = _
                                have hJ0 : str J = ByteArray.empty := by rw [hJ.out, hk0]; rfl
                                have hy0 := HYK.out
                                rw [hk0] at hy0
                                rw [HU.out, hk0, Nat.zero_add, jnT_first _ _ hy0, hJ0, ByteArray.append_empty]
                                rfl
                              have g1 : ¬ (0 : Int) < (k : Int) := by omega
                              clear hk0
                              go_wp2_with (go_at_call 18; (with_reducible refine K18.out.mono ?_); rintro r w2 ⟨rfl, hx2⟩)
                              go_roundw
                              case rel => exact ⟨k + 1, jnT m.es (k + 1), by omega, by go_num, rfl, congrArg Value.string hnx.out, hx2⟩
                              case measure => simp [intOf]; omega
                            · have g0 : decide (0 < (k : Int)) = true := decide_eq_true (by omega)
                              have hnx : Hid (U ++ str [59] ++ textS y = T5 ++ str [32, 101, 61, 91] ++ str (jnT m.es (k + 1))) := by
                                show _ = _
                                rw [HU.out, hJ.out, jnT_next _ k _ (by omega) HYK.out]
                                simp only [← str_app, ByteArray.append_assoc]
                                rfl
                              go_wp2_with (go_at_call 18; (with_reducible refine K18.out.mono ?_); rintro r w2 ⟨rfl, hx2⟩)
                              go_roundw
                              case rel => exact ⟨k + 1, jnT m.es (k + 1), by omega, by go_num, rfl, congrArg Value.string hnx.out, hx2⟩
                              case measure => simp [intOf]; omega
                          · have hkn : k = m.n := by omega
                            have hfin : Hid (U ++ str [93] = mheadS m ++ str (mbodyL (mfl m.kind) m 6)) := by
                              show _ = _
                              rw [← hn.out, HU.out, hJ.out, ← jnT_all m k (by rw [HLE.out]; omega), ← str_app, ← str_app, show str [32, 101, 61, 91] = str [32, 101, 61] ++ str [91] from rfl]
                              simp only [ByteArray.append_assoc]
                            have z2 : ¬ 9223372036854775807 < U.size + 1 := by omega
                            clear hr
                            go_wp2_with fail
                            go_meet
                            exact ⟨congrArg Value.string hfin.out, HR.out⟩
                    case rest =>
                      obtain ⟨rfl, h8⟩ := hcut
                      obtain ⟨T6, hT6⟩ : ∃ T, T = mheadS m ++ str (mbodyL (mfl m.kind) m 6) := ⟨_, rfl⟩
                      rw [← hT6]
                      have HT6 := Lib.hid hT6
                      clear hT6 HT5 s5 h7
                      have s6 := SZ.out T6 6 HT6.out (by omega)
                      go_upto_if 106 with (go_at_call 34; (with_reducible refine (KH.out 115 _).mono ?_); rintro r w2 ⟨rfl, rfl⟩)
                      go_cut [5] from 106 to 112 (fun s wx => s = .string (mheadS m ++ str (mbodyL (mfl m.kind) m 7)) ∧ Tm w m wx)
                      case first =>
                        cases hh : hasL (mfl m.kind) 115 with
                        | false =>
                          have hn : Hid (T6 = mheadS m ++ str (mbodyL (mfl m.kind) m 7)) := mtold_no HT6.out rfl hh
                          clear hh
                          go_wp2_with fail
                          go_meet
                          exact ⟨congrArg Value.string hn.out, h8⟩
                        | true =>
                          have hn : Hid (T6 ++ str [32, 115, 61] ++ hex m.snap = mheadS m ++ str (mbodyL (mfl m.kind) m 7)) := by have h := mtold_yes [32, 115, 61] HT6.out rfl rfl hh; rw [T115.out] at h; exact h
                          clear hh
                          have d : wc.cell? ⟨w.heap.size, 10, none⟩ = some (.string m.snap) := h8.bx.cell 10
                          have z1 : ¬ 9223372036854775807 < T6.size + 3 := by omega
                          have z2 : ¬ 9223372036854775807 < T6.size + 3 + (hex m.snap).size := by omega
                          go_wp2_with (go_at_call 39; (with_reducible refine (KS.out _ h8).mono ?_); rintro r w2 ⟨rfl, hx2⟩)
                          go_meet
                          exact ⟨congrArg Value.string hn.out, hx2⟩
                      case rest =>
                        obtain ⟨rfl, h9⟩ := hcut
                        obtain ⟨T7, hT7⟩ : ∃ T, T = mheadS m ++ str (mbodyL (mfl m.kind) m 7) := ⟨_, rfl⟩
                        rw [← hT7]
                        have HT7 := Lib.hid hT7
                        clear hT7 HT6 s6 h8
                        go_wp2
                        go_ret
                        exact ⟨ret_str (by rw [HT7.out]; rfl), h9.be⟩
end Go.Proofs.YtclohjcenkpgoaaDoor
