/-
  Is a message right: the document's way.
  Conditions: the numbers are those of their kinds.
-/
import Derived.Test.YtpdbeijfchmlgaaGreatRR
import Derived.Test.YtpdbeijfchmlgaaGreatNState
namespace Go.Proofs.YtpdbeijfchmlgaaGreat
open Go.RowKit
set_option linter.unusedVariables false
/-- The document's MsgText underway. -/
theorem mfl_size0 (r : Int) : (mfl r).size ≤ 5 := by
  unfold mfl
  repeat' split
  all_goals decide
structure Tm (w0 : World) (m : Ms) (w : World) : Prop where
  bx : By w0.heap.size m 29 w
  en : Ents w.heap.size m.A m.n m.es w
  be : Below w0.heap.size w0 w
theorem Tm.on {w0 w w1 : World} {m : Ms} (h : Tm w0 m w) (hb : Below w.heap.size w w1) : Tm w0 m w1 := ⟨h.bx.below hb, (h.en.below hb).mr hb.size, h.be.trans (hb.mono h.be.size)⟩
theorem Tm.drew {w0 w : World} {m : Ms} (h : Tm w0 m w) : Tm w0 m w.drew := ⟨⟨h.bx.bx⟩, h.en.below (Below.refl _ w).drew, h.be.drew⟩

/-- What is asked of a message, in numbers; its entries beside. -/
structure MAsk (m : Ms) : Prop where
  k : mfb m.kind = true
  f1 : 1 ≤ m.frm
  f7 : m.frm ≤ 7
  o1 : 1 ≤ m.dst
  o7 : m.dst ≤ 7
  n64 : (m.n : Int) ≤ 64
  s : (m.snap.size : Int) ≤ 16384
  i : hasL (mfl m.kind) 105 = false → m.index = 0
  p : hasL (mfl m.kind) 112 = false → m.prev = 0
  t : hasL (mfl m.kind) 116 = false → m.commit = 0
  r : hasL (mfl m.kind) 107 = false → m.mark = 0
  y : hasL (mfl m.kind) 121 = false → m.ok = false
  e : hasL (mfl m.kind) 101 = false → (m.n : Int) = 0
  z : hasL (mfl m.kind) 115 = false → (m.snap.size : Int) = 0
theorem bitI_zero (b : Bool) : bitI b = 0 ↔ b = false := by cases b <;> simp [bitI]
theorem bitI_le (b : Bool) : 0 ≤ bitI b ∧ bitI b ≤ 1 := by cases b <;> simp [bitI]
theorem mask_iff (m : Ms) (h : m.Wide) : masksB m = true ↔ MAsk m := by
  have w1 : IntKind.u64.wrap (m.n : Int) = m.n := u64_id (by omega) h.n1
  have w2 : IntKind.u64.wrap (m.snap.size : Int) = m.snap.size := u64_id (by omega) (by have := h.s1; omega)
  have b1 := bitI_le m.ok
  have b2 := bitI_zero m.ok
  have i0 := h.i0
  have i1 := h.i1
  have p0 := h.p0
  have p1 := h.p1
  have c0 := h.c0
  have c1 := h.c1
  have m0 := h.m0
  have m1 := h.m1
  unfold masksB masks
  simp only [List.all_cons, List.all_nil, id, Bool.and_true, Bool.and_eq_true, decide_eq_true_eq, lim_facts, w1, w2]
  constructor
  · rintro ⟨hk, ⟨hf1, hf7⟩, ⟨ho1, ho7⟩, ⟨hi, hi'⟩, ⟨hp, hp'⟩, ⟨ht, ht'⟩, ⟨hr, hr'⟩, ⟨hy, hy'⟩, ⟨he, he'⟩, ⟨hz, hz'⟩⟩
    refine ⟨hk, hf1, hf7, ho1, ho7, ?_, ?_, hi', hp', ht', hr', fun q => b2.1 (hy' q), he', hz'⟩
    · cases q : hasL (mfl m.kind) 101
      · have := he' q; omega
      · exact (he q).2
    · cases q : hasL (mfl m.kind) 115
      · have := hz' q; omega
      · exact (hz q).2
  · intro A
    refine ⟨A.k, ⟨A.f1, A.f7⟩, ⟨A.o1, A.o7⟩, ⟨fun _ => ⟨i0, i1⟩, A.i⟩, ⟨fun _ => ⟨p0, p1⟩, A.p⟩, ⟨fun _ => ⟨c0, c1⟩, A.t⟩, ⟨fun _ => ⟨m0, m1⟩, A.r⟩, ⟨fun _ => b1, fun q => b2.2 (A.y q)⟩, ⟨fun _ => ⟨by omega, A.n64⟩, A.e⟩, ⟨fun _ => ⟨by omega, A.s⟩, A.z⟩⟩
theorem mnot_ask {m : Ms} (h : m.Wide) (hn : ¬ MAsk m) : mrightB m = false := by
  have : masksB m = false := by
    cases q : masksB m with
    | false => rfl
    | true => exact absurd ((mask_iff m h).1 q) hn
  unfold mrightB
  rw [this]
  rfl
theorem mwrong {m : Ms} {k : Nat} {e : En} (he : m.es[k]? = some e) (hr : rightB e = false) : mrightB m = false := by
  have : hasWrong m.es = true := by
    unfold hasWrong
    rw [List.any_eq_true]
    exact ⟨e, List.mem_of_getElem? he, by rw [hr]; rfl⟩
  unfold mrightB
  rw [this]
  simp
theorem mask_right {m : Ms} (h : m.Wide) (A : MAsk m) (hw : hasWrong m.es = false) : mrightB m = true := by
  unfold mrightB
  rw [(mask_iff m h).2 A, hw]
  rfl
theorem mclose {m : Ms} (h : m.Wide) (hk : mfb m.kind = true) (F1 : (1 ≤ m.frm ∧ m.frm ≤ 7) ∧ (1 ≤ m.dst ∧ m.dst ≤ 7) ∧ (m.n : Int) ≤ 64 ∧ (m.snap.size : Int) ≤ 16384)
    (F2 : (hasL (mfl m.kind) 105 = false → m.index = 0) ∧ (hasL (mfl m.kind) 112 = false → m.prev = 0) ∧ (hasL (mfl m.kind) 116 = false → m.commit = 0) ∧ (hasL (mfl m.kind) 107 = false → m.mark = 0)) (hw : hasWrong m.es = false)
    {b : Bool} (hb : b = true ↔ ((hasL (mfl m.kind) 121 = false → m.ok = false) ∧ (hasL (mfl m.kind) 101 = false → (m.n : Int) = 0) ∧ (hasL (mfl m.kind) 115 = false → (m.snap.size : Int) = 0))) : b = mrightB m := by
  cases b with
  | true =>
    have h3 := hb.1 rfl
    exact (mask_right h ⟨hk, F1.1.1, F1.1.2, F1.2.1.1, F1.2.1.2, F1.2.2.1, F1.2.2.2, F2.1, F2.2.1, F2.2.2.1, F2.2.2.2, h3.1, h3.2.1, h3.2.2⟩ hw).symm
  | false =>
    refine (mnot_ask h fun A => ?_).symm
    have := hb.2 ⟨A.y, A.e, A.z⟩
    cases this
/-- No wrong one among the first k. -/
theorem wrong_step {es : List En} {k : Nat} {e : En} (he : es[k]? = some e) (h : hasWrong (es.take k) = false) (hr : rightB e = true) : hasWrong (es.take (k + 1)) = false := by
  have h1 : es.take (k + 1) = es.take k ++ [e] := by rw [List.take_add_one, he]; rfl
  unfold hasWrong at h ⊢
  rw [h1, List.any_append, h]
  simp [hr]

set_option maxRecDepth 100000 in
set_option maxHeartbeats 8000000 in
theorem rmright_any (m : Ms) (w : World) (hE : Ents w.heap.size m.A m.n m.es w) (wd : m.Wide) :
    Calls Tryz.prog 77 #[mv m] w fun r w' => r = .returned (.bool (mrightB m)) ∧ Below w.heap.size w w' := by
  obtain ⟨wr, hW⟩ : ∃ wr, wr = w.alloc (Obj.cells (mc m) 29) := ⟨_, rfl⟩
  have hb0 : Below w.heap.size w wr := by rw [hW]; exact (Below.refl _ _).alloc (Nat.le_refl _) _
  have hbx : By w.heap.size m 29 wr := ⟨by rw [hW]; exact heap_alloc_new w _⟩
  have H0 : Hid (Tm w m wr) := ⟨hbx, (hE.below hb0).mr hb0.size, hb0⟩
  have KF := Lib.hid (fun (W : World) (h : Tm w m W) => (rmfields_any m.kind W).mono fun r w1 ⟨hr, hb⟩ => And.intro hr (h.on hb))
  have KE := Lib.hid (fun (e : En) (he : e ∈ m.es) (W : World) (h : Tm w m W) => (rright_any e W (wd.eo e he)).mono fun r w1 ⟨hr, hb⟩ => And.intro hr (h.on hb))
  have KH := Lib.hid (fun (c : Int) (W : World) => has_any (mfl m.kind) c W (by have := mfl_size0 m.kind; omega))
  have WD := Lib.hid wd
  have HLE := Lib.hid hE.len
  have HW := Lib.hid hW
  have hn1 := wd.n1
  have i0 := wd.i0
  have p0 := wd.p0
  have c0' := wd.c0
  have m0 := wd.m0
  clear wd hE hb0 hbx
  go_enter Tryz.func77, Tryz.ntmps77
  go_wp2_with (go_at_call 34; (fail))
  rw [← hW]
  clear hW
  with_reducible refine (KF.out _ H0.out).mono ?_
  rintro r w1 ⟨rfl, h1⟩
  have c1 : w1.cell? ⟨w.heap.size, 1, none⟩ = some (.int .i64 m.frm) := h1.bx.cell 1
  have c2 : w1.cell? ⟨w.heap.size, 2, none⟩ = some (.int .i64 m.dst) := h1.bx.cell 2
  have c9 : w1.cell? ⟨w.heap.size, 9, none⟩ = some (.slice m.A m.n m.c) := h1.bx.cell 9
  have c10 : w1.cell? ⟨w.heap.size, 10, none⟩ = some (.string m.snap) := h1.bx.cell 10
  cases hmf : mfb m.kind with
  | false =>
    have NA := Lib.hid (mnot_ask WD.out (fun A => by rw [A.k] at hmf; cases hmf))
    have HH1 := Lib.hid h1
    clear hmf h1
    go_wp2
    go_ret
    exact ⟨ret_bool NA.out.symm, HH1.out.be⟩
  | true =>
    have HMF := Lib.hid hmf
    clear hmf
    go_upto_region 2 with fail
    go_cut [46] from 13 to 46 (fun s wx => ∃ b : Bool, s = .bool b ∧ wx = w1 ∧ Hid (b = true → ¬ MAsk m) ∧ Hid (b = false → (1 ≤ m.frm ∧ m.frm ≤ 7) ∧ (1 ≤ m.dst ∧ m.dst ≤ 7) ∧ (m.n : Int) ≤ 64 ∧ (m.snap.size : Int) ≤ 16384))
    case first =>
      go_wp2_with fail
      all_goals
        go_meet
        refine ⟨_, rfl, rfl, fun hb A => ?_, fun hb => ?_⟩
        · have A2 := A.f1
          have A3 := A.f7
          have A4 := A.o1
          have A5 := A.o7
          have A6 := A.n64
          have A7 := A.s
          first | omega | (simp_all; done) | (simp_all; omega)
        · first | (simp at hb; done) | (simp at hb; refine ⟨⟨?_, ?_⟩, ⟨?_, ?_⟩, ?_, ?_⟩ <;> omega) | (have hb2 := of_decide_eq_false hb; refine ⟨⟨?_, ?_⟩, ⟨?_, ?_⟩, ?_, ?_⟩ <;> omega) | (refine ⟨⟨?_, ?_⟩, ⟨?_, ?_⟩, ?_, ?_⟩ <;> omega)
    case rest =>
      obtain ⟨b, rfl, rfl, N1, Y1⟩ := hcut
      clear c1 c2 c9 c10
      cases b with
      | true =>
        have NA := Lib.hid (mnot_ask WD.out (N1.out rfl))
        clear N1 Y1
        go_wp2
        go_ret
        exact ⟨ret_bool NA.out.symm, h1.be⟩
      | false =>
        have F1 := Lib.hid (Y1.out rfl)
        have HH1 := Lib.hid h1
        clear N1 Y1 h1
        go_wp2_with fail
        go_loopw [5] (fun i wr => ∃ k : Nat, k ≤ m.n ∧ i = .int .i64 k ∧ Hid (hasWrong (m.es.take k) = false) ∧ Tm w m wr) (fun i _ => m.n - (intOf i).toNat)
        case atStart => exact ⟨0, Nat.zero_le _, rfl, rfl, HH1.out⟩
        case round =>
          obtain ⟨k, hk, rfl, HI, hr⟩ := hrel
          clear HH1
          have x9 : wr.cell? ⟨w.heap.size, 9, none⟩ = some (.slice m.A m.n m.c) := hr.bx.cell 9
          by_cases hlt : k < m.n
          · obtain ⟨y, hy⟩ : ∃ y, m.es[k]? = some y := ⟨_, List.getElem?_eq_getElem (by rw [HLE.out]; exact hlt)⟩
            obtain ⟨a, hA, hB, hc⟩ := hr.en.at_ k y hy
            have d0 : wr.cell? (a.add (k * 11)) = some (.int .u64 y.term) := hc 0 (by omega)
            have d1 : wr.cell? ⟨(a.add (k * 11)).block, (a.add (k * 11)).off + 1, none⟩ = some (.int .u64 y.index) := hc 1 (by omega)
            have d2 : wr.cell? ⟨(a.add (k * 11)).block, (a.add (k * 11)).off + 2, none⟩ = some (.int .i64 y.kind) := hc 2 (by omega)
            have d3 : wr.cell? ⟨(a.add (k * 11)).block, (a.add (k * 11)).off + 3, none⟩ = some (.int .u64 y.client) := hc 3 (by omega)
            have d4 : wr.cell? ⟨(a.add (k * 11)).block, (a.add (k * 11)).off + 4, none⟩ = some (.int .u64 y.seq) := hc 4 (by omega)
            have d5 : wr.cell? ⟨(a.add (k * 11)).block, (a.add (k * 11)).off + 5, none⟩ = some (.int .u64 y.block) := hc 5 (by omega)
            have d6 : wr.cell? ⟨(a.add (k * 11)).block, (a.add (k * 11)).off + 6, none⟩ = some (.int .u64 y.many) := hc 6 (by omega)
            have d7 : wr.cell? ⟨(a.add (k * 11)).block, (a.add (k * 11)).off + 7, none⟩ = some (.int .i64 y.node) := hc 7 (by omega)
            have d8 : wr.cell? ⟨(a.add (k * 11)).block, (a.add (k * 11)).off + 8, none⟩ = some (.int .i64 y.level) := hc 8 (by omega)
            have d9 : wr.cell? ⟨(a.add (k * 11)).block, (a.add (k * 11)).off + 9, none⟩ = some (.string y.data) := hc 9 (by omega)
            have d10 : wr.cell? ⟨(a.add (k * 11)).block, (a.add (k * 11)).off + 10, none⟩ = some (.string y.old) := hc 10 (by omega)
            have K14 := Lib.hid (KE.out y (List.mem_of_getElem? hy) wr hr)
            have HY := Lib.hid hy
            rw [hA] at x9
            clear hr hc hA hB hy
            cases hq : rightB y with
            | true =>
              have H2 : Hid (hasWrong (m.es.take (k + 1)) = false) := wrong_step HY.out HI.out hq
              rw [hq] at K14
              clear hq
              go_wp2_with (go_at_call 65; (with_reducible refine K14.out.mono ?_); rintro r w2 ⟨rfl, h2⟩)
              go_roundw
              case rel => exact ⟨k + 1, by omega, by go_num, H2, h2⟩
              case measure => simp [intOf]; omega
            | false =>
              have NA := Lib.hid (mwrong HY.out hq)
              rw [hq] at K14
              clear hq
              go_wp2_with (go_at_call 65; (with_reducible refine K14.out.mono ?_); rintro r w2 ⟨rfl, h2⟩)
              go_ret
              exact ⟨ret_bool NA.out.symm, h2.be⟩
          · have hfin : Hid (hasWrong m.es = false) := by
              have h := HI.out
              rw [List.take_of_length_le (by rw [HLE.out]; omega)] at h
              exact h
            have g4 : wr.cell? ⟨w.heap.size, 4, none⟩ = some (.int .u64 m.index) := hr.bx.cell 4
            have g5 : wr.cell? ⟨w.heap.size, 5, none⟩ = some (.int .u64 m.prev) := hr.bx.cell 5
            have g6 : wr.cell? ⟨w.heap.size, 6, none⟩ = some (.int .u64 m.commit) := hr.bx.cell 6
            have g7 : wr.cell? ⟨w.heap.size, 7, none⟩ = some (.int .u64 m.mark) := hr.bx.cell 7
            have g8 : wr.cell? ⟨w.heap.size, 8, none⟩ = some (.bool m.ok) := hr.bx.cell 8
            have g10 : wr.cell? ⟨w.heap.size, 10, none⟩ = some (.string m.snap) := hr.bx.cell 10
            have HR := Lib.hid hr
            clear hr
            go_upto_region 10 with fail
            go_cut [99] from 47 to 99 (fun s wx => ∃ b : Bool, s = .bool b ∧ wx = wr ∧ Hid (b = true → ¬ MAsk m) ∧ Hid (b = false → (hasL (mfl m.kind) 105 = false → m.index = 0) ∧ (hasL (mfl m.kind) 112 = false → m.prev = 0) ∧ (hasL (mfl m.kind) 116 = false → m.commit = 0) ∧ (hasL (mfl m.kind) 107 = false → m.mark = 0)))
            case first =>
              go_wp2_with (go_at_call 127; (with_reducible refine (KH.out _ _).mono ?_); rintro r w' ⟨rfl, rfl⟩)
              all_goals
                go_meet
                refine ⟨_, rfl, rfl, fun hb A => ?_, fun hb => ?_⟩
                · have A1 := A.i
                  have A2 := A.p
                  have A3 := A.t
                  have A4 := A.r
                  simp_all <;> omega
                · refine ⟨fun h => ?_, fun h => ?_, fun h => ?_, fun h => ?_⟩ <;> simp_all <;> omega
            case rest =>
              obtain ⟨b, rfl, rfl, N1, Y1⟩ := hcut
              cases b with
              | true =>
                have NA := Lib.hid (mnot_ask WD.out (N1.out rfl))
                clear N1 Y1
                go_wp2
                go_ret
                exact ⟨ret_bool NA.out.symm, HR.out.be⟩
              | false =>
                have F2 := Lib.hid (Y1.out rfl)
                clear N1 Y1
                go_wp2_with (go_at_call 127; (with_reducible refine (KH.out _ _).mono ?_); rintro r w' ⟨rfl, rfl⟩)
                all_goals
                  go_ret
                  refine ⟨ret_bool ?_, HR.out.be⟩
                  have TN := toList_nil m.snap
                  refine mclose WD.out HMF.out F1.out F2.out hfin.out ?_
                  clear KF KE KH WD HLE HW H0 HMF F1 F2 hfin HR g4 g5 g6 g7 g8 g10 x9 HI hk hlt hn1 i0 p0 c0' m0
                  first | (simp_all; done) | (simp_all; omega) | (constructor <;> simp_all <;> omega)
end Go.Proofs.YtpdbeijfchmlgaaGreat
