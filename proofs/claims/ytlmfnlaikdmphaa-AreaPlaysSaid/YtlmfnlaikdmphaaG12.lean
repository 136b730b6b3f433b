/-
  Texts of the layer below and of this one: AT, OpenA.
  Conditions: named in each theorem.
-/
import Derived.Test.YtlmfnlaikdmphaaG11
import Derived.Test.YtlmfnlaikdmphaaG08
import Derived.WalkKit
import Derived.ProofKit
import Derived.OpenShut
import Derived.SizedLaws
import Derived.Carry
import Derived.ChangeSame
import Derived.Deep.Slices
namespace Go.Proofs.Ytlmfnlaikdmphaa
open Go.RowKit Vi Dk
set_option linter.unusedVariables false
set_option linter.unusedSimpArgs false
theorem res11 (tmps : Array Value) (w : World) (p : Nat) (s : Sn) (hp : tmps.getD 2 undef = .pointer (some ⟨p, 0, none⟩)) (hg : w.heap[p]? = some (.cells s.c 30 (0, 0))) :
    (results Try.f11 tmps).run Try.prog w = .ok (.agg s.c) w := by
  simp only [results, Try.results11]
  have hp' : tmps[2]?.getD undef = .pointer (some ⟨p, 0, none⟩) := by simpa using hp
  simp [Sem.run_bind, Result.andThen, hp', asAddr, run_loadVar_row w p 30 30 s.c (0, 0) _ hg Try.underlying30 rfl Try.sn30]
set_option maxHeartbeats 1000000 in
set_option maxRecDepth 100000 in
theorem ref_any (s : Sn) (w : World) : Calls Try.prog 11 #[s.v] w fun e w' => e = .returned s.v ∧ Below w.heap.size w w' := by
  obtain ⟨W, hW⟩ : ∃ W, W = (w.alloc (.cells s.c 24)).alloc (.cells #[.int .u64 0, .int .u64 0, .string ⟨#[]⟩] 30) := ⟨_, rfl⟩
  have hB : Below w.heap.size w W := by rw [hW]; exact ((Below.refl _ w).alloc (Nat.le_refl _) _).alloc (by simp) _
  have h1 : W.heap[w.heap.size]? = some (.cells s.c 24 (0, 0)) := by rw [hW, Lib.alloc_old _ _ _ (by simp)]; exact heap_alloc_new w _
  obtain ⟨p, hp⟩ : ∃ p, p = w.heap.size + 1 := ⟨_, rfl⟩
  have h2 : W.heap[p]? = some (.cells sn0.c 30 (0, 0)) := by
    rw [hW, hp]
    have := heap_alloc_new (w.alloc (.cells s.c 24)) (.cells sn0.c 30)
    rwa [World.size_alloc] at this
  obtain ⟨c0, c1, c2⟩ := sn_cells h1
  obtain ⟨W9, hW9⟩ : ∃ W9, W9 = W.setRow p s.c := ⟨_, rfl⟩
  have hB9 : Below w.heap.size w W9 := by rw [hW9]; exact hB.trans ⟨rfl, rfl, rfl, by simp, fun k hk => setRow_other _ _ _ _ (by omega)⟩
  have h9 : W9.heap[p]? = some (.cells s.c 30 (0, 0)) := by rw [hW9]; exact setRow_heap _ _ _ _ 30 (0, 0) h2
  have HB9 := Lib.hid hB9
  have H9 := Lib.hid h9
  have HW := Lib.hid hW
  have HW9 := Lib.hid hW9
  have HP := Lib.hid hp
  have H2 := Lib.hid h2
  clear hB h1 hp h2 hW9 hB9 h9 hW
  obtain ⟨ix, tm, D⟩ := s
  unfold Sn.c Sn.v at *
  dsimp only at *
  go_enter Try.func11, Try.ntmps11
  go_upto_region 1 with fail
  refine wp_at (w := W) HW.out.symm ?_
  rw [← HP.out]
  go_wp2_with (refine wpList_store_rn rfl _ _ rfl _ _ ⟨ix, tm, D⟩ sn0 rfl rfl H2.out ?_; refine wpList_at HW9.out.symm ?_; go_frame)
  exact bodyPost_ret (v := _) (res11 _ _ p ⟨ix, tm, D⟩ rfl H9.out) rfl ⟨rfl, HB9.out⟩
theorem pack_size (v : Int) (b : ByteArray) : (pack v b).size = (hdF v b.size).size + 4 + b.size := by
  unfold pack
  rw [ByteArray.size_append, ByteArray.size_append, seal_size]
theorem hd1_size (n : Nat) : (hdF 1 n).size = 5 := by
  unfold hdF lenB
  have a1 : (fxB (160 + 1 : Int).toNat 1).size = 1 := fxB_size _ 1 (by omega)
  have a2 : (fxB n 4).size = 4 := fxB_size n 4 (by omega)
  rw [if_pos rfl, ByteArray.size_append, a1, a2]
theorem hd2_size (n : Nat) : (hdF 2 n).size = 1 + (putB n).size := by
  unfold hdF lenB
  have a1 : (fxB (160 + 2 : Int).toNat 1).size = 1 := fxB_size _ 1 (by omega)
  rw [if_neg (by decide), ByteArray.size_append, a1]
theorem putB_one (n : Nat) (h : n < 128) : (putB n).size = 1 := by
  unfold putB
  rw [str_size, put_small n h]
  rfl
theorem putB_two (n : Nat) (h : 128 ≤ n) (h2 : n < 16384) : (putB n).size = 2 := by
  unfold putB
  rw [str_size, put_big n h, put_small _ (by omega)]
  rfl
theorem snS1_size {s : Sn} (h : snO 1 s = true) : (snS 1 s).size = 25 + s.da.size := by
  have e : snS 1 s = pack 1 (snB 1 s) := by unfold snS; rw [if_pos h]
  have h3 : (fxB s.ix 8).size = 8 := fxB_size s.ix 8 (by omega)
  have h4 : (fxB s.tm 8).size = 8 := fxB_size s.tm 8 (by omega)
  rw [e, pack_size, hd1_size]
  unfold snB
  rw [if_pos rfl, ByteArray.size_append, ByteArray.size_append, h3, h4]
  omega
theorem snS2_size {s : Sn} (h : snO 2 s = true) : (snS 2 s).size = 5 + (putB ((putB s.ix).size + (putB s.tm).size + s.da.size)).size + ((putB s.ix).size + (putB s.tm).size + s.da.size) := by
  have e : snS 2 s = pack 2 (snB 2 s) := by unfold snS; rw [if_pos h]
  have e2 : (snB 2 s).size = (putB s.ix).size + (putB s.tm).size + s.da.size := by
    unfold snB
    rw [if_neg (by decide), ByteArray.size_append, ByteArray.size_append]
  rw [e, pack_size, hd2_size, e2]
  omega
abbrev exS : Sn := ⟨300, 2, ⟨#[97, 98]⟩⟩
theorem exS_ok : exS.Ok := ⟨by decide, by decide, by decide⟩
theorem exS_o1 : snO 1 exS = true := by decide
theorem exS_o2 : snO 2 exS = true := by decide
theorem exS_1 : (snS 1 exS).size = 27 := by rw [snS1_size exS_o1]; rfl
theorem exS_2 : (snS 2 exS).size = 11 := by
  have h1 : (putB 300).size = 2 := putB_two 300 (by omega) (by omega)
  have h2 : (putB 2).size = 1 := putB_one 2 (by omega)
  have h3 : (putB 5).size = 1 := putB_one 5 (by omega)
  rw [snS2_size exS_o2]
  show 5 + (putB ((putB 300).size + (putB 2).size + 2)).size + ((putB 300).size + (putB 2).size + 2) = 11
  rw [h1, h2, show 2 + 1 + 2 = 5 from rfl, h3]
theorem gt_nil : gtO ⟨#[]⟩ = false := gt_nx (nOk_nil rfl)
theorem exS_room : rmB 2 1 exS = true := by
  unfold rmB
  rw [exS_o2, exS_2]
  rfl
/-- Are two snaps the same? -/
def sameSn (s t : Sn) : Bool := decide (s.ix = t.ix) && (decide (s.tm = t.tm) && decide (s.da.toList = t.da.toList))
theorem sameSn_self (s : Sn) : sameSn s s = true := by unfold sameSn; simp
set_option maxRecDepth 100000 in
set_option maxHeartbeats 1000000 in
theorem eql_sn (s t : Sn) (w : World) : (binOp .eql 24 s.v t.v).run Try.prog w = .ok (.bool (sameSn s t)) w := by
  go_simp
  unfold sameSn
  repeat' split
  all_goals first
    | (simp_all; done)
    | (simp_all; first | (constructor <;> omega) | (intros; omega))
set_option maxRecDepth 100000 in
set_option maxHeartbeats 1000000 in
theorem eql_rn (s t : Sn) (w : World) : (binOp .eql 30 s.v t.v).run Try.prog w = .ok (.bool (sameSn s t)) w := by
  go_simp
  unfold sameSn
  repeat' split
  all_goals first
    | (simp_all; done)
    | (simp_all; first | (constructor <;> omega) | (intros; omega))
set_option maxHeartbeats 4000000 in
set_option maxRecDepth 100000 in
theorem examples_any (w : World) : Calls Try.prog 8 #[] w fun e w' => e = .returned (.bool true) ∧ Below w.heap.size w w' := by
  obtain ⟨V, hV⟩ : ∃ V : Value, V = .agg #[.int .u64 300, .int .u64 2, .string ⟨#[97, 98]⟩] := ⟨_, rfl⟩
  have KA := Lib.hid (fun (W : World) => (show Calls Try.prog 9 #[.int .i64 1, .agg #[.int .u64 300, .int .u64 2, .string ⟨#[97, 98]⟩]] W fun e w' => e = .returned (.tuple #[.string (snS 1 exS), .bool true]) ∧ Below W.heap.size W w' from by
    have := aput_any 1 exS W exS_ok
    rw [exS_o1] at this
    exact this))
  have KB := Lib.hid (fun (W : World) => (show Calls Try.prog 9 #[.int .i64 2, .agg #[.int .u64 300, .int .u64 2, .string ⟨#[97, 98]⟩]] W fun e w' => e = .returned (.tuple #[.string (snS 2 exS), .bool true]) ∧ Below W.heap.size W w' from by
    have := aput_any 2 exS W exS_ok
    rw [exS_o2] at this
    exact this))
  have hg : (snS 2 exS ++ (⟨#[109, 111, 114, 101]⟩ : ByteArray)).size ≤ 281474976710656 := by rw [ByteArray.size_append, exS_2]; decide
  obtain ⟨g1, g2, g3⟩ := gt_put exS_ok exS_o2 (⟨#[109, 111, 114, 101]⟩ : ByteArray)
  have KC := Lib.hid (fun (W : World) => (show Calls Try.prog 13 #[.string (snS 2 exS ++ (⟨#[109, 111, 114, 101]⟩ : ByteArray))] W fun e w' => e = .returned (.tuple #[.agg #[.int .u64 300, .int .u64 2, .string ⟨#[97, 98]⟩], .int .i64 2, .bool true]) ∧ Below W.heap.size W w' from by
    have := aget_any _ W hg
    rw [g1, g2, g3] at this
    exact this))
  have KD := Lib.hid (fun (W : World) => (show Calls Try.prog 13 #[.string ⟨#[]⟩] W fun e w' => e = .returned (.tuple #[.agg #[.int .u64 0, .int .u64 0, .string ⟨#[]⟩], .int .i64 0, .bool false]) ∧ Below W.heap.size W w' from by
    have := aget_any ⟨#[]⟩ W (by decide)
    rw [gt_nil, (gt_no gt_nil).1, (gt_no gt_nil).2] at this
    exact this))
  have KR := Lib.hid (fun (W : World) => (show Calls Try.prog 15 #[.int .i64 2, .int .i64 1, .agg #[.int .u64 300, .int .u64 2, .string ⟨#[97, 98]⟩]] W fun e w' => e = .returned (.bool true) ∧ Below W.heap.size W w' from by
    have := aroom_any 2 1 exS W exS_ok
    rw [exS_room] at this
    exact this))
  have KQ := Lib.hid (fun (W : World) => (show (binOp .eql 24 (.agg #[.int .u64 300, .int .u64 2, .string ⟨#[97, 98]⟩]) (.agg #[.int .u64 300, .int .u64 2, .string ⟨#[97, 98]⟩])).run Try.prog W = .ok (.bool true) W from by
    have := eql_sn exS exS W
    rw [sameSn_self] at this
    exact this))
  have ha : (snS 1 exS).size = 27 := exS_1
  have hb : (snS 2 exS).size = 11 := exS_2
  clear hg g1 g2 g3
  generalize snS 1 exS = a at *
  generalize snS 2 exS = b at *
  have ha1 : ((a.size : Int) == 27) = true := by rw [ha]; rfl
  have hb1 : ((b.size : Int) == 11) = true := by rw [hb]; rfl
  have hs : ¬ 9223372036854775807 < b.size + 4 := by omega
  obtain ⟨W1, hW1⟩ : ∃ W, W = w.alloc (.cells #[.int .u64 300, .int .u64 2, .string ⟨#[97, 98]⟩] 24) := ⟨_, rfl⟩
  have hB1 : Below w.heap.size w W1 := by rw [hW1]; exact (Below.refl _ w).alloc (Nat.le_refl _) _
  have hc1 : W1.heap[w.heap.size]? = some (.cells exS.c 24 (0, 0)) := by rw [hW1]; exact heap_alloc_new w _
  have HB1 := Lib.hid hB1
  have HC1 := Lib.hid hc1
  have HW1 := Lib.hid hW1
  have HA := Lib.hid ha
  clear hB1 hc1 hW1 ha hb
  go_enter Try.func8, Try.ntmps8
  go_upto_region 2 with fail
  rw [← HW1.out]
  obtain ⟨c0, c1, c2⟩ := sn_cells HC1.out
  go_upto_region 3 with (go_at_call 9; (with_reducible refine (KA.out _).mono ?_); rintro q w2 ⟨rfl, b2⟩)
  have HB2 : Hid (Below w.heap.size w w2) := HB1.out.trans (b2.mono HB1.out.size)
  have HC2 : Hid (w2.heap[w.heap.size]? = some (.cells exS.c 24 (0, 0))) := (b2.block _ (Array.getElem?_eq_some_iff.1 HC1.out).1).trans HC1.out
  clear b2 c0 c1 c2
  obtain ⟨c0, c1, c2⟩ := sn_cells HC2.out
  go_upto_region 4 with (go_at_call 9; (with_reducible refine (KB.out _).mono ?_); rintro q w3 ⟨rfl, b3⟩)
  have HB3 : Hid (Below w.heap.size w w3) := HB2.out.trans (b3.mono HB2.out.size)
  have HC3 : Hid (w3.heap[w.heap.size]? = some (.cells exS.c 24 (0, 0))) := (b3.block _ (Array.getElem?_eq_some_iff.1 HC2.out).1).trans HC2.out
  clear b3 c0 c1 c2
  go_upto_region 5 with (go_at_call 13; (with_reducible refine (KC.out _).mono ?_); rintro q w4 ⟨rfl, b4⟩)
  have HB4 : Hid (Below w.heap.size w w4) := HB3.out.trans (b4.mono HB3.out.size)
  have HC4 : Hid (w4.heap[w.heap.size]? = some (.cells exS.c 24 (0, 0))) := (b4.block _ (Array.getElem?_eq_some_iff.1 HC3.out).1).trans HC3.out
  clear b4
  obtain ⟨p5, hp5⟩ : ∃ p, p = w4.heap.size := ⟨_, rfl⟩
  obtain ⟨W5, hW5⟩ : ∃ W, W = w4.alloc (.cells #[.int .u64 300, .int .u64 2, .string ⟨#[97, 98]⟩] 24) := ⟨_, rfl⟩
  have hb5 : Below w4.heap.size w4 W5 := by rw [hW5]; exact (Below.refl _ _).alloc (Nat.le_refl _) _
  have HB5 : Hid (Below w.heap.size w W5) := HB4.out.trans (hb5.mono HB4.out.size)
  have HC5 : Hid (W5.heap[w.heap.size]? = some (.cells exS.c 24 (0, 0))) := (hb5.block _ (Array.getElem?_eq_some_iff.1 HC4.out).1).trans HC4.out
  have HP5 : Hid (W5.heap[p5]? = some (.cells exS.c 24 (0, 0))) := by show _ = _; rw [hW5, hp5]; exact heap_alloc_new w4 _
  rw [← hW5, ← hp5]
  clear hb5 hW5 hp5
  go_upto_region 6 with (go_at_call 13; (with_reducible refine (KD.out _).mono ?_); rintro q w6 ⟨rfl, b6⟩)
  obtain ⟨W7, hW7⟩ : ∃ W, W = w6.alloc (.cells #[.int .u64 0, .int .u64 0, .string ⟨#[]⟩] 24) := ⟨_, rfl⟩
  have hb7 : Below W5.heap.size W5 W7 := by rw [hW7]; exact b6.alloc b6.size _
  have HB7 : Hid (Below w.heap.size w W7) := HB5.out.trans (hb7.mono HB5.out.size)
  have HC7 : Hid (W7.heap[w.heap.size]? = some (.cells exS.c 24 (0, 0))) := (hb7.block _ (Array.getElem?_eq_some_iff.1 HC5.out).1).trans HC5.out
  have HP7 : Hid (W7.heap[p5]? = some (.cells exS.c 24 (0, 0))) := (hb7.block _ (Array.getElem?_eq_some_iff.1 HP5.out).1).trans HP5.out
  rw [← hW7]
  clear hb7 hW7 b6
  obtain ⟨c0, c1, c2⟩ := sn_cells HC7.out
  obtain ⟨d0, d1, d2⟩ := sn_cells HP7.out
  have kq := KQ.out W7
  go_wp2_with (go_at_call 15; (with_reducible refine (KR.out _).mono ?_); rintro q w8 ⟨rfl, b8⟩)
  go_ret
  exact ⟨rfl, HB7.out.trans (b8.mono HB7.out.size)⟩
end Go.Proofs.Ytlmfnlaikdmphaa
namespace Go.Proofs.Ytlmfnlaikdmphaa
open Go.ChangeShapes Go.WideShapes Go.ChangeAt Go.RowKit Dk
set_option linter.unusedVariables false
theorem cells3 : Try.prog.cellsOf 3 = 1 := by kernel_rfl
theorem cells9 : Try.prog.cellsOf 9 = 1 := by kernel_rfl
theorem cells22 : Try.prog.cellsOf 22 = 1 := by kernel_rfl
theorem cells24 : Try.prog.cellsOf 24 = 3 := by kernel_rfl
theorem cells41 : Try.prog.cellsOf 41 = 3 := by kernel_rfl
theorem seat_laidOut : laidOutB Try.prog = true := by kernel_rfl
theorem DataW.weights_mem_agg {H : Type} {P : Program} {t : TypeId} {fs : Array Field} {ds : List (DataW H)} (hu : P.underlying t = some (.struct fs)) (j : Nat) {t' : TypeId} {d : DataW H}
    (ht : (fs.toList.map (·.type))[j]? = some t') (hd : ds[j]? = some d) : ∀ n ∈ d.weights P t', n ∈ (DataW.agg ds).weights P t := by
  intro n hn
  simp only [DataW.weights, hu]
  exact DataW.weights_mem_each ht hd n hn
set_option maxHeartbeats 2000000 in
set_option maxRecDepth 100000 in
theorem open_sn {H : Type} {enc : TypeId × Value → H} {w : World} {base base0 : Nat} {r : Reach} {sp : Nat → Bool} {held : Bool} {v : Value} {d : DataW H} {p : List MemPlace}
    (hv : Value.okWide Try.prog w r base0 24 v) (h : DataW.Trod enc Try.prog w base sp held 24 v d p) (hz : ∀ n ∈ d.weights Try.prog 24, n ≤ reachBytes) : ∃ s : Sn, v = s.v ∧ s.Ok := by
  obtain ⟨cs, rfl, hsz⟩ := okWide_struct Try.underlying24 hv
  rw [cells24] at hsz
  obtain ⟨fuel, hf⟩ := h
  obtain ⟨xs, n, hxx, hxe, hl, hlen, hf⟩ := DataW.trod_struct Try.underlying24 hf
  obtain ⟨l⟩ := cs
  match l, hsz, xs, hlen with
  | [c0, c1, c2], _, [y0, y1, y2], _ =>
    have t0 := hf 0 _ rfl
    have t1 := hf 1 _ rfl
    have t2 := hf 2 _ rfl
    simp [Value.cells, cells9, cells22] at t0 t1 t2
    obtain ⟨u0, h0, _, k0⟩ := DataW.trod_int Try.underlying22 t0
    obtain ⟨u1, h1, _, k1⟩ := DataW.trod_int Try.underlying22 t1
    obtain ⟨u2, h2, d2, _⟩ := DataW.trod_string Try.underlying9 t2
    have b0 := bounds_u64 k0
    have b1 := bounds_u64 k1
    simp at h0 h1 h2
    subst h0 h1 h2
    obtain ⟨m0, rfl⟩ := Int.eq_ofNat_of_zero_le b0.1
    obtain ⟨m1, rfl⟩ := Int.eq_ofNat_of_zero_le b1.1
    simp only [Prod.mk.injEq] at hxe
    obtain ⟨rfl, _⟩ := hxe
    have e2 : u2.size ≤ 140737488351232 := by
      have hq := hz u2.data.toList.length (DataW.weights_mem_agg Try.underlying24 2 rfl (by rw [d2]; rfl) _ (by simp [DataW.weights]))
      simp only [reachBytes, Array.length_toList] at hq
      exact hq
    exact ⟨⟨m0, m1, u2⟩, rfl, by dsimp only; omega, by dsimp only; omega, by dsimp only; omega⟩
set_option maxHeartbeats 2000000 in
set_option maxRecDepth 100000 in
theorem open_pl {H : Type} {enc : TypeId × Value → H} {w : World} {base base0 : Nat} {r : Reach} {sp : Nat → Bool} {held : Bool} {v : Value} {d : DataW H} {p : List MemPlace}
    (hv : Value.okWide Try.prog w r base0 41 v) (h : DataW.Trod enc Try.prog w base sp held 41 v d p) : ∃ a m u : Int, v = .agg #[.int .i64 a, .int .i64 m, .int .i64 u] ∧ (-9223372036854775808 ≤ a ∧ a ≤ 9223372036854775807) ∧ (-9223372036854775808 ≤ m ∧ m ≤ 9223372036854775807) ∧ (-9223372036854775808 ≤ u ∧ u ≤ 9223372036854775807) := by
  obtain ⟨cs, rfl, hsz⟩ := okWide_struct Try.underlying41 hv
  rw [cells41] at hsz
  obtain ⟨fuel, hf⟩ := h
  obtain ⟨xs, n, _, _, hl, hlen, hf⟩ := DataW.trod_struct Try.underlying41 hf
  obtain ⟨l⟩ := cs
  match l, hsz, xs, hlen with
  | [c0, c1, c2], _, [y0, y1, y2], _ =>
    have t0 := hf 0 _ rfl
    have t1 := hf 1 _ rfl
    have t2 := hf 2 _ rfl
    simp [Value.cells, cells3] at t0 t1 t2
    obtain ⟨u0, h0, _, k0⟩ := DataW.trod_int Try.underlying3 t0
    obtain ⟨u1, h1, _, k1⟩ := DataW.trod_int Try.underlying3 t1
    obtain ⟨u2, h2, _, k2⟩ := DataW.trod_int Try.underlying3 t2
    have b0 := bounds_i64 k0
    have b1 := bounds_i64 k1
    have b2 := bounds_i64 k2
    simp at h0 h1 h2
    subst h0 h1 h2
    exact ⟨u0, u1, u2, rfl, by omega, by omega, by omega⟩
theorem lt_of_cell' {w : World} {a : Addr} {v : Value} (h : w.cell? a = some v) : a.block < w.heap.size := by
  rcases Nat.lt_or_ge a.block w.heap.size with h1 | h1
  · exact h1
  · simp [World.cell?, Array.getElem?_eq_none h1] at h
set_option maxHeartbeats 1000000 in
set_option maxRecDepth 100000 in
/-- A slice of ints that came in. -/
theorem open_lost {H : Type} {enc : TypeId × Value → H} {w : World} {base fuel : Nat} {A : Option Addr} {len cap : Nat} {held : Bool} {x : DataW H × List MemPlace}
    (h : DataW.trod enc Try.prog w base (fun _ => true) held fuel 42 [.slice A len cap] = some x) : ∃ lost : List Int, len = lost.length ∧ lost.length ≤ maxLen ∧ IntsAt w A lost := by
  rcases Deep.open_slice1 Try.underlying42 cells3 h with ⟨hc3, _⟩ | ⟨a3, l3, c3, m3, n3, V, D3, P3, hc3, _, hl3, hm3, hmm3, _, hx3⟩
  · simp at hc3
    obtain ⟨rfl, rfl, rfl⟩ := hc3
    exact ⟨[], rfl, Nat.zero_le _, fun j x hj => by simp at hj⟩
  · simp at hc3
    obtain ⟨rfl, rfl, rfl⟩ := hc3
    simp only [if_true] at hmm3
    refine ⟨(List.range len).map (fun j => match V j with | .int _ y => y | _ => 0), by simp, by simp; omega, fun j x hj => ?_⟩
    rw [List.getElem?_map] at hj
    obtain ⟨j', hj', rfl⟩ := Option.map_eq_some_iff.1 hj
    obtain ⟨hjl, hje⟩ := List.getElem?_eq_some_iff.1 hj'
    rw [List.getElem_range] at hje
    subst hje
    rw [List.length_range] at hjl
    obtain ⟨hcj, htj⟩ := hx3 j (by omega)
    obtain ⟨y, hy, _, hwy⟩ := DataW.trod_int Try.underlying3 htj
    simp at hy
    have hby := bounds_i64 hwy
    rw [hy] at hcj ⊢
    exact ⟨by simpa using hby, a3, rfl, by have := lt_of_cell' hcj; rwa [block_of_add] at this, hcj⟩
end Go.Proofs.Ytlmfnlaikdmphaa
