/-
  Texts of the layer below and of this one: LRecA, WBulk.
  Conditions: named in each theorem.
-/
import Derived.Test.YtnobeoppffoomaaGreatG33
import Derived.Test.YtnobeoppffoomaaGreatG32
import Derived.Test.YtnobeoppffoomaaGreatG10
import Derived.Test.YtnobeoppffoomaaGreatG34
import Derived.Test.YtnobeoppffoomaaGreatRows
namespace Go.Proofs.YtnobeoppffoomaaGreat
open Go.RowKit
set_option linter.unusedVariables false
set_option linter.unusedSimpArgs false
open Dk Vi
/-- The law's made. -/
def mkE (p : En × Bool) : En := if p.2 then mk p.1 else p.1
theorem mkE_ok (p : En × Bool) (ok : p.1.Ok) : (mkE p).Ok := by
  unfold mkE
  split
  · exact (mk_facts p.1 ok).1
  · exact ok
theorem mkE_any (p : En × Bool) (ok : p.1.Ok) (w : World) : Calls Tryz.prog 11 #[mdv p.1 p.2] w fun r w' => r = .returned (ev (mkE p)) ∧ Below w.heap.size w w' := by
  obtain ⟨e, b⟩ := p
  cases b with
  | false => exact made_no e w
  | true => exact made_yes e w ok
def rkk (L : List (En × Bool)) (k : Nat) : List En := (List.range k).map fun i => mkE (L[i]?.getD (ezz, false))
theorem rkk_length (L : List (En × Bool)) (k : Nat) : (rkk L k).length = k := by unfold rkk; simp
theorem rkk_succ (L : List (En × Bool)) (k : Nat) (p : En × Bool) (h : L[k]? = some p) : rkk L (k + 1) = rkk L k ++ [mkE p] := by
  unfold rkk
  rw [List.range_succ, List.map_append]
  simp [h]
theorem rkk_ok (L : List (En × Bool)) (hok : ∀ p ∈ L, p.1.Ok) (k : Nat) (hk : k ≤ L.length) : ∀ e ∈ rkk L k, e.Ok := fun e he => by
  unfold rkk at he
  obtain ⟨i, hi, rfl⟩ := List.mem_map.1 he
  have h := List.mem_range.1 hi
  rw [List.getElem?_eq_getElem (by omega), Option.getD_some]
  exact mkE_ok _ (hok _ (List.getElem_mem _))
theorem rcS_le (v : Int) (es : List En) : (rcS v (pS v) (pO v) es).size ≤ es.length * 1048663 := by
  unfold rcS
  split
  · exact rcA_le v (pS v) 1048600 es fun e _ => pS_le v e
  · exact Nat.zero_le _
theorem Le.max {B : Nat} {A : Option Addr} {n c : Nat} {es : List En} {w : World} (h : Le B A n c es w) : n ≤ 9223372036854775807 := by
  rcases h.form with ⟨_, h0, _⟩ | ⟨g, _, h1, h2, _⟩
  · omega
  · unfold maxLen at h2; omega
set_option maxRecDepth 100000 in
set_option maxHeartbeats 8000000 in
theorem rec_any (known : Bool) (ver v : Int) (A : Option Addr) (n c : Nat) (L : List (En × Bool)) (s : ByteArray) (own : Bool) (at_ : Int) (by_ : Nat) (w : World) (hv : v = if known then 1 + IntKind.u64.wrap ver % 2 else ver)
    (z0 : -9223372036854775808 ≤ ver ∧ ver ≤ 9223372036854775807) (k2 : KM A n L w) (z3 : s.size ≤ 1048576) (z5 : -9223372036854775808 ≤ at_ ∧ at_ ≤ 9223372036854775807) (z6 : by_ < 256) :
    Calls Tryz.prog 3 #[.int .i64 ver, .bool known, .slice A n c, .string s, .bool own, .int .i64 at_, .int .u8 by_] w fun q w' => q = .returned (.bool true) ∧ Below w.heap.size w w' := by
  obtain ⟨hL, hok, hn⟩ := k2
  have HL := Lib.hid hL
  have HO := Lib.hid hok
  have K0 := Lib.hid (fun W => examples_any W)
  have hlen : Hid (L.length = n) := hL.len
  have hvl : -9223372036854775808 ≤ v := by
    rw [hv]
    split
    · have := Int.emod_nonneg (IntKind.u64.wrap ver) (show (2:Int) ≠ 0 by omega); omega
    · exact z0.1
  have HVL := Lib.hid hvl
  clear hL hok
  obtain ⟨u, hu, hu0, hu1⟩ : ∃ u, IntKind.u64.wrap ver = u ∧ 0 ≤ u ∧ u ≤ 18446744073709551615 := ⟨_, rfl, by rw [IntKind.wrap_u64]; omega, by rw [IntKind.wrap_u64]; omega⟩
  rw [hu] at hv
  have hkk : (known = true ∧ 1 + u % 2 = v) ∨ (known = false ∧ v = ver) := by
    cases known
    · exact .inr ⟨rfl, hv⟩
    · exact .inl ⟨rfl, hv.symm⟩
  clear hv
  go_enter Tryz.func3, Tryz.ntmps3
  go_upto_region 4 with (go_at_call 10; (with_reducible refine (K0.out _).mono ?_); rintro q w1 ⟨rfl, b1⟩)
  have HB1 := Lib.hid b1
  clear b1 K0
  rcases hkk with ⟨rfl, hvv⟩ | ⟨rfl, rfl⟩
  case' inl =>
    go_upto_region 6 with fail
    clear hvv
  case' inr =>
    go_upto_region 6 with fail
  all_goals
    go_upto_region 8 with fail
    clear hu hu0 hu1 z0
    go_loopw [16, 17] (fun l i wr => ∃ (A' : Option Addr) (c' k : Nat), l = .slice A' k c' ∧ i = .int .i64 k ∧ k ≤ n ∧ k ≤ 8 ∧ Le w.heap.size A' k c' (rkk L k) wr ∧ Below w.heap.size w wr) (fun _ i _ => 8 - (Go.RowKit.intOf i).toNat)
    case atStart => exact ⟨none, 0, 0, rfl, rfl, Nat.zero_le _, Nat.zero_le _, Le.nil _ _, HB1.out⟩
    case round =>
      obtain ⟨A', c', k, rfl, rfl, hkn, hkm, hLe, hbw⟩ := hrel
      by_cases hk : k < n ∧ k < 8
      · obtain ⟨h1, h2⟩ := hk
        have t1 : decide ((k : Int) < (n : Int)) = true := decide_eq_true (by omega)
        have t2 : decide ((k : Int) < 8) = true := decide_eq_true (by omega)
        obtain ⟨p, hp⟩ : ∃ p, L[k]? = some p := ⟨_, List.getElem?_eq_getElem (by rw [hlen.out]; exact h1)⟩
        obtain ⟨a, hA, hB, hc⟩ := (HL.out.below hbw).at_ k p hp
        have K1 := Lib.hid (fun (W : World) => mkE_any p (HO.out _ (List.mem_of_getElem? hp)) W)
        have hsn := rkk_succ L k _ hp
        obtain ⟨E, hE⟩ : ∃ E, E = mkE p := ⟨_, rfl⟩
        rw [← hE] at K1 hsn
        have HSN := Lib.hid hsn
        obtain ⟨pe, po⟩ := p
        have d0 : wr.cell? (a.add (k * 12)) = some (.int .u64 pe.term) := hc 0 (by omega)
        have d1 : wr.cell? ⟨(a.add (k * 12)).block, (a.add (k * 12)).off + 1, none⟩ = some (.int .u64 pe.index) := hc 1 (by omega)
        have d2 : wr.cell? ⟨(a.add (k * 12)).block, (a.add (k * 12)).off + 2, none⟩ = some (.int .i64 pe.kind) := hc 2 (by omega)
        have d3 : wr.cell? ⟨(a.add (k * 12)).block, (a.add (k * 12)).off + 3, none⟩ = some (.int .u64 pe.client) := hc 3 (by omega)
        have d4 : wr.cell? ⟨(a.add (k * 12)).block, (a.add (k * 12)).off + 4, none⟩ = some (.int .u64 pe.seq) := hc 4 (by omega)
        have d5 : wr.cell? ⟨(a.add (k * 12)).block, (a.add (k * 12)).off + 5, none⟩ = some (.int .u64 pe.block) := hc 5 (by omega)
        have d6 : wr.cell? ⟨(a.add (k * 12)).block, (a.add (k * 12)).off + 6, none⟩ = some (.int .u64 pe.many) := hc 6 (by omega)
        have d7 : wr.cell? ⟨(a.add (k * 12)).block, (a.add (k * 12)).off + 7, none⟩ = some (.int .i64 pe.node) := hc 7 (by omega)
        have d8 : wr.cell? ⟨(a.add (k * 12)).block, (a.add (k * 12)).off + 8, none⟩ = some (.int .i64 pe.level) := hc 8 (by omega)
        have d9 : wr.cell? ⟨(a.add (k * 12)).block, (a.add (k * 12)).off + 9, none⟩ = some (.string pe.data) := hc 9 (by omega)
        have d10 : wr.cell? ⟨(a.add (k * 12)).block, (a.add (k * 12)).off + 10, none⟩ = some (.string pe.old) := hc 10 (by omega)
        have d11 : wr.cell? ⟨(a.add (k * 12)).block, (a.add (k * 12)).off + 11, none⟩ = some (.bool po) := hc 11 (by omega)
        have HLE := Lib.hid hLe
        have HBW := Lib.hid hbw
        clear hp hE hc hsn hB hLe hbw
        rw [hA]
        clear hA
        go_upto_region 9 with (first
          | (go_at_call 11; (with_reducible refine (K1.out _).mono ?_); rintro q w3 ⟨rfl, b3⟩; have HB3 : Hid (Below w.heap.size w (w3.alloc (.cells (ec E) 28))) := (HBW.out.trans (b3.mono HBW.out.size)).alloc (Nat.le_trans HBW.out.size b3.size) _; have HL3 : Hid (Le w.heap.size A' k c' (rkk L k) (w3.alloc (.cells (ec E) 28))) := (HLE.out.below b3).below ((Below.refl _ _).alloc (Nat.le_refl _) _); clear b3)
          | (at_builtin; refine wpList_app_en rfl _ _ rfl _ w.heap.size A' k c' w3.heap.size (rkk L k) E rfl rfl HL3.out (heap_alloc_new w3 _) (by omega) HB3.out.size ?_; intro g cap w7 hL7 hb7 hk7))
        go_wp2
        go_roundw
        case rel => exact ⟨_, cap, k + 1, rfl, by go_num, h1, h2, by rw [HSN.out]; exact hL7, HB3.out.trans hb7⟩
        case measure => simp [Go.RowKit.intOf]; omega
      · have HLE := Lib.hid hLe
        have HBW := Lib.hid hbw
        have okes := rkk_ok L HO.out k (by rw [hlen.out]; omega)
        have lel := rkk_length L k
        obtain ⟨es, hes⟩ : ∃ es, es = rkk L k := ⟨_, rfl⟩
        rw [← hes] at okes lel HLE
        have hsz := rcS_le v es
        obtain ⟨x, hx⟩ : ∃ x, x = rcS v (pS v) (pO v) es := ⟨_, rfl⟩
        obtain ⟨o, ho⟩ : ∃ o, o = rcO v (pO v) es := ⟨_, rfl⟩
        rw [← hx] at hsz
        have hxs : x.size ≤ 8389304 := by rw [lel] at hsz; omega
        have KR := Lib.hid (fun (c : Nat) (W : World) (h : Ents W.heap.size A' k es W) => records_any v (pS v) (pO v) A' k c es W h (by omega) (fun e _ => Nat.le_trans (pS_le v e) (by omega)) (puts_in v es okes))
        have KRR := Lib.hid (fun (c : Nat) (W : World) (h : Ents W.heap.size A' k es W) => rrecords_any v (pS v) (pO v) A' k c es W h (by omega) (fun e _ => Nat.le_trans (pS_le v e) (by omega)) (rputs_in v es okes))
        rw [← hx, ← ho] at KR KRR
        have KP := Lib.hid (fun (s : ByteArray) (W : World) (h : s.size ≤ 1000000000000) => parse_any qX qV D.aO v s W h gets_in)
        have KRP := Lib.hid (fun (s : ByteArray) (W : World) (h : s.size ≤ 1000000000000) => rparse_any qX qV D.aO v s W h rgets_in qV_frm HVL.out)
        have KS : Hid (∀ (es : List En) (A A' : Option Addr) (n c c' : Nat) (W : World), Ents W.heap.size A n es W → Ents W.heap.size A' n es W → n ≤ 9223372036854775807 → Calls Tryz.prog 17 #[.slice A n c, .slice A' n c'] W fun r w' => r = .returned (.bool true) ∧ Below W.heap.size W w') := fun es A A' n c c' W h h' hn => by
          have := esame_any A A' n c n c' es es W h h' (by omega) (by omega)
          rw [entsB_self] at this
          exact this
        clear okes hsz hx ho hes hLe hbw lel
        have hstop : (k < n ∧ ¬ k < 8 ∧ decide ((k : Int) < (n : Int)) = true ∧ decide ((k : Int) < 8) = false) ∨ (¬ k < n ∧ decide ((k : Int) < (n : Int)) = false) := by
          rcases Nat.lt_or_ge k n with h | h
          · exact .inl ⟨h, by omega, decide_eq_true (by omega), decide_eq_false (by omega)⟩
          · exact .inr ⟨by omega, decide_eq_false (by omega)⟩
        clear hk hkn
        rcases hstop with ⟨h1, h2, t1, t2⟩ | ⟨h1, t1⟩
        all_goals
          go_upto_region 12 with (go_at_call 12; (with_reducible refine (KR.out _ _ HLE.out.ents).mono ?_); rintro q w3 ⟨rfl, b3⟩)
          have HB3 : Hid (Below w.heap.size w w3) := HBW.out.trans (b3.mono HBW.out.size)
          have HL3 := Lib.hid (HLE.out.below b3)
          clear b3 t1 h1
          go_upto_region 13 with (go_at_call 13; (with_reducible refine (KRR.out _ _ HL3.out.ents).mono ?_); rintro q w4 ⟨rfl, b4⟩)
          have HB4 : Hid (Below w.heap.size w w4) := HB3.out.trans (b4.mono HB3.out.size)
          clear b4 HB3 HL3
          cases own
          case' false =>
            obtain ⟨w5, rfl⟩ : ∃ x, x = w4 := ⟨w4, rfl⟩
            obtain ⟨S, rfl⟩ : ∃ S, S = s := ⟨s, rfl⟩
            have hS : S.size ≤ 1000000000000 := by omega
            have HB5 : Hid (Below w.heap.size w w5) := HB4
            go_upto_region 15 with fail
          case' true =>
            go_upto_region 14 with fail
            have hadd : ∀ T : ByteArray, T.size = x.size → ¬ 9223372036854775807 < T.size + s.size := fun T hT => by omega
            have HADD := Lib.hid hadd
            clear hadd
            go_upto_region 15 with (go_at_call 14; (with_reducible refine (bend_any x at_ by_ _ (by omega) z5 z6).mono ?_); rintro q w5 ⟨T, rfl, hT, b5⟩; have hTs : T.size ≤ 8389304 := (by rw [hT]; exact hxs); have hadd := HADD.out T hT; have HB5 : Hid (Below w.heap.size w w5) := HB4.out.trans (b5.mono HB4.out.size); clear b5)
            obtain ⟨S, hSe⟩ : ∃ S, S = T ++ s := ⟨_, rfl⟩
            have hS : S.size ≤ 1000000000000 := by rw [hSe, ByteArray.size_append]; omega
            rw [← hSe]
            clear hSe hTs hT
          all_goals
            have KPS := Lib.hid (fun W => KP.out S W hS)
            have KRS := Lib.hid (fun W => KRP.out S W hS)
            obtain ⟨ps, hps⟩ : ∃ ps, ps = parE qX D.aO v S := ⟨_, rfl⟩
            obtain ⟨pu, hpu⟩ : ∃ pu, pu = parU qX D.aO v S := ⟨_, rfl⟩
            rw [← hps, ← hpu] at KPS KRS
            clear hps hpu
            go_upto_region 16 with (go_at_call 15; (with_reducible refine (KPS.out _).mono ?_); rintro q w6 ⟨A6, n6, c6, rfl, hL6, b6⟩)
            have HL6 := Lib.hid hL6
            have HB6 : Hid (Below w.heap.size w w6) := HB5.out.trans (b6.mono HB5.out.size)
            clear b6 hL6
            go_upto_region 17 with (go_at_call 16; (with_reducible refine (KRS.out _).mono ?_); rintro q w7 ⟨A7, n7, c7, rfl, hL7, b7⟩)
            obtain rfl : n7 = n6 := hL7.len.symm.trans HL6.out.len
            have HL7 := Lib.hid hL7
            have HM7 := Lib.hid (HL6.out.below b7)
            have HB7 : Hid (Below w.heap.size w w7) := HB6.out.trans (b7.mono HB6.out.size)
            clear b7 hL7
            have hmx : n7 ≤ 9223372036854775807 := HL7.out.max
            go_upto_region 18 with (go_at_call 17; (with_reducible refine (KS.out _ _ _ _ _ _ _ HM7.out.ents HL7.out.ents hmx).mono ?_); rintro q w8 ⟨rfl, b8⟩)
            have HB8 : Hid (Below w.heap.size w w8) := HB7.out.trans (b8.mono HB7.out.size)
            clear b8
            go_wp2
            go_ret
            exact ⟨rfl, HB8.out⟩
end Go.Proofs.YtnobeoppffoomaaGreat
namespace Go.Proofs.YtnobeoppffoomaaGreat
set_option linter.unusedVariables false
theorem bulk_le_all {H : Type} : ∀ {ds : List (DataW H)} {d : DataW H}, d ∈ ds → Rows.uptoBulk d ≤ Rows.uptoBulkAll ds
  | x :: ds, d, h => by
    rw [Rows.uptoBulkAll]
    rcases List.mem_cons.1 h with rfl | h
    · omega
    · have := bulk_le_all h
      omega
theorem bulk_small {H : Type} {ds : List (DataW H)} {d : DataW H} (h : Rows.uptoSmall H ds = true) (hd : d ∈ ds) : Rows.uptoBulk d ≤ 1048576 :=
  Nat.le_trans (bulk_le_all hd) (of_decide_eq_true h)
theorem bulk_string {H : Type} (l : List UInt8) : Rows.uptoBulk (H := H) (.lit (.string l)) = l.length + 1 := by rw [Rows.uptoBulk]
theorem bulk_text {H : Type} {ds : List (DataW H)} {s : ByteArray} (h : Rows.uptoSmall H ds = true) (hd : DataW.lit (.string s.data.toList) ∈ ds) : s.size ≤ 1048576 := by
  have h1 := bulk_small h hd
  rw [bulk_string, Array.length_toList] at h1
  have : s.size = s.data.size := rfl
  omega
end Go.Proofs.YtnobeoppffoomaaGreat
