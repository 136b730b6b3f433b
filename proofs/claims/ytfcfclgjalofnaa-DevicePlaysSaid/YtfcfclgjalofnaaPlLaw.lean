/-
  The walk of the law DevicePlays.
  Conditions: none but the numbers' bounds and what lies where.
-/
import Derived.Test.YtfcfclgjalofnaaRu
import Derived.Deep.QuietTactic
import Derived.BigQuiet
namespace Go.Proofs.Ytfcfclgjalofnaa
open Go.RowKit Dk
set_option linter.unusedVariables false
/-- So many deeds, in memory. -/
def DeedsAt (w : World) (A : Option Addr) (n : Nat) : Prop :=
  ∀ i, i < n → ∃ (ad : Addr) (k : Nat) (t : Int) (l : List UInt8) (LA : Option Addr) (lost : List Int) (c : Nat), A = some ad ∧ ad.block < w.heap.size ∧ k < 256 ∧ (-9223372036854775808 ≤ t ∧ t ≤ 9223372036854775807) ∧ lost.length ≤ maxLen ∧
    w.cell? (ad.add (i * 4)) = some (.int .u8 k) ∧ w.cell? (ad.add (i * 4 + 1)) = some (.int .i64 t) ∧ w.cell? (ad.add (i * 4 + 2)) = some (.string (txt l)) ∧ w.cell? (ad.add (i * 4 + 3)) = some (.slice LA lost.length c) ∧ IntsAt w LA lost
theorem Pair.below {w w' : World} {B g gr : Nat} {d : St} (h : Pair w B g gr d) (hb : Below w.heap.size w w') : Pair w' B g gr d := by
  obtain ⟨L, Lr, hD, hR, hL⟩ := h
  exact ⟨L, Lr, hD.below hb, hR.below hb, hL⟩
theorem ints_of_row {w : World} {B n : Nat} {v : Value} {l : List Nat} (h : w.ownsRow B 3 1 v n (l.map fun (i : Nat) => Value.int .i64 (i : Int))) (hl : n = l.length) (hb : ∀ i ∈ l, i < 4096) {xs : List Int} (hxs : xs = l.map fun (i : Nat) => (i : Int)) :
    ∃ A c, v = .slice A xs.length c ∧ IntsAt w A xs := by
  subst hxs
  obtain ⟨A, c, rfl⟩ := slice_of_row h
  refine ⟨A, c, by rw [List.length_map, hl], fun j x hx => ?_⟩
  rw [List.getElem?_map] at hx
  obtain ⟨i, hi, rfl⟩ := Option.map_eq_some_iff.1 hx
  have hj : j < l.length := (List.getElem?_eq_some_iff.1 hi).1
  have hm := hb i (List.mem_of_getElem? hi)
  obtain ⟨g, cap, e, _⟩ := h.form (by omega)
  rw [e] at h
  have e2 : A = some ⟨g, 0, none⟩ := by injection e
  refine ⟨by omega, ⟨g, 0, none⟩, e2, (h.lt g rfl).2, ?_⟩
  have hadd : (⟨g, 0, none⟩ : Addr).add j = ⟨g, j, none⟩ := by rw [Addr.add_mid, Nat.zero_add]
  rw [hadd, h.cellAt j (by omega), List.getElem?_map, hi]; rfl
set_option maxHeartbeats 1000000 in
set_option maxRecDepth 100000 in
theorem lplays_any (n : Int) (b : Bool) (A : Option Addr) (len cap : Nat) (w : World) (hn : -9223372036854775808 ≤ n ∧ n ≤ 9223372036854775807) (hD : DeedsAt w A len) (hlen : (len : Int) ≤ 9223372036854775807) :
    Calls Try.prog 3 #[.int .i64 n, .bool b, .slice A len cap] w fun e w' => e = .returned (.bool true) ∧ Below w.heap.size w w' := by
  have HD := Lib.hid hD
  clear hD
  go_enter Try.func3, Try.ntmps3
  go_wp2_with fail
  refine (examples_any w).mono ?_
  rintro e w0 ⟨rfl, hb0⟩
  go_upto_region 4 with fail
  go_upto_if 21 with (fail)
  go_cut [0] from 22 to 23 (fun s0 wx => w0 = wx ∧ ∃ m : Int, s0 = .int .i64 m ∧ -9223372036854775808 ≤ m ∧ m ≤ 9223372036854775807)
  case first =>
    cases b
    · go_wp2_with fail
      go_meet
      exact ⟨rfl, n, rfl, hn.1, hn.2⟩
    · go_wp2_with fail
      go_meet
      have hb : -21 ≤ n.tmod 21 ∧ n.tmod 21 ≤ 21 := by
        rcases Int.le_total 0 n with h | h
        · rw [Int.tmod_eq_emod_of_nonneg h]; omega
        · have e : n = -(-n) := by omega
          rw [e, Int.neg_tmod, Int.tmod_eq_emod_of_nonneg (by omega)]; omega
      exact ⟨rfl, _, rfl, by omega, by omega⟩
  case rest =>
    obtain ⟨rfl, m, rfl, hm1, hm2⟩ := hcut
    by_cases hm : m < 1 ∨ 4096 < m
    · have HN := Lib.hid (new_no m w0 hm)
      have HR := Lib.hid (rnew_no m w0 hm)
      clear hm
      go_wp2_with fail
      refine HN.out.mono ?_
      rintro e w1 ⟨rfl, rfl⟩
      go_wp2_with fail
      refine HR.out.mono ?_
      rintro e w2 ⟨rfl, rfl⟩
      go_wp2
      go_ret
      exact ⟨rfl, hb0⟩
    · obtain ⟨k, rfl⟩ := Int.eq_ofNat_of_zero_le (show 0 ≤ m by omega)
      have hk1 : 1 ≤ k := by omega
      have hk2 : k ≤ 4096 := by omega
      clear hm hm1 hm2
      go_wp2_with fail
      refine (new_yes k w0 hk1 hk2).mono ?_
      rintro e w1 ⟨g, L, rfl, hD1, hL1, hb1⟩
      have hb01 := hb0.trans (hb1.mono hb0.size)
      unfold ptr at *
      go_wp2_with fail
      refine (rnew_yes k w1 hk1 hk2).mono ?_
      rintro e w2 ⟨gr, Lr, rfl, hR2, hb2⟩
      have hb02 := hb01.trans (hb2.mono hb01.size)
      have hP : Pair w2 w.heap.size g gr (St.fresh k fun _ => zsec) := ⟨L, Lr, hD1.below hb2, hR2.base hb01.size, fun j hj => Nat.le_trans hb0.size (hL1 j hj)⟩
      have HP := Lib.hid hP
      clear hD1 hR2 hL1 hb1 hb2 hb01 hP
      unfold ptr at *
      go_upto_if 49 with (fail)
      go_cut [11] from 48 to 49 (fun s11 wx => w2 = wx ∧ ∃ lim : Nat, s11 = .int .i64 lim ∧ lim ≤ 60)
      case first =>
        by_cases h100 : (100 : Int) < k
        · go_wp2_with fail
          go_meet
          exact ⟨rfl, 5, rfl, by omega⟩
        · go_wp2_with fail
          go_meet
          exact ⟨rfl, 60, rfl, by omega⟩
      case rest =>
        obtain ⟨rfl, lim, rfl, hlim⟩ := hcut
        go_wp2_with fail
        go_loopw [8, 10, 12, 13, 14, 15, 16, 17] (fun g8 g10 i _ _ _ _ _ wr => ∃ (g gr : Nat) (d : St) (j : Nat), g8 = .pointer (some ⟨g, 0, none⟩) ∧ g10 = .pointer (some ⟨gr, 0, none⟩) ∧ i = .int .i64 j ∧ j ≤ len ∧ Pair wr w.heap.size g gr d ∧ d.n = k ∧ Below w.heap.size w wr) (fun _ _ i _ _ _ _ _ _ => len - (RowKit.intOf i).toNat)
        case atStart => exact ⟨g, gr, _, 0, rfl, rfl, rfl, Nat.zero_le _, HP.out, rfl, hb02⟩
        case round =>
          obtain ⟨g, gr, d, j, rfl, rfl, rfl, hj, hPr, hdn, hbr⟩ := hrel
          clear HP hb02
          by_cases h1 : j < len
          · by_cases h2 : j < lim
            · have h1' : (j : Int) < len := by omega
              have h2' : (j : Int) < lim := by omega
              have hj0 : (0 : Int) ≤ j := by omega
              obtain ⟨ad, kk, t, l, LA, lost, c, hAe, hadb, hkk, ht, hlost, d0, d1, d2, d3, hI⟩ := HD.out j h1
              subst hAe
              have hoff : ∀ o, ad.add (j * 4 + o) = ⟨(ad.add (j * 4)).block, (ad.add (j * 4)).off + o, none⟩ ∨ o = 0 := by
                intro o
                by_cases h0 : o = 0
                · exact .inr h0
                · left
                  unfold Addr.add
                  by_cases h0' : j * 4 = 0 <;> simp [h0', Nat.add_assoc, h0]
              have e0 : wr.cell? (ad.add (j * 4)) = some (.int .u8 kk) := (hbr.cell (p := ad.add (j * 4)) (by rw [block_of_add]; exact hadb)).trans d0
              have e1 : wr.cell? (ad.add (j * 4 + 1)) = some (.int .i64 t) := (hbr.cell (p := ad.add (j * 4 + 1)) (by rw [block_of_add]; exact hadb)).trans d1
              have e2 : wr.cell? (ad.add (j * 4 + 2)) = some (.string (txt l)) := (hbr.cell (p := ad.add (j * 4 + 2)) (by rw [block_of_add]; exact hadb)).trans d2
              have e3 : wr.cell? (ad.add (j * 4 + 3)) = some (.slice LA lost.length c) := (hbr.cell (p := ad.add (j * 4 + 3)) (by rw [block_of_add]; exact hadb)).trans d3
              rw [(hoff 1).resolve_right (by decide)] at e1
              rw [(hoff 2).resolve_right (by decide)] at e2
              rw [(hoff 3).resolve_right (by decide)] at e3
              have HI := Lib.hid hI
              have HPR := Lib.hid hPr
              have HBR := Lib.hid hbr
              clear hoff d0 d1 d2 d3 hI hPr hbr hadb
              obtain ⟨w3, hw3⟩ : ∃ w3, w3 = wr.alloc (.cells #[.int .u8 kk, .int .i64 t, .string (txt l), .slice LA lost.length c] 32) := ⟨_, rfl⟩
              obtain ⟨bd, hbd⟩ : ∃ bd, bd = wr.heap.size := ⟨_, rfl⟩
              have hb3 : Below wr.heap.size wr w3 := by rw [hw3]; exact (Below.refl _ _).alloc (Nat.le_refl _) _
              have hblk3 : w3.heap[bd]? = some (.cells #[.int .u8 kk, .int .i64 t, .string (txt l), .slice LA lost.length c] 32 (0, 0)) := by rw [hw3, hbd]; exact heap_alloc_new wr _
              have q0 : w3.cell? ⟨bd, 0, none⟩ = some (.int .u8 kk) := cell_of_row w3 bd 0 _ 32 (0, 0) hblk3
              have q1 : w3.cell? ⟨bd, 1, none⟩ = some (.int .i64 t) := cell_of_row w3 bd 1 _ 32 (0, 0) hblk3
              have HB3 := Lib.hid hb3
              have HK3 := Lib.hid hblk3
              have HBD := Lib.hid hbd
              clear hb3 hblk3
              go_upto_region 19 with fail
              refine wp_at (w := w3) hw3.symm ?_
              rw [← hbd]
              clear e0 e1 e2 e3 hw3 hbd
              go_cut [78] from 50 to 130 (fun s78 wx => w3 = wx ∧ ∃ bb : Bool, s78 = .bool bb ∧ (bb = true → 0 ≤ t ∧ t < 4096))
              case first =>
                by_cases t0 : 0 ≤ t
                · by_cases t1 : t < 4096
                  · go_wp2_with fail
                    go_meet
                    exact ⟨rfl, _, rfl, fun _ => ⟨t0, t1⟩⟩
                  · have t1' : decide (t < 4096) = false := decide_eq_false t1
                    go_wp2_with fail
                    go_meet
                    exact ⟨rfl, false, rfl, fun h => by cases h⟩
                · have t0' : decide (0 ≤ t) = false := decide_eq_false t0
                  go_wp2_with fail
                  go_meet
                  exact ⟨rfl, false, rfl, fun h => by cases h⟩
              case rest =>
                obtain ⟨rfl, bb, rfl, hbb⟩ := hcut
                go_upto_if 78 with (fail)
                go_cut [79] from 50 to 130 (fun s79 wx => s79 = s79 ∧ ∃ t' : Int, (-9223372036854775808 ≤ t' ∧ t' ≤ 9223372036854775807) ∧ wx.heap[bd]? = some (.cells #[.int .u8 kk, .int .i64 t', .string (txt l), .slice LA lost.length c] 32 (0, 0)) ∧ Below wr.heap.size wr wx)
                case first =>
                  cases bb
                  · go_wp2_with fail
                    go_meet
                    exact ⟨trivial, t, ht, HK3.out, HB3.out⟩
                  · obtain ⟨t0, t1⟩ := hbb rfl
                    have hP3 := HPR.out.below HB3.out
                    obtain ⟨L3, Lr3, _, hR3, _⟩ := hP3
                    have z0 : ∃ g1 c1, w3.drew.cell? ⟨gr, 0, none⟩ = some (.slice (some ⟨g1, 0, none⟩) k c1) := by
                      obtain ⟨g1, c1, g2, c2, g3, c3, rfl, hA⟩ := RAt.of_rf hR3
                      have := hA.drew.c 0
                      rw [← hdn]
                      exact ⟨_, _, this⟩
                    obtain ⟨g1, c1, z0⟩ := z0
                    have y1 : w3.drew.cell? ⟨bd, 1, none⟩ = some (.int .i64 t) := q1
                    have yf : w3.drew.frozen? ⟨bd, 1, none⟩ = false := frozen_of_row w3.drew bd 1 _ 32 HK3.out
                    obtain ⟨m, hm⟩ : ∃ m, m = k + 1 := ⟨_, rfl⟩
                    have hmi : (k : Int) + 1 = (m : Int) := by rw [hm]; push_cast; rfl
                    have hwr : IntKind.i64.wrap (m : Int) = (m : Int) := IntWalk.i64_in _ (by omega)
                    have hm1 : (1 : Int) ≤ m := by omega
                    have hm4 : (m : Int) ≤ 4097 := by omega
                    have hm0 : ¬ m = 0 := by omega
                    obtain ⟨r, hr⟩ : ∃ r, r = t % (m : Int) := ⟨_, rfl⟩
                    have hrt : t.tmod (m : Int) = r := by rw [hr]; exact Int.tmod_eq_emod_of_nonneg t0
                    have hr0 : 0 ≤ r := by rw [hr]; exact Int.emod_nonneg _ (by omega)
                    have hr1 : r < m := by rw [hr]; exact Int.emod_lt_of_pos _ (by omega)
                    have hbs : Below wr.heap.size wr (w3.drew.setCell ⟨bd, 1, none⟩ (.int .i64 r)) := (HB3.out.drew).setCell (p := ⟨bd, 1, none⟩) (by show wr.heap.size ≤ bd; have := HBD.out; omega) _
                    have HBS := Lib.hid hbs
                    clear hr hbs
                    have hs1 := heap_setCell_same w3.drew bd 1 _ 32 (.int .i64 r) HK3.out
                    have HS1 := Lib.hid hs1
                    clear hs1 hR3 hm
                    go_wp2_with fail
                    go_still_tail 10, (by kernel_rfl)
                    change wpList _ _ _ _ _ w3.drew
                    go_wp2_with fail
                    go_meet
                    exact ⟨trivial, r, by omega, HS1.out, HBS.out⟩
                case rest =>
                  obtain ⟨_, t', ht', hblk, hbx⟩ := hcut
                  have hbw : Below w.heap.size w wc := HBR.out.trans (hbx.mono HBR.out.size)
                  have hPx := HPR.out.below hbx
                  have hIx := HI.out.below hbw
                  have x0 : wc.cell? ⟨bd, 0, none⟩ = some (.int .u8 kk) := cell_of_row wc bd 0 _ 32 (0, 0) hblk
                  have x1 : wc.cell? ⟨bd, 1, none⟩ = some (.int .i64 t') := cell_of_row wc bd 1 _ 32 (0, 0) hblk
                  have x2 : wc.cell? ⟨bd, 2, none⟩ = some (.string (txt l)) := cell_of_row wc bd 2 _ 32 (0, 0) hblk
                  have x3 : wc.cell? ⟨bd, 3, none⟩ = some (.slice LA lost.length c) := cell_of_row wc bd 3 _ 32 (0, 0) hblk
                  have HC := Lib.hid (does_any w.heap.size g gr d kk t' l LA lost c wc hPx hbw.size ht'.1 ht'.2 hIx hlost)
                  have HBW := Lib.hid hbw
                  clear hbw hPx hIx hblk hbx HPR HBR HI HB3 HK3 q0 q1 hbb
                  unfold ptr deed at HC
                  go_wp2_with fail
                  refine HC.out.mono ?_
                  rintro e w5 ⟨g', gr', d', rfl, hP5, hn5, hb5⟩
                  obtain ⟨L5, Lr5, hD5, hR5, hL5⟩ := hP5
                  have hb05 : Below w.heap.size w w5 := HBW.out.trans hb5
                  clear HC x0 x1 x2 x3
                  have ho5 := hD5.1
                  have hwl : ∀ i ∈ d'.waits, i < 4096 := fun i hi => by
                    unfold St.waits at hi
                    have h1 := (List.mem_filter.1 hi).1
                    have h2 := List.mem_range.1 h1
                    have := ho5.n2
                    omega
                  have hwn : (d'.waits.map fun (i : Nat) => (i : Int)).length ≤ 4096 := by
                    rw [List.length_map]
                    unfold St.waits
                    have := List.length_filter_le (fun i => (d'.wt i).isSome) (List.range d'.n)
                    rw [List.length_range] at this
                    have := ho5.n2
                    omega
                  obtain ⟨xs, hxs⟩ : ∃ xs : List Int, xs = d'.waits.map fun (i : Nat) => (i : Int) := ⟨_, rfl⟩
                  rw [← hxs] at hwn
                  have HXS := Lib.hid hxs
                  clear hxs
                  have HW1 := Lib.hid (waiting_any g' L5 d' w5 hD5)
                  have HW2 := Lib.hid (fun wx (hx : Below w5.heap.size w5 wx) => rwaiting_any w.heap.size gr' Lr5 d' wx (hR5.below hx))
                  have HWL := Lib.hid hwl
                  have HWN := Lib.hid hwn
                  have HO5 := Lib.hid ho5
                  have HD5 := Lib.hid hD5
                  have HR5 := Lib.hid hR5
                  have HL5 := Lib.hid hL5
                  clear hwl hwn ho5 hD5 hR5 hL5 hb5
                  unfold ptr at *
                  go_wp2_with fail
                  refine HW1.out.mono ?_
                  rintro e w6 ⟨v1, rfl, hrow1, hb6⟩
                  obtain ⟨A1, k1, rfl, hI1⟩ := ints_of_row hrow1 rfl HWL.out HXS.out
                  go_wp2_with fail
                  refine (HW2.out w6 hb6).mono ?_
                  rintro e w7 ⟨v2, rfl, hrow2, hb7⟩
                  obtain ⟨A2, k2, rfl, hI2⟩ := ints_of_row hrow2 rfl HWL.out HXS.out
                  have hb57 : Below w5.heap.size w5 w7 := hb6.trans (hb7.mono hb6.size)
                  have HSM := Lib.hid (same_any A1 A2 _ k1 k2 w7 (hI1.below hb7) hI2 HWN.out)
                  clear HW1 HW2 hrow1 hrow2 hI1 hI2
                  go_wp2_with fail
                  refine HSM.out.mono ?_
                  rintro e w8 ⟨rfl, hb8⟩
                  have hb58 : Below w5.heap.size w5 w8 := hb57.trans (hb8.mono hb57.size)
                  clear HSM
                  obtain ⟨dead, hdead⟩ : ∃ dead, dead = d'.dead := ⟨_, rfl⟩
                  have hnk : Hid (d'.n = k) := hn5.trans hdn
                  have y4 : w8.cell? ⟨gr', 4, none⟩ = some (.bool dead) := by
                    obtain ⟨g1, c1, g2, c2, g3, c3, rfl, hA⟩ := RAt.of_rf (HR5.out.below hb58)
                    rw [hdead]; exact hA.c 4
                  have y0 : ∃ g1 c1, w8.cell? ⟨gr', 0, none⟩ = some (.slice (some ⟨g1, 0, none⟩) k c1) := by
                    obtain ⟨g1, c1, g2, c2, g3, c3, rfl, hA⟩ := RAt.of_rf (HR5.out.below hb58)
                    have := hA.c 0
                    rw [← hnk.out]
                    exact ⟨_, _, this⟩
                  obtain ⟨r1, k3, y0⟩ := y0
                  have hD8 := HD5.out.below hb58
                  have HCR := Lib.hid (fun a => (crashed_any g' L5 d' (w8.drewN a) (hD8.below ⟨rfl, rfl, rfl, Nat.le_refl _, fun _ _ => rfl⟩)).mono (fun e w' ⟨h1, h2⟩ => (⟨h1, h2.symm⟩ : e = Ending.returned (.bool d'.dead) ∧ w' = w8.drewN a)))
                  have HSE := Lib.hid (fun a => (sectors_any g' L5 d' (w8.drewN a) (hD8.below ⟨rfl, rfl, rfl, Nat.le_refl _, fun _ _ => rfl⟩)).mono (fun e w' ⟨h1, h2⟩ => (⟨h1, h2.symm⟩ : e = Ending.returned (.int .i64 d'.n) ∧ w' = w8.drewN a)))
                  rw [← hdead] at HCR
                  rw [hnk.out] at HSE
                  have hbd : (dead != dead) = false := by simp
                  have hbn : ((k : Int) != (k : Int)) = false := by simp
                  have hP8 : Pair w8 w.heap.size g' gr' d' := ⟨L5, Lr5, hD8, HR5.out.below hb58, HL5.out⟩
                  have HP8 := Lib.hid hP8
                  have HB8 := Lib.hid (hb05.trans (hb58.mono hb05.size))
                  clear hD8 hdead hP8 hb58 hb05 HR5 HL5 HD5 hb57 hb7 hb6 hb8
                  unfold ptr at *
                  go_wp2_with fail
                  go_quiet ((first | (go_at_call 17; exact Calls.quiet_of_same (HCR.out _)) | (go_at_call 18; exact Calls.quiet_of_same (HSE.out _))))
                  go_wp2
                  go_roundw
                  case rel => exact ⟨g', gr', d', j + 1, rfl, rfl, by go_num, by omega, HP8.out.below ⟨rfl, rfl, rfl, Nat.le_refl _, fun _ _ => rfl⟩, hnk.out, HB8.out.trans ⟨rfl, rfl, rfl, Nat.le_refl _, fun _ _ => rfl⟩⟩
                  case measure => simp [RowKit.intOf]; omega
            · have h2' : decide (j < lim) = false := decide_eq_false h2
              have h2'' : decide ((j : Int) < lim) = false := decide_eq_false (by omega)
              have h1' : (j : Int) < len := by omega
              obtain ⟨L8, Lr8, hD8, hR8, hL8⟩ := hPr
              have HIM := Lib.hid (image_any g L8 d wr hD8)
              have HIR := Lib.hid (fun wx (hx : Below wr.heap.size wr wx) => rimage_any w.heap.size gr Lr8 d wx (hR8.below hx))
              clear hD8 hR8 hL8
              unfold ptr at *
              go_wp2_with fail
              refine HIM.out.mono ?_
              rintro e w6 ⟨rfl, hb6⟩
              go_wp2_with fail
              refine (HIR.out w6 hb6).mono ?_
              rintro e w7 ⟨rfl, rfl⟩
              go_wp2
              go_ret
              exact ⟨rfl, hbr.trans (hb6.mono hbr.size)⟩
          · have h1' : decide (j < len) = false := decide_eq_false h1
            have h1'' : decide ((j : Int) < len) = false := decide_eq_false (by omega)
            obtain ⟨L8, Lr8, hD8, hR8, hL8⟩ := hPr
            have HIM := Lib.hid (image_any g L8 d wr hD8)
            have HIR := Lib.hid (fun wx (hx : Below wr.heap.size wr wx) => rimage_any w.heap.size gr Lr8 d wx (hR8.below hx))
            clear hD8 hR8 hL8
            unfold ptr at *
            go_wp2_with fail
            refine HIM.out.mono ?_
            rintro e w6 ⟨rfl, hb6⟩
            go_wp2_with fail
            refine (HIR.out w6 hb6).mono ?_
            rintro e w7 ⟨rfl, rfl⟩
            go_wp2
            go_ret
            exact ⟨rfl, hbr.trans (hb6.mono hbr.size)⟩
end Go.Proofs.Ytfcfclgjalofnaa
