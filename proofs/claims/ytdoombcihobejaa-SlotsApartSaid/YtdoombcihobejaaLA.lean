/-
  The walk of the law SlotsApart: the Super and the Hard leave each other as they are, however often each is set.
  Conditions: a slice of Hards that lies in memory.
-/
import Derived.Test.YtdoombcihobejaaS1
import Derived.Test.YtdoombcihobejaaLB
namespace Go.Proofs.Ytdoombcihobejaa
open Go.RowKit Vi Sl Dk
set_option linter.unusedVariables false
set_option linter.unusedSimpArgs false
theorem padd (a : Addr) (n : Nat) : (a.add n).block = a.block := by unfold Addr.add; split <;> rfl
/-- So many Hards, in memory. -/
def HdsAt (w : World) (A : Option Addr) (n : Nat) : Prop :=
  ∀ i, i < n → ∃ (ad : Addr) (h : Hd), A = some ad ∧ ad.block < w.heap.size ∧ h.Ok ∧
    w.cell? (ad.add (i * 3)) = some (.int .u64 h.tm) ∧ w.cell? (ad.add (i * 3 + 1)) = some (.int .i64 h.vo) ∧ w.cell? (ad.add (i * 3 + 2)) = some (.int .u64 h.cm)
/-- A device, and a Super and a Hard in memory, above what stood. -/
structure Ap (w : World) (qs ql g : Nat) (L : List Nat) (d : St) (s : Su) (h : Hd) (W : World) : Prop where
  dv : Dv W g L d
  su : W.heap[qs]? = some (.cells s.c 23 (0, 0))
  hd : W.heap[ql]? = some (.cells h.c 26 (0, 0))
  ns : qs ∉ L
  nl : ql ∉ L
  lo : ∀ x ∈ L, w.heap.size ≤ x
  be : Below w.heap.size w W
  ls : w.heap.size ≤ qs
  ll : w.heap.size ≤ ql
  ne : qs ≠ ql
theorem Ap.below {w W W' : World} {qs ql g : Nat} {L : List Nat} {d : St} {s : Su} {h : Hd} (k : Ap w qs ql g L d s h W) (hb : Below W.heap.size W W') : Ap w qs ql g L d s h W' :=
  ⟨k.dv.below hb, (hb.block _ (Array.getElem?_eq_some_iff.1 k.su).1).trans k.su, (hb.block _ (Array.getElem?_eq_some_iff.1 k.hd).1).trans k.hd, k.ns, k.nl, k.lo, k.be.trans (hb.mono k.be.size), k.ls, k.ll, k.ne⟩
theorem Ap.alloc {w W : World} {qs ql g : Nat} {L : List Nat} {d : St} {s : Su} {h : Hd} (k : Ap w qs ql g L d s h W) (o : Obj) : Ap w qs ql g L d s h (W.alloc o) := k.below ((Below.refl _ _).alloc (Nat.le_refl _) _)
theorem Ap.moves {w W W' : World} {qs ql g : Nat} {L : List Nat} {d d' : St} {s : Su} {h : Hd} (k : Ap w qs ql g L d s h W) (m : Moves g L d' W W') : ∃ L', Ap w qs ql g L' d' s h W' ∧ Keep L W W' := by
  obtain ⟨L', h1, h2, h3, h4, h5, h6⟩ := m.below k.be k.be.size k.lo
  have l1 := (Array.getElem?_eq_some_iff.1 k.su).1
  have l2 := (Array.getElem?_eq_some_iff.1 k.hd).1
  refine ⟨L', ⟨h1, (h5.block _ l1 k.ns).trans k.su, (h5.block _ l2 k.nl).trans k.hd, ?_, ?_, h2, h3, k.ls, k.ll, k.ne⟩, h5⟩
  · intro hm
    rcases h6 _ hm with h | h
    · exact k.ns h
    · omega
  · intro hm
    rcases h6 _ hm with h | h
    · exact k.nl h
    · omega
/-- The area turns. -/
theorem Ap.putA {w W : World} {qs ql g : Nat} {L : List Nat} {d : St} {v sn lg ar ar' hf gl sp : Int} {h : Hd} (k : Ap w qs ql g L d ⟨v, sn, lg, ar, hf, gl, sp⟩ h W) :
    Ap w qs ql g L d ⟨v, sn, lg, ar', hf, gl, sp⟩ h (W.setCell ⟨qs, 3, none⟩ (.int .i64 ar')) := by
  refine ⟨k.dv.of_heap fun j hj => heap_setCell_other W ⟨qs, 3, none⟩ j _ (fun e => k.ns (by subst e; exact hj)), heap_setCell_same W qs 3 _ 23 (.int .i64 ar') k.su, (heap_setCell_other W ⟨qs, 3, none⟩ ql _ (fun e => k.ne e.symm)).trans k.hd, k.ns, k.nl, k.lo, k.be.setCell (p := ⟨qs, 3, none⟩) k.ls _, k.ls, k.ll, k.ne⟩
/-- A Hard is stored. -/
theorem Ap.putH {w W : World} {qs ql g : Nat} {L : List Nat} {d : St} {s : Su} {h : Hd} (k : Ap w qs ql g L d s h W) (y : Hd) : Ap w qs ql g L d s y (set3 W ql y) :=
  ⟨k.dv.of_heap fun j hj => set3_other W ql y j (fun e => k.nl (e ▸ hj)), (set3_other W ql y qs k.ne).trans k.su, set3_same y k.hd, k.ns, k.nl, k.lo, set3_below y k.be k.ll, k.ls, k.ll, k.ne⟩
set_option maxHeartbeats 2000000 in
set_option maxRecDepth 100000 in
theorem lapart_any (A : Option Addr) (len cap : Nat) (area : Bool) (w : World) (hD : HdsAt w A len) (hlen : (len : Int) ≤ 9223372036854775807) : Calls Try.prog 7 #[.slice A len cap, .bool area] w fun e w' => e = .returned (.bool true) ∧ Below w.heap.size w w' := by
  have HD := Lib.hid hD
  clear hD
  have hs0 : rgt ⟨2, 1, 1, 0, 0, 0, 0⟩ = true := rfl
  have hz0 : (supB ⟨2, 1, 1, 0, 0, 0, 0⟩).size ≤ 51 := by have := supB_11 hs0; omega
  obtain ⟨t1, t2⟩ := sts_new (n := 8) (s := ⟨2, 1, 1, 0, 0, 0, 0⟩) (by omega) hs0 hz0
  obtain ⟨D1, hD1⟩ : ∃ D, D = wrD (St.fresh 8 fun _ => zsec) 0 (supB ⟨2, 1, 1, 0, 0, 0, 0⟩) := ⟨_, rfl⟩
  rw [← hD1] at t1 t2
  have KS1 : Hid (∀ (gd : Nat) (L : List Nat) (W : World), Dv W gd L (St.fresh 8 fun _ => zsec) → Calls Try.prog 24 #[ptr gd, Su.val ⟨2, 1, 1, 0, 0, 0, 0⟩] W fun e w' => e = .returned (.int .i64 0) ∧ Moves gd L D1 W w') := fun gd L W hD => by
    have k := setSuper_any gd L _ ⟨2, 1, 1, 0, 0, 0, 0⟩ W hD
    rw [t1] at k; exact k
  have T2 := Lib.hid t2
  clear hs0 hz0 t1 t2 hD1
  unfold Su.val at KS1
  unfold Su.c at KS1
  dsimp only at KS1
  go_enter Try.func7, Try.ntmps7
  go_wp2_with fail
  refine (examples_any w).mono ?_
  rintro e w0 ⟨rfl, hb0⟩
  have HB0 := Lib.hid hb0
  clear hb0
  obtain ⟨W0, hW0⟩ : ∃ Z, Z = w0.alloc (.cells (Su.c ⟨2, 1, 1, 0, 0, 0, 0⟩) 23) := ⟨_, rfl⟩
  have P0 : Hid (W0.heap[w0.heap.size]? = some (.cells (Su.c ⟨2, 1, 1, 0, 0, 0, 0⟩) 23 (0, 0))) := by show _ = _; rw [hW0]; exact heap_alloc_new w0 _
  have HB1 : Hid (Below w.heap.size w W0) := by show Below _ _ _; rw [hW0]; exact HB0.out.alloc HB0.out.size _
  unfold Su.c at hW0
  dsimp only at hW0
  have HW0 := Lib.hid hW0
  clear hW0
  go_upto_region 5 with fail
  rw [← HW0.out]
  clear HW0
  have HQ : Hid (w.heap.size ≤ w0.heap.size) := HB0.out.size
  clear HB0
  generalize w0.heap.size = qs at *
  go_wp2_with fail
  refine (new_yes 8 W0 (by omega) (by omega)).mono ?_
  rintro e w1 ⟨g, L, rfl, hD1, hL1, hb1⟩
  have HD1 := Lib.hid hD1
  have HL1 := Lib.hid hL1
  have P1 : Hid (w1.heap[qs]? = some (.cells (Su.c ⟨2, 1, 1, 0, 0, 0, 0⟩) 23 (0, 0))) := (hb1.block _ (Array.getElem?_eq_some_iff.1 P0.out).1).trans P0.out
  have HB2 : Hid (Below w.heap.size w w1) := HB1.out.trans (hb1.mono HB1.out.size)
  have HN1 : Hid (qs ∉ L) := fun hm => by have := hL1 _ hm; have := (Array.getElem?_eq_some_iff.1 P0.out).1; omega
  have HL2 : Hid (∀ x ∈ L, w.heap.size ≤ x) := fun x hx => Nat.le_trans HB1.out.size (hL1 x hx)
  clear hD1 hL1 hb1 P0 HB1 HL1
  unfold ptr at *
  obtain ⟨x0, x1, x2, x3, x4, x5, x6⟩ := su_cells P1.out
  dsimp only at x0 x1 x2 x3 x4 x5 x6
  go_wp2_with fail
  refine (KS1.out g L _ HD1.out).mono ?_
  rintro e w2 ⟨rfl, m2⟩
  obtain ⟨L', D2, lo2, be2, _, k2, f2⟩ := m2.below HB2.out HB2.out.size HL2.out
  have P2 : Hid (w2.heap[qs]? = some (.cells (Su.c ⟨2, 1, 1, 0, 0, 0, 0⟩) 23 (0, 0))) := (k2.block _ (Array.getElem?_eq_some_iff.1 P1.out).1 HN1.out).trans P1.out
  have HN2 : Hid (qs ∉ L') := fun hm => by
    rcases f2 _ hm with h | h
    · exact HN1.out h
    · have := (Array.getElem?_eq_some_iff.1 P1.out).1; omega
  have HX : Hid (∃ X, X = w2.alloc (.cells (Hd.c ⟨0, 0, 0⟩) 26) ∧ Ap w qs w2.heap.size g L' D1 ⟨2, 1, 1, 0, 0, 0, 0⟩ hd0 X) := by
    refine ⟨_, rfl, ?_⟩
    have hbx : Below w2.heap.size w2 (w2.alloc (.cells (Hd.c ⟨0, 0, 0⟩) 26)) := (Below.refl _ _).alloc (Nat.le_refl _) _
    have hq := (Array.getElem?_eq_some_iff.1 P2.out).1
    exact ⟨D2.below hbx, (hbx.block _ hq).trans P2.out, heap_alloc_new w2 _, HN2.out, fun hm => by have := D2.lt _ hm; omega, lo2, be2.alloc be2.size _, HQ.out, be2.size, by omega⟩
  clear x0 x1 x2 x3 x4 x5 x6 m2 D2 lo2 be2 k2 f2 P2 HN2 P1 HB2 HN1 HL2 HD1 KS1 HQ
  go_upto_region 9 with fail
  obtain ⟨X, hX, hAp⟩ := HX.out
  unfold Hd.c at hX
  dsimp only at hX
  change X = w2.alloc (.cells #[.int .u64 0, .int .i64 0, .int .u64 0] 26) at hX
  rw [← hX]
  clear hX HX
  generalize w2.heap.size = ql at *
  have HAP := Lib.hid hAp
  clear hAp
  go_wp2_with fail
  go_loopw [10, 11, 12, 13, 14] (fun i _ _ _ _ wr => ∃ (j : Nat) (ar : Int) (h : Hd) (L : List Nat) (d : St) (k i2 : Nat), i = .int .i64 j ∧ j ≤ len ∧ j ≤ 6 ∧ (ar = 0 ∨ ar = 1) ∧ k ≤ 1 + j ∧ i2 ≤ j ∧ Sts d 8 ⟨2, 1, 1, ar, 0, 0, 0⟩ h k i2 ∧ Ap w qs ql g L d ⟨2, 1, 1, ar, 0, 0, 0⟩ h wr) (fun i _ _ _ _ _ => len - (RowKit.intOf i).toNat)
  case atStart => exact ⟨0, 0, hd0, L', D1, 1, 0, rfl, Nat.zero_le _, by omega, .inl rfl, by omega, by omega, T2.out, HAP.out⟩
  case round =>
    obtain ⟨j, ar, h, L1, d, k, i2, rfl, hj1, hj2, har, hk, hi2, hS, hA⟩ := hrel
    clear HAP T2
    by_cases h1 : j < len
    · by_cases h2 : j < 6
      · have h1' : (j : Int) < len := by omega
        have h2' : (j : Int) < 6 := by omega
        have hj0 : (0 : Int) ≤ j := by omega
        obtain ⟨ad, hx, hAe, hadb, hok, d0, d1, d2⟩ := HD.out j h1
        subst hAe
        have hoff : ∀ o, ad.add (j * 3 + o) = ⟨(ad.add (j * 3)).block, (ad.add (j * 3)).off + o, none⟩ ∨ o = 0 := by
          intro o
          by_cases h0 : o = 0
          · exact .inr h0
          · left
            unfold Addr.add
            by_cases h0' : j * 3 = 0 <;> simp [h0', Nat.add_assoc, h0]
        have e0 : wr.cell? (ad.add (j * 3)) = some (.int .u64 hx.tm) := (hA.be.cell (p := ad.add (j * 3)) (by rw [padd]; exact hadb)).trans d0
        have e1 : wr.cell? (ad.add (j * 3 + 1)) = some (.int .i64 hx.vo) := (hA.be.cell (p := ad.add (j * 3 + 1)) (by rw [padd]; exact hadb)).trans d1
        have e2 : wr.cell? (ad.add (j * 3 + 2)) = some (.int .u64 hx.cm) := (hA.be.cell (p := ad.add (j * 3 + 2)) (by rw [padd]; exact hadb)).trans d2
        rw [(hoff 1).resolve_right (by decide)] at e1
        rw [(hoff 2).resolve_right (by decide)] at e2
        have HA := Lib.hid hA
        have HS := Lib.hid hS
        have HAR := Lib.hid har
        have HOK := Lib.hid hok
        have HK2 : Hid (k ≤ 1 + j ∧ i2 ≤ j) := ⟨hk, hi2⟩
        clear hoff d0 d1 d2 hS hA har hadb hok hk hi2
        obtain ⟨w3, hw3⟩ : ∃ w3, w3 = wr.alloc (.cells (Hd.c hx) 26) := ⟨_, rfl⟩
        obtain ⟨bd, hbd⟩ : ∃ bd, bd = wr.heap.size := ⟨_, rfl⟩
        have hb3 : Below wr.heap.size wr w3 := by rw [hw3]; exact (Below.refl _ _).alloc (Nat.le_refl _) _
        have hblk3 : w3.heap[bd]? = some (.cells (Hd.c hx) 26 (0, 0)) := by rw [hw3, hbd]; exact heap_alloc_new wr _
        have HB3 := Lib.hid hb3
        have HK3 := Lib.hid hblk3
        have HBD := Lib.hid hbd
        obtain ⟨q0, q1, q2⟩ := hd_cells hblk3
        clear hb3 hblk3
        unfold Hd.c at hw3
        go_upto_region 13 with fail
        refine wp_at (w := w3) hw3.symm ?_
        rw [← hbd]
        clear e0 e1 e2 hw3 hbd q0 q2
        obtain ⟨v, hv1, hv2⟩ : ∃ v : Nat, (hx.vo % 18446744073709551616) % 8 = (v : Int) ∧ v < 8 := ⟨((hx.vo % 18446744073709551616) % 8).toNat, by omega, by omega⟩
        have fx : w3.frozen? ⟨bd, 1, none⟩ = false := Lib.frozen_of_heap HK3.out 1
        have hu : IntKind.u64.wrap hx.vo = hx.vo % 18446744073709551616 := IntKind.wrap_u64 _
        obtain ⟨y, hy⟩ : ∃ y : Hd, y = ⟨hx.tm, v, hx.cm⟩ := ⟨_, rfl⟩
        obtain ⟨V, hV⟩ : ∃ V, V = w3.setCell ⟨bd, 1, none⟩ (.int .i64 v) := ⟨_, rfl⟩
        have HV : Hid (Below wr.heap.size wr V ∧ V.heap[bd]? = some (.cells y.c 26 (0, 0))) := by
          show _ ∧ _
          rw [hV, hy]
          exact ⟨HB3.out.setCell (p := ⟨bd, 1, none⟩) (by show wr.heap.size ≤ bd; have := HBD.out; omega) _, heap_setCell_same _ bd 1 _ 26 (.int .i64 v) HK3.out⟩
        have HYO : Hid (y.Ok ∧ hO 1 y = true ∧ hO 2 y = true) := by
          show _ ∧ _
          rw [hy]
          exact ⟨⟨HOK.out.t, HOK.out.c, by dsimp only; omega, by dsimp only; omega⟩, (hO_iff _ _).2 ⟨.inl rfl, by dsimp only; omega, by dsimp only; omega⟩, (hO_iff _ _).2 ⟨.inr rfl, by dsimp only; omega, by dsimp only; omega⟩⟩
        have HVE := Lib.hid hV
        clear hV hy
        go_upto_region 14 with fail
        rw [← HVE.out]
        clear HVE fx hu q1 hv1 hv2 HB3 HK3 HOK
        obtain ⟨vs, hvs1, hvs2⟩ : ∃ vs : Int, 1 + (j : Int) % 2 = vs ∧ (vs = 1 ∨ vs = 2) := ⟨_, rfl, by omega⟩
        have hhO : hO vs y = true := by
          rcases hvs2 with e | e
          · rw [e]; exact HYO.out.2.1
          · rw [e]; exact HYO.out.2.2
        have hrm : (j : Int).tmod 2 = (j : Int) % 2 := Int.tmod_eq_emod_of_nonneg hj0
        obtain ⟨r1, r2⟩ := HS.out.setH hhO HYO.out.1 (by have := HK2.out; omega)
        obtain ⟨d', hd'⟩ : ∃ D, D = wrD d 2 (hB vs y) := ⟨_, rfl⟩
        rw [← hd'] at r1 r2
        have KH : Hid (∀ (gd : Nat) (L : List Nat) (W : World), Dv W gd L d → Calls Try.prog 26 #[ptr gd, .int .i64 vs, y.val] W fun e w' => e = .returned (.int .i64 0) ∧ Moves gd L d' W w') := fun gd L W hD => by
          have kk := setHard_any gd L _ vs y W hD HYO.out.1
          rw [r1] at kk; exact kk
        unfold Hd.val Hd.c at KH
        have HS2 := Lib.hid r2
        have HAV := Lib.hid (HA.out.below HV.out.1)
        have HN : Hid (bd ∉ L1) := fun hm => by have := HA.out.dv.lt _ hm; have := HBD.out; omega
        have HLQ : Hid (ql < bd) := by have := (Array.getElem?_eq_some_iff.1 HA.out.hd).1; have := HBD.out; show _ < _; omega
        obtain ⟨y0, y1, y2⟩ := hd_cells HV.out.2
        clear hd' r1 r2 hhO hvs2 HS HA HYO
        unfold ptr at *
        go_wp2_with fail
        refine (KH.out g L1 _ HAV.out.dv).mono ?_
        rintro e w4 ⟨rfl, m4⟩
        obtain ⟨L4, hA4, k4⟩ := HAV.out.moves m4
        have hB4 : w4.heap[bd]? = some (.cells y.c 26 (0, 0)) := (k4.block _ (Array.getElem?_eq_some_iff.1 HV.out.2).1 HN.out).trans HV.out.2
        clear y0 y1 y2
        obtain ⟨y0, y1, y2⟩ := hd_cells hB4
        obtain ⟨z0, z1, z2⟩ := hd_cells hA4.hd
        have f0 : w4.frozen? ⟨ql, 0, none⟩ = false := Lib.frozen_of_heap hA4.hd 0
        have f1 : w4.frozen? ⟨ql, 1, none⟩ = false := Lib.frozen_of_heap hA4.hd 1
        have f2 : w4.frozen? ⟨ql, 2, none⟩ = false := Lib.frozen_of_heap hA4.hd 2
        have HA4 := Lib.hid hA4
        have HB4 := Lib.hid hB4
        clear m4 hA4 k4 hB4 HAV KH HV HN hvs1 hrm
        have HA5 := Lib.hid (HA4.out.putH y)
        obtain ⟨V5, hV5⟩ : ∃ Z, Z = set3 w4 ql y := ⟨_, rfl⟩
        rw [← hV5] at HA5
        unfold set3 at hV5
        go_upto_region 17 with fail
        rw [← hV5]
        clear hV5 HB4 HA4 y0 y1 y2 z0 z1 z2 f0 f1 f2 HLQ HBD
        go_upto_if 67 with fail
        go_cut [67] from 39 to 93 (fun s67 wx => s67 = s67 ∧ ∃ (L5 : List Nat) (d5 : St) (ar5 : Int) (k5 : Nat), (ar5 = 0 ∨ ar5 = 1) ∧ k5 ≤ 2 + j ∧ Sts d5 8 ⟨2, 1, 1, ar5, 0, 0, 0⟩ y k5 (i2 + 1) ∧ Ap w qs ql g L5 d5 ⟨2, 1, 1, ar5, 0, 0, 0⟩ y wx)
        case first =>
          cases area
          · go_wp2_with fail
            go_meet
            exact ⟨trivial, L4, d', ar, k, HAR.out, by have := HK2.out; omega, HS2.out, HA5.out⟩
          · obtain ⟨ar5, hr1, hr2⟩ : ∃ a : Int, 1 - ar = a ∧ (a = 0 ∨ a = 1) := ⟨_, rfl, by have := HAR.out; omega⟩
            have hrs : rgt ⟨2, 1, 1, ar5, 0, 0, 0⟩ = true := (rgt_iff _).2 ⟨⟨by dsimp only; omega, by dsimp only; omega⟩, ⟨by dsimp only; omega, by dsimp only; omega⟩, ⟨by dsimp only; omega, by dsimp only; omega⟩, ⟨by dsimp only; omega, by dsimp only; omega⟩, ⟨by dsimp only; omega, by dsimp only; omega⟩, ⟨by dsimp only; omega, by dsimp only; omega⟩, ⟨by dsimp only; omega, by dsimp only; omega⟩, .inr rfl⟩
            have hz : (supB ⟨2, 1, 1, ar5, 0, 0, 0⟩).size ≤ 51 := by have := supB_11 hrs; omega
            obtain ⟨r1, r2⟩ := HS2.out.setS hrs (by have := HK2.out; omega) hz
            obtain ⟨d5, hd5⟩ : ∃ D, D = wrD d' 0 (supB ⟨2, 1, 1, ar5, 0, 0, 0⟩) := ⟨_, rfl⟩
            rw [← hd5] at r1 r2
            have KS : Hid (∀ (gd : Nat) (L : List Nat) (W : World), Dv W gd L d' → Calls Try.prog 24 #[ptr gd, Su.val ⟨2, 1, 1, ar5, 0, 0, 0⟩] W fun e w' => e = .returned (.int .i64 0) ∧ Moves gd L d5 W w') := fun gd L W hD => by
              have kk := setSuper_any gd L _ ⟨2, 1, 1, ar5, 0, 0, 0⟩ W hD
              rw [r1] at kk; exact kk
            unfold Su.val at KS
            unfold Su.c at KS
            unfold ptr at *
            dsimp only at KS
            have HS5 := Lib.hid r2
            have HA6 := Lib.hid (HA5.out.putA (ar' := ar5))
            obtain ⟨x0, x1, x2, x3, x4, x5, x6⟩ := su_cells HA5.out.su
            dsimp only at x0 x1 x2 x3 x4 x5 x6
            have f3 : V5.frozen? ⟨qs, 3, none⟩ = false := Lib.frozen_of_heap HA5.out.su 3
            have hrw : wrap64 ar5 = ar5 := by rcases hr2 with e | e <;> rw [e] <;> first | decide | (unfold wrap64; decide) | simp [wrap64]
            clear r1 r2 hd5 hrs hz
            obtain ⟨V6, hV6⟩ : ∃ Z, Z = V5.setCell ⟨qs, 3, none⟩ (.int .i64 ar5) := ⟨_, rfl⟩
            rw [← hV6] at HA6
            have HV6 := Lib.hid hV6
            have HR2 := Lib.hid hr2
            clear hV6 hr2
            go_upto_region 19 with fail
            rw [← HV6.out]
            clear HV6 x0 x1 x2 x3 x4 x5 x6 f3 hrw hr1
            obtain ⟨x0, x1, x2, x3, x4, x5, x6⟩ := su_cells HA6.out.su
            dsimp only at x0 x1 x2 x3 x4 x5 x6
            go_wp2_with fail
            refine (KS.out g L4 _ HA6.out.dv).mono ?_
            rintro e w7 ⟨rfl, m7⟩
            obtain ⟨L7, hA7, _⟩ := HA6.out.moves m7
            have HA7 := Lib.hid hA7
            clear x0 x1 x2 x3 x4 x5 x6 m7 hA7 HA6 HA5 KS
            go_wp2_with fail
            go_meet
            exact ⟨trivial, L7, d5, ar5, k + 1, HR2.out, by have := HK2.out; omega, HS5.out, HA7.out⟩
        case rest =>
          obtain ⟨_, L5, d5, ar5, k5, har5, hk5, hS5, hA5⟩ := hcut
          have HI2 : Hid (i2 ≤ j) := HK2.out.2
          clear HS2 HA5 HAR HK2
          have HS6 := Lib.hid hS5
          have HA6 := Lib.hid hA5
          have HR6 : Hid ((ar5 = 0 ∨ ar5 = 1) ∧ k5 ≤ 2 + j ∧ Sts d5 8 ⟨2, 1, 1, ar5, 0, 0, 0⟩ y k5 (i2 + 1)) := ⟨har5, hk5, hS5⟩
          clear hS5 hA5 har5 hk5
          obtain ⟨l1, l2, l3⟩ := HS6.out.load (by have hh : sec ⟨2, 1, 1, ar5, 0, 0, 0⟩ = 8 := (by unfold sec; rw [if_pos HS6.out.rs]; rfl); rw [hh]; omega)
          have KL : Hid (∀ (gd : Nat) (L : List Nat) (W : World), Dv W gd L d5 → Calls Try.prog 25 #[ptr gd] W fun e w' => e = .returned (.tuple #[Su.val ⟨2, 1, 1, ar5, 0, 0, 0⟩, Hd.val y, .int .i64 0]) ∧ Below W.heap.size W w') := fun gd L W hD => by
            have kk := load_any gd L _ W hD
            rw [l1, l2, l3] at kk; exact kk
          unfold Su.val Hd.val at KL
          unfold Su.c Hd.c at KL
          unfold ptr at *
          dsimp only at KL
          clear l1 l2 l3
          go_wp2_with fail
          refine (KL.out g L5 _ HA6.out.dv).mono ?_
          rintro e w8 ⟨rfl, tl⟩
          have HAl := Lib.hid (HA6.out.below tl)
          obtain ⟨Y, hY⟩ : ∃ Z, Z = (w8.alloc (.cells #[.int .i64 2, .int .i64 1, .int .i64 1, .int .i64 ar5, .int .i64 0, .int .i64 0, .int .i64 0] 23)).alloc (.cells #[.int .u64 y.tm, .int .i64 y.vo, .int .u64 y.cm] 26) := ⟨_, rfl⟩
          have PY : Hid (Y.heap[w8.heap.size]? = some (.cells (Su.c ⟨2, 1, 1, ar5, 0, 0, 0⟩) 23 (0, 0))) := by show _ = _; rw [hY]; exact (Lib.alloc_old _ _ _ (by simp)).trans (heap_alloc_new w8 _)
          have RY : Hid (Y.heap[w8.heap.size + 1]? = some (.cells (Hd.c y) 26 (0, 0))) := by show _ = _; rw [hY]; have kk := heap_alloc_new (w8.alloc (.cells #[.int .i64 2, .int .i64 1, .int .i64 1, .int .i64 ar5, .int .i64 0, .int .i64 0, .int .i64 0] 23)) (.cells #[.int .u64 y.tm, .int .i64 y.vo, .int .u64 y.cm] 26); rw [show (w8.alloc (.cells #[.int .i64 2, .int .i64 1, .int .i64 1, .int .i64 ar5, .int .i64 0, .int .i64 0, .int .i64 0] 23)).heap.size = w8.heap.size + 1 by simp] at kk; exact kk
          have AY : Hid (Ap w qs ql g L5 d5 ⟨2, 1, 1, ar5, 0, 0, 0⟩ y Y) := by show Ap _ _ _ _ _ _ _ _ _; rw [hY]; exact (HAl.out.alloc _).alloc _
          have HY := Lib.hid hY
          clear hY tl KL HAl HS6 HA6
          go_upto_region 22 with fail
          rw [← HY.out]
          clear HY
          obtain ⟨x0, x1, x2, x3, x4, x5, x6⟩ := su_cells AY.out.su
          obtain ⟨y0, y1, y2⟩ := hd_cells AY.out.hd
          obtain ⟨a0, a1, a2, a3, a4, a5, a6⟩ := su_cells PY.out
          obtain ⟨b0, b1, b2⟩ := hd_cells RY.out
          dsimp only at x0 x1 x2 x3 x4 x5 x6 a0 a1 a2 a3 a4 a5 a6
          go_wp2_with fail
          clear x0 x1 x2 x3 x4 x5 x6 y0 y1 y2 a0 a1 a2 a3 a4 a5 a6 b0 b1 b2
          go_roundw
          case rel => exact ⟨j + 1, ar5, y, L5, d5, k5, i2 + 1, by go_num, by omega, by omega, HR6.out.1, by have := HR6.out.2.1; omega, by have := HI2.out; omega, HR6.out.2.2, AY.out⟩
          case measure => simp [RowKit.intOf]; omega
      · have hj6 : j = 6 := by omega
        have h1' : (j : Int) < len := by omega
        have h2' : ¬ (j : Int) < 6 := by omega
        have h2'' : decide ((j : Int) < 6) = false := decide_eq_false h2'
        have HS6 := Lib.hid hS
        have HA6 := Lib.hid hA
        clear hS hA
        obtain ⟨l1, l2, l3⟩ := HS6.out.load (by have hh : sec ⟨2, 1, 1, ar, 0, 0, 0⟩ = 8 := (by unfold sec; rw [if_pos HS6.out.rs]; rfl); rw [hh]; omega)
        have KL : Hid (∀ (gd : Nat) (L : List Nat) (W : World), Dv W gd L d → Calls Try.prog 25 #[ptr gd] W fun e w' => e = .returned (.tuple #[Su.val ⟨2, 1, 1, ar, 0, 0, 0⟩, Hd.val h, .int .i64 0]) ∧ Below W.heap.size W w') := fun gd L W hD => by
          have kk := load_any gd L _ W hD
          rw [l1, l2, l3] at kk; exact kk
        unfold Su.val Hd.val at KL
        unfold Su.c Hd.c at KL
        unfold ptr at *
        dsimp only at KL
        clear l1 l2 l3
        go_wp2_with fail
        refine (KL.out g L1 _ HA6.out.dv).mono ?_
        rintro e w8 ⟨rfl, tl⟩
        have HAl := Lib.hid (HA6.out.below tl)
        obtain ⟨Y, hY⟩ : ∃ Z, Z = (w8.alloc (.cells #[.int .i64 2, .int .i64 1, .int .i64 1, .int .i64 ar, .int .i64 0, .int .i64 0, .int .i64 0] 23)).alloc (.cells #[.int .u64 h.tm, .int .i64 h.vo, .int .u64 h.cm] 26) := ⟨_, rfl⟩
        have PY : Hid (Y.heap[w8.heap.size]? = some (.cells (Su.c ⟨2, 1, 1, ar, 0, 0, 0⟩) 23 (0, 0))) := by show _ = _; rw [hY]; exact (Lib.alloc_old _ _ _ (by simp)).trans (heap_alloc_new w8 _)
        have RY : Hid (Y.heap[w8.heap.size + 1]? = some (.cells (Hd.c h) 26 (0, 0))) := by show _ = _; rw [hY]; have kk := heap_alloc_new (w8.alloc (.cells #[.int .i64 2, .int .i64 1, .int .i64 1, .int .i64 ar, .int .i64 0, .int .i64 0, .int .i64 0] 23)) (.cells #[.int .u64 h.tm, .int .i64 h.vo, .int .u64 h.cm] 26); rw [show (w8.alloc (.cells #[.int .i64 2, .int .i64 1, .int .i64 1, .int .i64 ar, .int .i64 0, .int .i64 0, .int .i64 0] 23)).heap.size = w8.heap.size + 1 by simp] at kk; exact kk
        have AY : Hid (Ap w qs ql g L1 d ⟨2, 1, 1, ar, 0, 0, 0⟩ h Y) := by show Ap _ _ _ _ _ _ _ _ _; rw [hY]; exact (HAl.out.alloc _).alloc _
        have HY := Lib.hid hY
        clear hY tl KL HAl HS6 HA6
        go_upto_region 25 with fail
        rw [← HY.out]
        clear HY
        obtain ⟨x0, x1, x2, x3, x4, x5, x6⟩ := su_cells AY.out.su
        obtain ⟨y0, y1, y2⟩ := hd_cells AY.out.hd
        obtain ⟨a0, a1, a2, a3, a4, a5, a6⟩ := su_cells PY.out
        obtain ⟨b0, b1, b2⟩ := hd_cells RY.out
        dsimp only at x0 x1 x2 x3 x4 x5 x6 a0 a1 a2 a3 a4 a5 a6
        go_wp2_with fail
        go_ret
        exact ⟨rfl, AY.out.be⟩
    · have h1' : ¬ (j : Int) < len := by omega
      have h1'' : decide ((j : Int) < len) = false := decide_eq_false h1'
      have HS6 := Lib.hid hS
      have HA6 := Lib.hid hA
      clear hS hA
      obtain ⟨l1, l2, l3⟩ := HS6.out.load (by have hh : sec ⟨2, 1, 1, ar, 0, 0, 0⟩ = 8 := (by unfold sec; rw [if_pos HS6.out.rs]; rfl); rw [hh]; omega)
      have KL : Hid (∀ (gd : Nat) (L : List Nat) (W : World), Dv W gd L d → Calls Try.prog 25 #[ptr gd] W fun e w' => e = .returned (.tuple #[Su.val ⟨2, 1, 1, ar, 0, 0, 0⟩, Hd.val h, .int .i64 0]) ∧ Below W.heap.size W w') := fun gd L W hD => by
        have kk := load_any gd L _ W hD
        rw [l1, l2, l3] at kk; exact kk
      unfold Su.val Hd.val at KL
      unfold Su.c Hd.c at KL
      unfold ptr at *
      dsimp only at KL
      clear l1 l2 l3
      go_wp2_with fail
      refine (KL.out g L1 _ HA6.out.dv).mono ?_
      rintro e w8 ⟨rfl, tl⟩
      have HAl := Lib.hid (HA6.out.below tl)
      obtain ⟨Y, hY⟩ : ∃ Z, Z = (w8.alloc (.cells #[.int .i64 2, .int .i64 1, .int .i64 1, .int .i64 ar, .int .i64 0, .int .i64 0, .int .i64 0] 23)).alloc (.cells #[.int .u64 h.tm, .int .i64 h.vo, .int .u64 h.cm] 26) := ⟨_, rfl⟩
      have PY : Hid (Y.heap[w8.heap.size]? = some (.cells (Su.c ⟨2, 1, 1, ar, 0, 0, 0⟩) 23 (0, 0))) := by show _ = _; rw [hY]; exact (Lib.alloc_old _ _ _ (by simp)).trans (heap_alloc_new w8 _)
      have RY : Hid (Y.heap[w8.heap.size + 1]? = some (.cells (Hd.c h) 26 (0, 0))) := by show _ = _; rw [hY]; have kk := heap_alloc_new (w8.alloc (.cells #[.int .i64 2, .int .i64 1, .int .i64 1, .int .i64 ar, .int .i64 0, .int .i64 0, .int .i64 0] 23)) (.cells #[.int .u64 h.tm, .int .i64 h.vo, .int .u64 h.cm] 26); rw [show (w8.alloc (.cells #[.int .i64 2, .int .i64 1, .int .i64 1, .int .i64 ar, .int .i64 0, .int .i64 0, .int .i64 0] 23)).heap.size = w8.heap.size + 1 by simp] at kk; exact kk
      have AY : Hid (Ap w qs ql g L1 d ⟨2, 1, 1, ar, 0, 0, 0⟩ h Y) := by show Ap _ _ _ _ _ _ _ _ _; rw [hY]; exact (HAl.out.alloc _).alloc _
      have HY := Lib.hid hY
      clear hY tl KL HAl HS6 HA6
      go_upto_region 25 with fail
      rw [← HY.out]
      clear HY
      obtain ⟨x0, x1, x2, x3, x4, x5, x6⟩ := su_cells AY.out.su
      obtain ⟨y0, y1, y2⟩ := hd_cells AY.out.hd
      obtain ⟨a0, a1, a2, a3, a4, a5, a6⟩ := su_cells PY.out
      obtain ⟨b0, b1, b2⟩ := hd_cells RY.out
      dsimp only at x0 x1 x2 x3 x4 x5 x6 a0 a1 a2 a3 a4 a5 a6
      go_wp2_with fail
      go_ret
      exact ⟨rfl, AY.out.be⟩
end Go.Proofs.Ytdoombcihobejaa
