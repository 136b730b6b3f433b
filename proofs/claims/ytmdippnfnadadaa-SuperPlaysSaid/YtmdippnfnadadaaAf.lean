/-
  The contracts of slices.Clone and maps.Copy at sectors, and of the device's After.
  Conditions: named in each theorem.
-/
import Derived.Test.YtmdippnfnadadaaRd
import Derived.Test.YtmdippnfnadadaaShelfD
namespace Go.Proofs.Ytmdippnfnadadaa
open Go.RowKit Go.Maps Dk
set_option linter.unusedVariables false
theorem sclone_any (fb n cap : Nat) (F : Nat → Sec) (w : World) (h : RowAt w fb n F) (hF : ∀ i, (F i).length = 64) (h1 : 1 ≤ n) (h2 : n ≤ 4096) :
    Calls Try.prog 50 #[.slice (some ⟨fb, 0, none⟩) n cap] w fun e w' => ∃ fb' cap', e = .returned (.slice (some ⟨fb', 0, none⟩) n cap') ∧ RowAt w' fb' n F ∧ w.heap.size ≤ fb' ∧ n ≤ cap' ∧ Below w.heap.size w w' := by
  obtain ⟨i0, hi, hz0, hz1, hz2⟩ := info_parts Try.info87
  obtain ⟨cur, hc1, hc2, hc3⟩ := h
  have hx : ∀ i, i < n → ∀ j, j < 64 → (cur.toList.take (n * 64))[i * 64 + j]? = (Lib.byteCells (F i))[j]? := fun i hi j hj => by
    have hk : i * 64 + j < n * 64 := by
      have : (i + 1) * 64 ≤ n * 64 := Nat.mul_le_mul_right _ hi
      omega
    rw [List.getElem?_take, if_pos hk, Array.getElem?_toList, hc3 i hi j hj]
  have hone : ∀ u ∈ cur.toList.take (n * 64), u.oneCell' = true := fun u hu => by
    obtain ⟨k, hk, rfl⟩ := List.getElem_of_mem hu
    have hk' : k < n * 64 := by simp at hk; omega
    have hd : k / 64 < n := by omega
    have hm : k % 64 < 64 := Nat.mod_lt _ (by omega)
    have e : (cur.toList.take (n * 64))[k]? = (Lib.byteCells (F (k / 64)))[k % 64]? := by
      have := hx (k / 64) hd (k % 64) hm
      have e2 : k / 64 * 64 + k % 64 = k := by omega
      rw [e2] at this
      exact this
    rw [List.getElem?_eq_getElem hk] at e
    exact Lib.byteCells_one (F (k / 64)) _ (List.mem_of_getElem? e.symm)
  have hC := AnyE.slices_Clone Try.cloneA i0 (sv zsec) 64 64 hi hz0 hz1 hz2 (by show (Lib.byteCells zsec).toArray.size = 64; simp [Lib.byteCells_length, zsec_length]) (by omega) (fun w => by kernel_rfl) fb 0 n cap (cur.toList.take (n * 64)) w
    (by simp; omega) (by unfold maxLen; omega) (by omega) (fun j u hu => by
      rw [Nat.zero_add, cell_of_row w fb j cur 87 (0, 0) hc1]
      rw [List.getElem?_take] at hu
      split at hu
      · rw [Array.getElem?_toList] at hu; exact hu
      · cases hu) hone
  refine Calls.mono (show Calls Try.prog 50 _ w _ from hC) ?_
  rintro e w' ⟨v', rfl, hown, hne, hb⟩
  obtain ⟨fb', cap', rfl, q1, q2, q3⟩ := rowAt_of_own hown h1 hx
  exact ⟨fb', cap', rfl, q3, q1, q2, hb⟩

set_option maxHeartbeats 1000000 in
set_option maxRecDepth 100000 in
theorem copy_any (bd bs n : Nat) (M : Nat → Option Sec) (w : World) (hd : w.ownsMap Try.prog 3 secR bd 0 (.map [])) (hs : MapAt w bs M) (hne : bd ≠ bs) (hn : ∀ i s, M i = some s → i < n) (hn4 : n ≤ 4096) :
    Calls Try.prog 51 #[.map (some bd), .map (some bs)] w fun e w' => e = .returned (.tuple #[]) ∧ MapAt w' bd M ∧ w.grownBy w' (some bd) := by
  obtain ⟨Ds, hs, hMI⟩ := hs
  have hsz := mapSize_le hs hMI hn
  have hbd := hd.lt
  have hbs := hs.lt
  have HMI := Lib.hid hMI
  clear hMI hn
  go_enter Try.func51, Try.ntmps51
  go_wp2_with (at_range; refine wpList_range_own _ rfl _ 88 rfl 3 87 law3 Try.underlying88 secR bs 4096 _ rfl hs ?_; intro w0 hrg0 hg0 hs0)
  go_frame
  go_loopw [8] (fun _ wr => ∃ (left : Lit → Bool) (cnt : Nat) (Dout : DataW Unit), wr.ranges Try.prog 3 secR bs w.heap.size 4096 Ds left cnt ∧ cnt ≤ Maps.size Ds ∧
      wr.ownsMap Try.prog 3 secR bd (Maps.size Ds - cnt) Dout ∧ Merged Dout (.map []) Ds left ∧ w.grownBy wr (some bd))
    (fun _ wr => wr.rangeLeft bs w.heap.size)
  case atStart =>
    exact ⟨_, _, .map [], hrg0, Nat.le_refl _, (hd.kept hg0 (by simp)).mono (by omega), merged_start _ Ds, hg0.but _⟩
  case round =>
    obtain ⟨left, cnt, Dout, hrg, hcs, hout, hM, hgw⟩ := hrel
    go_wp2_with (at_next; refine wpList_next_ranges _ rfl _ rfl 3 law3 secR encZ (fun c : { l : Sec // l.length = 64 } => sv c.1) (fun key kl hk => by obtain ⟨x, hx, _⟩ := Maps.keyOf_i64 Try.underlying3 hk; exact ⟨x, hx⟩) (fun v y hv => by obtain ⟨l, hl, he, _⟩ := secR_inv hv; exact ⟨⟨l, hl⟩, he⟩) bs w.heap.size 4096 _ _ _ rfl hrg ?_ ?_)
    · intro hc0 hl0
      have HL := Lib.hid hl0
      clear hl0
      go_wp2
      go_end0
      refine ⟨rfl, ⟨Dout, hout.mono (by omega), ?_, ?_⟩, hgw⟩
      · intro i
        rw [hM.1, HL.out, ← HMI.out.1 i]
        simp [Maps.has]
      · intro i s hi z
        have hh : Maps.has Ds (.int .i64 (i : Int)) = true := by rw [HMI.out.1]; simp [hi]
        rw [hM.2, HL.out, hh]
        simp only [Bool.not_false, Bool.and_true, if_true]
        exact HMI.out.2 i s hi z
    · intro x l hl kl yd yp w1 cnt1 hkey hlx hv hat hrg1 hlt hg1 hs1 hen
      have hout1 := hout.kept hg1 (fun e => by have := Option.some.inj e; omega)
      have HS1 := Lib.hid hs1
      have HAT := Lib.hid hat
      clear hs1 hat
      obtain ⟨w2, hw2⟩ : ∃ w2, w2 = w1.alloc (.cells (Lib.byteCells l).toArray 87) := ⟨_, rfl⟩
      have hout2 : w2.ownsMap Try.prog 3 secR bd (Maps.size Ds - cnt) Dout := by rw [hw2]; exact hout1.alloc _
      have hrg2 : w2.ranges Try.prog 3 secR bs w.heap.size 4096 Ds (fun z => left z && !z.sameKey kl) cnt1 := by rw [hw2]; exact hrg1.alloc _
      have hr2 : w2.rangeAt w1.heap.size 0 (Lib.byteCells l) := by rw [hw2]; exact range_of_heap (heap_alloc_new w1 _)
      have hg2 : w1.grownBy w2 none := by rw [hw2]; exact World.grownBy_alloc w1 _ _
      have HW2 := Lib.hid hw2
      clear hw2
      go_wp2_with (first
        | (refine wpList_store_newsec rfl _ _ rfl _ _ l hl rfl rfl rfl ?_; refine wpList_at HW2.out.symm ?_; go_frame)
        | (refine wpList_load_sec rfl _ rfl _ w1.heap.size 0 l hl rfl hr2 ?_; go_frame)
        | (at_mapUpdate; refine wpList_mapUpdate_own _ rfl _ _ _ 88 rfl 3 87 law3 Try.underlying88 secR bd _ _ rfl hout2 (by unfold maxLen; omega) _ _ _ rfl rfl hkey yd yp hv ?_; intro w3 hout3 hg3; go_frame))
      have hrg3 := hrg2.kept hg3 (fun e => hne (Option.some.inj e).symm) (fun e => by have := Option.some.inj e; omega)
      go_roundw
      case rel =>
        exact ⟨_, cnt1, _, hrg3, by omega, hout3.mono (by omega), merged_step hM hout.isMap (law3.key hkey) HAT.out, ((hgw.andThen hg1 (fun j hj => .inl (by cases hj; exact Nat.le_refl _))).andThen hg2 (fun j hj => by cases hj)).andThen hg3 (fun j hj => .inr hj)⟩
      case measure => rw [hrg3.left_eq, hrg.left_eq]; exact hlt

/-- A slice of ints, nil or not. -/
def IntsAt (w : World) (A : Option Addr) (xs : List Int) : Prop :=
  ∀ j x, xs[j]? = some x → (-9223372036854775808 ≤ x ∧ x ≤ 9223372036854775807) ∧ ∃ ad, A = some ad ∧ ad.block < w.heap.size ∧ w.cell? (ad.add j) = some (.int .i64 x)
theorem block_of_add (a : Addr) (n : Nat) : (a.add n).block = a.block := by unfold Addr.add; split <;> rfl
theorem IntsAt.below {w w' : World} {A : Option Addr} {xs : List Int} (h : IntsAt w A xs) (hb : Below w.heap.size w w') : IntsAt w' A xs := fun j x hx => by
  obtain ⟨hw, ad, e, hlt, hc⟩ := h j x hx
  exact ⟨hw, ad, e, Nat.lt_of_lt_of_le hlt hb.size, (hb.cell (p := ad.add j) (by rw [block_of_add]; exact hlt)).trans hc⟩
/-- The device as it comes back, of which so many of what is lost are told. -/
def Dk.St.less (d : St) (l : List Int) : St := ⟨d.n, d.fl, fun i => if (i : Int) ∈ l then none else d.wt i, -1, false⟩
theorem Dk.St.Ok.less {d : St} (h : d.Ok) (l : List Int) : (d.less l).Ok :=
  ⟨h.n1, h.n2, h.flen, (fun i s e => by
    change (if (i : Int) ∈ l then none else d.wt i) = some s at e
    split at e
    · cases e
    · exact h.wlen i s e), (by show (-9223372036854775808 : Int) ≤ -1; decide), (by show (-1 : Int) ≤ _; decide)⟩
theorem less_snoc (d : St) (l : List Int) (x : Int) : (d.less (l ++ [x])).wt = fun (j : Nat) => if (j : Int) = x then none else (d.less l).wt j := by
  funext j
  show (if (j : Int) ∈ l ++ [x] then none else d.wt j) = if (j : Int) = x then none else (if (j : Int) ∈ l then none else d.wt j)
  by_cases e : (j : Int) = x
  · rw [if_pos e, if_pos (by rw [e]; simp)]
  · rw [if_neg e]
    simp [e]
theorem empty_map {w : World} {mb : Nat} (h : MapAt w mb (fun _ => none)) : w.ownsMap Try.prog 3 secR mb 0 (.map []) := by
  obtain ⟨D, hown, hMI⟩ := h
  have h0 := mapSize_le (n := 0) hown hMI (fun i s e => by cases e)
  have h1 := owns_tight hown h0
  obtain ⟨es, rfl⟩ := hown.isMap
  have : es = [] := List.eq_nil_of_length_eq_zero (by simpa [Maps.size] using h0)
  subst this
  exact h1
set_option maxHeartbeats 1000000 in
set_option maxRecDepth 100000 in
theorem after_any (g : Nat) (L : List Nat) (d : St) (A : Option Addr) (lost : List Int) (c : Nat) (w : World) (h : Dv w g L d) (hl : IntsAt w A lost) (hm : lost.length ≤ maxLen) :
    Calls Try.prog 23 #[ptr g, .slice A lost.length c] w fun e w' => ∃ g' L', e = .returned (ptr g') ∧ Dv w' g' L' (d.after lost) ∧ (∀ k ∈ L', w.heap.size ≤ k) ∧ Below w.heap.size w w' := by
  obtain ⟨ho, fb, mb, cap, rfl, hA⟩ := h
  have c0 := hA.c0
  have HO := Lib.hid ho
  have HA := Lib.hid hA
  have HC := Lib.hid (sclone_any fb d.n cap d.fl w hA.row ho.flen ho.n1 ho.n2)
  have HL := Lib.hid hl
  clear hA ho hl
  unfold maxLen at hm
  unfold ptr
  go_enter Try.func23, Try.ntmps23
  go_wp2_with fail
  refine HC.out.mono ?_
  rintro e w1 ⟨fb1, cap1, rfl, hr1, hfb1, hc1, hb1⟩
  go_wp2_with fail
  refine (whole_any d.n d.fl fb1 cap1 w1 HO.out.n1 HO.out.n2 HO.out.flen hr1 hc1).mono ?_
  rintro e w2 ⟨g2, L2, rfl, hD2, hL2, hb2⟩
  have hb12 : Below w.heap.size w w2 := hb1.trans (hb2.mono hb1.size)
  have hlow2 : ∀ k ∈ L2, w.heap.size ≤ k := fun k hk => (hL2 k hk).elim (fun e => by omega) (fun e => Nat.le_trans hb1.size e)
  obtain ⟨ho2, fb2, mb2, cap2, rfl, hA2⟩ := hD2
  have hA1 := HA.out.of_heap (w' := w2.drew) (fun k hk => hb12.block k (by
    rcases hk with rfl | rfl | rfl
    · exact lt_of_heap HA.out.blk
    · exact HA.out.row.lt
    · exact HA.out.map.lt))
  have q1 : w2.drew.cell? ⟨g2, 1, none⟩ = some (.map (some mb2)) := hA2.c1
  have q2 := hA1.c1
  unfold ptr
  go_wp2_with fail
  go_still_tail 8, (by kernel_rfl)
  change wpList _ _ _ _ _ w2.drew
  have hlt1 := HA.out.map.lt
  have hb12s := hb12.size
  have hmbne : mb2 ≠ mb := by have := hlow2 mb2 (by simp); omega
  have hE := empty_map (w := w2.drew) (mb := mb2) hA2.map
  have HCP := Lib.hid (copy_any mb2 mb d.n d.wt w2.drew hE hA1.map hmbne (fun i s e => (HO.out.wlen i s e).1) HO.out.n2)
  have HA2 := Lib.hid hA2
  clear hA1 q1 q2 hE hr1
  have hdr2 : Below w.heap.size w w2.drew := hb12.drew
  have hD2 : DevAt w2.drew g2 fb2 mb2 cap2 (St.fresh d.n d.fl) := DevAt.of_heap HA2.out (fun k _ => rfl)
  clear HA2 hb12
  generalize w2.drew = w3 at *
  go_wp2_with fail
  refine HCP.out.mono ?_
  rintro e w4 ⟨rfl, hM4, hg4⟩
  have hs34 : w3.heap.size ≤ w4.heap.size := hg4.size
  have hlb : w.heap.size ≤ w3.heap.size := hdr2.size
  have hb4 : Below w.heap.size w w4 := hdr2.grown hg4 hlb (fun k hk => by cases hk; exact hlow2 mb2 (by simp))
  have hA4 : DevAt w4 g2 fb2 mb2 cap2 (d.less []) := by
    refine ⟨(hg4.block g2 (lt_of_heap hD2.blk) (fun e => hD2.gm (Option.some.inj e))).trans hD2.blk, hD2.row.of_heap (hg4.block fb2 hD2.row.lt (fun e => hD2.fm (Option.some.inj e))), ?_, hD2.hcap⟩
    show MapAt w4 mb2 (fun i => if (i : Int) ∈ ([] : List Int) then none else d.wt i)
    simpa using hM4
  clear hD2 hM4 hg4 HCP
  go_wp2
  go_loopw [7, 25] (fun _ c wr => ∃ k : Nat, k ≤ lost.length ∧ c = .int .i64 k ∧ DevAt wr g2 fb2 mb2 cap2 (d.less (lost.take k)) ∧ Below w.heap.size w wr) (fun _ c _ => lost.length - (RowKit.intOf c).toNat)
  case atStart => exact ⟨0, Nat.zero_le _, rfl, hA4, hb4⟩
  case round =>
    obtain ⟨k, hk, rfl, hAr, hbr⟩ := hrel
    by_cases hlt : k < lost.length
    · obtain ⟨x, hx⟩ : ∃ x, x = lost[k] := ⟨_, rfl⟩
      have hx' : lost[k]? = some x := by rw [List.getElem?_eq_getElem hlt, hx]
      obtain ⟨hxw, ad, hAe, hadb, hadc⟩ := HL.out k x hx'
      subst hAe
      have hcx : wr.cell? (ad.add k) = some (.int .i64 x) := (hbr.cell (p := ad.add k) (by rw [block_of_add]; exact hadb)).trans hadc
      have c1 := hAr.c1
      obtain ⟨D, hown, hMI⟩ := hAr.map
      have hkey : keyOf Try.prog 3 (.int .i64 x) = some (.int .i64 x) := Maps.keyOf_int_mk Try.underlying3 (WalkArith.wf_i64 hxw)
      have HT : Hid (lost.take (k + 1) = lost.take k ++ [x]) := by show _ = _; rw [List.take_succ_eq_append_getElem hlt, hx]
      have HAR := Lib.hid hAr
      have HX := Lib.hid hx
      have HMI := Lib.hid hMI
      clear hAr hx hx' hadc hMI hA4
      have hmb2 := hlow2 mb2 (by simp)
      go_wp2_with (at_delete; refine wpList_delete_own _ rfl _ _ 88 3 rfl 87 law3 Try.underlying88 secR mb2 4096 D rfl hown _ _ rfl hkey ?_; intro w5 hown5 hturn5)
      have hg5 := hturn5.grown
      have hA := HAR.out
      have hA5 : DevAt w5 g2 fb2 mb2 cap2 (d.less (lost.take (k + 1))) := by
        refine ⟨(hg5.block g2 (lt_of_heap hA.blk) (fun e => hA.gm (Option.some.inj e))).trans hA.blk, hA.row.of_heap (hg5.block fb2 hA.row.lt (fun e => hA.fm (Option.some.inj e))), ?_, hA.hcap⟩
        rw [HT.out, less_snoc]
        exact ⟨_, hown5, mapIs_del HMI.out x⟩
      have hb5 : Below w.heap.size w w5 := hbr.grown hg5 hbr.size (fun j hj => by cases hj; exact hmb2)
      go_roundw
      case rel => exact ⟨k + 1, by omega, by go_num, hA5, hb5⟩
      case measure => simp [RowKit.intOf]; omega
    · have hk' : k = lost.length := by omega
      subst hk'
      rw [List.take_length] at hAr
      have hDr : Dv wr g2 [g2, fb2, mb2] (d.less lost) := ⟨HO.out.less lost, fb2, mb2, cap2, rfl, hAr⟩
      have HS := Lib.hid (settle_any g2 _ (d.less lost) wr hDr)
      clear hAr hA4
      unfold ptr at HS
      go_wp2_with fail
      refine HS.out.mono ?_
      rintro e w6 ⟨rfl, hMv⟩
      obtain ⟨L6, hD6, hL6, hb6, _⟩ := hMv.below hbr hbr.size hlow2
      go_wp2
      go_ret
      exact ⟨g2, L6, rfl, hD6, hL6, hb6⟩
end Go.Proofs.Ytmdippnfnadadaa
