/-
  The contracts of the device's settle and Flush.
  Conditions: named in each theorem.
-/
import Derived.Test.YtdoombcihobejaaGreatWr
namespace Go.Proofs.YtdoombcihobejaaGreat
open Go.RowKit Dk
set_option linter.unusedVariables false
theorem Tryz.sec64 : (Tryz.prog.info? 98).map (·.size) = some 64 := by kernel_rfl
/-- A variable of a sector's type is made, and a sector is stored into it. -/
theorem wpList_store_newsec {ops : Array Oper} {rest : List Oper} {op : Oper} {a : Act} {Q : Exit → Act → World → Prop} (hgd : op.guard = none) (x y : Operand) (ho : op.op = .store 98 x y)
    (w : World) (c : Array Value) (l : Sec) (hl : l.length = 64) (hx : a.eval x = .pointer (some ⟨w.heap.size, 0, none⟩)) (hy : a.eval y = sv l) (hc : c.size = 64)
    (h : wpList Tryz.prog ops Q rest (a.put op.dst undef) (w.alloc (.cells (Lib.byteCells l).toArray 98))) : wpList Tryz.prog ops Q (op :: rest) a (w.alloc (.cells c 98)) := by
  have hr := run_storeAt_new (P := Tryz.prog) w 98 c (Lib.byteCells l).toArray (by rw [Tryz.sec64]; simp [Lib.byteCells_length, hl]) (by simp [Lib.byteCells_length, hl, hc])
    (all_oneCell_toArray (Lib.byteCells_one l))
  refine wpList_plain hgd fun K hK => ?_
  unfold Oper.wp execOp
  simp only [ho, hx, hy, sv]
  simp [hr, Result.andThen]
  exact hK _ _ h
/-! ### Many cells stored into a block -/
def Dk.setMany (cur : Array Value) : Nat → List Value → Array Value
  | _, [] => cur
  | o, v :: r => Dk.setMany (cur.setIfInBounds o v) (o + 1) r
theorem setMany_size : ∀ (vs : List Value) (cur : Array Value) (o : Nat), (Dk.setMany cur o vs).size = cur.size
  | [], _, _ => rfl
  | v :: r, cur, o => by rw [Dk.setMany, setMany_size r]; simp
theorem setMany_out : ∀ (vs : List Value) (cur : Array Value) (o k : Nat), (k < o ∨ o + vs.length ≤ k) → (Dk.setMany cur o vs)[k]? = cur[k]?
  | [], _, _, _, _ => rfl
  | v :: r, cur, o, k, h => by
    rw [List.length_cons] at h
    rw [Dk.setMany, setMany_out r _ (o + 1) k (by omega), Array.getElem?_setIfInBounds_ne (by omega)]
theorem setMany_in : ∀ (vs : List Value) (cur : Array Value) (o j : Nat), j < vs.length → o + vs.length ≤ cur.size → (Dk.setMany cur o vs)[o + j]? = vs[j]?
  | [], _, _, _, h, _ => by simp at h
  | v :: r, cur, o, j, h, hs => by
    rw [List.length_cons] at h hs
    rw [Dk.setMany]
    match j with
    | 0 =>
      rw [setMany_out r _ (o + 1) (o + 0) (by omega), Nat.add_zero, Array.getElem?_setIfInBounds_self_of_lt (by omega)]; rfl
    | j + 1 =>
      have := setMany_in r (cur.setIfInBounds o v) (o + 1) j (by omega) (by simp; omega)
      rw [List.getElem?_cons_succ, ← this]
      congr 1
      omega
theorem heap_setCells : ∀ (vs : List Value) (w : World) (b o : Nat) (cur : Array Value) (t : TypeId), w.heap[b]? = some (.cells cur t (0, 0)) → (w.setCells b o vs).heap[b]? = some (.cells (Dk.setMany cur o vs) t (0, 0))
  | [], _, _, _, _, _, h => h
  | v :: r, w, b, o, cur, t, h => by
    rw [World.setCells, Dk.setMany]
    exact heap_setCells r _ b (o + 1) _ t (heap_setCell_same w b o cur t v h)
theorem heap_setCells_other : ∀ (vs : List Value) (w : World) (b o k : Nat), k ≠ b → (w.setCells b o vs).heap[k]? = w.heap[k]?
  | [], _, _, _, _, _ => rfl
  | v :: r, w, b, o, k, h => by
    rw [World.setCells, heap_setCells_other r _ b (o + 1) k h, heap_setCell_other w ⟨b, o, none⟩ k v h]
theorem keep_setCells {L : List Nat} {b : Nat} (hb : b ∈ L) : ∀ (vs : List Value) (w : World) (o : Nat), Keep L w (w.setCells b o vs)
  | [], w, _ => Keep.refl _ w
  | v :: r, w, o => (Keep.setCell (p := ⟨b, o, none⟩) hb v).trans (keep_setCells hb r _ (o + 1))
theorem grown_setCells {b : Nat} : ∀ (vs : List Value) (w : World) (o : Nat), w.grownBy (w.setCells b o vs) (some b) ∧ (w.setCells b o vs).heap.size = w.heap.size
  | [], w, _ => ⟨World.grownBy.refl w _, rfl⟩
  | v :: r, w, o => by
    obtain ⟨h1, h2⟩ := grown_setCells (b := b) r (w.setCell ⟨b, o, none⟩ v) (o + 1)
    have h0 : w.grownBy (w.setCell ⟨b, o, none⟩ v) (some b) := ⟨rfl, rfl, rfl, by simp, fun k _ hk => heap_setCell_other w ⟨b, o, none⟩ k v (fun e => hk (by simp [e]))⟩
    exact ⟨h0.trans h1, h2.trans (by simp)⟩
/-- A sector is stored into the midst of a row. -/
theorem Dk.RowAt.stored {w : World} {fb n i : Nat} {F : Nat → Sec} {l : Sec} (h : RowAt w fb n F) (hi : i < n) (hl : l.length = 64) (G : Nat → Sec) (hG : ∀ j, j < n → G j = if j = i then l else F j) :
    RowAt (w.setCells fb (i * 64) (Lib.byteCells l)) fb n G := by
  obtain ⟨cur, h1, h2, h3⟩ := h
  have hlen : (Lib.byteCells l).length = 64 := by rw [Lib.byteCells_length, hl]
  have hin : (i + 1) * 64 ≤ n * 64 := Nat.mul_le_mul_right _ hi
  refine ⟨_, heap_setCells _ w fb _ cur 98 h1, by rw [setMany_size]; exact h2, fun j hj k hk => ?_⟩
  rw [hG j hj]
  by_cases e : j = i
  · subst e
    rw [if_pos rfl, setMany_in _ _ _ _ (by omega) (by omega)]
  · rw [if_neg e, setMany_out _ _ _ _ (by rw [hlen]; omega), h3 j hj k hk]
/-- What is flushed while those are still to come. -/
def mrg (d : St) (left : Lit → Bool) (i : Nat) : Sec := if left (.int .i64 (i : Int)) = true then d.fl i else d.now i
theorem grown_drew (w : World) (row : Option Nat) : w.grownBy w.drew row := ⟨rfl, rfl, rfl, Nat.le_refl _, fun _ _ _ => rfl⟩
theorem mrg_step (d : St) (left : Lit → Bool) (i : Nat) (l : Sec) (hwi : d.wt i = some l) (j : Nat) : mrg d (fun z => left z && !z.sameKey (Lit.int IntKind.i64 (i : Int))) j = if j = i then l else mrg d left j := by
  show (if (left (.int .i64 (j : Int)) && !(Lit.int .i64 (j : Int)).sameKey (.int .i64 (i : Int))) = true then d.fl j else d.now j) = _
  by_cases e : j = i
  · subst e
    rw [if_pos rfl, WideAt.sameKey_self (isKey_i64 _)]
    simp only [Bool.not_true, Bool.and_false, Bool.false_eq_true, if_false]
    unfold St.now
    rw [hwi]; rfl
  · rw [if_neg e, Maps.sameKey_ne (fun e1 => e (by cases e1; rfl))]
    simp only [Bool.not_false, Bool.and_true]
    rfl

set_option maxHeartbeats 1000000 in
set_option maxRecDepth 100000 in
theorem settle_any (g : Nat) (L : List Nat) (d : St) (w : World) (h : Dv w g L d) :
    Calls Tryz.prog 69 #[ptr g] w fun e w' => e = .returned (.tuple #[]) ∧ Moves g L d.settle w w' := by
  have hmm := @run_makeMap Tryz.prog
  obtain ⟨ho, fb, mb, cap, rfl, hA⟩ := h
  have c1 := hA.c1
  obtain ⟨D, hown, hMI⟩ := hA.map
  have HO := Lib.hid ho
  have HA := Lib.hid hA
  have HM := Lib.hid hMI
  clear ho hA hMI
  unfold ptr
  go_enter Tryz.func69, Tryz.ntmps69
  go_wp2_with (at_range; refine wpList_range_own _ rfl _ 81 rfl 3 98 law3 Tryz.underlying81 secR mb 4096 D rfl hown ?_; intro w0 hrg0 hg0 hs0)
  go_frame
  go_loopw [9] (fun _ wr => ∃ (left : Lit → Bool) (cnt : Nat), wr.ranges Tryz.prog 3 secR mb w.heap.size 4096 D left cnt ∧ RowAt wr fb d.n (mrg d left) ∧ Keep [fb] w wr)
    (fun _ wr => wr.rangeLeft mb w.heap.size)
  case atStart =>
    refine ⟨_, _, hrg0, ?_, Keep.of_grown hg0 (fun k hk => by cases hk)⟩
    have hrow := HA.out.row.of_heap (hg0.block fb HA.out.row.lt (by simp))
    obtain ⟨cur, h1, h2, h3⟩ := hrow
    refine ⟨cur, h1, h2, fun i hi j hj => ?_⟩
    rw [h3 i hi j hj]
    unfold mrg
    split
    · rfl
    · rename_i hh
      rw [HM.out.1 i] at hh
      simp only [Int.toNat_natCast, Int.natCast_nonneg, decide_true, Bool.true_and] at hh
      unfold St.now
      cases e : d.wt i with
      | none => rfl
      | some s => rw [e] at hh; simp at hh
  case round =>
    obtain ⟨left, cnt, hrg, hrow, hK⟩ := hrel
    have hA := HA.out
    have hgr : wr.heap[g]? = _ := (hK.block g (lt_of_heap hA.blk) (by simpa using hA.gf)).trans hA.blk
    have hgl := lt_of_heap hgr
    have hgf := hA.gf
    have hcp := hA.hcap
    have HGR := Lib.hid hgr
    clear hA hgr
    go_wp2_with (at_next; refine wpList_next_ranges _ rfl _ rfl 3 law3 secR encZ (fun c : { l : Sec // l.length = 64 } => sv c.1) (fun key kl hk => by obtain ⟨x, hx, _⟩ := Maps.keyOf_i64 Tryz.underlying3 hk; exact ⟨x, hx⟩) (fun v y hv => by obtain ⟨l, hl, he, _⟩ := secR_inv hv; exact ⟨⟨l, hl⟩, he⟩) mb w.heap.size 4096 _ _ _ rfl hrg ?_ ?_)
    · intro hc0 hl0
      have hg1 : (wr.alloc (.map #[] 0)).heap[g]? = _ := (Below.heap_alloc wr _ g hgl).trans HGR.out
      have c1 := cell_of_row _ g 1 _ 83 (0, 0) hg1
      have f1 := frozen_of_row _ g 1 _ 83 hg1
      have HL := Lib.hid hl0
      clear hg1 hl0
      go_wp2
      go_end0
      have e1 : (wr.setCell ⟨g, 1, none⟩ (.map (some wr.heap.size))).heap.size = wr.heap.size := by simp
      refine ⟨rfl, [g, fb, wr.heap.size], ⟨HO.out.settle, fb, wr.heap.size, cap, rfl, ⟨?_, ?_, ?_, hcp⟩⟩, ?_, ?_⟩
      · exact (Below.heap_alloc _ _ g (by rw [e1]; exact hgl)).trans (heap_setCell_same wr g 1 _ 83 _ HGR.out)
      · have e : mrg d left = d.now := by
          funext i
          unfold mrg
          rw [HL.out]
          rfl
        rw [e] at hrow
        exact (hrow.of_heap (heap_setCell_other wr ⟨g, 1, none⟩ fb _ (fun e => hgf e.symm))).of_heap (Below.heap_alloc _ _ fb (by rw [e1]; exact hrow.lt))
      · have := mapAt_made (wr.setCell ⟨g, 1, none⟩ (.map (some wr.heap.size)))
        rw [e1] at this
        exact this
      · exact ((hK.mono (L' := [g, fb, mb]) (by simp)).trans (Keep.setCell (p := ⟨g, 1, none⟩) (by simp) _)).trans (Keep.alloc _)
      · intro k hk
        simp at hk
        rcases hk with rfl | rfl | rfl
        · exact .inl (by simp)
        · exact .inl (by simp)
        · exact .inr hK.size
    · intro x l hl kl yd yp w1 cnt1 hkey hlk hv hat hrg1 hlt hg1 hs1 hen
      obtain ⟨i, rfl, hin, hwi, hkl⟩ : ∃ i : Nat, x = (i : Int) ∧ i < d.n ∧ d.wt i = some l ∧ kl = .int .i64 (i : Int) := by
        obtain ⟨x', hx, rfl, _⟩ := Maps.keyOf_i64 Tryz.underlying3 hkey
        obtain rfl := encZ_inj hx
        have h1 := Maps.has_true_of_atKey hat
        rw [HM.out.1 x] at h1
        simp only [Bool.and_eq_true, decide_eq_true_eq] at h1
        obtain ⟨s, hs⟩ := Option.isSome_iff_exists.1 h1.2
        have e : x = (x.toNat : Int) := by omega
        have h2 := HM.out.2 x.toNat s hs .nil
        rw [← e, hat] at h2
        rw [secR_of hl] at hv
        cases hv
        cases h2
        exact ⟨x.toNat, e, (HO.out.wlen _ _ hs).1, hs, by rw [← e]⟩
      subst hkl
      have HS1 := Lib.hid hs1
      have HA1 := Lib.hid hat
      clear hs1 hat
      go_wp2_with (refine wpList_store_newsec rfl _ _ rfl _ _ l hl rfl rfl rfl ?_)
      -- the world behind, under a name
      have hgb : w1.heap[g]? = _ := (hg1.block g hgl (fun e => by have h1 := lt_of_heap HA.out.blk; have := Option.some.inj e; omega)).trans HGR.out
      have hrow1 : RowAt w1 fb d.n (mrg d left) := hrow.of_heap (hg1.block fb hrow.lt (fun e => by have h1 := HA.out.row.lt; have := Option.some.inj e; omega))
      have hk1 : Keep [fb] w w1 := hK.trans' (L' := [w.heap.size]) (Keep.of_grown hg1 (fun k hk => by cases hk; exact .inl (by simp))) (fun k hk => by simp at hk; exact .inr (by omega))
      obtain ⟨w2, hw2⟩ : ∃ w2, w2 = w1.alloc (.cells (Lib.byteCells l).toArray 98) := ⟨_, rfl⟩
      have hb2 : Below w1.heap.size w1 w2 := by rw [hw2]; exact (Below.refl _ _).alloc (Nat.le_refl _) _
      have hn2 : w2.heap[w1.heap.size]? = some (.cells (Lib.byteCells l).toArray 98 (0, 0)) := by rw [hw2]; exact heap_alloc_new w1 _
      have hrg2 : w2.ranges Tryz.prog 3 secR mb w.heap.size 4096 D (fun z => left z && !z.sameKey (Lit.int IntKind.i64 (i : Int))) cnt1 := by rw [hw2]; exact hrg1.alloc _
      rw [← hw2]
      have hk2 : Keep [fb] w w2 := hk1.trans (Keep.of_below hb2)
      have hrow2 : RowAt w2 fb d.n (mrg d left) := hrow1.of_heap (hb2.block fb hrow1.lt)
      have hg2 : w2.heap[g]? = _ := (hb2.block g (lt_of_heap hgb)).trans hgb
      clear hw2 hrg1 hb2 hgb hrow1 hk1 hg1 hen
      generalize w1.heap.size = z at *
      have hld := load_sec hl (range_of_heap (w := w2.drew) hn2)
      have c0 := cell_of_row w2.drew g 0 _ 83 (0, 0) hg2
      have hth := hrow2.there i hin
      have hin0 : (0 : Int) ≤ i := by omega
      have hin1 : (i : Int) < d.n := by omega
      have HG2 := Lib.hid hg2
      clear hg2
      go_still_tail 7, (by kernel_rfl)
      refine still_load rfl 98 _ rfl _ _ rfl hld ?_
      repeat still_step
      refine wpStill_nil ?_
      change wpList _ _ _ _ _ w2.drew
      refine wpList_store_mid rfl 98 _ _ rfl fb (i * 64) (Lib.byteCells l).toArray rfl rfl (by simpa [Lib.byteCells_length, hl] using hth) (by rw [Tryz.sec64]; simp [Lib.byteCells_length, hl]) (all_oneCell_toArray (Lib.byteCells_one l)) ?_
      have hw3 : ∃ w3, w3 = w2.drew.setCells fb (i * 64) (Lib.byteCells l).toArray.toList := ⟨_, rfl⟩
      obtain ⟨w3, hw3⟩ := hw3
      have hdr : RowAt w2.drew fb d.n (mrg d left) := hrow2
      have hrow3 : RowAt w3 fb d.n (mrg d (fun z => left z && !z.sameKey (Lit.int IntKind.i64 (i : Int)))) := by
        rw [hw3]
        exact hdr.stored hin hl _ (fun j _ => mrg_step d left i l hwi j)
      have hgr3 : w2.grownBy w3 (some fb) := by rw [hw3]; exact (grown_drew w2 _).trans (grown_setCells _ w2.drew (i * 64)).1
      have hrg3 := hrg2.kept hgr3 (fun e => by have h1 := HA.out.fm; exact h1 (Option.some.inj e).symm) (fun e => by have h1 := HA.out.row.lt; have := Option.some.inj e; omega)
      have hk3 : Keep [fb] w w3 := hk2.trans (Keep.of_grown hgr3 (fun k hk => by cases hk; exact .inl (by simp)))
      rw [← hw3]
      clear hw3 hdr hth hld c0 hrg2 hgr3
      go_frame
      go_wp2
      go_roundw
      case rel =>
        exact ⟨_, cnt1, hrg3, hrow3, hk3⟩
      case measure => rw [hrg3.left_eq, hrg.left_eq]; exact hlt
theorem flush_any (g : Nat) (L : List Nat) (d : St) (w : World) (h : Dv w g L d) :
    Calls Tryz.prog 35 #[ptr g] w fun e w' => e = .returned (.int .i64 d.flush.2) ∧ Moves g L d.flush.1 w w' := by
  have key : Calls Tryz.prog 67 #[ptr g, .func (.func 69) #[ptr g] #[]] w fun e w' => e = .returned (.int .i64 d.flush.2) ∧ Moves g L d.flush.1 w w' := by
    unfold St.flush St.try_
    by_cases hl : d.left = 0
    · rw [if_pos hl]; exact attempt_zero g L d _ w h hl
    · rw [if_neg hl]
      cases hd : d.dead
      · rw [if_neg (by decide)]
        refine attempt_go 69 (.inl rfl) g L d _ _ w h hl hd (fun w' => Moves g L d.step.settle w w') (.inl ⟨rfl, rfl, rfl⟩) ?_
        intro w1 hd1 hk1 hs1
        refine (settle_any g L d.step w1 hd1).mono ?_
        rintro e w' ⟨rfl, L', h1, h2, h3⟩
        exact ⟨rfl, L', h1, hk1.trans h2, (Fresh.refl w L).trans h3 hk1.size⟩
      · rw [if_pos rfl]
        exact (attempt_dead g L d _ w h hl hd).mono fun e w' ⟨he, hw⟩ => ⟨he, by subst hw; exact Moves.same h (Keep.refl _ _) h⟩
  have HK := Lib.hid key
  clear key h
  generalize d.flush = p at *
  unfold ptr at *
  go_enter Tryz.func35, Tryz.ntmps35
  go_wp2_with fail
  refine HK.out.mono ?_
  rintro e w1 ⟨rfl, hR⟩
  go_wp2
  go_ret
  exact ⟨rfl, hR⟩
end Go.Proofs.YtdoombcihobejaaGreat
