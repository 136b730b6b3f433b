/-
  Texts of the layer below and of this one: ZSe, ZNw, ZRd, ZSort, ZShelf, ZAf, ZWt.
  Conditions: named in each theorem.
-/
import Derived.Test.YtlmfnlaikdmphaaG03
import Derived.Laws.IdiomStrings
import Derived.Ground.SlgmProg
import Derived.Shelf.SortM.Plain
import Derived.Shelf.SortM.SortNone
import Derived.Shelf.SlIterI.Nil
import Derived.Ground.GgzProg
import Derived.Ground.SlgnProg
import Derived.Test.YtlmfnlaikdmphaaProg
import Derived.Shelf.Strings.Builder1
import Derived.Shelf.Strings.Builder2
import Derived.Shelf.SlicesE.Clone
namespace Go.Proofs.Ytlmfnlaikdmphaa
open Go.RowKit Dk
set_option linter.unusedVariables false
theorem Try.sec64 : (Try.prog.info? 108).map (·.size) = some 64 := by kernel_rfl
theorem wpList_store_newsec {ops : Array Oper} {rest : List Oper} {op : Oper} {a : Act} {Q : Exit → Act → World → Prop} (hgd : op.guard = none) (x y : Operand) (ho : op.op = .store 108 x y)
    (w : World) (c : Array Value) (l : Sec) (hl : l.length = 64) (hx : a.eval x = .pointer (some ⟨w.heap.size, 0, none⟩)) (hy : a.eval y = sv l) (hc : c.size = 64)
    (h : wpList Try.prog ops Q rest (a.put op.dst undef) (w.alloc (.cells (Lib.byteCells l).toArray 108))) : wpList Try.prog ops Q (op :: rest) a (w.alloc (.cells c 108)) := by
  have hr := run_storeAt_new (P := Try.prog) w 108 c (Lib.byteCells l).toArray (by rw [Try.sec64]; simp [Lib.byteCells_length, hl]) (by simp [Lib.byteCells_length, hl, hc])
    (all_oneCell_toArray (Lib.byteCells_one l))
  refine wpList_plain hgd fun K hK => ?_
  unfold Oper.wp execOp
  simp only [ho, hx, hy, sv]
  simp [hr, Result.andThen]
  exact hK _ _ h
def Dk.setMany (cur : Array Value) : Nat → List Value → Array Value
  | _, [] => cur
  | o, v :: r => Dk.setMany (cur.setIfInBounds o v) (o + 1) r
theorem setMany_size : ∀ (vs : List Value) (cur : Array Value) (o : Nat), (Dk.setMany cur o vs).size = cur.size
  | [], _, _ => rfl
  | v :: r, cur, o => by rw [Dk.setMany, setMany_size r]; simp
theorem setMany_out : ∀ (vs : List Value) (cur : Array Value) (o k : Nat), (k < o ∨ o + vs.length ≤ k) → (Dk.setMany cur o vs)[k]? = cur[k]?
  | [], _, _, _, _ => rfl
  | v :: r, cur, o, k, h => by
    rw [List.length_cons] at h
    rw [Dk.setMany, setMany_out r _ (o + 1) k (by omega), Array.getElem?_setIfInBounds_ne (by omega)]
theorem setMany_in : ∀ (vs : List Value) (cur : Array Value) (o j : Nat), j < vs.length → o + vs.length ≤ cur.size → (Dk.setMany cur o vs)[o + j]? = vs[j]?
  | [], _, _, _, h, _ => by simp at h
  | v :: r, cur, o, j, h, hs => by
    rw [List.length_cons] at h hs
    rw [Dk.setMany]
    match j with
    | 0 =>
      rw [setMany_out r _ (o + 1) (o + 0) (by omega), Nat.add_zero, Array.getElem?_setIfInBounds_self_of_lt (by omega)]; rfl
    | j + 1 =>
      have := setMany_in r (cur.setIfInBounds o v) (o + 1) j (by omega) (by simp; omega)
      rw [List.getElem?_cons_succ, ← this]
      congr 1
      omega
theorem heap_setCells : ∀ (vs : List Value) (w : World) (b o : Nat) (cur : Array Value) (t : TypeId), w.heap[b]? = some (.cells cur t (0, 0)) → (w.setCells b o vs).heap[b]? = some (.cells (Dk.setMany cur o vs) t (0, 0))
  | [], _, _, _, _, _, h => h
  | v :: r, w, b, o, cur, t, h => by
    rw [World.setCells, Dk.setMany]
    exact heap_setCells r _ b (o + 1) _ t (heap_setCell_same w b o cur t v h)
theorem grown_setCells {b : Nat} : ∀ (vs : List Value) (w : World) (o : Nat), w.grownBy (w.setCells b o vs) (some b) ∧ (w.setCells b o vs).heap.size = w.heap.size
  | [], w, _ => ⟨World.grownBy.refl w _, rfl⟩
  | v :: r, w, o => by
    obtain ⟨h1, h2⟩ := grown_setCells (b := b) r (w.setCell ⟨b, o, none⟩ v) (o + 1)
    have h0 : w.grownBy (w.setCell ⟨b, o, none⟩ v) (some b) := ⟨rfl, rfl, rfl, by simp, fun k _ hk => heap_setCell_other w ⟨b, o, none⟩ k v (fun e => hk (by simp [e]))⟩
    exact ⟨h0.trans h1, h2.trans (by simp)⟩
theorem Dk.RowAt.stored {w : World} {fb n i : Nat} {F : Nat → Sec} {l : Sec} (h : RowAt w fb n F) (hi : i < n) (hl : l.length = 64) (G : Nat → Sec) (hG : ∀ j, j < n → G j = if j = i then l else F j) :
    RowAt (w.setCells fb (i * 64) (Lib.byteCells l)) fb n G := by
  obtain ⟨cur, h1, h2, h3⟩ := h
  have hlen : (Lib.byteCells l).length = 64 := by rw [Lib.byteCells_length, hl]
  have hin : (i + 1) * 64 ≤ n * 64 := Nat.mul_le_mul_right _ hi
  refine ⟨_, heap_setCells _ w fb _ cur 108 h1, by rw [setMany_size]; exact h2, fun j hj k hk => ?_⟩
  rw [hG j hj]
  by_cases e : j = i
  · subst e
    rw [if_pos rfl, setMany_in _ _ _ _ (by omega) (by omega)]
  · rw [if_neg e, setMany_out _ _ _ _ (by rw [hlen]; omega), h3 j hj k hk]
def mrg (d : St) (left : Lit → Bool) (i : Nat) : Sec := if left (.int .i64 (i : Int)) = true then d.fl i else d.now i
theorem grown_drew (w : World) (row : Option Nat) : w.grownBy w.drew row := ⟨rfl, rfl, rfl, Nat.le_refl _, fun _ _ _ => rfl⟩
theorem mrg_step (d : St) (left : Lit → Bool) (i : Nat) (l : Sec) (hwi : d.wt i = some l) (j : Nat) : mrg d (fun z => left z && !z.sameKey (Lit.int IntKind.i64 (i : Int))) j = if j = i then l else mrg d left j := by
  show (if (left (.int .i64 (j : Int)) && !(Lit.int .i64 (j : Int)).sameKey (.int .i64 (i : Int))) = true then d.fl j else d.now j) = _
  by_cases e : j = i
  · subst e
    rw [if_pos rfl, WideAt.sameKey_self (isKey_i64 _)]
    simp only [Bool.not_true, Bool.and_false, Bool.false_eq_true, if_false]
    unfold St.now
    rw [hwi]; rfl
  · rw [if_neg e, Maps.sameKey_ne (fun e1 => e (by cases e1; rfl))]
    simp only [Bool.not_false, Bool.and_true]
    rfl
set_option maxHeartbeats 1000000 in
set_option maxRecDepth 100000 in
theorem settle_any (g : Nat) (L : List Nat) (d : St) (w : World) (h : Dv w g L d) :
    Calls Try.prog 58 #[ptr g] w fun e w' => e = .returned (.tuple #[]) ∧ Moves g L d.settle w w' := by
  have hmm := @run_makeMap Try.prog
  obtain ⟨ho, fb, mb, cap, rfl, hA⟩ := h
  have c1 := hA.c1
  obtain ⟨D, hown, hMI⟩ := hA.map
  have HO := Lib.hid ho
  have HA := Lib.hid hA
  have HM := Lib.hid hMI
  clear ho hA hMI
  unfold ptr
  go_enter Try.func58, Try.ntmps58
  go_wp2_with (at_range; refine wpList_range_own _ rfl _ 103 rfl 3 108 law3 Try.underlying103 secR mb 4096 D rfl hown ?_; intro w0 hrg0 hg0 hs0)
  go_frame
  go_loopw [9] (fun _ wr => ∃ (left : Lit → Bool) (cnt : Nat), wr.ranges Try.prog 3 secR mb w.heap.size 4096 D left cnt ∧ RowAt wr fb d.n (mrg d left) ∧ Keep [fb] w wr)
    (fun _ wr => wr.rangeLeft mb w.heap.size)
  case atStart =>
    refine ⟨_, _, hrg0, ?_, Keep.of_grown hg0 (fun k hk => by cases hk)⟩
    have hrow := HA.out.row.of_heap (hg0.block fb HA.out.row.lt (by simp))
    obtain ⟨cur, h1, h2, h3⟩ := hrow
    refine ⟨cur, h1, h2, fun i hi j hj => ?_⟩
    rw [h3 i hi j hj]
    unfold mrg
    split
    · rfl
    · rename_i hh
      rw [HM.out.1 i] at hh
      simp only [Int.toNat_natCast, Int.natCast_nonneg, decide_true, Bool.true_and] at hh
      unfold St.now
      cases e : d.wt i with
      | none => rfl
      | some s => rw [e] at hh; simp at hh
  case round =>
    obtain ⟨left, cnt, hrg, hrow, hK⟩ := hrel
    have hA := HA.out
    have hgr : wr.heap[g]? = _ := (hK.block g (lt_of_heap hA.blk) (by simpa using hA.gf)).trans hA.blk
    have hgl := lt_of_heap hgr
    have hgf := hA.gf
    have hcp := hA.hcap
    have HGR := Lib.hid hgr
    clear hA hgr
    go_wp2_with (at_next; refine wpList_next_ranges _ rfl _ rfl 3 law3 secR encZ (fun c : { l : Sec // l.length = 64 } => sv c.1) (fun key kl hk => by obtain ⟨x, hx, _⟩ := Maps.keyOf_i64 Try.underlying3 hk; exact ⟨x, hx⟩) (fun v y hv => by obtain ⟨l, hl, he, _⟩ := secR_inv hv; exact ⟨⟨l, hl⟩, he⟩) mb w.heap.size 4096 _ _ _ rfl hrg ?_ ?_)
    · intro hc0 hl0
      have hg1 : (wr.alloc (.map #[] 0)).heap[g]? = _ := (Below.heap_alloc wr _ g hgl).trans HGR.out
      have c1 := cell_of_row _ g 1 _ 105 (0, 0) hg1
      have f1 := frozen_of_row _ g 1 _ 105 hg1
      have HL := Lib.hid hl0
      clear hg1 hl0
      go_wp2
      go_end0
      have e1 : (wr.setCell ⟨g, 1, none⟩ (.map (some wr.heap.size))).heap.size = wr.heap.size := by simp
      refine ⟨rfl, [g, fb, wr.heap.size], ⟨HO.out.settle, fb, wr.heap.size, cap, rfl, ⟨?_, ?_, ?_, hcp⟩⟩, ?_, ?_⟩
      · exact (Below.heap_alloc _ _ g (by rw [e1]; exact hgl)).trans (heap_setCell_same wr g 1 _ 105 _ HGR.out)
      · have e : mrg d left = d.now := by
          funext i
          unfold mrg
          rw [HL.out]
          rfl
        rw [e] at hrow
        exact (hrow.of_heap (heap_setCell_other wr ⟨g, 1, none⟩ fb _ (fun e => hgf e.symm))).of_heap (Below.heap_alloc _ _ fb (by rw [e1]; exact hrow.lt))
      · have := mapAt_made (wr.setCell ⟨g, 1, none⟩ (.map (some wr.heap.size)))
        rw [e1] at this
        exact this
      · exact ((hK.mono (L' := [g, fb, mb]) (by simp)).trans (Keep.setCell (p := ⟨g, 1, none⟩) (by simp) _)).trans (Keep.alloc _)
      · intro k hk
        simp at hk
        rcases hk with rfl | rfl | rfl
        · exact .inl (by simp)
        · exact .inl (by simp)
        · exact .inr hK.size
    · intro x l hl kl yd yp w1 cnt1 hkey hlk hv hat hrg1 hlt hg1 hs1 hen
      obtain ⟨i, rfl, hin, hwi, hkl⟩ : ∃ i : Nat, x = (i : Int) ∧ i < d.n ∧ d.wt i = some l ∧ kl = .int .i64 (i : Int) := by
        obtain ⟨x', hx, rfl, _⟩ := Maps.keyOf_i64 Try.underlying3 hkey
        obtain rfl := encZ_inj hx
        have h1 := Maps.has_true_of_atKey hat
        rw [HM.out.1 x] at h1
        simp only [Bool.and_eq_true, decide_eq_true_eq] at h1
        obtain ⟨s, hs⟩ := Option.isSome_iff_exists.1 h1.2
        have e : x = (x.toNat : Int) := by omega
        have h2 := HM.out.2 x.toNat s hs .nil
        rw [← e, hat] at h2
        rw [secR_of hl] at hv
        cases hv
        cases h2
        exact ⟨x.toNat, e, (HO.out.wlen _ _ hs).1, hs, by rw [← e]⟩
      subst hkl
      have HS1 := Lib.hid hs1
      have HA1 := Lib.hid hat
      clear hs1 hat
      go_wp2_with (refine wpList_store_newsec rfl _ _ rfl _ _ l hl rfl rfl rfl ?_)
      have hgb : w1.heap[g]? = _ := (hg1.block g hgl (fun e => by have h1 := lt_of_heap HA.out.blk; have := Option.some.inj e; omega)).trans HGR.out
      have hrow1 : RowAt w1 fb d.n (mrg d left) := hrow.of_heap (hg1.block fb hrow.lt (fun e => by have h1 := HA.out.row.lt; have := Option.some.inj e; omega))
      have hk1 : Keep [fb] w w1 := hK.trans' (L' := [w.heap.size]) (Keep.of_grown hg1 (fun k hk => by cases hk; exact .inl (by simp))) (fun k hk => by simp at hk; exact .inr (by omega))
      obtain ⟨w2, hw2⟩ : ∃ w2, w2 = w1.alloc (.cells (Lib.byteCells l).toArray 108) := ⟨_, rfl⟩
      have hb2 : Below w1.heap.size w1 w2 := by rw [hw2]; exact (Below.refl _ _).alloc (Nat.le_refl _) _
      have hn2 : w2.heap[w1.heap.size]? = some (.cells (Lib.byteCells l).toArray 108 (0, 0)) := by rw [hw2]; exact heap_alloc_new w1 _
      have hrg2 : w2.ranges Try.prog 3 secR mb w.heap.size 4096 D (fun z => left z && !z.sameKey (Lit.int IntKind.i64 (i : Int))) cnt1 := by rw [hw2]; exact hrg1.alloc _
      rw [← hw2]
      have hk2 : Keep [fb] w w2 := hk1.trans (Keep.of_below hb2)
      have hrow2 : RowAt w2 fb d.n (mrg d left) := hrow1.of_heap (hb2.block fb hrow1.lt)
      have hg2 : w2.heap[g]? = _ := (hb2.block g (lt_of_heap hgb)).trans hgb
      clear hw2 hrg1 hb2 hgb hrow1 hk1 hg1 hen
      generalize w1.heap.size = z at *
      have hld := load_sec hl (range_of_heap (w := w2.drew) hn2)
      have c0 := cell_of_row w2.drew g 0 _ 105 (0, 0) hg2
      have hth := hrow2.there i hin
      have hin0 : (0 : Int) ≤ i := by omega
      have hin1 : (i : Int) < d.n := by omega
      have HG2 := Lib.hid hg2
      clear hg2
      go_still_tail 7, (by kernel_rfl)
      refine still_load rfl 108 _ rfl _ _ rfl hld ?_
      repeat still_step
      refine wpStill_nil ?_
      change wpList _ _ _ _ _ w2.drew
      refine wpList_store_mid rfl 108 _ _ rfl fb (i * 64) (Lib.byteCells l).toArray rfl rfl (by simpa [Lib.byteCells_length, hl] using hth) (by rw [Try.sec64]; simp [Lib.byteCells_length, hl]) (all_oneCell_toArray (Lib.byteCells_one l)) ?_
      have hw3 : ∃ w3, w3 = w2.drew.setCells fb (i * 64) (Lib.byteCells l).toArray.toList := ⟨_, rfl⟩
      obtain ⟨w3, hw3⟩ := hw3
      have hdr : RowAt w2.drew fb d.n (mrg d left) := hrow2
      have hrow3 : RowAt w3 fb d.n (mrg d (fun z => left z && !z.sameKey (Lit.int IntKind.i64 (i : Int)))) := by
        rw [hw3]
        exact hdr.stored hin hl _ (fun j _ => mrg_step d left i l hwi j)
      have hgr3 : w2.grownBy w3 (some fb) := by rw [hw3]; exact (grown_drew w2 _).trans (grown_setCells _ w2.drew (i * 64)).1
      have hrg3 := hrg2.kept hgr3 (fun e => by have h1 := HA.out.fm; exact h1 (Option.some.inj e).symm) (fun e => by have h1 := HA.out.row.lt; have := Option.some.inj e; omega)
      have hk3 : Keep [fb] w w3 := hk2.trans (Keep.of_grown hgr3 (fun k hk => by cases hk; exact .inl (by simp)))
      rw [← hw3]
      clear hw3 hdr hth hld c0 hrg2 hgr3
      go_frame
      go_wp2
      go_roundw
      case rel =>
        exact ⟨_, cnt1, hrg3, hrow3, hk3⟩
      case measure => rw [hrg3.left_eq, hrg.left_eq]; exact hlt
theorem flush_any (g : Nat) (L : List Nat) (d : St) (w : World) (h : Dv w g L d) :
    Calls Try.prog 21 #[ptr g] w fun e w' => e = .returned (.int .i64 d.flush.2) ∧ Moves g L d.flush.1 w w' := by
  have key : Calls Try.prog 57 #[ptr g, .func (.func 58) #[ptr g] #[]] w fun e w' => e = .returned (.int .i64 d.flush.2) ∧ Moves g L d.flush.1 w w' := by
    unfold St.flush St.try_
    by_cases hl : d.left = 0
    · rw [if_pos hl]; exact attempt_zero g L d _ w h hl
    · rw [if_neg hl]
      cases hd : d.dead
      · rw [if_neg (by decide)]
        refine attempt_go 58 (.inl rfl) g L d _ _ w h hl hd (fun w' => Moves g L d.step.settle w w') (.inl ⟨rfl, rfl, rfl⟩) ?_
        intro w1 hd1 hk1 hs1
        refine (settle_any g L d.step w1 hd1).mono ?_
        rintro e w' ⟨rfl, L', h1, h2, h3⟩
        exact ⟨rfl, L', h1, hk1.trans h2, (Fresh.refl w L).trans h3 hk1.size⟩
      · rw [if_pos rfl]
        exact (attempt_dead g L d _ w h hl hd).mono fun e w' ⟨he, hw⟩ => ⟨he, by subst hw; exact Moves.same h (Keep.refl _ _) h⟩
  have HK := Lib.hid key
  clear key h
  generalize d.flush = p at *
  unfold ptr at *
  go_enter Try.func21, Try.ntmps21
  go_wp2_with fail
  refine HK.out.mono ?_
  rintro e w1 ⟨rfl, hR⟩
  go_wp2
  go_ret
  exact ⟨rfl, hR⟩
end Go.Proofs.Ytlmfnlaikdmphaa
namespace Go.Proofs.Ytlmfnlaikdmphaa
open Go.RowKit Dk
set_option linter.unusedVariables false
theorem wpList_lookup_sec {ops : Array Oper} {rest : List Oper} {o : Oper} {a : Act} {Q : Exit → Act → World → Prop} (hg : o.guard = none) (m x : Operand) (hop : o.op = Op.lookup 103 m x true)
    (w : World) (mb i : Nat) (M : Nat → Option Sec) (hm : a.eval m = .map (some mb)) (hx : a.eval x = .int .i64 (i : Int)) (hM : MapAt w mb M) (hi : i < 4096)
    (hK : wpList Try.prog ops Q rest (a.put o.dst (.tuple #[sv ((M i).getD zsec), .bool (M i).isSome])) w) : wpList Try.prog ops Q (o :: rest) a w := by
  obtain ⟨D, hown, hMI⟩ := hM
  refine wpList_lookup_own_ok w hg m x 103 hop 3 108 law3 Try.underlying103 secR (z := sv zsec) (Try.zeroValue108 w) (.lit (.string zsec)) [] (secR_of zsec_length) mb 4096 D hm hown _ (.int .i64 (i : Int)) hx (key_i64 i hi) ?_
  intro v ps hv
  obtain ⟨l, hl, rfl, hy⟩ := secR_inv hv
  have h1 := hMI.1 (i : Int)
  simp only [Int.toNat_natCast, Int.natCast_nonneg, decide_true, Bool.true_and] at h1
  rw [h1]
  have e : l = (M i).getD zsec := by
    simp only [Prod.mk.injEq] at hy
    cases hmi : M i with
    | none =>
      rw [hmi] at h1
      rw [Maps.atKey_of_not_has h1] at hy
      have h2 := hy.1
      simp only [DataW.lit.injEq, Lit.string.injEq] at h2
      exact h2.symm
    | some s =>
      rw [hMI.2 i s hmi] at hy
      have h2 := hy.1
      simp only [DataW.lit.injEq, Lit.string.injEq] at h2
      exact h2.symm
  rw [e]
  exact hK
theorem wpList_store_sec {ops : Array Oper} {rest : List Oper} {op : Oper} {a : Act} {Q : Exit → Act → World → Prop} (hgd : op.guard = none) (x y : Operand) (ho : op.op = .store 108 x y)
    (w : World) (z : Nat) (old l : Sec) (hl : l.length = 64) (hol : old.length = 64) (hx : a.eval x = .pointer (some ⟨z, 0, none⟩)) (hy : a.eval y = sv l) (hz : w.heap[z]? = some (.cells (Lib.byteCells old).toArray 108 (0, 0)))
    (h : wpList Try.prog ops Q rest (a.put op.dst undef) (w.setRow z (Lib.byteCells l).toArray)) : wpList Try.prog ops Q (op :: rest) a w :=
  wpList_store_row hgd 108 x y ho z _ hx hy 108 _ hz (by rw [Try.sec64]; simp [Lib.byteCells_length, hl]) (by simp [Lib.byteCells_length, hl, hol]) (all_oneCell_toArray (Lib.byteCells_one l)) h
theorem wpList_load_sec {ops : Array Oper} {rest : List Oper} {op : Oper} {a : Act} {Q : Exit → Act → World → Prop} (hgd : op.guard = none) (x : Operand) (ho : op.op = .load 108 x)
    (w : World) (b o : Nat) (l : Sec) (hl : l.length = 64) (hx : a.eval x = .pointer (some ⟨b, o, none⟩)) (hr : w.rangeAt b o (Lib.byteCells l))
    (h : wpList Try.prog ops Q rest (a.put op.dst (sv l)) w) : wpList Try.prog ops Q (op :: rest) a w :=
  wpList_load_mid hgd 108 x ho b o hx _ _ hr Try.underlying108 rfl (by rw [Try.sec64, Lib.byteCells_length, hl]) h
theorem wpList_alloc_sec {ops : Array Oper} {rest : List Oper} {op : Oper} {a : Act} {Q : Exit → Act → World → Prop} (hgd : op.guard = none) (ho : op.op = .alloc 108) (w : World)
    (h : wpList Try.prog ops Q rest (a.put op.dst (.pointer (some ⟨w.heap.size, 0, none⟩))) (zw w)) : wpList Try.prog ops Q (op :: rest) a w := by
  refine wpList_plain hgd fun K hK => ?_
  unfold Oper.wp execOp
  simp only [ho]
  go_simp
  exact hK _ _ h
theorem wpList_at {P : Program} {ops rest : _} {Q : Exit → Act → World → Prop} {a : Act} {w w' : World} (h : w' = w) (k : wpList P ops Q rest a w) : wpList P ops Q rest a w' := by rw [h]; exact k
theorem zw_below (w : World) : Below w.heap.size w (zw w) := (Below.refl _ _).alloc (Nat.le_refl _) _
theorem zw_new (w : World) : (zw w).heap[w.heap.size]? = some (.cells (Lib.byteCells zsec).toArray 108 (0, 0)) := heap_alloc_new w _
theorem zw_size (w : World) : (zw w).heap.size = w.heap.size + 1 := by unfold zw; simp
theorem Dk.DevAt.below {w w' : World} {g fb mb cap : Nat} {d : St} (h : DevAt w g fb mb cap d) (hb : Below w.heap.size w w') : DevAt w' g fb mb cap d := h.of_heap (fun k hk => hb.block k (by
    rcases hk with rfl | rfl | rfl
    · exact lt_of_heap h.blk
    · exact h.row.lt
    · exact h.map.lt))
theorem below_setRow {B z : Nat} {w : World} (hz : B ≤ z) (cs : Array Value) : Below B w (w.setRow z cs) := ⟨rfl, rfl, rfl, by simp, fun k hk => setRow_other _ _ _ _ (by omega)⟩
set_option maxHeartbeats 1000000 in
set_option maxRecDepth 100000 in
theorem now_any (g : Nat) (L : List Nat) (d : St) (i : Nat) (w : World) (h : Dv w g L d) (hi : i < d.n) :
    Calls Try.prog 67 #[ptr g, .int .i64 i] w fun e w' => e = .returned (sv (d.now i)) ∧ Below w.heap.size w w' := by
  obtain ⟨ho, fb, mb, cap, rfl, hA⟩ := h
  have HO := Lib.hid ho
  have hi0 : (0 : Int) ≤ i := by omega
  have hi1 : (i : Int) < d.n := by omega
  have hi4 : i < 4096 := by have := ho.n2; omega
  have hA0 := hA.below (zw_below w)
  have c1 := hA0.c1
  have hM := hA0.map
  have hlen : ((d.wt i).getD zsec).length = 64 := by
    cases e : d.wt i with
    | none => exact zsec_length
    | some s => exact (ho.wlen i s e).2
  obtain ⟨w2, hw2⟩ : ∃ w2, w2 = (zw (zw w)).setRow (zw w).heap.size (Lib.byteCells ((d.wt i).getD zsec)).toArray := ⟨_, rfl⟩
  have hb2 : Below (zw w).heap.size (zw w) w2 := by rw [hw2]; exact (zw_below _).trans (below_setRow (Nat.le_refl _) _)
  have hA2 := hA0.below hb2
  have c0 := hA2.c0
  have hr2 := hA2.row.range ho.flen i hi
  have hn2 : w2.heap[(zw w).heap.size]? = some (.cells (Lib.byteCells ((d.wt i).getD zsec)).toArray 108 (0, 0)) := by rw [hw2]; exact setRow_heap _ _ _ _ 108 (0, 0) (zw_new _)
  have hz2 : w2.heap[w.heap.size]? = some (.cells (Lib.byteCells zsec).toArray 108 (0, 0)) := (hb2.block _ (by rw [zw_size]; omega)).trans (zw_new w)
  have hB : Below w.heap.size w w2 := (zw_below w).trans (hb2.mono (by rw [zw_size]; omega))
  have HW := Lib.hid hw2
  have HI := Lib.hid hi
  clear ho hA hA0 hb2 hA2 hw2 hi
  unfold ptr
  cases e : d.wt i with
  | none =>
    have HE := Lib.hid e
    rw [e] at hlen hn2 HW
    clear e
    have hfl := HO.out.flen i
    have hnow : Hid (d.now i = d.fl i) := by show _ = _; unfold St.now; rw [HE.out]; rfl
    go_enter Try.func67, Try.ntmps67
    go_wp2_with (first
      | (refine wpList_alloc_sec rfl rfl _ ?_; go_frame)
      | (at_lookup; refine wpList_lookup_sec rfl _ _ rfl _ mb i d.wt rfl rfl hM hi4 ?_; rw [HE.out]; go_frame)
      | (refine wpList_store_sec rfl _ _ rfl _ _ zsec _ hlen zsec_length rfl rfl (zw_new _) ?_; rw [← HW.out]; go_frame)
      | (refine wpList_load_sec rfl _ rfl _ fb (i * 64) (d.fl i) hfl rfl hr2 ?_; go_frame)
      | (refine wpList_store_sec rfl _ _ rfl _ w.heap.size zsec (d.fl i) hfl zsec_length rfl rfl hz2 ?_; go_frame))
    rw [hnow.out]
    exact bodyPost_ret (v := sv (d.fl i)) (results_cell_row Try.results67 _ _ w.heap.size 108 _ (0, 0) _ rfl (setRow_heap _ _ _ _ 108 (0, 0) hz2) Try.underlying108 rfl (by rw [Try.sec64]; simp [Lib.byteCells_length, hfl])) rfl
      ⟨rfl, hB.trans (below_setRow (Nat.le_refl _) _)⟩
  | some s =>
    have HE := Lib.hid e
    rw [e] at hlen hn2 HW
    change List.length s = 64 at hlen
    clear e
    have hnow : Hid (d.now i = s) := by show _ = _; unfold St.now; rw [HE.out]; rfl
    have hr3 : w2.rangeAt (zw w).heap.size 0 (Lib.byteCells s) := range_of_heap hn2
    go_enter Try.func67, Try.ntmps67
    go_wp2_with (first
      | (refine wpList_alloc_sec rfl rfl _ ?_; go_frame)
      | (at_lookup; refine wpList_lookup_sec rfl _ _ rfl _ mb i d.wt rfl rfl hM hi4 ?_; rw [HE.out]; go_frame)
      | (refine wpList_store_sec rfl _ _ rfl _ _ zsec s hlen zsec_length rfl rfl (zw_new _) ?_; refine wpList_at HW.out.symm ?_; go_frame)
      | (refine wpList_load_sec rfl _ rfl _ (zw w).heap.size 0 s hlen rfl hr3 ?_; go_frame)
      | (refine wpList_store_sec rfl _ _ rfl _ w.heap.size zsec s hlen zsec_length rfl rfl hz2 ?_; go_frame))
    rw [hnow.out]
    exact bodyPost_ret (v := sv s) (results_cell_row Try.results67 _ _ w.heap.size 108 _ (0, 0) _ rfl (setRow_heap _ _ _ _ 108 (0, 0) hz2) Try.underlying108 rfl (by rw [Try.sec64]; simp [Lib.byteCells_length, hlen])) rfl
      ⟨rfl, hB.trans (below_setRow (Nat.le_refl _) _)⟩
end Go.Proofs.Ytlmfnlaikdmphaa
namespace Go.Proofs.Ytlmfnlaikdmphaa
open Go.RowKit Dk
set_option linter.unusedVariables false
theorem conv_sec {w : World} {z o n cap : Nat} {l : List UInt8} (hl : l.length = n) (h : w.rangeAt z o (Lib.byteCells l)) : (convert 75 9 (.slice (some ⟨z, o, none⟩) n cap)).run Try.prog w = .ok (.string (txt l)) w := by
  subst hl
  exact run_convert_bytes_back w 75 9 5 ⟨z, o, none⟩ cap l Try.underlying75 Try.underlying5 Try.underlying9 (fun j hj => by rw [Addr.add_mid]; exact h j _ (by simp [Lib.byteCells, List.getElem?_eq_getElem hj]))
set_option maxHeartbeats 1000000 in
set_option maxRecDepth 100000 in
theorem read_no (g : Nat) (L : List Nat) (d : St) (at_ : Int) (w : World) (h : Dv w g L d) (hr : d.refuses at_ ≠ 0) :
    Calls Try.prog 32 #[ptr g, .int .i64 at_] w fun e w' => e = .returned (.tuple #[.string ⟨#[]⟩, .int .i64 (d.refuses at_)]) ∧ w = w' := by
  have HC := Lib.hid (refuses_any g L d at_ w h)
  have hne : (d.refuses at_ != 0) = true := by simpa using hr
  generalize d.refuses at_ = r at *
  clear h
  unfold ptr at *
  go_enter Try.func32, Try.ntmps32
  go_wp2_with fail
  refine HC.out.mono ?_
  rintro e w1 ⟨rfl, rfl⟩
  go_wp2
  go_ret2
  exact ⟨rfl, rfl⟩
set_option maxHeartbeats 1000000 in
set_option maxRecDepth 100000 in
theorem read_yes (g : Nat) (L : List Nat) (d : St) (i : Nat) (w : World) (h : Dv w g L d) (hr : d.refuses i = 0) :
    Calls Try.prog 32 #[ptr g, .int .i64 i] w fun e w' => e = .returned (.tuple #[.string (txt (d.now i)), .int .i64 0]) ∧ Below w.heap.size w w' := by
  have hin : i < d.n := by
    unfold St.refuses at hr
    split at hr
    · cases hr
    · split at hr
      · cases hr
      · omega
  have HC := Lib.hid (refuses_any g L d i w h)
  rw [hr] at HC
  have HN := Lib.hid (now_any g L d i w h hin)
  have hl := h.1.now i
  generalize d.now i = l at *
  clear h hr
  unfold ptr at *
  go_enter Try.func32, Try.ntmps32
  go_wp2_with fail
  refine HC.out.mono ?_
  rintro e w1 ⟨rfl, rfl⟩
  go_wp2_with fail
  refine HN.out.mono ?_
  rintro e w1 ⟨rfl, hb1⟩
  have hcv : (convert 75 9 (.slice (some ⟨w1.heap.size, 0, none⟩) 64 64)).run Try.prog (w1.alloc (.cells (Lib.byteCells l).toArray 108)) = .ok (.string (txt l)) (w1.alloc (.cells (Lib.byteCells l).toArray 108)) := conv_sec hl (range_of_heap (heap_alloc_new w1 _))
  go_wp2_with (refine wpList_store_newsec rfl _ _ rfl _ _ l hl rfl rfl rfl ?_)
  go_ret2
  exact ⟨rfl, hb1.trans ((Below.refl _ _).alloc hb1.size _)⟩
namespace Dk
def St.readS (d : St) (at_ : Int) : List UInt8 := if d.refuses at_ = 0 then d.now at_.toNat else []
end Dk
theorem refuses_nonneg {d : St} {at_ : Int} (hr : d.refuses at_ = 0) : 0 ≤ at_ ∧ at_ < d.n ∧ d.dead = false := by
  unfold St.refuses at hr
  cases hd : d.dead
  · rw [hd, if_neg (by decide)] at hr
    split at hr
    · cases hr
    · exact ⟨by omega, by omega, rfl⟩
  · rw [hd, if_pos rfl] at hr; cases hr
theorem read_any (g : Nat) (L : List Nat) (d : St) (at_ : Int) (w : World) (h : Dv w g L d) :
    Calls Try.prog 32 #[ptr g, .int .i64 at_] w fun e w' => e = .returned (.tuple #[.string (txt (d.readS at_)), .int .i64 (d.refuses at_)]) ∧ Below w.heap.size w w' := by
  unfold St.readS
  by_cases hr : d.refuses at_ = 0
  · obtain ⟨i, rfl⟩ := Int.eq_ofNat_of_zero_le (refuses_nonneg hr).1
    rw [if_pos hr, hr]
    exact read_yes g L d i w h hr
  · rw [if_neg hr]
    exact (read_no g L d at_ w h hr).mono fun e w' ⟨he, hw⟩ => ⟨he, by subst hw; exact Below.refl _ _⟩
end Go.Proofs.Ytlmfnlaikdmphaa
namespace Go.Proofs
open Go.Shelf
def Try.laysSlM5_f49_ren : Go.Shelf.Ren := ⟨fun | 5 => 94 | 8 => 110 | 7 => 109 | 19 => 121 | 20 => 122 | 10 => 112 | 11 => 113 | 12 => 114 | 13 => 115 | 14 => 116 | 15 => 117 | 16 => 118 | 17 => 119 | 18 => 120 | 30 => 123 | 31 => 124 | 32 => 125 | 33 => 126 | 34 => 127 | 35 => 128 | 40 => 129 | n => n, fun | 23 => 42 | 25 => 3 | 3 => 3 | 32 => 26 | 22 => 42 | 0 => 0 | 44 => 126 | 46 => 22 | 4 => 4 | 36 => 155 | 35 => 154 | 41 => 160 | 5 => 5 | 9 => 9 | 53 => 165 | 57 => 168 | 63 => 170 | 64 => 171 | n => n, fun | n => n⟩
theorem Try.laysSlM5_f49 : Go.Proofs.SlLaysM.n5 Try.prog Try.laysSlM5_f49_ren := {
  mixed := by kernel_rfl
  f5 := ⟨Try.f94.name, by decide, Try.func94.trans (congrArg some (by kernel_rfl))⟩
  f7 := ⟨Try.f109.name, by decide, Try.func109.trans (congrArg some (by kernel_rfl))⟩
  f8 := Try.func110.trans (congrArg some (by kernel_rfl))
  f10 := ⟨Try.f112.name, by decide, Try.func112.trans (congrArg some (by kernel_rfl))⟩
  f11 := ⟨Try.f113.name, by decide, Try.func113.trans (congrArg some (by kernel_rfl))⟩
  f12 := ⟨Try.f114.name, by decide, Try.func114.trans (congrArg some (by kernel_rfl))⟩
  f13 := ⟨Try.f115.name, by decide, Try.func115.trans (congrArg some (by kernel_rfl))⟩
  f14 := ⟨Try.f116.name, by decide, Try.func116.trans (congrArg some (by kernel_rfl))⟩
  f15 := ⟨Try.f117.name, by decide, Try.func117.trans (congrArg some (by kernel_rfl))⟩
  f16 := ⟨Try.f118.name, by decide, Try.func118.trans (congrArg some (by kernel_rfl))⟩
  f17 := ⟨Try.f119.name, by decide, Try.func119.trans (congrArg some (by kernel_rfl))⟩
  f18 := ⟨Try.f120.name, by decide, Try.func120.trans (congrArg some (by kernel_rfl))⟩
  f19 := Try.func121.trans (congrArg some (by kernel_rfl))
  f20 := Try.func122.trans (congrArg some (by kernel_rfl))
  f30 := ⟨Try.f123.name, by decide, Try.func123.trans (congrArg some (by kernel_rfl))⟩
  f31 := Try.func124.trans (congrArg some (by kernel_rfl))
  f32 := Try.func125.trans (congrArg some (by kernel_rfl))
  f33 := ⟨Try.f126.name, by decide, Try.func126.trans (congrArg some (by kernel_rfl))⟩
  f34 := ⟨Try.f127.name, by decide, Try.func127.trans (congrArg some (by kernel_rfl))⟩
  f35 := ⟨Try.f128.name, by decide, Try.func128.trans (congrArg some (by kernel_rfl))⟩
  f40 := ⟨Try.f129.name, by decide, Try.func129.trans (congrArg some (by kernel_rfl))⟩
  t0 := Try.underlying0
  a0 := Try.isAgg0
  z0 := Try.sizeOf0
  v0 := Try.zeroValue0
  t3 := Try.underlying3
  a3 := Try.isAgg3
  z3 := Try.sizeOf3
  v3 := Try.zeroValue3
  t4 := Try.underlying4
  a4 := Try.isAgg4
  z4 := Try.sizeOf4
  v4 := Try.zeroValue4
  t5 := Try.underlying5
  a5 := Try.isAgg5
  z5 := Try.sizeOf5
  v5 := Try.zeroValue5
  t9 := Try.underlying9
  a9 := Try.isAgg9
  z9 := Try.sizeOf9
  v9 := Try.zeroValue9
  t22 := Try.underlying42
  a22 := Try.isAgg42
  z22 := Try.sizeOf42
  v22 := Try.zeroValue42
  t23 := Try.underlying42
  a23 := Try.isAgg42
  z23 := Try.sizeOf42
  v23 := Try.zeroValue42
  t25 := Try.underlying3
  a25 := Try.isAgg3
  z25 := Try.sizeOf3
  v25 := Try.zeroValue3
  t32 := Try.underlying26
  a32 := Try.isAgg26
  z32 := Try.sizeOf26
  v32 := Try.zeroValue26
  t35 := Try.underlying154
  a35 := Try.isAgg154
  z35 := Try.sizeOf154
  v35 := Try.zeroValue154
  t36 := Try.underlying155
  a36 := Try.isAgg155
  z36 := Try.sizeOf155
  v36 := Try.zeroValue155
  t41 := Try.underlying160
  a41 := Try.isAgg160
  z41 := Try.sizeOf160
  v41 := Try.zeroValue160
  t44 := Try.underlying126
  a44 := Try.isAgg126
  z44 := Try.sizeOf126
  v44 := Try.zeroValue126
  t46 := Try.underlying22
  a46 := Try.isAgg22
  z46 := Try.sizeOf22
  v46 := Try.zeroValue22
  t53 := Try.underlying165
  a53 := Try.isAgg165
  z53 := Try.sizeOf165
  v53 := Try.zeroValue165
  t57 := Try.underlying168
  a57 := Try.isAgg168
  z57 := Try.sizeOf168
  v57 := Try.zeroValue168
  t63 := Try.underlying170
  a63 := Try.isAgg170
  z63 := Try.sizeOf170
  v63 := Try.zeroValue170
  t64 := Try.underlying171
  a64 := Try.isAgg171
  z64 := Try.sizeOf171
  v64 := Try.zeroValue171 }
open Go.Sort Go.RowKit in
theorem Try.slices_Sort_int (blk off cap : Nat) (zs : List Int) (w : World) (hH : Holds (Value.int .i64) w blk off zs.toArray) (hblk : blk < w.heap.size) (hsz : zs.length < 4611686018427387904) :
    Calls Try.prog 94 #[.slice (some ⟨blk, off, none⟩) zs.length cap] w fun e w' =>
      e = .returned (.tuple #[]) ∧ ∃ n os, w' = grow (putRow (Value.int .i64) (Sort.ahead w n) blk off (zs.mergeSort fun x y => decide (x ≤ y)).toArray) os := AnyM.slices_Sort_int Try.laysSlM5_f49 blk off cap zs w hH hblk hsz
open Go.RowKit Go.Sort in
theorem Try.slices_Sort_int_none (p : Option Addr) (cap : Nat) (w : World) :
    Calls Try.prog 94 #[.slice p 0 cap] w fun e w' => e = .returned (.tuple #[]) ∧ w' = w := AnyM.slices_Sort_int_none Try.laysSlM5_f49 p cap w
def Try.keysA_ren : Go.Shelf.Ren := ⟨fun | 7 => 72 | 10 => 95 | n => n, fun | 23 => 103 | 26 => 3 | 3 => 108 | 28 => 123 | 0 => 0 | 27 => 122 | 33 => 138 | 4 => 4 | n => n, fun | n => n⟩
theorem Try.keysA : Go.Proofs.SlLaysZI.n7 Try.prog Try.keysA_ren := {
  mixed := by kernel_rfl
  f7 := ⟨Try.f72.name, by decide, Try.func72.trans (congrArg some (by kernel_rfl))⟩
  f10 := ⟨Try.f95.name, by decide, Try.func95.trans (congrArg some (by kernel_rfl))⟩
  t0 := Try.underlying0
  a0 := Try.isAgg0
  z0 := Try.sizeOf0
  v0 := Try.zeroValue0
  t4 := Try.underlying4
  a4 := Try.isAgg4
  z4 := Try.sizeOf4
  v4 := Try.zeroValue4
  t23 := Try.underlying103
  a23 := Try.isAgg103
  z23 := Try.sizeOf103
  v23 := Try.zeroValue103
  t26 := Try.underlying3
  a26 := Try.isAgg3
  z26 := Try.sizeOf3
  v26 := Try.zeroValue3
  t27 := Try.underlying122
  a27 := Try.isAgg122
  z27 := Try.sizeOf122
  v27 := Try.zeroValue122
  t28 := Try.underlying123
  a28 := Try.isAgg123
  z28 := Try.sizeOf123
  v28 := Try.zeroValue123
  t33 := Try.underlying138
  a33 := Try.isAgg138
  z33 := Try.sizeOf138
  v33 := Try.zeroValue138 }
def Try.sortedA_ren : Go.Shelf.Ren := ⟨fun | 6 => 71 | 8 => 93 | 9 => 94 | 11 => 108 | 13 => 110 | 12 => 109 | 23 => 121 | 24 => 122 | 14 => 112 | 15 => 113 | 16 => 114 | 17 => 115 | 18 => 116 | 19 => 117 | 20 => 118 | 21 => 119 | 22 => 120 | 25 => 123 | 26 => 124 | 27 => 125 | 28 => 126 | 29 => 127 | 30 => 128 | 31 => 129 | n => n, fun | 26 => 3 | 28 => 123 | 24 => 42 | 0 => 0 | 3 => 3 | 37 => 26 | 48 => 126 | 50 => 22 | 4 => 4 | 40 => 155 | 39 => 154 | 45 => 160 | 5 => 5 | 9 => 9 | 51 => 165 | 55 => 168 | 57 => 170 | 58 => 171 | 33 => 138 | n => n, fun | n => n⟩
theorem Try.sortedA : Go.Proofs.SlLaysZI.n6 Try.prog Try.sortedA_ren := {
  mixed := by kernel_rfl
  f6 := ⟨Try.f71.name, by decide, Try.func71.trans (congrArg some (by kernel_rfl))⟩
  f8 := ⟨Try.f93.name, by decide, Try.func93.trans (congrArg some (by kernel_rfl))⟩
  f11 := ⟨Try.f108.name, by decide, Try.func108.trans (congrArg some (by kernel_rfl))⟩
  t0 := Try.underlying0
  a0 := Try.isAgg0
  z0 := Try.sizeOf0
  v0 := Try.zeroValue0
  t24 := Try.underlying42
  a24 := Try.isAgg42
  z24 := Try.sizeOf42
  v24 := Try.zeroValue42
  t26 := Try.underlying3
  a26 := Try.isAgg3
  z26 := Try.sizeOf3
  v26 := Try.zeroValue3
  t28 := Try.underlying123
  a28 := Try.isAgg123
  z28 := Try.sizeOf123
  v28 := Try.zeroValue123
  i26 := by kernel_rfl }
end Go.Proofs
namespace Go.Proofs
open Go.Shelf
def Try.lays169_ren : Go.Shelf.Ren := ⟨fun | 169 => 64 | n => n, fun | 70 => 110 | 9 => 9 | 0 => 0 | 72 => 112 | 37 => 75 | 127 => 135 | 3 => 3 | 5 => 5 | n => n, fun | n => n⟩
theorem Try.lays169 : Go.Proofs.Lays.n169 Try.prog Try.lays169_ren := {
  mixed := by kernel_rfl
  f169 := Try.func64.trans (congrArg some (by kernel_rfl))
  t0 := Try.underlying0
  a0 := Try.isAgg0
  z0 := Try.sizeOf0
  v0 := Try.zeroValue0
  t3 := Try.underlying3
  a3 := Try.isAgg3
  z3 := Try.sizeOf3
  v3 := Try.zeroValue3
  t9 := Try.underlying9
  a9 := Try.isAgg9
  z9 := Try.sizeOf9
  v9 := Try.zeroValue9
  t37 := Try.underlying75
  a37 := Try.isAgg75
  z37 := Try.sizeOf75
  v37 := Try.zeroValue75
  t70 := Try.underlying110
  a70 := Try.isAgg110
  z70 := Try.sizeOf110
  v70 := Try.zeroValue110
  t72 := Try.underlying112
  a72 := Try.isAgg112
  z72 := Try.sizeOf112
  v72 := Try.zeroValue112
  t127 := Try.underlying135
  a127 := Try.isAgg135
  z127 := Try.sizeOf135
  v127 := Try.zeroValue135 }
theorem Try.Builder_Extra_169 : Builder.Extra Try.prog Try.lays169_ren := {
  sizeBuilder := by kernel_rfl
  liesBuilder := by kernel_rfl
  t5 := Try.underlying5
  a5 := Try.isAgg5
  z5 := Try.sizeOf5
  v5 := Try.zeroValue5
  infoByte := by kernel_rfl
  cellsByte := by kernel_rfl
  sizeByte := by kernel_rfl
  neB5 := by decide }
open Go.RowKit in
theorem Try.Builder_String_any (B b : Nat) (l : List UInt8) (w : World) (h : Lib.IsBuilder 112 5 B b (Lib.byteCells l) w) (hBw : B ≤ w.heap.size) :
    Calls Try.prog 64 #[.pointer (some ⟨b, 0, none⟩)] w fun e w' => e = .returned (.string ⟨l.toArray⟩) ∧ Below B w w' := Any.Builder_String_any Try.lays169 Try.Builder_Extra_169 B b l w h hBw
def Try.lays165_ren : Go.Shelf.Ren := ⟨fun | 165 => 66 | 240 => 91 | 241 => 92 | 276 => 106 | 277 => 107 | n => n, fun | 70 => 110 | 3 => 3 | 0 => 0 | 4 => 4 | 9 => 9 | 20 => 20 | 72 => 112 | 37 => 75 | 164 => 145 | 5 => 5 | n => n, fun | n => n⟩
theorem Try.lays165 : Go.Proofs.Lays.n165 Try.prog Try.lays165_ren := {
  mixed := by kernel_rfl
  f165 := Try.func66.trans (congrArg some (by kernel_rfl))
  f240 := Try.func91.trans (congrArg some (by kernel_rfl))
  f241 := Try.func92.trans (congrArg some (by kernel_rfl))
  f276 := Try.func106.trans (congrArg some (by kernel_rfl))
  f277 := Try.func107.trans (congrArg some (by kernel_rfl))
  t0 := Try.underlying0
  a0 := Try.isAgg0
  z0 := Try.sizeOf0
  v0 := Try.zeroValue0
  t3 := Try.underlying3
  a3 := Try.isAgg3
  z3 := Try.sizeOf3
  v3 := Try.zeroValue3
  t4 := Try.underlying4
  a4 := Try.isAgg4
  z4 := Try.sizeOf4
  v4 := Try.zeroValue4
  t9 := Try.underlying9
  a9 := Try.isAgg9
  z9 := Try.sizeOf9
  v9 := Try.zeroValue9
  t20 := Try.underlying20
  a20 := Try.isAgg20
  z20 := Try.sizeOf20
  v20 := Try.zeroValue20
  t37 := Try.underlying75
  a37 := Try.isAgg75
  z37 := Try.sizeOf75
  v37 := Try.zeroValue75
  t70 := Try.underlying110
  a70 := Try.isAgg110
  z70 := Try.sizeOf110
  v70 := Try.zeroValue110
  t72 := Try.underlying112
  a72 := Try.isAgg112
  z72 := Try.sizeOf112
  v72 := Try.zeroValue112
  t164 := Try.underlying145
  a164 := Try.isAgg145
  z164 := Try.sizeOf145
  v164 := Try.zeroValue145 }
theorem Try.Builder_Extra_165 : Builder.Extra Try.prog Try.lays165_ren := {
  sizeBuilder := by kernel_rfl
  liesBuilder := by kernel_rfl
  t5 := Try.underlying5
  a5 := Try.isAgg5
  z5 := Try.sizeOf5
  v5 := Try.zeroValue5
  infoByte := by kernel_rfl
  cellsByte := by kernel_rfl
  sizeByte := by kernel_rfl
  neB5 := by decide }
open Go.RowKit in
theorem Try.Builder_Grow_fresh (B b n : Nat) (w : World) (hB : B ≤ b) (hbk : w.heap[b]? = some (.cells #[.pointer none, .slice none 0 0] 112 (0, 0))) (hBw : B ≤ w.heap.size) (hn : n ≤ 281474976710656) :
    Calls Try.prog 66 #[.pointer (some ⟨b, 0, none⟩), .int .i64 n] w fun e w' => e = .returned (.tuple #[]) ∧ (Lib.BuilderAt 112 5 B b (.pointer (some ⟨b, 0, none⟩)) [] w' ∧ Below B w w') := Any.Builder_Grow_fresh Try.lays165 Try.Builder_Extra_165 B b n w hB hbk hBw hn
def Try.cloneA_ren : Go.Shelf.Ren := ⟨fun | 41 => 60 | n => n, fun | 22 => 91 | 23 => 108 | 4 => 4 | n => n, fun | n => n⟩
theorem Try.cloneA : Go.Proofs.SlLaysE0.n41 Try.prog Try.cloneA_ren := {
  mixed := by kernel_rfl
  f41 := ⟨Try.f60.name, by decide, Try.func60.trans (congrArg some (by kernel_rfl))⟩
  t4 := Try.underlying4
  a4 := Try.isAgg4
  z4 := Try.sizeOf4
  v4 := Try.zeroValue4
  t22 := Try.underlying91
  a22 := Try.isAgg91
  z22 := Try.sizeOf91
  v22 := Try.zeroValue91 }
end Go.Proofs
namespace Go.Proofs.Ytlmfnlaikdmphaa
open Go.RowKit Go.Maps Dk
set_option linter.unusedVariables false
theorem sclone_any (fb n cap : Nat) (F : Nat → Sec) (w : World) (h : RowAt w fb n F) (hF : ∀ i, (F i).length = 64) (h1 : 1 ≤ n) (h2 : n ≤ 4096) :
    Calls Try.prog 60 #[.slice (some ⟨fb, 0, none⟩) n cap] w fun e w' => ∃ fb' cap', e = .returned (.slice (some ⟨fb', 0, none⟩) n cap') ∧ RowAt w' fb' n F ∧ w.heap.size ≤ fb' ∧ n ≤ cap' ∧ Below w.heap.size w w' := by
  obtain ⟨i0, hi, hz0, hz1, hz2⟩ := info_parts Try.info108
  obtain ⟨cur, hc1, hc2, hc3⟩ := h
  have hx : ∀ i, i < n → ∀ j, j < 64 → (cur.toList.take (n * 64))[i * 64 + j]? = (Lib.byteCells (F i))[j]? := fun i hi j hj => by
    have hk : i * 64 + j < n * 64 := by
      have : (i + 1) * 64 ≤ n * 64 := Nat.mul_le_mul_right _ hi
      omega
    rw [List.getElem?_take, if_pos hk, Array.getElem?_toList, hc3 i hi j hj]
  have hone : ∀ u ∈ cur.toList.take (n * 64), u.oneCell' = true := fun u hu => by
    obtain ⟨k, hk, rfl⟩ := List.getElem_of_mem hu
    have hk' : k < n * 64 := by simp at hk; omega
    have hd : k / 64 < n := by omega
    have hm : k % 64 < 64 := Nat.mod_lt _ (by omega)
    have e : (cur.toList.take (n * 64))[k]? = (Lib.byteCells (F (k / 64)))[k % 64]? := by
      have := hx (k / 64) hd (k % 64) hm
      have e2 : k / 64 * 64 + k % 64 = k := by omega
      rw [e2] at this
      exact this
    rw [List.getElem?_eq_getElem hk] at e
    exact Lib.byteCells_one (F (k / 64)) _ (List.mem_of_getElem? e.symm)
  have hC := AnyE.slices_Clone Try.cloneA i0 (sv zsec) 64 64 hi hz0 hz1 hz2 (by show (Lib.byteCells zsec).toArray.size = 64; simp [Lib.byteCells_length, zsec_length]) (by omega) (fun w => by kernel_rfl) fb 0 n cap (cur.toList.take (n * 64)) w
    (by simp; omega) (by unfold maxLen; omega) (by omega) (fun j u hu => by
      rw [Nat.zero_add, cell_of_row w fb j cur 108 (0, 0) hc1]
      rw [List.getElem?_take] at hu
      split at hu
      · rw [Array.getElem?_toList] at hu; exact hu
      · cases hu) hone
  refine Calls.mono (show Calls Try.prog 60 _ w _ from hC) ?_
  rintro e w' ⟨v', rfl, hown, hne, hb⟩
  obtain ⟨fb', cap', rfl, q1, q2, q3⟩ := rowAt_of_own hown h1 hx
  exact ⟨fb', cap', rfl, q3, q1, q2, hb⟩
set_option maxHeartbeats 1000000 in
set_option maxRecDepth 100000 in
theorem copy_any (bd bs n : Nat) (M : Nat → Option Sec) (w : World) (hd : w.ownsMap Try.prog 3 secR bd 0 (.map [])) (hs : MapAt w bs M) (hne : bd ≠ bs) (hn : ∀ i s, M i = some s → i < n) (hn4 : n ≤ 4096) :
    Calls Try.prog 61 #[.map (some bd), .map (some bs)] w fun e w' => e = .returned (.tuple #[]) ∧ MapAt w' bd M ∧ w.grownBy w' (some bd) := by
  obtain ⟨Ds, hs, hMI⟩ := hs
  have hsz := mapSize_le hs hMI hn
  have hbd := hd.lt
  have hbs := hs.lt
  have HMI := Lib.hid hMI
  clear hMI hn
  go_enter Try.func61, Try.ntmps61
  go_wp2_with (at_range; refine wpList_range_own _ rfl _ 103 rfl 3 108 law3 Try.underlying103 secR bs 4096 _ rfl hs ?_; intro w0 hrg0 hg0 hs0)
  go_frame
  go_loopw [8] (fun _ wr => ∃ (left : Lit → Bool) (cnt : Nat) (Dout : DataW Unit), wr.ranges Try.prog 3 secR bs w.heap.size 4096 Ds left cnt ∧ cnt ≤ Maps.size Ds ∧
      wr.ownsMap Try.prog 3 secR bd (Maps.size Ds - cnt) Dout ∧ Merged Dout (.map []) Ds left ∧ w.grownBy wr (some bd))
    (fun _ wr => wr.rangeLeft bs w.heap.size)
  case atStart =>
    exact ⟨_, _, .map [], hrg0, Nat.le_refl _, (hd.kept hg0 (by simp)).mono (by omega), merged_start _ Ds, hg0.but _⟩
  case round =>
    obtain ⟨left, cnt, Dout, hrg, hcs, hout, hM, hgw⟩ := hrel
    go_wp2_with (at_next; refine wpList_next_ranges _ rfl _ rfl 3 law3 secR encZ (fun c : { l : Sec // l.length = 64 } => sv c.1) (fun key kl hk => by obtain ⟨x, hx, _⟩ := Maps.keyOf_i64 Try.underlying3 hk; exact ⟨x, hx⟩) (fun v y hv => by obtain ⟨l, hl, he, _⟩ := secR_inv hv; exact ⟨⟨l, hl⟩, he⟩) bs w.heap.size 4096 _ _ _ rfl hrg ?_ ?_)
    · intro hc0 hl0
      have HL := Lib.hid hl0
      clear hl0
      go_wp2
      go_end0
      refine ⟨rfl, ⟨Dout, hout.mono (by omega), ?_, ?_⟩, hgw⟩
      · intro i
        rw [hM.1, HL.out, ← HMI.out.1 i]
        simp [Maps.has]
      · intro i s hi z
        have hh : Maps.has Ds (.int .i64 (i : Int)) = true := by rw [HMI.out.1]; simp [hi]
        rw [hM.2, HL.out, hh]
        simp only [Bool.not_false, Bool.and_true, if_true]
        exact HMI.out.2 i s hi z
    · intro x l hl kl yd yp w1 cnt1 hkey hlx hv hat hrg1 hlt hg1 hs1 hen
      have hout1 := hout.kept hg1 (fun e => by have := Option.some.inj e; omega)
      have HS1 := Lib.hid hs1
      have HAT := Lib.hid hat
      clear hs1 hat
      obtain ⟨w2, hw2⟩ : ∃ w2, w2 = w1.alloc (.cells (Lib.byteCells l).toArray 108) := ⟨_, rfl⟩
      have hout2 : w2.ownsMap Try.prog 3 secR bd (Maps.size Ds - cnt) Dout := by rw [hw2]; exact hout1.alloc _
      have hrg2 : w2.ranges Try.prog 3 secR bs w.heap.size 4096 Ds (fun z => left z && !z.sameKey kl) cnt1 := by rw [hw2]; exact hrg1.alloc _
      have hr2 : w2.rangeAt w1.heap.size 0 (Lib.byteCells l) := by rw [hw2]; exact range_of_heap (heap_alloc_new w1 _)
      have hg2 : w1.grownBy w2 none := by rw [hw2]; exact World.grownBy_alloc w1 _ _
      have HW2 := Lib.hid hw2
      clear hw2
      go_wp2_with (first
        | (refine wpList_store_newsec rfl _ _ rfl _ _ l hl rfl rfl rfl ?_; refine wpList_at HW2.out.symm ?_; go_frame)
        | (refine wpList_load_sec rfl _ rfl _ w1.heap.size 0 l hl rfl hr2 ?_; go_frame)
        | (at_mapUpdate; refine wpList_mapUpdate_own _ rfl _ _ _ 103 rfl 3 108 law3 Try.underlying103 secR bd _ _ rfl hout2 (by unfold maxLen; omega) _ _ _ rfl rfl hkey yd yp hv ?_; intro w3 hout3 hg3; go_frame))
      have hrg3 := hrg2.kept hg3 (fun e => hne (Option.some.inj e).symm) (fun e => by have := Option.some.inj e; omega)
      go_roundw
      case rel =>
        exact ⟨_, cnt1, _, hrg3, by omega, hout3.mono (by omega), merged_step hM hout.isMap (law3.key hkey) HAT.out, ((hgw.andThen hg1 (fun j hj => .inl (by cases hj; exact Nat.le_refl _))).andThen hg2 (fun j hj => by cases hj)).andThen hg3 (fun j hj => .inr hj)⟩
      case measure => rw [hrg3.left_eq, hrg.left_eq]; exact hlt
def IntsAt (w : World) (A : Option Addr) (xs : List Int) : Prop :=
  ∀ j x, xs[j]? = some x → (-9223372036854775808 ≤ x ∧ x ≤ 9223372036854775807) ∧ ∃ ad, A = some ad ∧ ad.block < w.heap.size ∧ w.cell? (ad.add j) = some (.int .i64 x)
theorem block_of_add (a : Addr) (n : Nat) : (a.add n).block = a.block := by unfold Addr.add; split <;> rfl
theorem IntsAt.below {w w' : World} {A : Option Addr} {xs : List Int} (h : IntsAt w A xs) (hb : Below w.heap.size w w') : IntsAt w' A xs := fun j x hx => by
  obtain ⟨hw, ad, e, hlt, hc⟩ := h j x hx
  exact ⟨hw, ad, e, Nat.lt_of_lt_of_le hlt hb.size, (hb.cell (p := ad.add j) (by rw [block_of_add]; exact hlt)).trans hc⟩
def Dk.St.less (d : St) (l : List Int) : St := ⟨d.n, d.fl, fun i => if (i : Int) ∈ l then none else d.wt i, -1, false⟩
theorem Dk.St.Ok.less {d : St} (h : d.Ok) (l : List Int) : (d.less l).Ok :=
  ⟨h.n1, h.n2, h.flen, (fun i s e => by
    change (if (i : Int) ∈ l then none else d.wt i) = some s at e
    split at e
    · cases e
    · exact h.wlen i s e), (by show (-9223372036854775808 : Int) ≤ -1; decide), (by show (-1 : Int) ≤ _; decide)⟩
theorem less_snoc (d : St) (l : List Int) (x : Int) : (d.less (l ++ [x])).wt = fun (j : Nat) => if (j : Int) = x then none else (d.less l).wt j := by
  funext j
  show (if (j : Int) ∈ l ++ [x] then none else d.wt j) = if (j : Int) = x then none else (if (j : Int) ∈ l then none else d.wt j)
  by_cases e : (j : Int) = x
  · rw [if_pos e, if_pos (by rw [e]; simp)]
  · rw [if_neg e]
    simp [e]
theorem empty_map {w : World} {mb : Nat} (h : MapAt w mb (fun _ => none)) : w.ownsMap Try.prog 3 secR mb 0 (.map []) := by
  obtain ⟨D, hown, hMI⟩ := h
  have h0 := mapSize_le (n := 0) hown hMI (fun i s e => by cases e)
  have h1 := owns_tight hown h0
  obtain ⟨es, rfl⟩ := hown.isMap
  have : es = [] := List.eq_nil_of_length_eq_zero (by simpa [Maps.size] using h0)
  subst this
  exact h1
set_option maxHeartbeats 1000000 in
set_option maxRecDepth 100000 in
theorem after_any (g : Nat) (L : List Nat) (d : St) (A : Option Addr) (lost : List Int) (c : Nat) (w : World) (h : Dv w g L d) (hl : IntsAt w A lost) (hm : lost.length ≤ maxLen) :
    Calls Try.prog 25 #[ptr g, .slice A lost.length c] w fun e w' => ∃ g' L', e = .returned (ptr g') ∧ Dv w' g' L' (d.after lost) ∧ (∀ k ∈ L', w.heap.size ≤ k) ∧ Below w.heap.size w w' := by
  obtain ⟨ho, fb, mb, cap, rfl, hA⟩ := h
  have c0 := hA.c0
  have HO := Lib.hid ho
  have HA := Lib.hid hA
  have HC := Lib.hid (sclone_any fb d.n cap d.fl w hA.row ho.flen ho.n1 ho.n2)
  have HL := Lib.hid hl
  clear hA ho hl
  unfold maxLen at hm
  unfold ptr
  go_enter Try.func25, Try.ntmps25
  go_wp2_with fail
  refine HC.out.mono ?_
  rintro e w1 ⟨fb1, cap1, rfl, hr1, hfb1, hc1, hb1⟩
  go_wp2_with fail
  refine (whole_any d.n d.fl fb1 cap1 w1 HO.out.n1 HO.out.n2 HO.out.flen hr1 hc1).mono ?_
  rintro e w2 ⟨g2, L2, rfl, hD2, hL2, hb2⟩
  have hb12 : Below w.heap.size w w2 := hb1.trans (hb2.mono hb1.size)
  have hlow2 : ∀ k ∈ L2, w.heap.size ≤ k := fun k hk => (hL2 k hk).elim (fun e => by omega) (fun e => Nat.le_trans hb1.size e)
  obtain ⟨ho2, fb2, mb2, cap2, rfl, hA2⟩ := hD2
  have hA1 := HA.out.of_heap (w' := w2.drew) (fun k hk => hb12.block k (by
    rcases hk with rfl | rfl | rfl
    · exact lt_of_heap HA.out.blk
    · exact HA.out.row.lt
    · exact HA.out.map.lt))
  have q1 : w2.drew.cell? ⟨g2, 1, none⟩ = some (.map (some mb2)) := hA2.c1
  have q2 := hA1.c1
  unfold ptr
  go_wp2_with fail
  go_still_tail 8, (by kernel_rfl)
  change wpList _ _ _ _ _ w2.drew
  have hlt1 := HA.out.map.lt
  have hb12s := hb12.size
  have hmbne : mb2 ≠ mb := by have := hlow2 mb2 (by simp); omega
  have hE := empty_map (w := w2.drew) (mb := mb2) hA2.map
  have HCP := Lib.hid (copy_any mb2 mb d.n d.wt w2.drew hE hA1.map hmbne (fun i s e => (HO.out.wlen i s e).1) HO.out.n2)
  have HA2 := Lib.hid hA2
  clear hA1 q1 q2 hE hr1
  have hdr2 : Below w.heap.size w w2.drew := hb12.drew
  have hD2 : DevAt w2.drew g2 fb2 mb2 cap2 (St.fresh d.n d.fl) := DevAt.of_heap HA2.out (fun k _ => rfl)
  clear HA2 hb12
  generalize w2.drew = w3 at *
  go_wp2_with fail
  refine HCP.out.mono ?_
  rintro e w4 ⟨rfl, hM4, hg4⟩
  have hs34 : w3.heap.size ≤ w4.heap.size := hg4.size
  have hlb : w.heap.size ≤ w3.heap.size := hdr2.size
  have hb4 : Below w.heap.size w w4 := hdr2.grown hg4 hlb (fun k hk => by cases hk; exact hlow2 mb2 (by simp))
  have hA4 : DevAt w4 g2 fb2 mb2 cap2 (d.less []) := by
    refine ⟨(hg4.block g2 (lt_of_heap hD2.blk) (fun e => hD2.gm (Option.some.inj e))).trans hD2.blk, hD2.row.of_heap (hg4.block fb2 hD2.row.lt (fun e => hD2.fm (Option.some.inj e))), ?_, hD2.hcap⟩
    show MapAt w4 mb2 (fun i => if (i : Int) ∈ ([] : List Int) then none else d.wt i)
    simpa using hM4
  clear hD2 hM4 hg4 HCP
  go_wp2
  go_loopw [7, 25] (fun _ c wr => ∃ k : Nat, k ≤ lost.length ∧ c = .int .i64 k ∧ DevAt wr g2 fb2 mb2 cap2 (d.less (lost.take k)) ∧ Below w.heap.size w wr) (fun _ c _ => lost.length - (RowKit.intOf c).toNat)
  case atStart => exact ⟨0, Nat.zero_le _, rfl, hA4, hb4⟩
  case round =>
    obtain ⟨k, hk, rfl, hAr, hbr⟩ := hrel
    by_cases hlt : k < lost.length
    · obtain ⟨x, hx⟩ : ∃ x, x = lost[k] := ⟨_, rfl⟩
      have hx' : lost[k]? = some x := by rw [List.getElem?_eq_getElem hlt, hx]
      obtain ⟨hxw, ad, hAe, hadb, hadc⟩ := HL.out k x hx'
      subst hAe
      have hcx : wr.cell? (ad.add k) = some (.int .i64 x) := (hbr.cell (p := ad.add k) (by rw [block_of_add]; exact hadb)).trans hadc
      have c1 := hAr.c1
      obtain ⟨D, hown, hMI⟩ := hAr.map
      have hkey : keyOf Try.prog 3 (.int .i64 x) = some (.int .i64 x) := Maps.keyOf_int_mk Try.underlying3 (WalkArith.wf_i64 hxw)
      have HT : Hid (lost.take (k + 1) = lost.take k ++ [x]) := by show _ = _; rw [List.take_succ_eq_append_getElem hlt, hx]
      have HAR := Lib.hid hAr
      have HX := Lib.hid hx
      have HMI := Lib.hid hMI
      clear hAr hx hx' hadc hMI hA4
      have hmb2 := hlow2 mb2 (by simp)
      go_wp2_with (at_delete; refine wpList_delete_own _ rfl _ _ 103 3 rfl 108 law3 Try.underlying103 secR mb2 4096 D rfl hown _ _ rfl hkey ?_; intro w5 hown5 hturn5)
      have hg5 := hturn5.grown
      have hA := HAR.out
      have hA5 : DevAt w5 g2 fb2 mb2 cap2 (d.less (lost.take (k + 1))) := by
        refine ⟨(hg5.block g2 (lt_of_heap hA.blk) (fun e => hA.gm (Option.some.inj e))).trans hA.blk, hA.row.of_heap (hg5.block fb2 hA.row.lt (fun e => hA.fm (Option.some.inj e))), ?_, hA.hcap⟩
        rw [HT.out, less_snoc]
        exact ⟨_, hown5, mapIs_del HMI.out x⟩
      have hb5 : Below w.heap.size w w5 := hbr.grown hg5 hbr.size (fun j hj => by cases hj; exact hmb2)
      go_roundw
      case rel => exact ⟨k + 1, by omega, by go_num, hA5, hb5⟩
      case measure => simp [RowKit.intOf]; omega
    · have hk' : k = lost.length := by omega
      subst hk'
      rw [List.take_length] at hAr
      have hDr : Dv wr g2 [g2, fb2, mb2] (d.less lost) := ⟨HO.out.less lost, fb2, mb2, cap2, rfl, hAr⟩
      have HS := Lib.hid (settle_any g2 _ (d.less lost) wr hDr)
      clear hAr hA4
      unfold ptr at HS
      go_wp2_with fail
      refine HS.out.mono ?_
      rintro e w6 ⟨rfl, hMv⟩
      obtain ⟨L6, hD6, hL6, hb6, _⟩ := hMv.below hbr hbr.size hlow2
      go_wp2
      go_ret
      exact ⟨g2, L6, rfl, hD6, hL6, hb6⟩
end Go.Proofs.Ytlmfnlaikdmphaa
namespace Go.Proofs.Ytlmfnlaikdmphaa
open Go.RowKit Go.Maps Go.Sort Go.Shelf Dk
set_option linter.unusedVariables false
def Dk.St.waits (d : St) : List Nat := (List.range d.n).filter fun i => (d.wt i).isSome
theorem sortsA (m : Nat) : AnyZI.SortsIn Try.prog Try.sortedA_ren Fence.wide m :=
  ⟨fun blk off cap ss W hH hblk hsz => callsIn_wide.2 (Try.slices_Sort_int blk off cap ss W hH hblk hsz),
   fun p cap W => callsIn_wide.2 (Try.slices_Sort_int_none p cap W)⟩
set_option maxHeartbeats 1000000 in
theorem sorted_keys (b nn : Nat) (D0 : DataW Unit) (w : World) (hown : w.ownsMap Try.prog 3 secR b nn D0) (hmax : Maps.size D0 ≤ maxLen) (hbytes : Maps.size D0 * 8 ≤ 140737488355328) :
    Calls Try.prog 71 #[.func (.func 95) #[] #[.pointer (some ⟨w.heap.size, 0, none⟩)]] (w.alloc (.cells #[.map (some b)] 103)) fun e w' => ∃ (v : Value) (ss : List Int), e = .returned v ∧ ss.Perm (intKeys D0) ∧
      w'.ownsRow (w.heap.size + 1) 3 1 v ss.length ((ss.mergeSort (fun x y => decide (x ≤ y))).map encZ) ∧ (v = .slice none 0 0 ↔ ss = []) ∧ Below (w.heap.size + 1) (w.alloc (.cells #[.map (some b)] 103)) w' := by
  have hbl := hown.lt
  have hseq : SeqGives Fence.wide 2 Try.prog 95 #[.pointer (some ⟨w.heap.size, 0, none⟩)] encZ (fun ss => ss.Perm (intKeys D0)) (Maps.size D0) (w.alloc (.cells #[.map (some b)] 103)) :=
    AnyZI.keys_gives (ρ := Try.keysA_ren) { Try.keysA with } Fence.wide _ trivial rfl (by omega) w.heap.size b nn D0 _ (by simp) (by simp) (by
      obtain ⟨es, clock, hb, Ft, hs, hD⟩ := hown
      exact ⟨es, clock, (Below.heap_alloc _ _ b hbl).trans hb, Ft, hs, hD⟩)
  have cS := AnyZI.sorted_in Try.sortedA Fence.wide 5 trivial trivial trivial trivial rfl (by omega) (sortsA _) (enters_of Try.func94 (by kernel_rfl) rfl) 95 #[.pointer (some ⟨w.heap.size, 0, none⟩)] trivial (enters_of Try.func95 (by kernel_rfl) rfl) _ _ hmax hbytes _ hseq
  change CallsIn _ _ Try.prog 71 _ _ _ at cS
  refine ((callsIn_wide (n := 5)).1 cS).mono ?_
  rintro e w' ⟨v, ss, rfl, hS, hrow, hnil, hb⟩
  rw [World.size_alloc] at hrow hb
  exact ⟨v, ss, rfl, hS, hrow, hnil, hb⟩
theorem keys_any (mb : Option Nat) (w : World) : Calls Try.prog 72 #[.map mb] w fun e w' => e = .returned (.func (.func 95) #[] #[.pointer (some ⟨w.heap.size, 0, none⟩)]) ∧ w' = w.alloc (.cells #[.map mb] 103) :=
  (callsIn_wide (n := 5)).1 (AnyZI.keys_in Try.keysA Fence.wide 5 trivial rfl mb w)
theorem wl_sorted (M : Nat → Option Sec) (n : Nat) {ss : List Int} {D : DataW Unit} (h1 : ss.Perm (intKeys D)) (h2 : ((Dk.wl M n).map fun (i : Nat) => (i : Int)).Perm (intKeys D)) :
    ss.mergeSort (fun x y => decide (x ≤ y)) = (Dk.wl M n).map fun (i : Nat) => (i : Int) := by
  have e := mergeSort_of_perm_i (h1.trans h2.symm)
  refine e.trans ?_
  refine List.mergeSort_of_pairwise ?_
  rw [List.pairwise_map]
  have hr : (List.range n).Pairwise (fun a b => a < b) := List.pairwise_lt_range
  exact (hr.filter _).imp (fun hab => by simp [leI]; omega)
set_option maxHeartbeats 1000000 in
set_option maxRecDepth 100000 in
theorem waiting_any (g : Nat) (L : List Nat) (d : St) (w : World) (h : Dv w g L d) :
    Calls Try.prog 33 #[ptr g] w fun e w' => ∃ v, e = .returned v ∧ w'.ownsRow w.heap.size 3 1 v d.waits.length (d.waits.map fun (i : Nat) => Value.int .i64 (i : Int)) ∧ Below w.heap.size w w' := by
  obtain ⟨ho, fb, mb, cap, rfl, hA⟩ := h
  have c1 := hA.c1
  obtain ⟨D, hown, hMI⟩ := hA.map
  have hn : ∀ i s, d.wt i = some s → i < d.n := fun i s e => (ho.wlen i s e).1
  have hp := keys_perm hown hMI hn
  have hsz := mapSize_le hown hMI hn
  have hsz2 : Maps.size D ≤ 4096 := by have := ho.n2; omega
  have HK := Lib.hid (keys_any (some mb) w)
  have HS := Lib.hid (sorted_keys mb 4096 D w hown (by unfold maxLen; omega) (by omega))
  have HP := Lib.hid hp
  clear hA hown hMI hn hp hsz hsz2 ho
  unfold ptr
  go_enter Try.func33, Try.ntmps33
  go_wp2_with fail
  refine HK.out.mono ?_
  rintro e w1 ⟨rfl, rfl⟩
  go_wp2_with fail
  refine HS.out.mono ?_
  rintro e w2 ⟨v, ss, rfl, hperm, hrow, hnil, hb⟩
  go_wp2
  go_ret
  have e := wl_sorted d.wt d.n hperm HP.out
  have el : ss.length = d.waits.length := by
    have h1 := congrArg List.length e
    rw [List.length_mergeSort, List.length_map] at h1
    exact h1
  rw [e, el, List.map_map] at hrow
  exact ⟨v, rfl, ownsRow_base_a hrow (by omega), ((Below.refl _ w).alloc (Nat.le_refl _) _).trans (hb.mono (by omega))⟩
end Go.Proofs.Ytlmfnlaikdmphaa
