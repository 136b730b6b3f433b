/-
  Texts of the layer below and of this one: ZEx, ZIm, ZRf, ZRn, ZRo, ZRp, ZRq.
  Conditions: named in each theorem.
-/
import Derived.Test.YtlmfnlaikdmphaaG04
import Derived.Test.YtlmfnlaikdmphaaG01
import Derived.Deep.RegionLaw
import Derived.Deep.CutRange
import Derived.IntWalk
namespace Go.Proofs.Ytlmfnlaikdmphaa
open Go.RowKit Dk
set_option linter.unusedVariables false
def Dk.zeros (n : Nat) : List UInt8 := List.replicate n 0
theorem txt_append (a b : List UInt8) : txt a ++ txt b = txt (a ++ b) := by
  apply ByteArray.ext; simp [txt, ByteArray.data_append]
theorem refuses_yes_eq {d : St} {i : Int} (hd : d.dead = false) (h0 : 0 ≤ i) (h1 : i < d.n) : d.refuses i = 0 := by
  unfold St.refuses
  rw [hd, if_neg (by decide), if_neg (by omega)]
theorem refuses_no_eq {d : St} {i : Int} (hd : d.dead = false) (h0 : i < 0 ∨ (d.n : Int) ≤ i) : d.refuses i = 5 := by
  unfold St.refuses
  rw [hd, if_neg (by decide), if_pos h0]
theorem write_ok_eq {d : St} {i : Nat} {s : List UInt8} (hl : d.left < 0) (hd : d.dead = false) (hi : i < d.n) (hs : s.length ≤ 64) : d.write i s = (d.put i (pad s), 0) := by
  unfold St.write
  rw [if_neg (by rw [refuses_yes_eq hd (by omega) (by omega)]; simp), if_neg (by omega)]
  unfold St.try_
  rw [if_neg (by omega), hd, if_neg (by decide)]
  have e : d.step = d := by
    unfold St.step
    rw [if_neg (by omega)]
  rw [e]; rfl
theorem write_no_eq {d : St} {i : Int} {s : List UInt8} (hd : d.dead = false) (h0 : i < 0 ∨ (d.n : Int) ≤ i) : d.write i s = (d, 5) := by
  unfold St.write
  rw [if_pos (by rw [refuses_no_eq hd h0]; decide), refuses_no_eq hd h0]
theorem flush_ok_eq {d : St} (hl : d.left < 0) (hd : d.dead = false) : d.flush = (d.settle, 0) := by
  unfold St.flush St.try_
  rw [if_neg (by omega), hd, if_neg (by decide)]
  have e : d.step = d := by
    unfold St.step
    rw [if_neg (by omega)]
  rw [e]
theorem readS_eq {d : St} {i : Nat} (hd : d.dead = false) (hi : i < d.n) : d.readS i = d.now i := by
  unfold St.readS
  rw [if_pos (refuses_yes_eq hd (by omega) (by omega))]; rfl
end Go.Proofs.Ytlmfnlaikdmphaa
namespace Go.Proofs.Ytlmfnlaikdmphaa
open Go.RowKit Go.Shelf Dk
set_option linter.unusedVariables false
theorem copyCheck_any (B b : Nat) (bs : List Value) (w : World) (h : Lib.IsBuilder 112 5 B b bs w) :
    Calls Try.prog 91 #[.pointer (some ⟨b, 0, none⟩)] w fun e w' => e = .returned (.tuple #[]) ∧ Lib.BuilderAt 112 5 B b (.pointer (some ⟨b, 0, none⟩)) bs w' ∧ Below B w w' ∧ ∀ k, k ≠ b → w'.heap[k]? = w.heap[k]? := by
  rcases h with h | h
  · refine (Any.Builder_copyCheck_fresh { Try.lays165 with } Try.Builder_Extra_165.toX72 b w h.cell0 h.shape h.frozen0).mono ?_
    rintro e w' ⟨rfl, rfl⟩
    exact ⟨rfl, h.used _, (Below.refl B w).setCell (p := ⟨b, 0, none⟩) h.1 _, fun k hk => heap_setCell_other w ⟨b, 0, none⟩ k _ hk⟩
  · refine (Any.Builder_copyCheck_used { Try.lays165 with } Try.Builder_Extra_165.toX72 b w h.cell0).mono ?_
    rintro e w' ⟨rfl, rfl⟩
    exact ⟨rfl, h, Below.refl B _, fun _ _ => rfl⟩
set_option maxHeartbeats 2000000 in
set_option maxRecDepth 100000 in
theorem bwrite_any (B b sb : Nat) (bs : List Value) (l : Sec) (w : World) (h : Lib.IsBuilder 112 5 B b bs w) (hlen : bs.length + 64 ≤ 140737488355328) (hBw : B ≤ w.heap.size) (hl : l.length = 64)
    (hs : w.heap[sb]? = some (.cells (Lib.byteCells l).toArray 108 (0, 0))) (hsb : b ≠ sb) :
    Calls Try.prog 68 #[.pointer (some ⟨b, 0, none⟩), .slice (some ⟨sb, 0, none⟩) 64 64] w fun e w' => e = .returned (.tuple #[.int .i64 64, .nilIface]) ∧ (Lib.BuilderAt 112 5 B b (.pointer (some ⟨b, 0, none⟩)) (bs ++ Lib.byteCells l) w' ∧ Below B w w') := by
  obtain ⟨i0, hi, hz0, hz1, hz2⟩ := info_parts Try.info5
  have HCC := Lib.hid (copyCheck_any B b bs w h)
  have hbl : (Lib.byteCells l).length = 64 := by rw [Lib.byteCells_length, hl]
  clear h
  go_enter Try.func68, Try.ntmps68
  go_wp2_with fail
  refine HCC.out.mono ?_
  rintro e w1 ⟨rfl, h1, hb1, hk1⟩
  obtain ⟨hB, v, hbk, hown, hne⟩ := h1
  have c1 : w1.cell? ⟨b, 1, none⟩ = some v := by rw [Lib.cell_of_heap hbk]; rfl
  have hs1 : w1.heap[sb]? = some (.cells (Lib.byteCells l).toArray 108 (0, 0)) := (hk1 sb (fun e => hsb e.symm)).trans hs
  have hlt := lt_of_heap hbk
  have HK1 := Lib.hid hk1
  clear hk1
  have hcc : ∀ j u, (Lib.byteCells l)[j]? = some u → w1.cell? ((⟨sb, 0, none⟩ : Addr).add j) = some u := fun j u hu => by
    rw [Addr.add_mid, Nat.zero_add, cell_of_row w1 sb j _ 108 (0, 0) hs1]
    simpa using hu
  have HS1 := Lib.hid hs1
  clear hs1
  go_wp2_with (at_builtin; refine wpList_append_own _ rfl _ _ 75 rfl B 5 i0 (.int .u8 0) 1 1 Try.underlying75 hi hz0 hz1 hz2 rfl (by decide) _ _ _ rfl hown ⟨sb, 0, none⟩ 64 64 (Lib.byteCells l) rfl (by rw [hbl]) hcc (Lib.byteCells_one l) ?c3 ?c4 ?c5 ?_)
  case c3 => unfold maxLen; omega
  case c4 => omega
  case c5 => have := hb1.size; omega
  intro v' w2 hown' hgrow _
  have hb2 : w2.heap[b]? = some (.cells #[.pointer (some ⟨b, 0, none⟩), v] 112 (0, 0)) := by
    rw [hgrow.block b hlt (fun e => hne e.symm)]
    exact hbk
  have d0 : w2.cell? ⟨b, 0, none⟩ = some (.pointer (some ⟨b, 0, none⟩)) := by rw [Lib.cell_of_heap hb2]; rfl
  have d1 : w2.cell? ⟨b, 1, none⟩ = some v := by rw [Lib.cell_of_heap hb2]; rfl
  have f1 : w2.frozen? ⟨b, 1, none⟩ = false := Lib.frozen_of_heap hb2 1
  obtain ⟨g, cap, rfl⟩ : ∃ g cap, v' = .slice (some ⟨g, 0, none⟩) (bs.length + 64) cap := by
    rcases hown'.2 with ⟨_, h0⟩ | ⟨g, cap, cur, hv, _⟩
    · omega
    · exact ⟨g, cap, hv⟩
  go_wp2
  go_ret2
  refine ⟨rfl, ?_, ?_⟩
  · exact Lib.BuilderAt.put (T := 112) (e := 5) hB hb2 (bs' := bs ++ Lib.byteCells l) (by rw [List.length_append, hbl]; exact hown') (by decide)
  · exact (hb1.grown hgrow (by have := hb1.size; omega) (fun k hk => (hown.lt k hk).1)).setCell (p := ⟨b, 1, none⟩) hB _
theorem isBuilder_below {B b : Nat} {bs : List Value} {w w' : World} (h : Lib.IsBuilder 112 5 B b bs w) (hb : Below w.heap.size w w') : Lib.IsBuilder 112 5 B b bs w' := by
  have hg : w.grownBy w' none := ⟨hb.os, hb.tape, hb.output, hb.size, fun k hk _ => hb.block k hk⟩
  have key : ∀ p, Lib.BuilderAt 112 5 B b p bs w → Lib.BuilderAt 112 5 B b p bs w' := fun p h => by
    have hlt := h.lt
    obtain ⟨hB, v, hbk, hown, hne⟩ := h
    refine ⟨hB, v, (hb.block b hlt).trans hbk, hown.kept hg ?_, hne⟩
    cases e : v.ownBlock with
    | none => exact .inl rfl
    | some k => exact .inr (by simp)
  exact h.elim (fun h => .inl (key _ h)) (fun h => .inr (key _ h))
set_option maxHeartbeats 2000000 in
set_option maxRecDepth 100000 in
theorem image_any (g : Nat) (L : List Nat) (d : St) (w : World) (h : Dv w g L d) :
    Calls Try.prog 29 #[ptr g] w fun e w' => e = .returned (.string (txt d.image)) ∧ Below w.heap.size w w' := by
  have h0 := h
  obtain ⟨ho, fb, mb, cap, rfl, hA⟩ := h
  have n1 := ho.n1
  have n2 := ho.n2
  have hnow := ho.now
  have HN := Lib.hid hnow
  obtain ⟨w1, hw1⟩ : ∃ w1, w1 = w.alloc (.cells #[.pointer none, .slice none 0 0] 112) := ⟨_, rfl⟩
  have hb1 : Below w.heap.size w w1 := by rw [hw1]; exact (Below.refl _ _).alloc (Nat.le_refl _) _
  have hbk1 : w1.heap[w.heap.size]? = some (.cells #[.pointer none, .slice none 0 0] 112 (0, 0)) := by rw [hw1]; exact heap_alloc_new w _
  have hA1 := hA.below hb1
  have c0 : (w.alloc (.cells #[.pointer none, .slice none 0 0] 112)).cell? ⟨g, 0, none⟩ = some (.slice (some ⟨fb, 0, none⟩) d.n cap) := by rw [← hw1]; exact hA1.c0
  obtain ⟨m, hm⟩ : ∃ m, m = d.n * 64 := ⟨_, rfl⟩
  have HG := Lib.hid (Try.Builder_Grow_fresh w.heap.size w.heap.size m w1 (Nat.le_refl _) hbk1 hb1.size (by omega))
  rw [hw1] at HG
  have hgl := lt_of_heap hA.blk
  have HA := Lib.hid hA
  have H0 := Lib.hid h0
  have HW1 := Lib.hid hw1
  have hmul : (d.n : Int) * 64 = (m : Int) := by rw [hm]; push_cast; rfl
  have hmb : (m : Int) ≤ 262144 := by omega
  have HM := Lib.hid hm
  clear hm
  clear hA hA1 h0 hbk1 hw1 hnow ho
  unfold ptr at *
  go_enter Try.func29, Try.ntmps29
  go_wp2_with fail
  refine HG.out.mono ?_
  rintro e w2 ⟨rfl, hB2, hb2⟩
  rw [← HW1.out] at hb2
  have hA2 := HA.out.below (w' := w2) (hb1.trans hb2)
  have c0 := hA2.c0
  have hbb2 : Below w.heap.size w w2 := hb1.trans hb2
  clear hA2 HG hmul
  go_wp2_with fail
  go_loopw [18] (fun i wr => ∃ k : Nat, k ≤ d.n ∧ i = .int .i64 k ∧ Lib.IsBuilder 112 5 w.heap.size w.heap.size (Lib.byteCells (catS d.now k)) wr ∧ Below w.heap.size w wr ∧ w.heap.size < wr.heap.size) (fun i _ => d.n - (RowKit.intOf i).toNat)
  case atStart => exact ⟨0, by omega, rfl, .inr hB2, hbb2, hB2.lt⟩
  case round =>
    obtain ⟨k, hk, rfl, hBr, hbr, hsr⟩ := hrel
    have hlen : (Lib.byteCells (catS d.now k)).length = k * 64 := by rw [Lib.byteCells_length]; exact catS_length _ HN.out k
    by_cases hlt : k < d.n
    · have HNO := Lib.hid (now_any g _ d k wr (H0.out.below hbr) hlt)
      have hl := HN.out k
      have HC : Hid (Lib.byteCells (catS d.now k) ++ Lib.byteCells (d.now k) = Lib.byteCells (catS d.now (k + 1))) := by
        show _ = _; rw [← Lib.byteCells_append]; rfl
      generalize d.now k = l at *
      generalize Lib.byteCells (catS d.now k) = bs at *
      unfold ptr at *
      go_wp2_with fail
      refine HNO.out.mono ?_
      rintro e w3 ⟨rfl, hb3⟩
      have hBr3 : Lib.IsBuilder 112 5 w.heap.size w.heap.size bs w3 := isBuilder_below hBr hb3
      have hs3 : w.heap.size < w3.heap.size := Nat.lt_of_lt_of_le hsr hb3.size
      have hal : Below w3.heap.size w3 (w3.alloc (.cells (Lib.byteCells l).toArray 108)) := (Below.refl _ _).alloc (Nat.le_refl _) _
      have hbb3 : Below w.heap.size w (w3.alloc (.cells (Lib.byteCells l).toArray 108)) := (hbr.trans (hb3.mono (by omega))).trans (hal.mono (by omega))
      have HWB := Lib.hid (bwrite_any w.heap.size w.heap.size w3.heap.size bs l _ (isBuilder_below hBr3 hal) (by rw [hlen]; omega) (by simp; omega) hl (heap_alloc_new w3 _) (by omega))
      go_wp2_with (refine wpList_store_newsec rfl _ _ rfl _ _ l hl rfl rfl rfl ?_)
      refine HWB.out.mono ?_
      rintro e w4 ⟨rfl, hB4, hb4⟩
      have hs4 := hB4.lt
      go_wp2
      go_roundw
      case rel => exact ⟨k + 1, by omega, by go_num, by rw [← HC.out]; exact .inr hB4, hbb3.trans hb4, hs4⟩
      case measure => simp [RowKit.intOf]; omega
    · have hk' : k = d.n := by omega
      subst hk'
      have HST := Lib.hid (Try.Builder_String_any w.heap.size w.heap.size (catS d.now d.n) wr hBr (by omega))
      have HI : Hid (txt (catS d.now d.n) = txt d.image) := rfl
      clear hlen
      go_wp2_with fail
      refine HST.out.mono ?_
      rintro e w3 ⟨rfl, hb3⟩
      go_wp2
      go_ret
      exact ⟨rfl, hbr.trans hb3⟩
end Go.Proofs.Ytlmfnlaikdmphaa
namespace Go.Proofs.Ytlmfnlaikdmphaa
open Go.RowKit Dk
set_option linter.unusedVariables false
theorem Try.info9 : (Try.prog.info? 9).map (fun i => (i.zero, i.size, i.bytes)) = some (some (.string ⟨#[]⟩), 1, 16) := by kernel_rfl
theorem Try.info4 : (Try.prog.info? 4).map (fun i => (i.zero, i.size, i.bytes)) = some (some (.bool false), 1, 1) := by kernel_rfl
namespace Dk
def rowV (f : Nat → Value) (n : Nat) : List Value := (List.range n).map f
theorem rowV_length (f : Nat → Value) (n : Nat) : (rowV f n).length = n := by simp [rowV]
theorem rowV_succ (f : Nat → Value) (n : Nat) : rowV f (n + 1) = rowV f n ++ [f n] := by simp [rowV, List.range_succ]
theorem rowV_get (f : Nat → Value) (n i : Nat) (h : i < n) : (rowV f n)[i]? = some (f i) := by simp [rowV, h]
theorem rowV_set (f g : Nat → Value) (n i : Nat) (h : ∀ j, j < n → j ≠ i → g j = f j) : (rowV f n).set i (g i) = rowV g n := by
  apply List.ext_getElem?
  intro j
  rw [List.getElem?_set]
  by_cases e : i = j
  · subst e
    rw [if_pos rfl, rowV_length]
    split
    · rename_i hi; rw [rowV_get g n i hi]
    · rename_i hi; rw [List.getElem?_eq_none (by rw [rowV_length]; omega)]
  · rw [if_neg e]
    by_cases hj : j < n
    · rw [rowV_get f n j hj, rowV_get g n j hj, h j hj (fun e1 => e e1.symm)]
    · rw [List.getElem?_eq_none (by rw [rowV_length]; omega), List.getElem?_eq_none (by rw [rowV_length]; omega)]
theorem rowV_congr (f g : Nat → Value) (n : Nat) (h : ∀ j, j < n → f j = g j) : rowV f n = rowV g n := by
  unfold rowV
  exact List.map_congr_left (fun j hj => h j (List.mem_range.1 hj))
def nowV (d : St) (i : Nat) : Value := .string (txt (d.now i))
def oldV (d : St) (i : Nat) : Value := .string (txt (d.fl i))
def wtV (d : St) (i : Nat) : Value := .bool (d.wt i).isSome
structure RfAt (w : World) (B gr : Nat) (v1 v2 v3 : Value) (d : St) : Prop where
  blk : w.heap[gr]? = some (.cells #[v1, v2, v3, .int .i64 (max d.left (-1)), .bool d.dead] 95 (0, 0))
  r1 : w.ownsRow B 9 1 v1 d.n (rowV (nowV d) d.n)
  r2 : w.ownsRow B 9 1 v2 d.n (rowV (oldV d) d.n)
  r3 : w.ownsRow B 4 1 v3 d.n (rowV (wtV d) d.n)
  ap : ∀ k, v1.ownBlock = some k → v2.ownBlock ≠ some k
  hB : B ≤ gr
def blks (gr : Nat) (v1 v2 v3 : Value) : List Nat := gr :: (v1.ownBlock.toList ++ v2.ownBlock.toList ++ v3.ownBlock.toList)
def Rf (w : World) (B gr : Nat) (L : List Nat) (d : St) : Prop := d.Ok ∧ ∃ v1 v2 v3, L = blks gr v1 v2 v3 ∧ RfAt w B gr v1 v2 v3 d
theorem mem_blks {gr k : Nat} {v1 v2 v3 : Value} : k ∈ blks gr v1 v2 v3 ↔ k = gr ∨ v1.ownBlock = some k ∨ v2.ownBlock = some k ∨ v3.ownBlock = some k := by
  unfold blks
  simp [Option.mem_toList]
section
variable {w w' : World} {B gr g : Nat} {v1 v2 v3 : Value} {L L' : List Nat} {d d' : St}
theorem own_heap {e s n k : Nat} {v : Value} {xs : List Value} (h : w.ownsRow B e s v n xs) (hk : v.ownBlock = some k) : ∃ cur, w.heap[k]? = some (.cells cur e (0, 0)) := by
  rcases h.2 with ⟨rfl, _⟩ | ⟨gb, c, cur, rfl, _, hh, _⟩
  · simp [Value.ownBlock] at hk
  · have : gb = k := by simpa [Value.ownBlock] using hk
    subst this; exact ⟨cur, hh⟩
theorem row_of_heap {e s n : Nat} {v : Value} {xs : List Value} (h : w.ownsRow B e s v n xs) (he : ∀ k, v.ownBlock = some k → w'.heap[k]? = w.heap[k]?) : w'.ownsRow B e s v n xs := by
  obtain ⟨hl, h⟩ := h
  refine ⟨hl, ?_⟩
  rcases h with h | ⟨gb, c, cur, rfl, hb, hh, r⟩
  · exact .inl h
  · exact .inr ⟨gb, c, cur, rfl, hb, (he gb (by simp [Value.ownBlock])).trans hh, r⟩
theorem RfAt.of_heap (h : RfAt w B gr v1 v2 v3 d) (he : ∀ k ∈ blks gr v1 v2 v3, w'.heap[k]? = w.heap[k]?) : RfAt w' B gr v1 v2 v3 d :=
  ⟨(he gr (mem_blks.2 (.inl rfl))).trans h.blk, row_of_heap h.r1 (fun k hk => he k (mem_blks.2 (.inr (.inl hk)))), row_of_heap h.r2 (fun k hk => he k (mem_blks.2 (.inr (.inr (.inl hk))))), row_of_heap h.r3 (fun k hk => he k (mem_blks.2 (.inr (.inr (.inr hk))))), h.ap, h.hB⟩
theorem Rf.types (h : Rf w B gr L d) : ∀ k ∈ L, ∃ cur t, w.heap[k]? = some (.cells cur t (0, 0)) ∧ (t = 95 ∨ t = 9 ∨ t = 4) := by
  obtain ⟨_, v1, v2, v3, rfl, hA⟩ := h
  intro k hk
  rcases mem_blks.1 hk with rfl | hk | hk | hk
  · exact ⟨_, _, hA.blk, .inl rfl⟩
  · obtain ⟨cur, hh⟩ := own_heap hA.r1 hk; exact ⟨_, _, hh, .inr (.inl rfl)⟩
  · obtain ⟨cur, hh⟩ := own_heap hA.r2 hk; exact ⟨_, _, hh, .inr (.inl rfl)⟩
  · obtain ⟨cur, hh⟩ := own_heap hA.r3 hk; exact ⟨_, _, hh, .inr (.inr rfl)⟩
theorem Rf.lt (h : Rf w B gr L d) : ∀ k ∈ L, k < w.heap.size := fun k hk => by
  obtain ⟨cur, t, hh, _⟩ := h.types k hk; exact lt_of_heap hh
theorem Rf.of_heap (h : Rf w B gr L d) (he : ∀ k ∈ L, w'.heap[k]? = w.heap[k]?) : Rf w' B gr L d := by
  obtain ⟨ho, v1, v2, v3, rfl, hA⟩ := h
  exact ⟨ho, v1, v2, v3, rfl, hA.of_heap he⟩
theorem Rf.below (h : Rf w B gr L d) (hb : Below w.heap.size w w') : Rf w' B gr L d := h.of_heap (fun k hk => hb.block k (h.lt k hk))
theorem Rf.low (h : Rf w B gr L d) : ∀ k ∈ L, B ≤ k := by
  obtain ⟨_, v1, v2, v3, rfl, hA⟩ := h
  intro k hk
  rcases mem_blks.1 hk with rfl | hk | hk | hk
  · exact hA.hB
  · exact (hA.r1.lt k hk).1
  · exact (hA.r2.lt k hk).1
  · exact (hA.r3.lt k hk).1
end
end Dk
end Go.Proofs.Ytlmfnlaikdmphaa
namespace Go.Proofs.Ytlmfnlaikdmphaa
open Go.RowKit Dk
set_option linter.unusedVariables false
theorem rnew_no (n : Int) (w : World) (h : n < 1 ∨ 4096 < n) :
    Calls Try.prog 18 #[.int .i64 n] w fun e w' => e = .returned (.pointer none) ∧ w = w' := by
  by_cases h0 : n < 1
  · clear h
    have h0' : decide (n < 1) = true := decide_eq_true h0
    go_enter Try.func18, Try.ntmps18
    go_wp2
    go_ret
    exact ⟨rfl, rfl⟩
  · have h1 : 4096 < n := by omega
    clear h
    have h0' : decide (n < 1) = false := decide_eq_false h0
    go_enter Try.func18, Try.ntmps18
    go_wp2
    go_ret
    exact ⟨rfl, rfl⟩
def zV (_ : Nat) : Value := .string (txt zsec)
def fV (_ : Nat) : Value := .bool false
structure Mid (w : World) (B : Nat) (v1 v2 v3 : Value) (k1 k2 k3 : Nat) : Prop where
  blk : w.heap[B]? = some (.cells #[v1, v2, v3, .int .i64 (-1), .bool false] 95 (0, 0))
  r1 : w.ownsRow B 9 1 v1 k1 (rowV zV k1)
  r2 : w.ownsRow B 9 1 v2 k2 (rowV zV k2)
  r3 : w.ownsRow B 4 1 v3 k3 (rowV fV k3)
  ap : ∀ k, v1.ownBlock = some k → v2.ownBlock ≠ some k
section
variable {w w' : World} {B : Nat} {v1 v2 v3 : Value} {k1 k2 k3 : Nat}
theorem Mid.ne1 (h : Mid w B v1 v2 v3 k1 k2 k3) : v1.ownBlock ≠ some B := fun e => by
  obtain ⟨cur, hh⟩ := own_heap h.r1 e
  have := hh.symm.trans h.blk; simp at this
theorem Mid.ne2 (h : Mid w B v1 v2 v3 k1 k2 k3) : v2.ownBlock ≠ some B := fun e => by
  obtain ⟨cur, hh⟩ := own_heap h.r2 e
  have := hh.symm.trans h.blk; simp at this
theorem Mid.ne3 (h : Mid w B v1 v2 v3 k1 k2 k3) : v3.ownBlock ≠ some B := fun e => by
  obtain ⟨cur, hh⟩ := own_heap h.r3 e
  have := hh.symm.trans h.blk; simp at this
theorem own_ne {e e' s n s' n' k : Nat} {v v' : Value} {xs xs' : List Value} {B' : Nat} (h : w.ownsRow B e s v n xs) (h' : w.ownsRow B' e' s' v' n' xs') (hne : e ≠ e') (hk : v.ownBlock = some k) : v'.ownBlock ≠ some k := fun e1 => by
  obtain ⟨cur, hh⟩ := own_heap h hk
  obtain ⟨cur', hh'⟩ := own_heap h' e1
  have := hh.symm.trans hh'
  simp only [Option.some.injEq, Obj.cells.injEq] at this
  exact hne this.2.1
theorem Mid.below (h : Mid w B v1 v2 v3 k1 k2 k3) (hb : Below w.heap.size w w') : Mid w' B v1 v2 v3 k1 k2 k3 :=
  ⟨(hb.block B (lt_of_heap h.blk)).trans h.blk, row_of_heap h.r1 (fun k hk => hb.block k (h.r1.lt k hk).2), row_of_heap h.r2 (fun k hk => hb.block k (h.r2.lt k hk).2), row_of_heap h.r3 (fun k hk => hb.block k (h.r3.lt k hk).2), h.ap⟩
theorem Mid.now {g cap : Nat} (h : Mid w B v1 v2 v3 k1 k2 k3) (hg : w.grownBy w' v1.ownBlock) (ho : w'.ownsRow B 9 1 (.slice (some ⟨g, 0, none⟩) (k1 + 1) cap) (k1 + 1) (rowV zV k1 ++ [.string (txt zsec)])) (hat : v1.ownBlock = some g ∨ w.heap.size ≤ g) :
    Mid (w'.setCell ⟨B, 0, none⟩ (.slice (some ⟨g, 0, none⟩) (k1 + 1) cap)) B (.slice (some ⟨g, 0, none⟩) (k1 + 1) cap) v2 v3 (k1 + 1) k2 k3 := by
  have hB := lt_of_heap h.blk
  have hgB : g ≠ B := by
    rcases hat with e | e
    · rintro rfl; exact h.ne1 e
    · omega
  have so : ∀ k, k ≠ B → (w'.setCell ⟨B, 0, none⟩ (.slice (some ⟨g, 0, none⟩) (k1 + 1) cap)).heap[k]? = w'.heap[k]? := fun k hk => heap_setCell_other w' ⟨B, 0, none⟩ k _ hk
  refine ⟨?_, ?_, ?_, ?_, ?_⟩
  · exact heap_setCell_same w' B 0 _ 95 _ ((hg.block B hB (fun e => h.ne1 e.symm)).trans h.blk)
  · rw [rowV_succ]
    refine row_of_heap ho (fun k hk => so k ?_)
    have : g = k := by simpa [Value.ownBlock] using hk
    omega
  · refine row_of_heap h.r2 (fun k hk => (so k (fun e => h.ne2 (e ▸ hk))).trans (hg.block k (h.r2.lt k hk).2 (fun e => h.ap k e.symm hk)))
  · refine row_of_heap h.r3 (fun k hk => (so k (fun e => h.ne3 (e ▸ hk))).trans (hg.block k (h.r3.lt k hk).2 (fun e => own_ne h.r1 h.r3 (by decide) e.symm hk)))
  · intro k hk hk2
    have e : g = k := by simpa [Value.ownBlock] using hk
    subst e
    rcases hat with e | e
    · exact h.ap g e hk2
    · have := (h.r2.lt g hk2).2; omega
theorem Mid.old {g cap : Nat} (h : Mid w B v1 v2 v3 k1 k2 k3) (hg : w.grownBy w' v2.ownBlock) (ho : w'.ownsRow B 9 1 (.slice (some ⟨g, 0, none⟩) (k2 + 1) cap) (k2 + 1) (rowV zV k2 ++ [.string (txt zsec)])) (hat : v2.ownBlock = some g ∨ w.heap.size ≤ g) :
    Mid (w'.setCell ⟨B, 1, none⟩ (.slice (some ⟨g, 0, none⟩) (k2 + 1) cap)) B v1 (.slice (some ⟨g, 0, none⟩) (k2 + 1) cap) v3 k1 (k2 + 1) k3 := by
  have hB := lt_of_heap h.blk
  have hgB : g ≠ B := by
    rcases hat with e | e
    · rintro rfl; exact h.ne2 e
    · omega
  have so : ∀ k, k ≠ B → (w'.setCell ⟨B, 1, none⟩ (.slice (some ⟨g, 0, none⟩) (k2 + 1) cap)).heap[k]? = w'.heap[k]? := fun k hk => heap_setCell_other w' ⟨B, 1, none⟩ k _ hk
  refine ⟨?_, ?_, ?_, ?_, ?_⟩
  · exact heap_setCell_same w' B 1 _ 95 _ ((hg.block B hB (fun e => h.ne2 e.symm)).trans h.blk)
  · refine row_of_heap h.r1 (fun k hk => (so k (fun e => h.ne1 (e ▸ hk))).trans (hg.block k (h.r1.lt k hk).2 (fun e => h.ap k hk e.symm)))
  · rw [rowV_succ]
    refine row_of_heap ho (fun k hk => so k ?_)
    have : g = k := by simpa [Value.ownBlock] using hk
    omega
  · refine row_of_heap h.r3 (fun k hk => (so k (fun e => h.ne3 (e ▸ hk))).trans (hg.block k (h.r3.lt k hk).2 (fun e => own_ne h.r2 h.r3 (by decide) e.symm hk)))
  · intro k hk hk2
    have e : g = k := by simpa [Value.ownBlock] using hk2
    subst e
    rcases hat with e | e
    · exact h.ap g hk e
    · have := (h.r1.lt g hk).2; omega
theorem Mid.wait {g cap : Nat} (h : Mid w B v1 v2 v3 k1 k2 k3) (hg : w.grownBy w' v3.ownBlock) (ho : w'.ownsRow B 4 1 (.slice (some ⟨g, 0, none⟩) (k3 + 1) cap) (k3 + 1) (rowV fV k3 ++ [.bool false])) (hat : v3.ownBlock = some g ∨ w.heap.size ≤ g) :
    Mid (w'.setCell ⟨B, 2, none⟩ (.slice (some ⟨g, 0, none⟩) (k3 + 1) cap)) B v1 v2 (.slice (some ⟨g, 0, none⟩) (k3 + 1) cap) k1 k2 (k3 + 1) := by
  have hB := lt_of_heap h.blk
  have hgB : g ≠ B := by
    rcases hat with e | e
    · rintro rfl; exact h.ne3 e
    · omega
  have so : ∀ k, k ≠ B → (w'.setCell ⟨B, 2, none⟩ (.slice (some ⟨g, 0, none⟩) (k3 + 1) cap)).heap[k]? = w'.heap[k]? := fun k hk => heap_setCell_other w' ⟨B, 2, none⟩ k _ hk
  refine ⟨?_, ?_, ?_, ?_, h.ap⟩
  · exact heap_setCell_same w' B 2 _ 95 _ ((hg.block B hB (fun e => h.ne3 e.symm)).trans h.blk)
  · refine row_of_heap h.r1 (fun k hk => (so k (fun e => h.ne1 (e ▸ hk))).trans (hg.block k (h.r1.lt k hk).2 (fun e => own_ne h.r3 h.r1 (by decide) e.symm hk)))
  · refine row_of_heap h.r2 (fun k hk => (so k (fun e => h.ne2 (e ▸ hk))).trans (hg.block k (h.r2.lt k hk).2 (fun e => own_ne h.r3 h.r2 (by decide) e.symm hk)))
  · rw [rowV_succ]
    refine row_of_heap ho (fun k hk => so k ?_)
    have : g = k := by simpa [Value.ownBlock] using hk
    omega
end
set_option maxHeartbeats 4000000 in
set_option maxRecDepth 100000 in
theorem rnew_yes (n : Nat) (w : World) (h1 : 1 ≤ n) (h2 : n ≤ 4096) :
    Calls Try.prog 18 #[.int .i64 n] w fun e w' => ∃ gr L, e = .returned (ptr gr) ∧ Rf w' w.heap.size gr L (St.fresh n (fun _ => zsec)) ∧ Below w.heap.size w w' := by
  obtain ⟨i0, hi, hz0, hz1, hz2⟩ := info_parts Try.info5
  obtain ⟨i9, hi9, hz90, hz91, hz92⟩ := info_parts Try.info9
  obtain ⟨i4, hi4, hz40, hz41, hz42⟩ := info_parts Try.info4
  have h0' : decide ((n : Int) < 1) = false := decide_eq_false (by omega)
  have h1' : decide (4096 < (n : Int)) = false := decide_eq_false (by omega)
  go_enter Try.func18, Try.ntmps18
  go_wp2_with fail
  have hblk0 : (w.alloc (.cells #[.slice none 0 0, .slice none 0 0, .slice none 0 0, .int .i64 (-1), .bool false] 95)).heap[w.heap.size]? = _ := heap_alloc_new w _
  go_loopw [4] (fun i wr => ∃ (k : Nat) (v1 v2 v3 : Value), k ≤ n ∧ i = .int .i64 k ∧ Mid wr w.heap.size v1 v2 v3 k k k ∧ Below w.heap.size w wr) (fun i _ => n - (RowKit.intOf i).toNat)
  case atStart =>
    exact ⟨0, _, _, _, by omega, rfl, ⟨hblk0, World.ownsRow_nil _ _ _ _, World.ownsRow_nil _ _ _ _, World.ownsRow_nil _ _ _ _, fun k hk => by simp [Value.ownBlock] at hk⟩, (Below.refl _ _).alloc (Nat.le_refl _) _⟩
  case round =>
    obtain ⟨k, v1, v2, v3, hk, rfl, hA, hbr⟩ := hrel
    by_cases hlt : k < n
    ·
      have hlB : w.heap.size < wr.heap.size := lt_of_heap hA.blk
      obtain ⟨M, hM⟩ : ∃ M, M = (Lib.byteCells zsec).toArray := ⟨_, rfl⟩
      have hmk : (Instr.makeSlice 75 (.int .i64 64) (.int .i64 64)).run Try.prog wr.drew = .ok (.slice (some ⟨wr.heap.size, 0, none⟩) 64 64) (wr.alloc (.cells M 5)).drew := by
        have h1 := run_make (P := Try.prog) wr.drew 75 5 i0 (.int .u8 0) Try.underlying75 hi hz0 .i64 .i64 64 64 (by omega) (by omega) (by rw [hz2]; omega) (by omega)
        have e : madeCells (Value.int .u8 0).cells ((64 : Int).toNat * i0.size) = M := by
          rw [hM, hz1]
          apply Array.ext'
          have h2 := toList_madeCells_one (Value.int .u8 0) 64
          show (madeCells #[Value.int IntKind.u8 0] 64).toList = _
          rw [h2]
          simp [Lib.byteCells, zsec]
        rw [e] at h1
        exact h1
      have hcv : (convert 75 9 (.slice (some ⟨wr.heap.size, 0, none⟩) 64 64)).run Try.prog (wr.alloc (.cells M 5)).drew = .ok (.string (txt zsec)) (wr.alloc (.cells M 5)).drew := by
        refine conv_sec zsec_length (fun j u hu => ?_)
        have hh : (wr.alloc (.cells M 5)).drew.heap[wr.heap.size]? = some (.cells M 5 (0, 0)) := heap_alloc_new wr _
        rw [cell_of_row _ _ _ _ 5 (0, 0) hh, Nat.zero_add, hM]
        simpa using hu
      have hcv2 : (convert 75 9 (.slice (some ⟨wr.heap.size, 0, none⟩) 64 64)).run Try.prog (wr.alloc (.cells M 5)).drew = .ok (.string (txt zsec)) (wr.alloc (.cells M 5)).drew := hcv
      obtain ⟨w2, hw2⟩ : ∃ w2, w2 = ((wr.alloc (.cells M 5)).alloc (.cells #[.string (txt zsec)] 9)).drew := ⟨_, rfl⟩
      have hb2 : Below wr.heap.size wr w2 := by rw [hw2]; exact (((Below.refl _ wr).alloc (Nat.le_refl _) _).alloc (by simp) _).drew
      have hb1 : Below wr.heap.size wr (wr.alloc (.cells M 5)).drew := ((Below.refl _ wr).alloc (Nat.le_refl _) _).drew
      have hA2 : Mid w2 w.heap.size v1 v2 v3 k k k := hA.below hb2
      have hnews : ∀ j u, [Value.string (txt zsec)][j]? = some u → w2.cell? ((⟨wr.heap.size + 1, 0, none⟩ : Addr).add j) = some u := fun j u hu => by
        rw [hw2]
        have h1 := cell_one_new (wr.alloc (.cells M 5)) (.string (txt zsec)) 9 j u hu
        rw [World.size_alloc] at h1
        exact h1
      have hs2 : w2.heap.size = wr.heap.size + 2 := by rw [hw2]; simp
      have c0 : wr.drew.cell? ⟨w.heap.size, 0, none⟩ = some v1 := cell_of_row wr.drew w.heap.size 0 _ 95 (0, 0) hA.blk
      have q1 : (wr.alloc (.cells M 5)).drew.cell? ⟨w.heap.size, 0, none⟩ = some v1 := (hb1.cell (p := ⟨w.heap.size, 0, none⟩) hlB).trans c0
      have q2 : ((wr.alloc (.cells M 5)).alloc (.cells #[.string (txt zsec)] 9)).drew.cell? ⟨w.heap.size, 0, none⟩ = some v1 := by rw [← hw2]; exact (hb2.cell (p := ⟨w.heap.size, 0, none⟩) hlB).trans c0
      have f2 : w2.frozen? ⟨w.heap.size, 0, none⟩ = false := frozen_of_row w2 w.heap.size 0 _ 95 hA2.blk
      have HA2 := Lib.hid hA2
      have HB := Lib.hid hbr
      have HB2 := Lib.hid hb2
      have HS2 := Lib.hid hs2
      have HN := Lib.hid hnews
      have Q2 := Lib.hid q2
      have F2 := Lib.hid f2
      have HW2 := Lib.hid hw2
      clear hA hbr hblk0 hM hw2 hb2 hnews hA2 hs2 hb1 f2 hcv2
      go_upto_region 7 with fail
      go_cut [13] from 13 to 53 (fun s13 wx => s13 = s13 ∧ ∃ u1, Mid wx w.heap.size u1 v2 v3 (k + 1) k k ∧ Below w.heap.size w wx)
      case first =>
        go_region_law ((refine step_append_lies _ (by rfl) _ _ 92 (by rfl) w.heap.size 9 i9 (.string ⟨#[]⟩) 1 16 Try.underlying92 hi9 hz90 hz91 hz92 (by rfl) (by omega) v1 k (rowV zV k) (by rfl) (by rw [← HW2.out]; exact HA2.out.r1) ⟨wr.heap.size + 1, 0, none⟩ 1 1 [.string (txt zsec)] (by rfl) rfl (by rw [← HW2.out]; exact HN.out) (fun u hu => by simp at hu; subst hu; rfl) (by omega) (by unfold maxLen; omega) (by omega) (by rw [← HW2.out, HS2.out]; omega) (wr.heap.size + 2) (by rw [← HW2.out, HS2.out]) ?_; intro g cap w4 hown4 hgrow hat hlt4; rw [← HW2.out] at hgrow; have d0 : w4.cell? ⟨w.heap.size, 0, none⟩ = some v1 := World.grownBy.cell hgrow (by rw [HW2.out]; exact Q2.out) (fun e => HA2.out.ne1 e.symm); have g0 : w4.frozen? ⟨w.heap.size, 0, none⟩ = false := (World.frozen?_of_block (hgrow.block _ (lt_of_heap HA2.out.blk) (fun e => HA2.out.ne1 e.symm))).trans F2.out))
        all_goals
          go_wp2_with fail
          go_meet
          exact ⟨trivial, _, HA2.out.now hgrow hown4 (hat.imp id (fun e => by have := HS2.out; omega)), ((HB.out.trans (HB2.out.mono (by omega))).grown hgrow (by have := HS2.out; omega) (fun j hj => (HA2.out.r1.lt j hj).1)).setCell (p := ⟨w.heap.size, 0, none⟩) (Nat.le_refl _) _⟩
      case rest =>
        obtain ⟨_, u1, hA, hbr⟩ := hcut
        clear HA2 HB HB2 HS2 HN Q2 F2 HW2 hmk hcv c0 q1 q2
        have hlC : w.heap.size < wc.heap.size := lt_of_heap hA.blk
        obtain ⟨g1, cap1, rfl, hg1⟩ := hA.r1.form (by omega)
        have hbw : Below wc.heap.size wc (wc.alloc (.cells #[.string (txt zsec)] 9)).drew := ((Below.refl _ wc).alloc (Nat.le_refl _) _).drew
        obtain ⟨w2, hw2⟩ : ∃ w2, w2 = (wc.alloc (.cells #[.string (txt zsec)] 9)).drew := ⟨_, rfl⟩
        have hb2 : Below wc.heap.size wc w2 := by rw [hw2]; exact hbw
        have hA2 := hA.below hb2
        have hnews : ∀ j u, [Value.string (txt zsec)][j]? = some u → w2.cell? ((⟨wc.heap.size, 0, none⟩ : Addr).add j) = some u := fun j u hu => by
          rw [hw2]
          exact cell_one_new wc (.string (txt zsec)) 9 j u hu
        have hs2 : w2.heap.size = wc.heap.size + 1 := by rw [hw2]; simp
        have c0 : wc.drew.cell? ⟨w.heap.size, 0, none⟩ = some (.slice (some ⟨g1, 0, none⟩) (k + 1) cap1) := cell_of_row wc.drew w.heap.size 0 _ 95 (0, 0) hA.blk
        have c1 : wc.drew.cell? ⟨w.heap.size, 1, none⟩ = some v2 := cell_of_row wc.drew w.heap.size 1 _ 95 (0, 0) hA.blk
        have q1 : (wc.alloc (.cells #[.string (txt zsec)] 9)).drew.cell? ⟨w.heap.size, 1, none⟩ = some v2 := (hbw.cell (p := ⟨w.heap.size, 1, none⟩) hlC).trans c1
        have cz : wc.drew.cell? ⟨g1, k, none⟩ = some (.string (txt zsec)) := by
          have h1 := hA.r1.cellAt k (by omega)
          rw [rowV_get zV (k + 1) k (by omega)] at h1
          exact h1
        have f2 : w2.frozen? ⟨w.heap.size, 1, none⟩ = false := frozen_of_row w2 w.heap.size 1 _ 95 hA2.blk
        have hk0 : (0 : Int) ≤ k := by omega
        have hk1 : (k : Int) < (k : Int) + 1 := by omega
        have HA2 := Lib.hid hA2
        have HB := Lib.hid hbr
        have HB2 := Lib.hid hb2
        have HS2 := Lib.hid hs2
        have HN := Lib.hid hnews
        have Q2 := Lib.hid q1
        have F2 := Lib.hid f2
        have HW2 := Lib.hid hw2
        clear hA hbr hw2 hb2 hnews hA2 hs2 f2 hbw
        go_upto_region 8 with fail
        go_cut [13] from 13 to 53 (fun s13 wx => s13 = s13 ∧ ∃ u1 u2, Mid wx w.heap.size u1 u2 v3 (k + 1) (k + 1) k ∧ Below w.heap.size w wx)
        case first =>
          go_region_law ((refine step_append_lies _ (by rfl) _ _ 92 (by rfl) w.heap.size 9 i9 (.string ⟨#[]⟩) 1 16 Try.underlying92 hi9 hz90 hz91 hz92 (by rfl) (by omega) v2 k (rowV zV k) (by rfl) (by rw [← HW2.out]; exact HA2.out.r2) ⟨wc.heap.size, 0, none⟩ 1 1 [.string (txt zsec)] (by rfl) rfl (by rw [← HW2.out]; exact HN.out) (fun u hu => by simp at hu; subst hu; rfl) (by omega) (by unfold maxLen; omega) (by omega) (by rw [← HW2.out, HS2.out]; omega) (wc.heap.size + 1) (by rw [← HW2.out, HS2.out]) ?_; intro g cap w4 hown4 hgrow hat hlt4; rw [← HW2.out] at hgrow; have d0 : w4.cell? ⟨w.heap.size, 1, none⟩ = some v2 := World.grownBy.cell hgrow (by rw [HW2.out]; exact Q2.out) (fun e => HA2.out.ne2 e.symm); have g0 : w4.frozen? ⟨w.heap.size, 1, none⟩ = false := (World.frozen?_of_block (hgrow.block _ (lt_of_heap HA2.out.blk) (fun e => HA2.out.ne2 e.symm))).trans F2.out))
          all_goals
            go_wp2_with fail
            go_meet
            exact ⟨trivial, _, _, HA2.out.old hgrow hown4 (hat.imp id (fun e => by have := HS2.out; omega)), ((HB.out.trans (HB2.out.mono (by omega))).grown hgrow (by have := HS2.out; omega) (fun j hj => (HA2.out.r2.lt j hj).1)).setCell (p := ⟨w.heap.size, 1, none⟩) (Nat.le_refl _) _⟩
        case rest =>
          obtain ⟨_, u1, u2, hA, hbr⟩ := hcut
          clear HA2 HB HB2 HS2 HN Q2 F2 HW2 c0 c1 q1 cz hg1
          have hlD : w.heap.size < wc.heap.size := lt_of_heap hA.blk
          have c2 : wc.cell? ⟨w.heap.size, 2, none⟩ = some v3 := cell_of_row wc w.heap.size 2 _ 95 (0, 0) hA.blk
          obtain ⟨w2, hw2⟩ : ∃ w2, w2 = wc.alloc (.cells #[.bool false] 4) := ⟨_, rfl⟩
          have hb2 : Below wc.heap.size wc w2 := by rw [hw2]; exact (Below.refl _ wc).alloc (Nat.le_refl _) _
          have hA2 := hA.below hb2
          have hnews : ∀ j u, [Value.bool false][j]? = some u → w2.cell? ((⟨wc.heap.size, 0, none⟩ : Addr).add j) = some u := fun j u hu => by
            rw [hw2]; exact cell_one_new wc (.bool false) 4 j u hu
          have hs2 : w2.heap.size = wc.heap.size + 1 := by rw [hw2]; simp
          have HA2 := Lib.hid hA2
          have HB := Lib.hid hbr
          have HB2 := Lib.hid hb2
          have HS2 := Lib.hid hs2
          have HN := Lib.hid hnews
          have HW2 := Lib.hid hw2
          clear hA hbr hw2 hb2 hnews hA2 hs2
          go_wp2_with (at_builtin; refine wpList_append_lies _ rfl _ _ 93 rfl w.heap.size 4 i4 (.bool false) 1 1 Try.underlying93 hi4 hz40 hz41 hz42 rfl (by omega) v3 k (rowV fV k) rfl (by rw [← HW2.out]; exact HA2.out.r3) ⟨wc.heap.size, 0, none⟩ 1 1 [.bool false] rfl rfl (by rw [← HW2.out]; exact HN.out) (fun u hu => by simp at hu; subst hu; rfl) (by omega) (by unfold maxLen; omega) (by omega) (by rw [← HW2.out, HS2.out]; omega) (wc.heap.size + 1) (by rw [← HW2.out, HS2.out]) ?_; intro g cap w4 hown4 hgrow hat hlt4; rw [← HW2.out] at hgrow; have d0 : w4.cell? ⟨w.heap.size, 2, none⟩ = some v3 := (World.grownBy.cell hgrow (cell_of_row w2 w.heap.size 2 _ 95 (0, 0) HA2.out.blk) (fun e => HA2.out.ne3 e.symm)); have g0 : w4.frozen? ⟨w.heap.size, 2, none⟩ = false := (World.frozen?_of_block (hgrow.block _ (lt_of_heap HA2.out.blk) (fun e => HA2.out.ne3 e.symm))).trans (frozen_of_row w2 w.heap.size 2 _ 95 HA2.out.blk))
          have hM := HA2.out.wait hgrow hown4 (hat.imp id (fun e => by have := HS2.out; omega))
          have hBW : Below w.heap.size w (w4.setCell ⟨w.heap.size, 2, none⟩ (.slice (some ⟨g, 0, none⟩) (k + 1) cap)) := ((HB.out.trans (HB2.out.mono (by omega))).grown hgrow (by have := HS2.out; omega) (fun j hj => (HA2.out.r3.lt j hj).1)).setCell (p := ⟨w.heap.size, 2, none⟩) (Nat.le_refl _) _
          have HM := Lib.hid hM
          have HBW := Lib.hid hBW
          clear hM hBW
          go_wp2
          go_roundw
          case rel => exact ⟨k + 1, _, _, _, by omega, by go_num, HM.out, HBW.out⟩
          case measure => simp [RowKit.intOf]; omega
    · have hk' : k = n := by omega
      subst hk'
      go_wp2
      go_ret
      exact ⟨w.heap.size, blks w.heap.size v1 v2 v3, rfl, ⟨St.fresh_ok h1 h2 (fun _ => zsec_length), v1, v2, v3, rfl, ⟨hA.blk, hA.r1, hA.r2, hA.r3, hA.ap, Nat.le_refl _⟩⟩, hbr⟩
end Go.Proofs.Ytlmfnlaikdmphaa
namespace Go.Proofs.Ytlmfnlaikdmphaa
open Go.RowKit Dk
set_option linter.unusedVariables false
structure RAt (w : World) (B gr : Nat) (g1 c1 g2 c2 g3 c3 n : Nat) (f1 f2 f3 : Nat → Value) (arm : Int) (dead : Bool) : Prop where
  blk : w.heap[gr]? = some (.cells #[.slice (some ⟨g1, 0, none⟩) n c1, .slice (some ⟨g2, 0, none⟩) n c2, .slice (some ⟨g3, 0, none⟩) n c3, .int .i64 arm, .bool dead] 95 (0, 0))
  r1 : w.ownsRow B 9 1 (.slice (some ⟨g1, 0, none⟩) n c1) n (rowV f1 n)
  r2 : w.ownsRow B 9 1 (.slice (some ⟨g2, 0, none⟩) n c2) n (rowV f2 n)
  r3 : w.ownsRow B 4 1 (.slice (some ⟨g3, 0, none⟩) n c3) n (rowV f3 n)
  ap : g1 ≠ g2
  hB : B ≤ gr
section
variable {w w' : World} {B gr g1 c1 g2 c2 g3 c3 n i : Nat} {f1 f2 f3 : Nat → Value} {arm : Int} {dead : Bool} {L : List Nat} {d : St}
theorem RAt.of_rf (h : Rf w B gr L d) : ∃ g1 c1 g2 c2 g3 c3, L = [gr, g1, g2, g3] ∧ RAt w B gr g1 c1 g2 c2 g3 c3 d.n (nowV d) (oldV d) (wtV d) (max d.left (-1)) d.dead := by
  obtain ⟨ho, v1, v2, v3, rfl, hA⟩ := h
  have n1 := ho.n1
  obtain ⟨g1, c1, rfl, _⟩ := hA.r1.form (by omega)
  obtain ⟨g2, c2, rfl, _⟩ := hA.r2.form (by omega)
  obtain ⟨g3, c3, rfl, _⟩ := hA.r3.form (by omega)
  exact ⟨g1, c1, g2, c2, g3, c3, rfl, hA.blk, hA.r1, hA.r2, hA.r3, fun e => hA.ap g1 rfl (by rw [e]; rfl), hA.hB⟩
theorem RAt.to_rf (h : RAt w B gr g1 c1 g2 c2 g3 c3 d.n f1 f2 f3 arm dead) (ho : d.Ok) (e1 : ∀ j, j < d.n → f1 j = nowV d j) (e2 : ∀ j, j < d.n → f2 j = oldV d j) (e3 : ∀ j, j < d.n → f3 j = wtV d j) (e4 : arm = max d.left (-1)) (e5 : dead = d.dead) : Rf w B gr [gr, g1, g2, g3] d := by
  refine ⟨ho, _, _, _, rfl, ⟨by rw [← e4, ← e5]; exact h.blk, ?_, ?_, ?_, ?_, h.hB⟩⟩
  · rw [← rowV_congr f1 _ d.n e1]; exact h.r1
  · rw [← rowV_congr f2 _ d.n e2]; exact h.r2
  · rw [← rowV_congr f3 _ d.n e3]; exact h.r3
  · intro k hk hk2
    have a : g1 = k := by simpa [Value.ownBlock] using hk
    have b : g2 = k := by simpa [Value.ownBlock] using hk2
    exact h.ap (a.trans b.symm)
theorem own_hp {e m g c : Nat} {xs : List Value} (h : w.ownsRow B e 1 (.slice (some ⟨g, 0, none⟩) m c) m xs) : ∃ cur, w.heap[g]? = some (.cells cur e (0, 0)) := own_heap h rfl
theorem ne_of_types {k k' : Nat} {cur cur' : Array Value} {t t' : Nat} (h : w.heap[k]? = some (.cells cur t (0, 0))) (h' : w.heap[k']? = some (.cells cur' t' (0, 0))) (hne : t ≠ t') : k ≠ k' := by
  rintro rfl
  have := h.symm.trans h'
  simp only [Option.some.injEq, Obj.cells.injEq] at this
  exact hne this.2.1
theorem RAt.b1 (h : RAt w B gr g1 c1 g2 c2 g3 c3 n f1 f2 f3 arm dead) : gr ≠ g1 := by obtain ⟨_, hh⟩ := own_hp h.r1; exact ne_of_types h.blk hh (by decide)
theorem RAt.b2 (h : RAt w B gr g1 c1 g2 c2 g3 c3 n f1 f2 f3 arm dead) : gr ≠ g2 := by obtain ⟨_, hh⟩ := own_hp h.r2; exact ne_of_types h.blk hh (by decide)
theorem RAt.b3 (h : RAt w B gr g1 c1 g2 c2 g3 c3 n f1 f2 f3 arm dead) : gr ≠ g3 := by obtain ⟨_, hh⟩ := own_hp h.r3; exact ne_of_types h.blk hh (by decide)
theorem RAt.b13 (h : RAt w B gr g1 c1 g2 c2 g3 c3 n f1 f2 f3 arm dead) : g1 ≠ g3 := by obtain ⟨_, hh⟩ := own_hp h.r1; obtain ⟨_, h3⟩ := own_hp h.r3; exact ne_of_types hh h3 (by decide)
theorem RAt.b23 (h : RAt w B gr g1 c1 g2 c2 g3 c3 n f1 f2 f3 arm dead) : g2 ≠ g3 := by obtain ⟨_, hh⟩ := own_hp h.r2; obtain ⟨_, h3⟩ := own_hp h.r3; exact ne_of_types hh h3 (by decide)
theorem own_other {e m g c k o : Nat} {xs : List Value} {u : Value} (h : w.ownsRow B e 1 (.slice (some ⟨g, 0, none⟩) m c) m xs) (hne : g ≠ k) : (w.setCell ⟨k, o, none⟩ u).ownsRow B e 1 (.slice (some ⟨g, 0, none⟩) m c) m xs := by
  refine row_of_heap h (fun j hj => ?_)
  have e : g = j := by simpa [Value.ownBlock] using hj
  exact heap_setCell_other w ⟨k, o, none⟩ j u (by show j ≠ k; omega)
theorem RAt.drew (h : RAt w B gr g1 c1 g2 c2 g3 c3 n f1 f2 f3 arm dead) : RAt w.drew B gr g1 c1 g2 c2 g3 c3 n f1 f2 f3 arm dead := ⟨h.blk, h.r1, h.r2, h.r3, h.ap, h.hB⟩
theorem RAt.set1 (h : RAt w B gr g1 c1 g2 c2 g3 c3 n f1 f2 f3 arm dead) (i : Nat) (f : Nat → Value) (hf : ∀ j, j < n → j ≠ i → f j = f1 j) : RAt (w.setCell ⟨g1, i, none⟩ (f i)) B gr g1 c1 g2 c2 g3 c3 n f f2 f3 arm dead :=
  ⟨(heap_setCell_other w ⟨g1, i, none⟩ gr _ h.b1).trans h.blk, by rw [← rowV_set f1 f n i hf]; exact (h.r1.stored i (f i)).1, own_other h.r2 h.ap.symm, own_other h.r3 h.b13.symm, h.ap, h.hB⟩
theorem RAt.set2 (h : RAt w B gr g1 c1 g2 c2 g3 c3 n f1 f2 f3 arm dead) (i : Nat) (f : Nat → Value) (hf : ∀ j, j < n → j ≠ i → f j = f2 j) : RAt (w.setCell ⟨g2, i, none⟩ (f i)) B gr g1 c1 g2 c2 g3 c3 n f1 f f3 arm dead :=
  ⟨(heap_setCell_other w ⟨g2, i, none⟩ gr _ h.b2).trans h.blk, own_other h.r1 h.ap, by rw [← rowV_set f2 f n i hf]; exact (h.r2.stored i (f i)).1, own_other h.r3 h.b23.symm, h.ap, h.hB⟩
theorem RAt.set3 (h : RAt w B gr g1 c1 g2 c2 g3 c3 n f1 f2 f3 arm dead) (i : Nat) (f : Nat → Value) (hf : ∀ j, j < n → j ≠ i → f j = f3 j) : RAt (w.setCell ⟨g3, i, none⟩ (f i)) B gr g1 c1 g2 c2 g3 c3 n f1 f2 f arm dead :=
  ⟨(heap_setCell_other w ⟨g3, i, none⟩ gr _ h.b3).trans h.blk, own_other h.r1 h.b13, own_other h.r2 h.b23, by rw [← rowV_set f3 f n i hf]; exact (h.r3.stored i (f i)).1, h.ap, h.hB⟩
theorem RAt.setArm (h : RAt w B gr g1 c1 g2 c2 g3 c3 n f1 f2 f3 arm dead) (x : Int) : RAt (w.setCell ⟨gr, 3, none⟩ (.int .i64 x)) B gr g1 c1 g2 c2 g3 c3 n f1 f2 f3 x dead :=
  ⟨heap_setCell_same w gr 3 _ 95 _ h.blk, own_other h.r1 h.b1.symm, own_other h.r2 h.b2.symm, own_other h.r3 h.b3.symm, h.ap, h.hB⟩
theorem RAt.setDead (h : RAt w B gr g1 c1 g2 c2 g3 c3 n f1 f2 f3 arm dead) (x : Bool) : RAt (w.setCell ⟨gr, 4, none⟩ (.bool x)) B gr g1 c1 g2 c2 g3 c3 n f1 f2 f3 arm x :=
  ⟨heap_setCell_same w gr 4 _ 95 _ h.blk, own_other h.r1 h.b1.symm, own_other h.r2 h.b2.symm, own_other h.r3 h.b3.symm, h.ap, h.hB⟩
theorem RAt.c (h : RAt w B gr g1 c1 g2 c2 g3 c3 n f1 f2 f3 arm dead) (o : Nat) : w.cell? ⟨gr, o, none⟩ = (#[.slice (some ⟨g1, 0, none⟩) n c1, .slice (some ⟨g2, 0, none⟩) n c2, .slice (some ⟨g3, 0, none⟩) n c3, .int .i64 arm, .bool dead] : Array Value)[o]? := cell_of_row w gr o _ 95 (0, 0) h.blk
theorem RAt.fz (h : RAt w B gr g1 c1 g2 c2 g3 c3 n f1 f2 f3 arm dead) (o : Nat) : w.frozen? ⟨gr, o, none⟩ = false := frozen_of_row w gr o _ 95 h.blk
theorem row_cell {e g c : Nat} {f : Nat → Value} (h : w.ownsRow B e 1 (.slice (some ⟨g, 0, none⟩) n c) n (rowV f n)) (i : Nat) (hi : i < n) : w.cell? ⟨g, i, none⟩ = some (f i) := by
  rw [h.cellAt i (by omega), rowV_get f n i hi]
theorem RAt.grown1 (h : RAt w B gr g1 c1 g2 c2 g3 c3 n f1 f2 f3 arm dead) : ∀ k ∈ [gr, g1, g2, g3], B ≤ k ∧ k < w.heap.size := by
  intro k hk
  simp at hk
  rcases hk with rfl | rfl | rfl | rfl
  · exact ⟨h.hB, lt_of_heap h.blk⟩
  · exact h.r1.lt _ rfl
  · exact h.r2.lt _ rfl
  · exact h.r3.lt _ rfl
theorem RAt.below' (h : RAt w B gr g1 c1 g2 c2 g3 c3 n f1 f2 f3 arm dead) (hb : Below w.heap.size w w') : RAt w' B gr g1 c1 g2 c2 g3 c3 n f1 f2 f3 arm dead := by
  have hg := h.grown1
  exact ⟨(hb.block gr (hg gr (by simp)).2).trans h.blk, row_of_heap h.r1 (fun k hk => hb.block k (h.r1.lt k hk).2), row_of_heap h.r2 (fun k hk => hb.block k (h.r2.lt k hk).2), row_of_heap h.r3 (fun k hk => hb.block k (h.r3.lt k hk).2), h.ap, h.hB⟩
end
theorem own_fz {w : World} {B e m g c : Nat} {xs : List Value} (h : w.ownsRow B e 1 (.slice (some ⟨g, 0, none⟩) m c) m xs) (i : Nat) : w.frozen? ⟨g, i, none⟩ = false := by
  obtain ⟨cur, hh⟩ := own_hp h
  exact frozen_of_row w g i cur e hh
end Go.Proofs.Ytlmfnlaikdmphaa
namespace Go.Proofs.Ytlmfnlaikdmphaa
open Go.RowKit Dk
set_option linter.unusedVariables false
def RMoves (B gr : Nat) (L : List Nat) (d' : St) (w w' : World) : Prop := Rf w' B gr L d' ∧ Keep L w w'
set_option maxHeartbeats 1000000 in
set_option maxRecDepth 100000 in
theorem rread_any (B gr : Nat) (L : List Nat) (d : St) (at_ : Int) (w : World) (h : Rf w B gr L d) :
    Calls Try.prog 65 #[ptr gr, .int .i64 at_] w fun e w' => e = .returned (.tuple #[.string (txt (d.readS at_)), .int .i64 (d.refuses at_)]) ∧ w = w' := by
  obtain ⟨g1, c1, g2, c2, g3, c3, rfl, hA⟩ := RAt.of_rf h
  have q4 := hA.c 4
  change w.cell? ⟨gr, 4, none⟩ = some (.bool d.dead) at q4
  have q0 := hA.c 0
  change w.cell? ⟨gr, 0, none⟩ = some (.slice (some ⟨g1, 0, none⟩) d.n c1) at q0
  unfold ptr
  by_cases hd : d.dead = true
  · have e1 : d.refuses at_ = 7 := by unfold St.refuses; rw [if_pos hd]
    have e2 : txt (d.readS at_) = ⟨#[]⟩ := by unfold St.readS; rw [e1]; rfl
    rw [e1, e2]
    rw [hd] at q4
    clear h hA e1 e2
    go_enter Try.func65, Try.ntmps65
    go_wp2
    go_ret2
    exact ⟨rfl, rfl⟩
  · have hd' : d.dead = false := by simpa using hd
    rw [hd'] at q4
    by_cases hb : at_ < 0 ∨ (d.n : Int) ≤ at_
    · have e1 : d.refuses at_ = 5 := refuses_no_eq hd' hb
      have e2 : txt (d.readS at_) = ⟨#[]⟩ := by unfold St.readS; rw [e1]; rfl
      rw [e1, e2]
      clear h hA e1 e2
      rcases hb with hb | hb
      · have hb1 : decide (at_ < 0) = true := decide_eq_true hb
        go_enter Try.func65, Try.ntmps65
        go_wp2
        go_ret2
        exact ⟨rfl, rfl⟩
      · by_cases hn : at_ < 0
        · omega
        · have hb1 : decide (at_ < 0) = false := decide_eq_false hn
          have hb2 : decide ((d.n : Int) ≤ at_) = true := decide_eq_true hb
          go_enter Try.func65, Try.ntmps65
          go_wp2
          go_ret2
          exact ⟨rfl, rfl⟩
    · obtain ⟨i, rfl⟩ := Int.eq_ofNat_of_zero_le (show 0 ≤ at_ by omega)
      have hi : i < d.n := by omega
      have e1 : d.refuses i = 0 := refuses_yes_eq hd' (by omega) (by omega)
      have e2 : d.readS i = d.now i := readS_eq hd' hi
      rw [e1, e2]
      have cz : w.cell? ⟨g1, i, none⟩ = some (.string (txt (d.now i))) := row_cell hA.r1 i hi
      have hk1 : (i : Int) < d.n := by omega
      clear h hA e1 e2
      have hb2 : decide (d.n ≤ i) = false := decide_eq_false (by omega)
      go_enter Try.func65, Try.ntmps65
      go_wp2
      go_ret2
      exact ⟨rfl, rfl⟩
set_option maxHeartbeats 1000000 in
set_option maxRecDepth 100000 in
theorem rcrashes_any (B gr : Nat) (L : List Nat) (d : St) (w : World) (h : Rf w B gr L d) (hd : d.dead = false) :
    Calls Try.prog 59 #[ptr gr] w fun e w' => e = .returned (.bool (decide (d.left = 0))) ∧ RMoves B gr L (if d.left = 0 then d.die else d.step) w w' := by
  have ho := h.1
  obtain ⟨g1, c1, g2, c2, g3, c3, rfl, hA⟩ := RAt.of_rf h
  have q4 := hA.c 4
  change w.cell? ⟨gr, 4, none⟩ = some (.bool d.dead) at q4
  have q3 := hA.c 3
  change w.cell? ⟨gr, 3, none⟩ = some (.int .i64 (max d.left (-1))) at q3
  have f3 := hA.fz 3
  have f4 := hA.fz 4
  have hl1 := ho.l1
  have hl2 := ho.l2
  unfold ptr
  rw [hd] at q4
  by_cases h0 : d.left = 0
  · have e0 : max d.left (-1) = 0 := by omega
    rw [e0] at q3
    have hX := Lib.hid (hA.setDead true)
    rw [if_pos h0, decide_eq_true h0]
    have HO := Lib.hid ho
    clear hA h ho h0
    go_enter Try.func59, Try.ntmps59
    go_wp2
    go_ret
    exact ⟨rfl, RAt.to_rf (d := d.die) hX.out HO.out.die (fun _ _ => rfl) (fun _ _ => rfl) (fun _ _ => rfl) rfl rfl, Keep.setCell (by simp) _⟩
  · rw [if_neg h0, decide_eq_false h0]
    by_cases h1 : 0 < d.left
    · obtain ⟨a, ha⟩ : ∃ a, a = max d.left (-1) := ⟨_, rfl⟩
      rw [← ha] at q3
      have ha0 : 0 < a := by omega
      have hane : (a == 0) = false := by simp; omega
      have hwr : IntKind.i64.wrap (a - 1) = a - 1 := IntWalk.i64_in _ (by omega)
      have hX := Lib.hid (hA.setArm (a - 1))
      have e1 : a - 1 = max d.step.left (-1) := by
        show _ = max (if 0 < d.left then d.left - 1 else d.left) (-1)
        rw [if_pos h1]; omega
      have E1 := Lib.hid e1
      have HO := Lib.hid ho
      clear hA h ho h0 h1 ha e1
      go_enter Try.func59, Try.ntmps59
      go_wp2
      go_ret
      exact ⟨rfl, RAt.to_rf (d := d.step) hX.out HO.out.step (fun _ _ => rfl) (fun _ _ => rfl) (fun _ _ => rfl) E1.out rfl, Keep.setCell (by simp) _⟩
    · have e0 : max d.left (-1) = -1 := by omega
      rw [e0] at q3
      have e1 : d.step = d := by unfold St.step; rw [if_neg h1]
      rw [e1]
      have H := Lib.hid h
      clear hA h ho h0 h1
      go_enter Try.func59, Try.ntmps59
      go_wp2
      go_ret
      exact ⟨rfl, H.out, Keep.refl _ _⟩
set_option maxHeartbeats 1000000 in
set_option maxRecDepth 100000 in
theorem rarm_any (B gr : Nat) (L : List Nat) (d : St) (a : Int) (w : World) (h : Rf w B gr L d) (h1 : -9223372036854775808 ≤ a) (h2 : a ≤ 9223372036854775807) :
    Calls Try.prog 24 #[ptr gr, .int .i64 a] w fun e w' => e = .returned (.tuple #[]) ∧ RMoves B gr L (d.arm a) w w' := by
  have ho := h.1
  obtain ⟨g1, c1, g2, c2, g3, c3, rfl, hA⟩ := RAt.of_rf h
  have f3 := hA.fz 3
  have q3 := hA.c 3
  change w.cell? ⟨gr, 3, none⟩ = some (.int .i64 (max d.left (-1))) at q3
  have hX := Lib.hid (hA.setArm (max a (-1)))
  have HO := Lib.hid ho
  clear hA h ho
  have fin : ∀ x, x = max a (-1) → RMoves B gr [gr, g1, g2, g3] (d.arm a) w (w.setCell ⟨gr, 3, none⟩ (.int .i64 x)) := fun x hx => by
    subst hx
    exact ⟨RAt.to_rf (d := d.arm a) hX.out (HO.out.arm h1 h2) (fun _ _ => rfl) (fun _ _ => rfl) (fun _ _ => rfl) rfl rfl, Keep.setCell (by simp) _⟩
  have HF := Lib.hid fin
  clear hX fin
  unfold ptr
  by_cases hx : a < -1
  · go_enter Try.func24, Try.ntmps24
    go_wp2
    go_end0
    exact ⟨rfl, HF.out _ (by omega)⟩
  · go_enter Try.func24, Try.ntmps24
    go_wp2
    go_end0
    exact ⟨rfl, HF.out _ (by omega)⟩
end Go.Proofs.Ytlmfnlaikdmphaa
namespace Go.Proofs.Ytlmfnlaikdmphaa
open Go.RowKit Dk
set_option linter.unusedVariables false
theorem flush_dead_eq {d : St} (hd : d.dead = true) : d.flush = (d, 7) := by
  unfold St.flush St.try_
  by_cases h : d.left = 0
  · rw [if_pos h]
    have e : d.die = d := by
      unfold St.die
      rw [← hd]
    rw [e]
  · rw [if_neg h, if_pos hd]
def f2k (d : St) (k j : Nat) : Value := if j < k then nowV d j else oldV d j
def f3k (d : St) (k j : Nat) : Value := if j < k then .bool false else wtV d j
theorem f2k_other (d : St) (n k : Nat) : ∀ j, j < n → j ≠ k → f2k d (k + 1) j = f2k d k j := by
  intro j _ hj
  unfold f2k
  by_cases h : j < k
  · rw [if_pos h, if_pos (by omega)]
  · rw [if_neg h, if_neg (by omega)]
theorem f3k_other (d : St) (n k : Nat) : ∀ j, j < n → j ≠ k → f3k d (k + 1) j = f3k d k j := by
  intro j _ hj
  unfold f3k
  by_cases h : j < k
  · rw [if_pos h, if_pos (by omega)]
  · rw [if_neg h, if_neg (by omega)]
set_option maxHeartbeats 2000000 in
set_option maxRecDepth 100000 in
theorem rflush_any (B gr : Nat) (L : List Nat) (d : St) (w : World) (h : Rf w B gr L d) :
    Calls Try.prog 22 #[ptr gr] w fun e w' => e = .returned (.int .i64 d.flush.2) ∧ RMoves B gr L d.flush.1 w w' := by
  have q4 : w.cell? ⟨gr, 4, none⟩ = some (.bool d.dead) := by
    obtain ⟨g1, c1, g2, c2, g3, c3, rfl, hA⟩ := RAt.of_rf h
    exact hA.c 4
  by_cases hd : d.dead = true
  · rw [flush_dead_eq hd]
    rw [hd] at q4
    have H := Lib.hid h
    clear h hd
    unfold ptr
    go_enter Try.func22, Try.ntmps22
    go_wp2
    go_ret
    exact ⟨rfl, H.out, Keep.refl _ _⟩
  · have hd' : d.dead = false := by simpa using hd
    rw [hd'] at q4
    have HC := Lib.hid (rcrashes_any B gr L d w h hd')
    by_cases h0 : d.left = 0
    · have e : d.flush = (d.die, 7) := by unfold St.flush St.try_; rw [if_pos h0]
      rw [e]
      rw [if_pos h0, decide_eq_true h0] at HC
      clear h hd hd' h0 e
      unfold ptr at *
      go_enter Try.func22, Try.ntmps22
      go_wp2_with fail
      refine HC.out.mono ?_
      rintro e w1 ⟨rfl, hM⟩
      go_wp2
      go_ret
      exact ⟨rfl, hM⟩
    · have e : d.flush = (d.step.settle, 0) := by unfold St.flush St.try_; rw [if_neg h0, hd', if_neg (by decide)]
      rw [e]
      rw [if_neg h0, decide_eq_false h0] at HC
      obtain ⟨d1, hd1⟩ : ∃ d1, d1 = d.step := ⟨_, rfl⟩
      rw [← hd1] at HC ⊢
      clear h hd h0 e hd1
      unfold ptr at *
      go_enter Try.func22, Try.ntmps22
      go_wp2_with fail
      refine HC.out.mono ?_
      rintro e w1 ⟨rfl, hR1, hK1⟩
      clear HC
      have ho := Lib.hid hR1.1
      obtain ⟨g1, c1, g2, c2, g3, c3, rfl, hA⟩ := RAt.of_rf hR1
      obtain ⟨n, hn⟩ : ∃ n, n = d1.n := ⟨_, rfl⟩
      obtain ⟨arm, harm⟩ : ∃ arm, arm = max d1.left (-1) := ⟨_, rfl⟩
      obtain ⟨dead, hdead⟩ : ∃ dead, dead = d1.dead := ⟨_, rfl⟩
      rw [← hn, ← harm, ← hdead] at hA
      have HH := Lib.hid (And.intro hn (And.intro harm hdead))
      have hn4 : n ≤ 4096 := by rw [hn]; exact ho.out.n2
      clear hn harm hdead hR1 q4 hd'
      have hA0 : RAt w1 B gr g1 c1 g2 c2 g3 c3 n (nowV d1) (f2k d1 0) (f3k d1 0) arm dead := by
        refine ⟨hA.blk, hA.r1, ?_, ?_, hA.ap, hA.hB⟩
        · rw [← rowV_congr (oldV d1) (f2k d1 0) _ (fun j _ => by simp [f2k])]; exact hA.r2
        · rw [← rowV_congr (wtV d1) (f3k d1 0) _ (fun j _ => by simp [f3k])]; exact hA.r3
      clear hA
      go_wp2_with fail
      go_loopw [3] (fun i wr => ∃ k : Nat, k ≤ n ∧ i = .int .i64 k ∧ RAt wr B gr g1 c1 g2 c2 g3 c3 n (nowV d1) (f2k d1 k) (f3k d1 k) arm dead ∧ Keep [gr, g1, g2, g3] w wr) (fun i _ => n - (RowKit.intOf i).toNat)
      case atStart => exact ⟨0, by omega, rfl, hA0, hK1⟩
      case round =>
        obtain ⟨k, hk, rfl, hAr, hkr⟩ := hrel
        clear hA0 hK1
        have q0 := hAr.c 0
        change wr.cell? ⟨gr, 0, none⟩ = some (.slice (some ⟨g1, 0, none⟩) n c1) at q0
        by_cases hlt : k < n
        · have hk0 : (0 : Int) ≤ k := by omega
          have hk1 : (k : Int) < n := by omega
          have z0 := hAr.drew.c 0
          change wr.drew.cell? ⟨gr, 0, none⟩ = some (.slice (some ⟨g1, 0, none⟩) n c1) at z0
          have z1 := hAr.drew.c 1
          change wr.drew.cell? ⟨gr, 1, none⟩ = some (.slice (some ⟨g2, 0, none⟩) n c2) at z1
          have cz1 : wr.drew.cell? ⟨g1, k, none⟩ = some (nowV d1 k) := row_cell hAr.drew.r1 k hlt
          have cz2 : wr.drew.cell? ⟨g2, k, none⟩ = some (f2k d1 k k) := row_cell hAr.drew.r2 k hlt
          have fz2 : wr.drew.frozen? ⟨g2, k, none⟩ = false := own_fz hAr.drew.r2 k
          have hA1 := Lib.hid (hAr.drew.set2 k (f2k d1 (k + 1)) (f2k_other d1 n k))
          have ef : f2k d1 (k + 1) k = .string (txt (d1.now k)) := by unfold f2k; rw [if_pos (by omega)]; rfl
          rw [ef] at hA1
          unfold nowV at cz1
          have y2 : (wr.setCell ⟨g2, k, none⟩ (.string (txt (d1.now k)))).cell? ⟨gr, 2, none⟩ = some (.slice (some ⟨g3, 0, none⟩) n c3) := hA1.out.c 2
          have y2' : (wr.drew.setCell ⟨g2, k, none⟩ (.string (txt (d1.now k)))).cell? ⟨gr, 2, none⟩ = some (.slice (some ⟨g3, 0, none⟩) n c3) := hA1.out.c 2
          have yf : (wr.setCell ⟨g2, k, none⟩ (.string (txt (d1.now k)))).frozen? ⟨g3, k, none⟩ = false := own_fz hA1.out.r3 k
          have yf' : (wr.drew.setCell ⟨g2, k, none⟩ (.string (txt (d1.now k)))).frozen? ⟨g3, k, none⟩ = false := own_fz hA1.out.r3 k
          have yc : (wr.setCell ⟨g2, k, none⟩ (.string (txt (d1.now k)))).cell? ⟨g3, k, none⟩ = some (f3k d1 k k) := row_cell hA1.out.r3 k hlt
          have yc' : (wr.drew.setCell ⟨g2, k, none⟩ (.string (txt (d1.now k)))).cell? ⟨g3, k, none⟩ = some (f3k d1 k k) := row_cell hA1.out.r3 k hlt
          have hA2 := Lib.hid (hA1.out.set3 k (f3k d1 (k + 1)) (f3k_other d1 n k))
          have ef3 : f3k d1 (k + 1) k = .bool false := by unfold f3k; rw [if_pos (by omega)]
          rw [ef3] at hA2
          have hk2 : Keep [gr, g1, g2, g3] w ((wr.drew.setCell ⟨g2, k, none⟩ (.string (txt (d1.now k)))).setCell ⟨g3, k, none⟩ (.bool false)) :=
            hkr.trans ((Keep.setCell (w := wr.drew) (p := ⟨g2, k, none⟩) (by simp) _ |> fun h => ⟨h.os, h.tape, h.output, h.size, h.block⟩ : Keep [gr, g1, g2, g3] wr _).trans (Keep.setCell (p := ⟨g3, k, none⟩) (by simp) _))
          have HK2 := Lib.hid hk2
          clear hAr hk2
          go_wp2_with fail
          go_still_tail 13, (by kernel_rfl)
          change wpList _ _ _ _ _ wr.drew
          go_wp2
          go_roundw
          case rel => exact ⟨k + 1, by omega, by go_num, hA2.out, HK2.out⟩
          case measure => simp [RowKit.intOf]; omega
        · have hk' : k = n := by omega
          subst hk'
          go_wp2
          go_ret
          obtain ⟨e1, e2, e3⟩ := HH.out
          rw [e1] at hAr
          exact ⟨rfl, RAt.to_rf (d := d1.settle) hAr ho.out.settle (fun _ _ => rfl) (fun j hj => by unfold f2k; rw [if_pos (show j < d1.n from hj)]; rfl) (fun j hj => by unfold f3k; rw [if_pos (show j < d1.n from hj)]; rfl) e2 e3, hkr⟩
set_option maxHeartbeats 2000000 in
set_option maxRecDepth 100000 in
theorem rimage_any (B gr : Nat) (L : List Nat) (d : St) (w : World) (h : Rf w B gr L d) :
    Calls Try.prog 30 #[ptr gr] w fun e w' => e = .returned (.string (txt d.image)) ∧ w = w' := by
  have ho := h.1
  obtain ⟨g1, c1, g2, c2, g3, c3, rfl, hA⟩ := RAt.of_rf h
  have q0 := hA.c 0
  change w.cell? ⟨gr, 0, none⟩ = some (.slice (some ⟨g1, 0, none⟩) d.n c1) at q0
  have hcell : Hid (∀ k, k < d.n → w.cell? ⟨g1, k, none⟩ = some (.string (txt (d.now k)))) := fun k hk => row_cell hA.r1 k hk
  have hn2 := ho.n2
  have hnow := Lib.hid ho.now
  have himg : Hid (d.image = catS d.now d.n) := rfl
  obtain ⟨n, hn⟩ : ∃ n, n = d.n := ⟨_, rfl⟩
  rw [himg.out]
  rw [← hn] at q0 hcell hn2 ⊢
  clear h hA ho hn himg
  unfold ptr
  go_enter Try.func30, Try.ntmps30
  go_wp2_with fail
  go_loopw [3, 4] (fun sx ix wr => wr = w ∧ ∃ k : Nat, k ≤ n ∧ sx = .string (txt (catS d.now k)) ∧ ix = .int .i64 k) (fun _ ix _ => n - (RowKit.intOf ix).toNat)
  case atStart => exact ⟨rfl, 0, by omega, rfl, rfl⟩
  case round =>
    obtain ⟨rfl, k, hk, rfl, rfl⟩ := hrel
    by_cases hlt : k < n
    · have hk0 : (0 : Int) ≤ k := by omega
      have hk1 : (k : Int) < n := by omega
      have cz := hcell.out k hlt
      obtain ⟨km, hkm⟩ : ∃ km, km = k * 64 := ⟨_, rfl⟩
      have hs1 : (txt (catS d.now k)).size = km := by rw [txt_size, catS_length _ hnow.out, hkm]
      have hs2 : (txt (d.now k)).size = 64 := by rw [txt_size, hnow.out]
      have hkm1 : (km : Int) ≤ 262144 := by omega
      have hkm0 : (0 : Int) ≤ km := by omega
      have hcat : txt (catS d.now k) ++ txt (d.now k) = txt (catS d.now (k + 1)) := by rw [txt_append]; rfl
      have HC := Lib.hid hcat
      clear hcat hkm
      go_wp2_with fail
      rw [HC.out]
      go_roundw
      case rel => exact ⟨trivial, k + 1, by omega, rfl, by go_num⟩
      case measure => simp [RowKit.intOf]; omega
    · have hk' : k = n := by omega
      subst hk'
      go_wp2
      go_ret
      exact ⟨rfl, rfl⟩
end Go.Proofs.Ytlmfnlaikdmphaa
