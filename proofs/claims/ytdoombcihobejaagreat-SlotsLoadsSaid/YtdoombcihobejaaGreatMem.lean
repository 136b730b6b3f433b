/-
  The device in memory: its block, its row of sectors, its map of what waits; what a call keeps.
  Conditions: named in each theorem.
-/
import Derived.Test.YtdoombcihobejaaGreatBase
namespace Go.Proofs.YtdoombcihobejaaGreat
open Go.RowKit
namespace Dk
/-! ### How a sector reads as a map's element -/
def unB : Value → Option UInt8
  | .int .u8 a => if 0 ≤ a ∧ a < 256 then some (UInt8.ofNat a.toNat) else none
  | _ => none
def unBs : List Value → Option (List UInt8)
  | [] => some []
  | v :: r => match unB v, unBs r with
    | some b, some l => some (b :: l)
    | _, _ => none
def secR (v : Value) : Option (DataW Unit × List MemPlace) :=
  match v with
  | .agg cs => match unBs cs.toList with
    | some l => if l.length = 64 then some (.lit (.string l), []) else none
    | none => none
  | _ => none
/-- A sector as a value. -/
def sv (l : Sec) : Value := .agg (Lib.byteCells l).toArray
theorem unB_of (b : UInt8) : unB (.int .u8 (b.toNat : Int)) = some b := by
  have h : b.toNat < 256 := b.toNat_lt
  show (if 0 ≤ (b.toNat : Int) ∧ (b.toNat : Int) < 256 then some (UInt8.ofNat (b.toNat : Int).toNat) else none) = some b
  rw [if_pos (by omega)]
  simp
theorem unB_inv {v : Value} {b : UInt8} (h : unB v = some b) : v = .int .u8 (b.toNat : Int) := by
  unfold unB at h
  split at h
  · rename_i a
    split at h
    · rename_i ha
      cases h
      have : (UInt8.ofNat a.toNat).toNat = a.toNat := by
        simp [UInt8.toNat_ofNat']; omega
      rw [this, Int.toNat_of_nonneg ha.1]
    · cases h
  · cases h
theorem unBs_of : ∀ l : List UInt8, unBs (Lib.byteCells l) = some l
  | [] => rfl
  | b :: r => by
    show unBs (Value.int .u8 (b.toNat : Int) :: Lib.byteCells r) = _
    rw [unBs, unB_of, unBs_of r]
theorem unBs_inv : ∀ {vs : List Value} {l : List UInt8}, unBs vs = some l → vs = Lib.byteCells l
  | [], l, h => by cases h; rfl
  | v :: r, l, h => by
    rw [unBs] at h
    split at h
    · rename_i b t hb ht
      cases h
      rw [unB_inv hb, unBs_inv ht]; rfl
    · cases h
theorem secR_of {l : Sec} (h : l.length = 64) : secR (sv l) = some (.lit (.string l), []) := by
  unfold secR sv
  simp only [unBs_of, if_pos h]
theorem secR_inv {v : Value} {y : DataW Unit × List MemPlace} (h : secR v = some y) : ∃ l : Sec, l.length = 64 ∧ v = sv l ∧ y = (.lit (.string l), []) := by
  unfold secR at h
  split at h
  · rename_i cs
    split at h
    · rename_i l hl
      split at h
      · rename_i h64
        cases h
        refine ⟨l, h64, ?_, rfl⟩
        unfold sv
        rw [← unBs_inv hl]
      · cases h
    · cases h
  · cases h

/-! ### What waits, as a map -/
def MapIs (D : DataW Unit) (M : Nat → Option Sec) : Prop :=
  (∀ i : Int, Maps.has D (.int .i64 i) = (decide (0 ≤ i) && (M i.toNat).isSome)) ∧ ∀ (i : Nat) s, M i = some s → ∀ z, D.atKey (.int .i64 (i : Int)) z = .lit (.string s)
def MapAt (w : World) (mb : Nat) (M : Nat → Option Sec) : Prop := ∃ D, w.ownsMap Tryz.prog 3 secR mb 4096 D ∧ MapIs D M
/-- Sectors, one behind the other, in a block. -/
def RowAt (w : World) (fb n : Nat) (F : Nat → Sec) : Prop :=
  ∃ cur, w.heap[fb]? = some (.cells cur 98 (0, 0)) ∧ n * 64 ≤ cur.size ∧ ∀ i, i < n → ∀ j, j < 64 → cur[i * 64 + j]? = (Lib.byteCells (F i))[j]?
structure DevAt (w : World) (g fb mb cap : Nat) (d : St) : Prop where
  blk : w.heap[g]? = some (.cells #[.slice (some ⟨fb, 0, none⟩) d.n cap, .map (some mb), .int .i64 d.left, .bool d.dead] 83 (0, 0))
  row : RowAt w fb d.n d.fl
  map : MapAt w mb d.wt
  hcap : d.n ≤ cap
/-- The device d lies behind the pointer to block g, in the blocks L. -/
def Dv (w : World) (g : Nat) (L : List Nat) (d : St) : Prop := d.Ok ∧ ∃ fb mb cap, L = [g, fb, mb] ∧ DevAt w g fb mb cap d

/-! ### What a call keeps -/
structure Keep (L : List Nat) (w w' : World) : Prop where
  os : w'.os = w.os
  tape : w'.tape = w.tape
  output : w'.output = w.output
  size : w.heap.size ≤ w'.heap.size
  block : ∀ k, k < w.heap.size → k ∉ L → w'.heap[k]? = w.heap[k]?
def Fresh (w : World) (L L' : List Nat) : Prop := ∀ k ∈ L', k ∈ L ∨ w.heap.size ≤ k
/-- Behind the call the device is d'. -/
def Moves (g : Nat) (L : List Nat) (d' : St) (w w' : World) : Prop := ∃ L', Dv w' g L' d' ∧ Keep L w w' ∧ Fresh w L L'

section
variable {w w' w'' : World} {g fb mb cap n : Nat} {L L' : List Nat} {d d' : St} {F : Nat → Sec} {M : Nat → Option Sec}
theorem Keep.refl (L : List Nat) (w : World) : Keep L w w := ⟨rfl, rfl, rfl, Nat.le_refl _, fun _ _ _ => rfl⟩
theorem Keep.of_below (h : Below w.heap.size w w') : Keep L w w' := ⟨h.os, h.tape, h.output, h.size, fun k hk _ => h.block k hk⟩
theorem Keep.of_grown {row : Option Nat} (h : w.grownBy w' row) (hr : ∀ k, row = some k → k ∈ L ∨ w.heap.size ≤ k) : Keep L w w' :=
  ⟨h.os, h.tape, h.output, h.size, fun k hk hL => h.block k hk (fun e => (hr k e.symm).elim (fun h1 => hL h1) (fun h1 => by omega))⟩
theorem Keep.trans' (h : Keep L w w') (h' : Keep L' w' w'') (hf : Fresh w L L') : Keep L w w'' :=
  ⟨h'.os.trans h.os, h'.tape.trans h.tape, h'.output.trans h.output, Nat.le_trans h.size h'.size, fun k hk hL =>
    (h'.block k (Nat.lt_of_lt_of_le hk h.size) (fun hm => (hf k hm).elim (fun h1 => hL h1) (fun h1 => by omega))).trans (h.block k hk hL)⟩
theorem Keep.trans (h : Keep L w w') (h' : Keep L w' w'') : Keep L w w'' := h.trans' h' (fun _ hk => .inl hk)
theorem Keep.mono (h : Keep L w w') (hs : ∀ k ∈ L, k ∈ L') : Keep L' w w' := ⟨h.os, h.tape, h.output, h.size, fun k hk hn => h.block k hk (fun hm => hn (hs k hm))⟩
theorem Keep.below {B : Nat} {a : World} (h : Below B a w) (k : Keep L w w') (hB : B ≤ w.heap.size) (hL : ∀ j ∈ L, B ≤ j) : Below B a w' :=
  h.trans ⟨k.os, k.tape, k.output, k.size, fun i hi => k.block i (by omega) (fun hm => by have := hL i hm; omega)⟩
theorem Keep.setCell {p : Addr} (hp : p.block ∈ L) (v : Value) : Keep L w (w.setCell p v) :=
  ⟨rfl, rfl, rfl, by simp, fun k _ hk => heap_setCell_other w p k v (fun e => hk (e ▸ hp))⟩
theorem Keep.alloc (o : Obj) : Keep L w (w.alloc o) := ⟨rfl, rfl, rfl, by simp, fun k hk _ => Below.heap_alloc w o k hk⟩
theorem Fresh.refl (w : World) (L : List Nat) : Fresh w L L := fun _ hk => .inl hk
theorem Fresh.trans {L'' : List Nat} (h : Fresh w L L') (h' : Fresh w' L' L'') (hs : w.heap.size ≤ w'.heap.size) : Fresh w L L'' := fun k hk =>
  (h' k hk).elim (fun h1 => h k h1) (fun h1 => .inr (by omega))
theorem Fresh.low {B : Nat} (h : Fresh w L L') (hB : B ≤ w.heap.size) (hL : ∀ j ∈ L, B ≤ j) : ∀ j ∈ L', B ≤ j := fun k hk => (h k hk).elim (hL k) (fun h1 => by omega)

theorem MapAt.lt (h : MapAt w mb M) : mb < w.heap.size := by obtain ⟨D, h1, _⟩ := h; exact h1.lt
theorem lt_of_heap {k : Nat} {o : Obj} (h : w.heap[k]? = some o) : k < w.heap.size := (Array.getElem?_eq_some_iff.1 h).1
theorem RowAt.lt (h : RowAt w fb n F) : fb < w.heap.size := by obtain ⟨_, h1, _⟩ := h; exact lt_of_heap h1
theorem RowAt.of_heap (h : RowAt w fb n F) (he : w'.heap[fb]? = w.heap[fb]?) : RowAt w' fb n F := by
  obtain ⟨cur, h1, h2⟩ := h; exact ⟨cur, he.trans h1, h2⟩
theorem MapAt.of_heap (h : MapAt w mb M) (he : w'.heap[mb]? = w.heap[mb]?) : MapAt w' mb M := by
  obtain ⟨D, ⟨es, clock, hb, r⟩, h2⟩ := h; exact ⟨D, ⟨es, clock, he.trans hb, r⟩, h2⟩
theorem DevAt.gf (h : DevAt w g fb mb cap d) : g ≠ fb := by
  obtain ⟨cur, h1, _⟩ := h.row
  rintro rfl
  have := h.blk.symm.trans h1
  simp at this
theorem DevAt.gm (h : DevAt w g fb mb cap d) : g ≠ mb := by
  obtain ⟨D, ⟨es, clock, hb, _⟩, _⟩ := h.map
  rintro rfl
  have := h.blk.symm.trans hb
  simp at this
theorem DevAt.fm (h : DevAt w g fb mb cap d) : fb ≠ mb := by
  obtain ⟨D, ⟨es, clock, hb, _⟩, _⟩ := h.map
  obtain ⟨cur, h1, _⟩ := h.row
  rintro rfl
  have := h1.symm.trans hb
  simp at this
theorem DevAt.of_heap (h : DevAt w g fb mb cap d) (he : ∀ k, k = g ∨ k = fb ∨ k = mb → w'.heap[k]? = w.heap[k]?) : DevAt w' g fb mb cap d :=
  ⟨(he g (.inl rfl)).trans h.blk, h.row.of_heap (he fb (.inr (.inl rfl))), h.map.of_heap (he mb (.inr (.inr rfl))), h.hcap⟩
theorem Dv.lt (h : Dv w g L d) : ∀ k ∈ L, k < w.heap.size := by
  obtain ⟨_, fb, mb, cap, rfl, hd⟩ := h
  intro k hk
  simp at hk
  rcases hk with rfl | rfl | rfl
  · exact lt_of_heap hd.blk
  · exact hd.row.lt
  · exact hd.map.lt
theorem Dv.of_heap (h : Dv w g L d) (he : ∀ k ∈ L, w'.heap[k]? = w.heap[k]?) : Dv w' g L d := by
  obtain ⟨ho, fb, mb, cap, rfl, hd⟩ := h
  exact ⟨ho, fb, mb, cap, rfl, hd.of_heap (fun k hk => he k (by simpa using hk))⟩
/-- A device stays what it is while nothing that was there turns. -/
theorem Dv.below (h : Dv w g L d) (hb : Below w.heap.size w w') : Dv w' g L d := h.of_heap (fun k hk => hb.block k (h.lt k hk))
/-- .. while another device is written. -/
theorem Dv.keep {K : List Nat} (h : Dv w g L d) (hk : Keep K w w') (hd : ∀ k ∈ L, k ∉ K) : Dv w' g L d := h.of_heap (fun k hm => hk.block k (h.lt k hm) (hd k hm))
theorem Dv.alloc (h : Dv w g L d) (o : Obj) : Dv (w.alloc o) g L d := h.below ((Below.refl _ _).alloc (Nat.le_refl _) o)
theorem Moves.below {B : Nat} {a : World} (h : Moves g L d' w w') (hb : Below B a w) (hB : B ≤ w.heap.size) (hL : ∀ j ∈ L, B ≤ j) :
    ∃ L', Dv w' g L' d' ∧ (∀ j ∈ L', B ≤ j) ∧ Below B a w' ∧ B ≤ w'.heap.size ∧ Keep L w w' ∧ Fresh w L L' := by
  obtain ⟨L', h1, h2, h3⟩ := h
  exact ⟨L', h1, h3.low hB hL, h2.below hb hB hL, Nat.le_trans hB h2.size, h2, h3⟩
theorem Moves.same (_h : Dv w g L d) (hk : Keep L w w') (hd : Dv w' g L d') : Moves g L d' w w' := ⟨L, hd, hk, Fresh.refl _ _⟩

/-! ### The device's cells -/
theorem DevAt.c0 (h : DevAt w g fb mb cap d) : w.cell? ⟨g, 0, none⟩ = some (.slice (some ⟨fb, 0, none⟩) d.n cap) := cell_of_row w g 0 _ 83 (0, 0) h.blk
theorem DevAt.c1 (h : DevAt w g fb mb cap d) : w.cell? ⟨g, 1, none⟩ = some (.map (some mb)) := cell_of_row w g 1 _ 83 (0, 0) h.blk
theorem DevAt.c2 (h : DevAt w g fb mb cap d) : w.cell? ⟨g, 2, none⟩ = some (.int .i64 d.left) := cell_of_row w g 2 _ 83 (0, 0) h.blk
theorem DevAt.c3 (h : DevAt w g fb mb cap d) : w.cell? ⟨g, 3, none⟩ = some (.bool d.dead) := cell_of_row w g 3 _ 83 (0, 0) h.blk
theorem DevAt.fz (h : DevAt w g fb mb cap d) (i : Nat) : w.frozen? ⟨g, i, none⟩ = false := frozen_of_row w g i _ 83 h.blk
theorem DevAt.set (h : DevAt w g fb mb cap d) (i : Nat) (v : Value) (cap' mb' : Nat) (d' : St) (hn : d'.n = d.n) (hf : d'.fl = d.fl)
    (hm : MapAt (w.setCell ⟨g, i, none⟩ v) mb' d'.wt) (hc : d'.n ≤ cap')
    (he : (#[.slice (some ⟨fb, 0, none⟩) d.n cap, .map (some mb), .int .i64 d.left, .bool d.dead] : Array Value).setIfInBounds i v = #[.slice (some ⟨fb, 0, none⟩) d'.n cap', .map (some mb'), .int .i64 d'.left, .bool d'.dead]) :
    DevAt (w.setCell ⟨g, i, none⟩ v) g fb mb' cap' d' :=
  ⟨by rw [← he]; exact heap_setCell_same w g i _ 83 v h.blk, by rw [hn, hf]; exact h.row.of_heap (heap_setCell_other w ⟨g, i, none⟩ fb v h.gf.symm), hm, hc⟩
theorem DevAt.set2 (h : DevAt w g fb mb cap d) (x : Int) : DevAt (w.setCell ⟨g, 2, none⟩ (.int .i64 x)) g fb mb cap { d with left := x } :=
  h.set 2 _ cap mb { d with left := x } rfl rfl (h.map.of_heap (heap_setCell_other w ⟨g, 2, none⟩ mb _ h.gm.symm)) h.hcap rfl
theorem DevAt.set3 (h : DevAt w g fb mb cap d) (x : Bool) : DevAt (w.setCell ⟨g, 3, none⟩ (.bool x)) g fb mb cap { d with dead := x } :=
  h.set 3 _ cap mb { d with dead := x } rfl rfl (h.map.of_heap (heap_setCell_other w ⟨g, 3, none⟩ mb _ h.gm.symm)) h.hcap rfl
theorem RowAt.range (h : RowAt w fb n F) (hF : ∀ i, (F i).length = 64) (i : Nat) (hi : i < n) : w.rangeAt fb (i * 64) (Lib.byteCells (F i)) := by
  obtain ⟨cur, h1, h2, h3⟩ := h
  intro j v hv
  have hj : j < 64 := by have := (List.getElem?_eq_some_iff.1 hv).1; rw [Lib.byteCells_length, hF] at this; exact this
  rw [cell_of_row w fb _ cur 98 (0, 0) h1, h3 i hi j hj, hv]
theorem RowAt.there (h : RowAt w fb n F) (i : Nat) (hi : i < n) : w.there fb (i * 64) 64 := by
  obtain ⟨cur, h1, h2, h3⟩ := h
  intro j hj
  rw [cell_of_row w fb _ cur 98 (0, 0) h1, frozen_of_row w fb _ cur 98 h1]
  exact ⟨by rw [Array.getElem?_eq_getElem (by omega)]; rfl, rfl⟩
end
end Dk
end Go.Proofs.YtdoombcihobejaaGreat
