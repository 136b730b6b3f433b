/-
  EntryKinds, walked: true for every input.
  Conditions: the table of powers of ten lies as its initialiser lays it.
-/
import Derived.Test.YtclohjcenkpgoaaDoorExam
import Derived.Test.YtclohjcenkpgoaaDoorMRB11
import Derived.Test.YtclohjcenkpgoaaDoorMade
namespace Go.Proofs.YtclohjcenkpgoaaDoor
open Go.RowKit
set_option linter.unusedVariables false

/-- The law's entry of a kind, with a client, a node, a level. -/
abbrev ke (k c n l : Int) : En := ⟨1, 1, k, c, 0, 0, 0, n, l, ⟨#[]⟩, ⟨#[]⟩⟩
theorem ke_ok (k c n l : Int) (hk : -128 ≤ k ∧ k ≤ 127) (hc : 0 ≤ c ∧ c ≤ 1) (hn : 0 ≤ n ∧ n ≤ 1) (hl : 0 ≤ l ∧ l ≤ 3) : (ke k c n l).Ok := by
  constructor <;> dsimp only [ke] <;> first | omega | decide
abbrev km (k t : Int) : Ms := ⟨k, 1, t, 0, 0, 0, 0, 0, false, none, 0, 0, [], ⟨#[]⟩⟩
theorem km_ents (k t : Int) (B : Nat) (w : World) : Ents B (km k t).A (km k t).n (km k t).es w := ⟨rfl, fun i e he => by cases i <;> cases he⟩
theorem kright (k t : Int) (ht : 1 ≤ t) (w : World) : Calls Tryd.prog 24 #[mv (km k t)] w fun r w' => r = .returned (.bool (mrightB (km k t))) ∧ Below w.heap.size w w' :=
  mright_11 (km k t) w (km_ents k t _ w) (by show ((0 : Nat) : Int) ≤ _; omega) (fun e he => by cases he) (show (1:Int) ≤ 1 by omega) ht
/-- Its client, node and level, by its kind. -/
def kc (k : Int) : Int := if hasL (fl k) 99 then 1 else 0
def kn (k : Int) : Int := if hasL (fl k) 110 then 1 else 0
def kl (k : Int) : Int := if hasL (fl k) 108 then 1 else 0
theorem kr_all : ∀ k : Fin 12, rightB (ke k.1 (kc k.1) (kn k.1) (kl k.1)) = true ∧ rightB (ke k.1 (kc k.1) (kn k.1) 3) = false := by decide +kernel
theorem km_all : ∀ k : Fin 10, mrightB (km (k.1 + 1) 2) = true ∧ mrightB (km (k.1 + 1) 8) = false := by decide +kernel
theorem kr_none (k c n l : Int) (h : k < 0 ∨ 11 < k) : rightB (ke k c n l) = false := by
  unfold rightB asks
  rw [show fb (ke k c n l).kind = false from decide_eq_false (by show ¬ (0 ≤ k ∧ k ≤ 11); omega)]
  rfl
theorem km_none (k t : Int) (h : k < 1 ∨ 10 < k) : mrightB (km k t) = false := by
  unfold mrightB masksB masks
  rw [show mfb (km k t).kind = false from decide_eq_false (by show ¬ (1 ≤ k ∧ k ≤ 10); omega)]
  rfl
theorem kr_eq (k : Int) : rightB (ke k (kc k) (kn k) (kl k)) = fb k ∧ rightB (ke k (kc k) (kn k) 3) = false := by
  by_cases h : 0 ≤ k ∧ k ≤ 11
  · have h2 := kr_all ⟨k.toNat, by omega⟩
    have e : ((k.toNat : Nat) : Int) = k := by omega
    rw [e] at h2
    exact ⟨h2.1.trans (decide_eq_true h).symm, h2.2⟩
  · exact ⟨(kr_none k _ _ _ (by omega)).trans (decide_eq_false h).symm, kr_none k _ _ _ (by omega)⟩
theorem km_eq (k : Int) : mrightB (km k 2) = mfb k ∧ mrightB (km k 8) = false := by
  by_cases h : 1 ≤ k ∧ k ≤ 10
  · have h2 := km_all ⟨(k - 1).toNat, by omega⟩
    have e : (((k - 1).toNat : Nat) : Int) + 1 = k := by omega
    rw [e] at h2
    exact ⟨h2.1.trans (decide_eq_true h).symm, h2.2⟩
  · exact ⟨(km_none k _ (by omega)).trans (decide_eq_false h).symm, km_none k _ (by omega)⟩
/-- The law's entry when the letters l have been gone through. -/
def kpart (k : Int) (l : List UInt8) : En := ke k (if hasT l 99 then 1 else 0) (if hasT l 110 then 1 else 0) (if hasT l 108 then 1 else 0)
theorem kpart_99 (k : Int) (l : List UInt8) (x : UInt8) (hx : (x.toNat : Int) = 99) : ec (kpart k (l ++ [x])) = (ec (kpart k l)).setIfInBounds 3 (.int .u64 1) := by
  simp [kpart, ke, hasT_snoc, hx]
theorem kpart_110 (k : Int) (l : List UInt8) (x : UInt8) (hx : (x.toNat : Int) = 110) : ec (kpart k (l ++ [x])) = (ec (kpart k l)).setIfInBounds 7 (.int .i64 1) := by
  simp [kpart, ke, hasT_snoc, hx]
theorem kpart_108 (k : Int) (l : List UInt8) (x : UInt8) (hx : (x.toNat : Int) = 108) : ec (kpart k (l ++ [x])) = (ec (kpart k l)).setIfInBounds 8 (.int .i64 1) := by
  simp [kpart, ke, hasT_snoc, hx]
theorem kpart_other (k : Int) (l : List UInt8) (x : UInt8) (h1 : ((x.toNat : Int) == 99) = false) (h2 : ((x.toNat : Int) == 110) = false) (h3 : ((x.toNat : Int) == 108) = false) : ec (kpart k (l ++ [x])) = ec (kpart k l) := by
  simp only [kpart, ke, ec, hasT_snoc, h1, h2, h3, Bool.or_false]
theorem kpart_all (k : Int) : kpart k (fl k).data.toList = ke k (kc k) (kn k) (kl k) := rfl
structure Kd (w0 : World) (k : Int) (L : ByteArray) (g i : Nat) (wr : World) : Prop where
  out : wr.heap[g]? = some (.cells (ec (kpart k (L.data.toList.take i))) 24 (0, 0))
  be : Below w0.heap.size w0 wr
  l : w0.heap.size ≤ g
theorem Kd.oc {w0 : World} {k : Int} {L : ByteArray} {g i : Nat} {wr : World} (h : Kd w0 k L g i wr) (j : Nat) : wr.cell? ⟨g, j, none⟩ = (ec (kpart k (L.data.toList.take i)))[j]? := cell_of_row wr _ j _ 24 (0, 0) h.out
theorem Kd.set1 {w0 : World} {k : Int} {L : ByteArray} {g i : Nat} {wr : World} (h : Kd w0 k L g i wr) (j : Nat) (u : Value) (hp : ec (kpart k (L.data.toList.take (i + 1))) = (ec (kpart k (L.data.toList.take i))).setIfInBounds j u) : Kd w0 k L g (i + 1) (wr.setCell ⟨g, j, none⟩ u) :=
  ⟨by rw [hp]; exact set_blk h.out j u, h.be.setCell h.l _, h.l⟩
/-- The law's entry and message lie where they lay. -/
structure Kq (w0 : World) (g gm : Nat) (E : En) (M : Ms) (W : World) : Prop where
  e : W.heap[g]? = some (.cells (ec E) 24 (0, 0))
  m : W.heap[gm]? = some (.cells (mc M) 38 (0, 0))
  be : Below w0.heap.size w0 W
  l : w0.heap.size ≤ g
  l2 : w0.heap.size ≤ gm
  ne : g ≠ gm
theorem Kq.on {w0 : World} {g gm : Nat} {E : En} {M : Ms} {W w1 : World} (h : Kq w0 g gm E M W) (hb : Below W.heap.size W w1) : Kq w0 g gm E M w1 :=
  ⟨(hb.block _ (Array.getElem?_eq_some_iff.1 h.e).1).trans h.e, (hb.block _ (Array.getElem?_eq_some_iff.1 h.m).1).trans h.m, h.be.trans (hb.mono h.be.size), h.l, h.l2, h.ne⟩
theorem Kq.ecell {w0 : World} {g gm : Nat} {E : En} {M : Ms} {W : World} (h : Kq w0 g gm E M W) (j : Nat) : W.cell? ⟨g, j, none⟩ = (ec E)[j]? := cell_of_row W _ j _ 24 (0, 0) h.e
theorem Kq.mcell {w0 : World} {g gm : Nat} {E : En} {M : Ms} {W : World} (h : Kq w0 g gm E M W) (j : Nat) : W.cell? ⟨gm, j, none⟩ = (mc M)[j]? := cell_of_row W _ j _ 38 (0, 0) h.m
theorem Kq.sete {w0 : World} {g gm : Nat} {E E' : En} {M : Ms} {W : World} (h : Kq w0 g gm E M W) (j : Nat) (u : Value) (hp : ec E' = (ec E).setIfInBounds j u) : Kq w0 g gm E' M (W.setCell ⟨g, j, none⟩ u) :=
  ⟨by rw [hp]; exact set_blk h.e j u, (Below.heap_setCell W _ _ gm (Ne.symm h.ne)).trans h.m, h.be.setCell h.l _, h.l, h.l2, h.ne⟩
theorem Kq.setm {w0 : World} {g gm : Nat} {E : En} {M M' : Ms} {W : World} (h : Kq w0 g gm E M W) (j : Nat) (u : Value) (hp : mc M' = (mc M).setIfInBounds j u) : Kq w0 g gm E M' (W.setCell ⟨gm, j, none⟩ u) :=
  ⟨(Below.heap_setCell W _ _ g h.ne).trans h.e, by rw [hp]; exact set_blk h.m j u, h.be.setCell h.l2 _, h.l, h.l2, h.ne⟩
end Go.Proofs.YtclohjcenkpgoaaDoor
