/-
  A message: put and got by first, same by the package, made by the law.
  Conditions: named in each theorem.
-/
import Derived.Test.YtpdbeijfchmlgaaGreatMRB11
import Derived.Test.YtpdbeijfchmlgaaGreatSmall
import Derived.Test.YtpdbeijfchmlgaaGreatMkFacts
import Derived.Deep.RegionHeld3
import Derived.BigQuiet
import Derived.Test.YtpdbeijfchmlgaaGreatPutE
import Derived.Test.YtpdbeijfchmlgaaGreatMLevel
import Derived.Test.YtpdbeijfchmlgaaGreatMRB01
import Derived.Test.YtpdbeijfchmlgaaGreatMRB10
import Derived.Test.YtpdbeijfchmlgaaGreatMRB00
import Derived.Test.YtpdbeijfchmlgaaGreatNState
import Derived.Test.YtpdbeijfchmlgaaGreatBack
import Derived.Test.YtpdbeijfchmlgaaGreatRPut
import Derived.Test.YtpdbeijfchmlgaaGreatRMRight
import Derived.Deep.RegionLaw
import Derived.Deep.CutRange
import Derived.Test.YtpdbeijfchmlgaaGreatGet
namespace Go.Proofs.YtpdbeijfchmlgaaGreat
open Go.RowKit
set_option linter.unusedVariables false

/-- The first k entries of both are the same. -/
def preB (es fs : List En) (k : Nat) : Bool := (List.zipWith sameB (es.take k) (fs.take k)).all id
theorem preB_step (es fs : List En) (k : Nat) (e f : En) (he : es[k]? = some e) (hf : fs[k]? = some f) : preB es fs (k + 1) = (preB es fs k && sameB e f) := by
  unfold preB
  have h1 : es.take (k + 1) = es.take k ++ [e] := by rw [List.take_add_one, he]; rfl
  have h2 : fs.take (k + 1) = fs.take k ++ [f] := by rw [List.take_add_one, hf]; rfl
  have l1 : (es.take k).length = (fs.take k).length := by
    have := (List.getElem?_eq_some_iff.1 he).1
    have := (List.getElem?_eq_some_iff.1 hf).1
    rw [List.length_take, List.length_take]
    omega
  rw [h1, h2, List.zipWith_append l1, List.all_append]
  simp
/-- The entries are the same. -/
def entsB (n k : Nat) (es fs : List En) : Bool := decide (n = k) && preB es fs n
theorem entsB_len {n k : Nat} {es fs : List En} (h : n ≠ k) : entsB n k es fs = false := by
  unfold entsB
  rw [decide_eq_false h]
  rfl
theorem preB_stop {es fs : List En} {k n : Nat} (h : preB es fs k = false) (hk : k ≤ n) (h1 : es.length = n) (h2 : fs.length = n) : preB es fs n = false := by
  obtain ⟨d, rfl⟩ : ∃ d, n = k + d := ⟨n - k, by omega⟩
  have hd : ∀ j, k + j ≤ k + d → preB es fs (k + j) = false := by
    intro j
    induction j with
    | zero => intro _; exact h
    | succ j ih =>
      intro hj
      obtain ⟨e, he⟩ : ∃ e, es[k + j]? = some e := ⟨_, List.getElem?_eq_getElem (by omega)⟩
      obtain ⟨f, hf⟩ : ∃ f, fs[k + j]? = some f := ⟨_, List.getElem?_eq_getElem (by omega)⟩
      rw [show k + (j + 1) = (k + j) + 1 by omega, preB_step es fs (k + j) e f he hf, ih (by omega)]
      rfl
  exact hd d (Nat.le_refl _)

end Go.Proofs.YtpdbeijfchmlgaaGreat
namespace Go.Proofs.YtpdbeijfchmlgaaGreat
open Go.RowKit
set_option linter.unusedVariables false

/-- All fields but the entries, in the package's order. -/
def scalB (a b : Ms) : List Bool := [a.kind == b.kind, a.frm == b.frm, a.dst == b.dst, a.term == b.term, a.index == b.index, a.prev == b.prev, a.commit == b.commit, a.mark == b.mark, a.ok == b.ok, a.snap.toList == b.snap.toList]
def msameB (a b : Ms) : Bool := (scalB a b).all id && entsB a.n b.n a.es b.es
theorem msame_all (a b : Ms) (x : Bool) (h : x = entsB a.n b.n a.es b.es) : (a.kind == b.kind && (a.frm == b.frm && (a.dst == b.dst && (a.term == b.term && (a.index == b.index && (a.prev == b.prev && (a.commit == b.commit && (a.mark == b.mark && (a.ok == b.ok && (a.snap.toList == b.snap.toList && x)))))))))) = msameB a b := by
  unfold msameB scalB
  rw [h]
  simp only [List.all_cons, List.all_nil, id, Bool.and_true, Bool.and_assoc]
/-- Both messages lie where they lay. -/
structure Dm (w0 : World) (a b : Ms) (w : World) : Prop where
  x : By w0.heap.size a 29 w
  y : By (w0.heap.size + 1) b 29 w
  ex : Ents w.heap.size a.A a.n a.es w
  ey : Ents w.heap.size b.A b.n b.es w
  be : Below w0.heap.size w0 w
section
variable {w0 : World} {a b : Ms} {W w1 : World}
theorem Dm.on (h : Dm w0 a b W) (hb : Below W.heap.size W w1) : Dm w0 a b w1 := ⟨h.x.below hb, h.y.below hb, (h.ex.below hb).mr hb.size, (h.ey.below hb).mr hb.size, h.be.trans (hb.mono h.be.size)⟩
theorem Dm.drew (h : Dm w0 a b W) : Dm w0 a b W.drew := ⟨⟨h.x.bx⟩, ⟨h.y.bx⟩, h.ex.below (Below.refl _ W).drew, h.ey.below (Below.refl _ W).drew, h.be.drew⟩
theorem Dm.all (h : Dm w0 a b W) : Dm w0 a b W ∧ W.cell? ⟨w0.heap.size, 0, none⟩ = some (.int .i64 a.kind) ∧ W.cell? ⟨w0.heap.size, 1, none⟩ = some (.int .i64 a.frm) ∧ W.cell? ⟨w0.heap.size, 2, none⟩ = some (.int .i64 a.dst) ∧ W.cell? ⟨w0.heap.size, 3, none⟩ = some (.int .u64 a.term) ∧ W.cell? ⟨w0.heap.size, 4, none⟩ = some (.int .u64 a.index) ∧ W.cell? ⟨w0.heap.size, 5, none⟩ = some (.int .u64 a.prev) ∧ W.cell? ⟨w0.heap.size, 6, none⟩ = some (.int .u64 a.commit) ∧ W.cell? ⟨w0.heap.size, 7, none⟩ = some (.int .u64 a.mark) ∧ W.cell? ⟨w0.heap.size, 8, none⟩ = some (.bool a.ok) ∧ W.cell? ⟨w0.heap.size, 9, none⟩ = some (.slice a.A a.n a.c) ∧ W.cell? ⟨w0.heap.size, 10, none⟩ = some (.string a.snap) ∧ W.cell? ⟨w0.heap.size + 1, 0, none⟩ = some (.int .i64 b.kind) ∧ W.cell? ⟨w0.heap.size + 1, 1, none⟩ = some (.int .i64 b.frm) ∧ W.cell? ⟨w0.heap.size + 1, 2, none⟩ = some (.int .i64 b.dst) ∧ W.cell? ⟨w0.heap.size + 1, 3, none⟩ = some (.int .u64 b.term) ∧ W.cell? ⟨w0.heap.size + 1, 4, none⟩ = some (.int .u64 b.index) ∧ W.cell? ⟨w0.heap.size + 1, 5, none⟩ = some (.int .u64 b.prev) ∧ W.cell? ⟨w0.heap.size + 1, 6, none⟩ = some (.int .u64 b.commit) ∧ W.cell? ⟨w0.heap.size + 1, 7, none⟩ = some (.int .u64 b.mark) ∧ W.cell? ⟨w0.heap.size + 1, 8, none⟩ = some (.bool b.ok) ∧ W.cell? ⟨w0.heap.size + 1, 9, none⟩ = some (.slice b.A b.n b.c) ∧ W.cell? ⟨w0.heap.size + 1, 10, none⟩ = some (.string b.snap) := ⟨h, h.x.cell 0, h.x.cell 1, h.x.cell 2, h.x.cell 3, h.x.cell 4, h.x.cell 5, h.x.cell 6, h.x.cell 7, h.x.cell 8, h.x.cell 9, h.x.cell 10, h.y.cell 0, h.y.cell 1, h.y.cell 2, h.y.cell 3, h.y.cell 4, h.y.cell 5, h.y.cell 6, h.y.cell 7, h.y.cell 8, h.y.cell 9, h.y.cell 10⟩
theorem Dm.start (w : World) (a b : Ms) (hx : Ents w.heap.size a.A a.n a.es w) (hy : Ents w.heap.size b.A b.n b.es w) : Dm w a b ((w.alloc (Obj.cells (mc a) 29)).alloc (Obj.cells (mc b) 29)) := by
  have hb : Below w.heap.size w ((w.alloc (Obj.cells (mc a) 29)).alloc (Obj.cells (mc b) 29)) := ((Below.refl _ _).alloc (Nat.le_refl _) _).alloc (by simp) _
  have h := heap_alloc_new (w.alloc (Obj.cells (mc a) 29)) (Obj.cells (mc b) 29)
  rw [show (w.alloc (Obj.cells (mc a) 29)).heap.size = w.heap.size + 1 by simp] at h
  exact ⟨⟨(Lib.alloc_old _ _ _ (by simp)).trans (heap_alloc_new w _)⟩, ⟨h⟩, (hx.below hb).mr hb.size, (hy.below hb).mr hb.size, hb⟩
end
theorem all11p (b0 b1 b2 b3 b4 b5 b6 b7 b8 b9 b10 : Bool) (W : World) :
    Calls Tryz.prog 52 #[.slice (some ⟨W.heap.size, 0, none⟩) 11 11] (W.alloc (.cells #[.bool b0, .bool b1, .bool b2, .bool b3, .bool b4, .bool b5, .bool b6, .bool b7, .bool b8, .bool b9, .bool b10] 4)) fun e w' => e = .returned (.bool ([b0, b1, b2, b3, b4, b5, b6, b7, b8, b9, b10].all id)) ∧ (W.alloc (.cells #[.bool b0, .bool b1, .bool b2, .bool b3, .bool b4, .bool b5, .bool b6, .bool b7, .bool b8, .bool b9, .bool b10] 4)) = w' :=
  all_any [b0, b1, b2, b3, b4, b5, b6, b7, b8, b9, b10] 11 11 W.heap.size _ rfl (by omega) (fun j x h => cells_bools [b0, b1, b2, b3, b4, b5, b6, b7, b8, b9, b10] W j x h)

end Go.Proofs.YtpdbeijfchmlgaaGreat
namespace Go.Proofs.YtpdbeijfchmlgaaGreat
open Go.RowKit
set_option linter.unusedVariables false

set_option maxRecDepth 100000 in
set_option maxHeartbeats 1000000 in
theorem same_any (a b : En) (w : World) :
    Calls Tryz.prog 54 #[ev a, ev b] w fun r w' => r = .returned (.bool (sameB a b)) ∧ Below w.heap.size w w' := by
  have he := fun W => eql_entry a b W
  go_enter Tryz.func54, Tryz.ntmps54
  go_wp2
  go_ret
  exact ⟨rfl, ((Below.refl _ _).alloc (Nat.le_refl _) _).alloc (by simp) _⟩
set_option maxRecDepth 100000 in
set_option maxHeartbeats 4000000 in
theorem equal_any (A A' : Option Addr) (n c n' c' : Nat) (es fs : List En) (w : World) (hE : Ents w.heap.size A n es w) (hF : Ents w.heap.size A' n' fs w) (hn : (n : Int) ≤ 9223372036854775807) (hn' : (n' : Int) ≤ 9223372036854775807) :
    Calls Tryz.prog 53 #[.slice A n c, .slice A' n' c', .func (.func 54) #[] #[]] w fun r w' => r = .returned (.bool (entsB n n' es fs)) ∧ Below w.heap.size w w' := by
  have HE := Lib.hid hE
  have HF := Lib.hid hF
  clear hE hF
  by_cases hnn : n = n'
  · subst hnn
    have hT : Hid (entsB n n es fs = preB es fs n) := by show _ = _; unfold entsB; rw [decide_eq_true rfl, Bool.true_and]
    go_enter Tryz.func53, Tryz.ntmps53
    go_wp2
    go_loopw [17] (fun i wr => ∃ k : Nat, k ≤ n ∧ i = .int .i64 k ∧ Hid (preB es fs k = true) ∧ Below w.heap.size w wr) (fun i _ => n - (intOf i).toNat)
    case atStart => exact ⟨0, Nat.zero_le _, rfl, rfl, Below.refl _ _⟩
    case round =>
      obtain ⟨k, hk, rfl, HI, hb⟩ := hrel
      by_cases hlt : k < n
      · obtain ⟨e, he⟩ : ∃ e, es[k]? = some e := ⟨_, List.getElem?_eq_getElem (by rw [HE.out.len]; exact hlt)⟩
        obtain ⟨f, hf⟩ : ∃ f, fs[k]? = some f := ⟨_, List.getElem?_eq_getElem (by rw [HF.out.len]; exact hlt)⟩
        obtain ⟨a, hA, hB, hc⟩ := (HE.out.below hb).at_ k e he
        obtain ⟨a', hA', hB', hc'⟩ := (HF.out.below hb).at_ k f hf
        have hst : Hid (preB es fs (k + 1) = (preB es fs k && sameB e f)) := preB_step es fs k e f he hf
        have hlb : (a.add (k * 11)).block < wr.heap.size := by rw [block_of_add]; exact Nat.lt_of_lt_of_le hB hb.size
        have hlb' : (a'.add (k * 11)).block < wr.heap.size := by rw [block_of_add]; exact Nat.lt_of_lt_of_le hB' hb.size
        obtain ⟨W1, hW1⟩ : ∃ W1, W1 = wr.alloc (Obj.cells (ec e) 24) := ⟨_, rfl⟩
        have hb1 : Below wr.heap.size wr W1 := by rw [hW1]; exact (Below.refl _ _).alloc (Nat.le_refl _) _
        have hc1 : ∀ j, j < 11 → W1.cell? ((a'.add (k * 11)).add j) = (ec f)[j]? := fun j hj => (hb1.cell (by rw [block_of_add]; exact hlb')).trans (hc' j hj)
        have d0 : wr.cell? (a.add (k * 11)) = some (.int .u64 e.term) := hc 0 (by omega)
        have d1 : wr.cell? ⟨(a.add (k * 11)).block, (a.add (k * 11)).off + 1, none⟩ = some (.int .u64 e.index) := hc 1 (by omega)
        have d2 : wr.cell? ⟨(a.add (k * 11)).block, (a.add (k * 11)).off + 2, none⟩ = some (.int .i64 e.kind) := hc 2 (by omega)
        have d3 : wr.cell? ⟨(a.add (k * 11)).block, (a.add (k * 11)).off + 3, none⟩ = some (.int .u64 e.client) := hc 3 (by omega)
        have d4 : wr.cell? ⟨(a.add (k * 11)).block, (a.add (k * 11)).off + 4, none⟩ = some (.int .u64 e.seq) := hc 4 (by omega)
        have d5 : wr.cell? ⟨(a.add (k * 11)).block, (a.add (k * 11)).off + 5, none⟩ = some (.int .u64 e.block) := hc 5 (by omega)
        have d6 : wr.cell? ⟨(a.add (k * 11)).block, (a.add (k * 11)).off + 6, none⟩ = some (.int .u64 e.many) := hc 6 (by omega)
        have d7 : wr.cell? ⟨(a.add (k * 11)).block, (a.add (k * 11)).off + 7, none⟩ = some (.int .i64 e.node) := hc 7 (by omega)
        have d8 : wr.cell? ⟨(a.add (k * 11)).block, (a.add (k * 11)).off + 8, none⟩ = some (.int .i64 e.level) := hc 8 (by omega)
        have d9 : wr.cell? ⟨(a.add (k * 11)).block, (a.add (k * 11)).off + 9, none⟩ = some (.string e.data) := hc 9 (by omega)
        have d10 : wr.cell? ⟨(a.add (k * 11)).block, (a.add (k * 11)).off + 10, none⟩ = some (.string e.old) := hc 10 (by omega)
        have f0 : W1.cell? (a'.add (k * 11)) = some (.int .u64 f.term) := hc1 0 (by omega)
        have f1 : W1.cell? ⟨(a'.add (k * 11)).block, (a'.add (k * 11)).off + 1, none⟩ = some (.int .u64 f.index) := hc1 1 (by omega)
        have f2 : W1.cell? ⟨(a'.add (k * 11)).block, (a'.add (k * 11)).off + 2, none⟩ = some (.int .i64 f.kind) := hc1 2 (by omega)
        have f3 : W1.cell? ⟨(a'.add (k * 11)).block, (a'.add (k * 11)).off + 3, none⟩ = some (.int .u64 f.client) := hc1 3 (by omega)
        have f4 : W1.cell? ⟨(a'.add (k * 11)).block, (a'.add (k * 11)).off + 4, none⟩ = some (.int .u64 f.seq) := hc1 4 (by omega)
        have f5 : W1.cell? ⟨(a'.add (k * 11)).block, (a'.add (k * 11)).off + 5, none⟩ = some (.int .u64 f.block) := hc1 5 (by omega)
        have f6 : W1.cell? ⟨(a'.add (k * 11)).block, (a'.add (k * 11)).off + 6, none⟩ = some (.int .u64 f.many) := hc1 6 (by omega)
        have f7 : W1.cell? ⟨(a'.add (k * 11)).block, (a'.add (k * 11)).off + 7, none⟩ = some (.int .i64 f.node) := hc1 7 (by omega)
        have f8 : W1.cell? ⟨(a'.add (k * 11)).block, (a'.add (k * 11)).off + 8, none⟩ = some (.int .i64 f.level) := hc1 8 (by omega)
        have f9 : W1.cell? ⟨(a'.add (k * 11)).block, (a'.add (k * 11)).off + 9, none⟩ = some (.string f.data) := hc1 9 (by omega)
        have f10 : W1.cell? ⟨(a'.add (k * 11)).block, (a'.add (k * 11)).off + 10, none⟩ = some (.string f.old) := hc1 10 (by omega)
        rw [hW1] at f0 f1 f2 f3 f4 f5 f6 f7 f8 f9 f10
        have K := Lib.hid (same_any e f ((wr.alloc (Obj.cells (ec e) 24)).alloc (Obj.cells (ec f) 24)))
        have HB := Lib.hid hb
        have HB2 : Hid (Below w.heap.size w ((wr.alloc (Obj.cells (ec e) 24)).alloc (Obj.cells (ec f) 24))) := (hb.alloc hb.size _).alloc (Nat.le_trans hb.size (by simp)) _
        have hz : w.heap.size ≤ ((wr.alloc (Obj.cells (ec e) 24)).alloc (Obj.cells (ec f) 24)).heap.size := HB2.out.size
        have HZ := Lib.hid hz
        clear hb hc hc' hc1 he hf hB hB' hb1 hW1 hz hlb hlb'
        rw [hA, hA']
        clear hA hA'
        cases hs : sameB e f with
        | true =>
          rw [hs] at K hst
          have H2 : Hid (preB es fs (k + 1) = true) := by show _ = _; rw [hst.out, HI.out]; rfl
          clear hs
          go_wp2_with (go_at_call 54; (with_reducible refine K.out.mono ?_); rintro r w1 ⟨rfl, hb1⟩)
          go_roundw
          case rel => exact ⟨k + 1, by omega, by go_num, H2, HB2.out.trans (hb1.mono HZ.out)⟩
          case measure => simp [intOf]; omega
        | false =>
          rw [hs] at K hst
          have H2 : Hid (preB es fs n = false) := preB_stop (k := k + 1) (by rw [hst.out, HI.out]; rfl) (by omega) HE.out.len HF.out.len
          clear hs
          go_wp2_with (go_at_call 54; (with_reducible refine K.out.mono ?_); rintro r w1 ⟨rfl, hb1⟩)
          go_ret
          exact ⟨ret_bool (by rw [hT.out, H2.out]), HB2.out.trans (hb1.mono HZ.out)⟩
      · have hkn : k = n := by omega
        subst hkn
        go_wp2
        go_ret
        exact ⟨ret_bool (by rw [hT.out, HI.out]), hb⟩
  · have hT : Hid (entsB n n' es fs = false) := entsB_len hnn
    have h1 : ¬ (n : Int) = (n' : Int) := by omega
    have h2 : ((n : Int) == (n' : Int)) = false := beqF h1
    have h3 : ((n : Int) != (n' : Int)) = true := by simp only [bne, h2]; rfl
    clear hnn
    go_enter Tryz.func53, Tryz.ntmps53
    go_wp2
    go_ret
    exact ⟨ret_bool hT.out.symm, Below.refl _ _⟩

set_option maxRecDepth 100000 in
set_option maxHeartbeats 16000000 in
theorem msame_any (a b : Ms) (w0 : World) (hx : Ents w0.heap.size a.A a.n a.es w0) (hy : Ents w0.heap.size b.A b.n b.es w0) (hn : (a.n : Int) ≤ 9223372036854775807) (hn' : (b.n : Int) ≤ 9223372036854775807) :
    Calls Tryz.prog 21 #[mv a, mv b] w0 fun r w' => r = .returned (.bool (msameB a b)) ∧ Below w0.heap.size w0 w' := by
  obtain ⟨W, hW⟩ : ∃ W, W = (w0.alloc (Obj.cells (mc a) 29)).alloc (Obj.cells (mc b) 29) := ⟨_, rfl⟩
  have hD : Dm w0 a b W := hW ▸ Dm.start w0 a b hx hy
  obtain ⟨eb, heb⟩ : ∃ eb, eb = entsB a.n b.n a.es b.es := ⟨_, rfl⟩
  have K47 := Lib.hid (fun (W : World) (h : Dm w0 a b W) => (equal_any a.A b.A a.n a.c b.n b.c a.es b.es W h.ex h.ey hn hn').mono fun r w' ⟨h1, h2⟩ => And.intro (show r = Ending.returned (.bool eb) by rw [h1, heb]) (h.on h2).all)
  have HM : Hid ((a.kind == b.kind && (a.frm == b.frm && (a.dst == b.dst && (a.term == b.term && (a.index == b.index && (a.prev == b.prev && (a.commit == b.commit && (a.mark == b.mark && (a.ok == b.ok && (a.snap.toList == b.snap.toList && eb)))))))))) = msameB a b) := msame_all a b eb heb
  have HW := Lib.hid hW
  have hDd := hD.drew
  have r0 : W.cell? ⟨w0.heap.size, 0, none⟩ = some (.int .i64 a.kind) := hD.x.cell 0
  have r1 : W.cell? ⟨w0.heap.size, 1, none⟩ = some (.int .i64 a.frm) := hD.x.cell 1
  have r2 : W.cell? ⟨w0.heap.size, 2, none⟩ = some (.int .i64 a.dst) := hD.x.cell 2
  have r3 : W.cell? ⟨w0.heap.size, 3, none⟩ = some (.int .u64 a.term) := hD.x.cell 3
  have r4 : W.cell? ⟨w0.heap.size, 4, none⟩ = some (.int .u64 a.index) := hD.x.cell 4
  have r5 : W.cell? ⟨w0.heap.size, 5, none⟩ = some (.int .u64 a.prev) := hD.x.cell 5
  have r6 : W.cell? ⟨w0.heap.size, 6, none⟩ = some (.int .u64 a.commit) := hD.x.cell 6
  have r7 : W.cell? ⟨w0.heap.size, 7, none⟩ = some (.int .u64 a.mark) := hD.x.cell 7
  have r8 : W.cell? ⟨w0.heap.size, 8, none⟩ = some (.bool a.ok) := hD.x.cell 8
  have r9 : W.cell? ⟨w0.heap.size, 9, none⟩ = some (.slice a.A a.n a.c) := hD.x.cell 9
  have r10 : W.cell? ⟨w0.heap.size, 10, none⟩ = some (.string a.snap) := hD.x.cell 10
  have t0 : W.cell? ⟨w0.heap.size + 1, 0, none⟩ = some (.int .i64 b.kind) := hD.y.cell 0
  have t1 : W.cell? ⟨w0.heap.size + 1, 1, none⟩ = some (.int .i64 b.frm) := hD.y.cell 1
  have t2 : W.cell? ⟨w0.heap.size + 1, 2, none⟩ = some (.int .i64 b.dst) := hD.y.cell 2
  have t3 : W.cell? ⟨w0.heap.size + 1, 3, none⟩ = some (.int .u64 b.term) := hD.y.cell 3
  have t4 : W.cell? ⟨w0.heap.size + 1, 4, none⟩ = some (.int .u64 b.index) := hD.y.cell 4
  have t5 : W.cell? ⟨w0.heap.size + 1, 5, none⟩ = some (.int .u64 b.prev) := hD.y.cell 5
  have t6 : W.cell? ⟨w0.heap.size + 1, 6, none⟩ = some (.int .u64 b.commit) := hD.y.cell 6
  have t7 : W.cell? ⟨w0.heap.size + 1, 7, none⟩ = some (.int .u64 b.mark) := hD.y.cell 7
  have t8 : W.cell? ⟨w0.heap.size + 1, 8, none⟩ = some (.bool b.ok) := hD.y.cell 8
  have t9 : W.cell? ⟨w0.heap.size + 1, 9, none⟩ = some (.slice b.A b.n b.c) := hD.y.cell 9
  have t10 : W.cell? ⟨w0.heap.size + 1, 10, none⟩ = some (.string b.snap) := hD.y.cell 10
  clear hW hD hx hy heb
  go_enter Tryz.func21, Tryz.ntmps21
  go_wp2_with fail
  rw [← HW.out]
  go_region_held3 (fun w' => Dm w0 a b w' ∧ w'.cell? ⟨w0.heap.size, 0, none⟩ = some (.int .i64 a.kind) ∧ w'.cell? ⟨w0.heap.size, 1, none⟩ = some (.int .i64 a.frm) ∧ w'.cell? ⟨w0.heap.size, 2, none⟩ = some (.int .i64 a.dst) ∧ w'.cell? ⟨w0.heap.size, 3, none⟩ = some (.int .u64 a.term) ∧ w'.cell? ⟨w0.heap.size, 4, none⟩ = some (.int .u64 a.index) ∧ w'.cell? ⟨w0.heap.size, 5, none⟩ = some (.int .u64 a.prev) ∧ w'.cell? ⟨w0.heap.size, 6, none⟩ = some (.int .u64 a.commit) ∧ w'.cell? ⟨w0.heap.size, 7, none⟩ = some (.int .u64 a.mark) ∧ w'.cell? ⟨w0.heap.size, 8, none⟩ = some (.bool a.ok) ∧ w'.cell? ⟨w0.heap.size, 9, none⟩ = some (.slice a.A a.n a.c) ∧ w'.cell? ⟨w0.heap.size, 10, none⟩ = some (.string a.snap) ∧ w'.cell? ⟨w0.heap.size + 1, 0, none⟩ = some (.int .i64 b.kind) ∧ w'.cell? ⟨w0.heap.size + 1, 1, none⟩ = some (.int .i64 b.frm) ∧ w'.cell? ⟨w0.heap.size + 1, 2, none⟩ = some (.int .i64 b.dst) ∧ w'.cell? ⟨w0.heap.size + 1, 3, none⟩ = some (.int .u64 b.term) ∧ w'.cell? ⟨w0.heap.size + 1, 4, none⟩ = some (.int .u64 b.index) ∧ w'.cell? ⟨w0.heap.size + 1, 5, none⟩ = some (.int .u64 b.prev) ∧ w'.cell? ⟨w0.heap.size + 1, 6, none⟩ = some (.int .u64 b.commit) ∧ w'.cell? ⟨w0.heap.size + 1, 7, none⟩ = some (.int .u64 b.mark) ∧ w'.cell? ⟨w0.heap.size + 1, 8, none⟩ = some (.bool b.ok) ∧ w'.cell? ⟨w0.heap.size + 1, 9, none⟩ = some (.slice b.A b.n b.c) ∧ w'.cell? ⟨w0.heap.size + 1, 10, none⟩ = some (.string b.snap))
    (first | exact ⟨hDd, r0, r1, r2, r3, r4, r5, r6, r7, r8, r9, r10, t0, t1, t2, t3, t4, t5, t6, t7, t8, t9, t10⟩ | assumption | (refine ⟨?_, ?_, ?_, ?_, ?_, ?_, ?_, ?_, ?_, ?_, ?_, ?_, ?_, ?_, ?_, ?_, ?_, ?_, ?_, ?_, ?_, ?_, ?_⟩ <;> assumption) | exact (Dm.on (And.left (by assumption)) ((Below.refl _ _).alloc (Nat.le_refl _) _)).all | exact (Dm.on (by assumption) ((Below.refl _ _).alloc (Nat.le_refl _) _)).all)
    (first
      | (go_at_call 53; (with_reducible refine (K47.out _ (by assumption)).mono ?_); rintro r w5 ⟨rfl, s5, e0, e1, e2, e3, e4, e5, e6, e7, e8, e9, e10, f0, f1, f2, f3, f4, f5, f6, f7, f8, f9, f10⟩)
      | (go_at_call 52; (with_reducible refine (all11p _ _ _ _ _ _ _ _ _ _ _ _).mono ?_); rintro r w6 ⟨rfl, rfl⟩))
  all_goals
    rename_i hk
    have hbe := hk.1.be
    clear hk
    go_wp2
    go_ret
    exact ⟨ret_bool HM.out, hbe⟩
end Go.Proofs.YtpdbeijfchmlgaaGreat
namespace Go.Proofs.YtpdbeijfchmlgaaGreat
open Go.RowKit
set_option linter.unusedVariables false

theorem msame_len {a b : Ms} (h : a.n ≠ b.n) : msameB a b = false := by
  unfold msameB
  rw [entsB_len h]
  simp
theorem msame_pre {a b : Ms} (h : preB a.es b.es a.n = false) : msameB a b = false := by
  unfold msameB entsB
  rw [h]
  simp
theorem msame_eq {a b : Ms} (hn : a.n = b.n) (h : preB a.es b.es a.n = true) : msameB a b = (scalB a b).all id := by
  unfold msameB entsB
  rw [h, decide_eq_true hn]
  simp

end Go.Proofs.YtpdbeijfchmlgaaGreat
namespace Go.Proofs.YtpdbeijfchmlgaaGreat
open Go.RowKit
set_option linter.unusedVariables false
set_option linter.unusedSimpArgs false

theorem mright_any5 (m : Ms) (w : World) (hE : Ents w.heap.size m.A m.n m.es w) (hn : (m.n : Int) ≤ 9223372036854775807) (hok : ∀ e ∈ m.es, e.Ok) :
    Calls Tryz.prog 50 #[mv m] w fun r w' => r = .returned (.bool (mrightB m)) ∧ Below w.heap.size w w' := by
  by_cases h1 : 1 ≤ m.frm <;> by_cases h2 : 1 ≤ m.dst
  · exact mright_11 m w hE hn hok h1 h2
  · exact mright_10 m w hE hn hok h1 (by omega)
  · exact mright_01 m w hE hn hok (by omega) h2
  · exact mright_00 m w hE hn hok (by omega) (by omega)
/-- Entries, one behind the other. -/
def pbs : List En → ByteArray
  | [] => ⟨#[]⟩
  | e :: l => pb e ++ pbs l
/-- A message's bytes. -/
def pbm (m : Ms) : ByteArray :=
  fN m.kind 1 ++ fN m.frm 1 ++ fN m.dst 1 ++ fN m.term 8 ++ fN m.index 8 ++ fN m.prev 8 ++ fN m.commit 8 ++ fN m.mark 8 ++ fN (bitI m.ok) 1 ++ fN m.n 1 ++ pbs m.es ++ fN m.snap.size 4 ++ m.snap
def mmayB (m : Ms) : Bool := mrightB m && (mlvl m == 1)
def putM (m : Ms) : ByteArray := if mmayB m then pbm m else ⟨#[]⟩
theorem pbs_snoc : ∀ (l : List En) (e : En), pbs (l ++ [e]) = pbs l ++ pb e
  | [], e => by
    show pb e ++ ⟨#[]⟩ = ⟨#[]⟩ ++ pb e
    apply ByteArray.ext; simp
  | a :: l, e => by
    show pb a ++ pbs (l ++ [e]) = pb a ++ pbs l ++ pb e
    rw [pbs_snoc l e, Vi.append_assoc3]
theorem pbs_size : ∀ (l : List En), (∀ e ∈ l, Few e) → (pbs l).size = 110 * l.length
  | [], _ => rfl
  | a :: l, h => by
    show (pb a ++ pbs l).size = _
    rw [ByteArray.size_append, pb_size (h a (by simp)), pbs_size l (fun e he => h e (by simp [he])), List.length_cons]
    omega
/-- What holds of a message that may be. -/
structure MFew (m : Ms) : Prop where
  k0 : 0 ≤ m.kind
  k1 : m.kind ≤ 10
  f0 : 0 ≤ m.frm
  f1 : m.frm ≤ 7
  o0 : 0 ≤ m.dst
  o1 : m.dst ≤ 7
  n1 : m.n ≤ 64
  s1 : m.snap.size ≤ 16384
  es : ∀ e ∈ m.es, Few e
theorem mfew_of {m : Ms} (wd : m.Wide) (h : mrightB m = true) : MFew m := by
  unfold mrightB at h
  simp only [Bool.and_eq_true, Bool.not_eq_true'] at h
  obtain ⟨h1, h2⟩ := h
  have hes : ∀ e ∈ m.es, Few e := by
    intro e he
    refine few_of (wd.eo e he) ?_
    unfold hasWrong at h2
    rw [List.any_eq_false] at h2
    simpa using h2 e he
  unfold masksB masks at h1
  simp only [List.all_cons, List.all_nil, id, Bool.and_true, Bool.and_eq_true, decide_eq_true_eq, lim_facts, IntKind.wrap_u64] at h1
  obtain ⟨a0, a1, a2, a3, a4, a5, a6, a7, a8, a9⟩ := h1
  have f : 1 ≤ m.kind ∧ m.kind ≤ 10 := of_decide_eq_true a0
  have q1 := wd.n1
  have q2 := wd.s1
  refine ⟨by omega, f.2, by omega, a1.2, by omega, a2.2, ?_, ?_, hes⟩
  · exact both (fun h => by have := a8.1 h; omega) (fun h => by have := a8.2 h; omega)
  · exact both (fun h => by have := a9.1 h; omega) (fun h => by have := a9.2 h; omega)
theorem pbm_size {m : Ms} (h : MFew m) (hl : m.es.length = m.n) : (pbm m).size = 49 + 110 * m.n + m.snap.size := by
  unfold pbm
  simp only [ByteArray.size_append, pbs_size _ h.es, fN_size _ 1 (by omega) (by omega), fN_size _ 8 (by omega) (by omega), fN_size _ 4 (by omega) (by omega)]
  rw [hl]
  omega

/-- What stands in the midst of a message's being put. -/
structure Wm (w0 : World) (B b : Nat) (m : Ms) (x : ByteArray) (r : Nat) (w : World) : Prop where
  s : Ws w0 B b x w
  lb : b < w0.heap.size
  box : w.heap[w0.heap.size]? = some (.cells (mc m) 29 (0, 0))
  fn : w.heap[w0.heap.size + 1]? = some (.cells #[.func (.func 108) #[.pointer (some ⟨b, 0, none⟩)] #[]] 135 (0, 0))
  en : Ents B m.A m.n m.es w
  sz : x.size + r ≤ 140737488000000
section
variable {w0 : World} {B b : Nat} {m : Ms} {x : ByteArray} {r : Nat} {w w1 : World}
theorem Wm.cell (h : Wm w0 B b m x r w) (i : Nat) : w.cell? ⟨w0.heap.size, i, none⟩ = (mc m)[i]? := cell_of_row w _ i _ 29 (0, 0) h.box
theorem Wm.fcell (h : Wm w0 B b m x r w) : w.cell? ⟨w0.heap.size + 1, 0, none⟩ = some (.func (.func 108) #[.pointer (some ⟨b, 0, none⟩)] #[]) := cell_of_row w _ 0 _ 135 (0, 0) h.fn
theorem Wm.drew (h : Wm w0 B b m x r w) : Wm w0 B b m x r w.drew := ⟨h.s.drew, h.lb, h.box, h.fn, h.en.below (Below.refl _ w).drew, h.sz⟩
theorem Wm.below (h : Wm w0 B b m x r w) (hb : Below w.heap.size w w1) : Wm w0 B b m x r w1 :=
  ⟨h.s.below hb, h.lb, (hb.block _ (Array.getElem?_eq_some_iff.1 h.box).1).trans h.box, (hb.block _ (Array.getElem?_eq_some_iff.1 h.fn).1).trans h.fn, h.en.below (hb.mono h.s.sz), h.sz⟩
theorem Wm.on {y : ByteArray} {r' : Nat} (h : Wm w0 B b m x r w) (k : Ws w B b (x ++ y) w1) (hr : y.size + r' ≤ r) : Wm w0 B b m (x ++ y) r' w1 := by
  have h1 := h.lb
  have h2 := h.sz
  exact ⟨⟨k.t, h.s.be.trans k.be, h.s.ok.trans k.ok, k.sz, Nat.le_trans h.s.sw k.sw⟩, h.lb, kept_cells k.ok h.box (by omega) (by decide), kept_cells k.ok h.fn (by omega) (by decide), h.en.below k.be, by rw [ByteArray.size_append]; omega⟩
theorem Wm.all (h : Wm w0 B b m x r w) : Wm w0 B b m x r w ∧ w.cell? ⟨w0.heap.size, 0, none⟩ = some (.int .i64 m.kind) ∧ w.cell? ⟨w0.heap.size, 1, none⟩ = some (.int .i64 m.frm) ∧ w.cell? ⟨w0.heap.size, 2, none⟩ = some (.int .i64 m.dst) ∧ w.cell? ⟨w0.heap.size, 3, none⟩ = some (.int .u64 m.term) ∧ w.cell? ⟨w0.heap.size, 4, none⟩ = some (.int .u64 m.index) ∧ w.cell? ⟨w0.heap.size, 5, none⟩ = some (.int .u64 m.prev) ∧ w.cell? ⟨w0.heap.size, 6, none⟩ = some (.int .u64 m.commit) ∧ w.cell? ⟨w0.heap.size, 7, none⟩ = some (.int .u64 m.mark) ∧ w.cell? ⟨w0.heap.size, 8, none⟩ = some (.bool m.ok) ∧ w.cell? ⟨w0.heap.size, 9, none⟩ = some (.slice m.A m.n m.c) ∧ w.cell? ⟨w0.heap.size, 10, none⟩ = some (.string m.snap) ∧ w.cell? ⟨w0.heap.size + 1, 0, none⟩ = some (.func (.func 108) #[.pointer (some ⟨b, 0, none⟩)] #[]) := ⟨h, h.cell 0, h.cell 1, h.cell 2, h.cell 3, h.cell 4, h.cell 5, h.cell 6, h.cell 7, h.cell 8, h.cell 9, h.cell 10, h.fcell⟩
end
theorem wm_number (w0 : World) (B b : Nat) (m : Ms) (x : ByteArray) (r : Nat) (v k : Int) (w : World) (h : Wm w0 B b m x r w) (hr : 8 ≤ r) (hv : 0 ≤ v) (hk : 0 ≤ k ∧ k ≤ 8) :
    Calls Tryz.prog 108 #[.pointer (some ⟨b, 0, none⟩), .int .u64 v, .int .i64 k] w fun q w' => q = .returned (.tuple #[]) ∧ Wm w0 B b m (x ++ fN v k) (r - 8) w' ∧ w'.cell? ⟨w0.heap.size, 0, none⟩ = some (.int .i64 m.kind) ∧ w'.cell? ⟨w0.heap.size, 1, none⟩ = some (.int .i64 m.frm) ∧ w'.cell? ⟨w0.heap.size, 2, none⟩ = some (.int .i64 m.dst) ∧ w'.cell? ⟨w0.heap.size, 3, none⟩ = some (.int .u64 m.term) ∧ w'.cell? ⟨w0.heap.size, 4, none⟩ = some (.int .u64 m.index) ∧ w'.cell? ⟨w0.heap.size, 5, none⟩ = some (.int .u64 m.prev) ∧ w'.cell? ⟨w0.heap.size, 6, none⟩ = some (.int .u64 m.commit) ∧ w'.cell? ⟨w0.heap.size, 7, none⟩ = some (.int .u64 m.mark) ∧ w'.cell? ⟨w0.heap.size, 8, none⟩ = some (.bool m.ok) ∧ w'.cell? ⟨w0.heap.size, 9, none⟩ = some (.slice m.A m.n m.c) ∧ w'.cell? ⟨w0.heap.size, 10, none⟩ = some (.string m.snap) ∧ w'.cell? ⟨w0.heap.size + 1, 0, none⟩ = some (.func (.func 108) #[.pointer (some ⟨b, 0, none⟩)] #[]) := by
  obtain ⟨n, rfl⟩ := Int.eq_ofNat_of_zero_le hv
  obtain ⟨j, rfl⟩ := Int.eq_ofNat_of_zero_le hk.1
  have hs : (fN n j).size = j := by rw [fN_size _ _ (by omega) (by omega)]; omega
  have h1 := h.sz
  exact (number_any B b n j x w h.s.t (by omega) h.s.sz (by omega)).mono fun q w' ⟨h2, h3⟩ => ⟨h2, (h.on (y := fN n j) h3 (by omega)).all⟩
set_option maxHeartbeats 1000000 in
set_option maxRecDepth 100000 in
theorem wm_small (w0 : World) (B b : Nat) (m : Ms) (x : ByteArray) (r : Nat) (v : Int) (w : World) (h : Wm w0 B b m x r w) (hr : 8 ≤ r) (hv : 0 ≤ v ∧ v ≤ 255) :
    Calls Tryz.prog 130 #[.int .i64 v, .pointer (some ⟨w0.heap.size + 1, 0, none⟩)] w fun q w' => q = .returned (.tuple #[]) ∧ Wm w0 B b m (x ++ fN v 1) (r - 8) w' ∧ w'.cell? ⟨w0.heap.size, 0, none⟩ = some (.int .i64 m.kind) ∧ w'.cell? ⟨w0.heap.size, 1, none⟩ = some (.int .i64 m.frm) ∧ w'.cell? ⟨w0.heap.size, 2, none⟩ = some (.int .i64 m.dst) ∧ w'.cell? ⟨w0.heap.size, 3, none⟩ = some (.int .u64 m.term) ∧ w'.cell? ⟨w0.heap.size, 4, none⟩ = some (.int .u64 m.index) ∧ w'.cell? ⟨w0.heap.size, 5, none⟩ = some (.int .u64 m.prev) ∧ w'.cell? ⟨w0.heap.size, 6, none⟩ = some (.int .u64 m.commit) ∧ w'.cell? ⟨w0.heap.size, 7, none⟩ = some (.int .u64 m.mark) ∧ w'.cell? ⟨w0.heap.size, 8, none⟩ = some (.bool m.ok) ∧ w'.cell? ⟨w0.heap.size, 9, none⟩ = some (.slice m.A m.n m.c) ∧ w'.cell? ⟨w0.heap.size, 10, none⟩ = some (.string m.snap) ∧ w'.cell? ⟨w0.heap.size + 1, 0, none⟩ = some (.func (.func 108) #[.pointer (some ⟨b, 0, none⟩)] #[]) := by
  have c := h.fcell
  have hw : IntKind.u64.wrap v = v := IntWalk.u64_in _ (by omega)
  have K := Lib.hid (wm_number w0 B b m x r v 1 w h hr hv.1 (by omega))
  clear h
  go_enter Tryz.func130, Tryz.ntmps130
  go_wp2_with (go_at_call 108; (with_reducible refine K.out.mono ?_); rintro q w1 ⟨rfl, h1⟩)
  go_end0
  exact ⟨rfl, h1⟩
theorem wm_write (w0 : World) (B b : Nat) (m : Ms) (x s : ByteArray) (r : Nat) (w : World) (h : Wm w0 B b m x r w) (hr : s.size ≤ r) :
    Calls Tryz.prog 110 #[.pointer (some ⟨b, 0, none⟩), .string s] w fun q w' => q = .returned (.tuple #[.int .i64 s.size, .nilIface]) ∧ Wm w0 B b m (x ++ s) (r - s.size) w' ∧ w'.cell? ⟨w0.heap.size, 0, none⟩ = some (.int .i64 m.kind) ∧ w'.cell? ⟨w0.heap.size, 1, none⟩ = some (.int .i64 m.frm) ∧ w'.cell? ⟨w0.heap.size, 2, none⟩ = some (.int .i64 m.dst) ∧ w'.cell? ⟨w0.heap.size, 3, none⟩ = some (.int .u64 m.term) ∧ w'.cell? ⟨w0.heap.size, 4, none⟩ = some (.int .u64 m.index) ∧ w'.cell? ⟨w0.heap.size, 5, none⟩ = some (.int .u64 m.prev) ∧ w'.cell? ⟨w0.heap.size, 6, none⟩ = some (.int .u64 m.commit) ∧ w'.cell? ⟨w0.heap.size, 7, none⟩ = some (.int .u64 m.mark) ∧ w'.cell? ⟨w0.heap.size, 8, none⟩ = some (.bool m.ok) ∧ w'.cell? ⟨w0.heap.size, 9, none⟩ = some (.slice m.A m.n m.c) ∧ w'.cell? ⟨w0.heap.size, 10, none⟩ = some (.string m.snap) ∧ w'.cell? ⟨w0.heap.size + 1, 0, none⟩ = some (.func (.func 108) #[.pointer (some ⟨b, 0, none⟩)] #[]) := by
  have h1 := h.sz
  exact (wwrite B b x s w h.s.t (by omega) h.s.sz).mono fun q w' ⟨h2, h3, h4, h5⟩ => ⟨h2, (h.on (w1 := w') (y := s) ⟨h3, h4, h5, Nat.le_trans h.s.sz h4.size, h4.size⟩ (by omega)).all⟩
theorem wm_entry (w0 : World) (B b : Nat) (m : Ms) (x : ByteArray) (r : Nat) (e : En) (w : World) (h : Wm w0 B b m x r w) (hr : 110 ≤ r) (hx : x.size ≤ 140737487000000) (ok : e.Ok) (fw : Few e) :
    Calls Tryz.prog 60 #[.pointer (some ⟨b, 0, none⟩), ev e] w fun q w' => q = .returned (.tuple #[]) ∧ Wm w0 B b m (x ++ pb e) (r - 110) w' ∧ w'.cell? ⟨w0.heap.size, 0, none⟩ = some (.int .i64 m.kind) ∧ w'.cell? ⟨w0.heap.size, 1, none⟩ = some (.int .i64 m.frm) ∧ w'.cell? ⟨w0.heap.size, 2, none⟩ = some (.int .i64 m.dst) ∧ w'.cell? ⟨w0.heap.size, 3, none⟩ = some (.int .u64 m.term) ∧ w'.cell? ⟨w0.heap.size, 4, none⟩ = some (.int .u64 m.index) ∧ w'.cell? ⟨w0.heap.size, 5, none⟩ = some (.int .u64 m.prev) ∧ w'.cell? ⟨w0.heap.size, 6, none⟩ = some (.int .u64 m.commit) ∧ w'.cell? ⟨w0.heap.size, 7, none⟩ = some (.int .u64 m.mark) ∧ w'.cell? ⟨w0.heap.size, 8, none⟩ = some (.bool m.ok) ∧ w'.cell? ⟨w0.heap.size, 9, none⟩ = some (.slice m.A m.n m.c) ∧ w'.cell? ⟨w0.heap.size, 10, none⟩ = some (.string m.snap) ∧ w'.cell? ⟨w0.heap.size + 1, 0, none⟩ = some (.func (.func 108) #[.pointer (some ⟨b, 0, none⟩)] #[]) :=
  (entry_any B b e x w h.s.t hx h.s.sz ok fw).mono fun q w' ⟨h2, h3⟩ => ⟨h2, (h.on (y := pb e) h3 (by rw [pb_size fw]; omega)).all⟩
set_option maxHeartbeats 400000 in
theorem bit63b (b : Bool) (w : World) : Calls Tryz.prog 131 #[.bool b] w fun q w' => q = .returned (.int .i64 (bitI b)) ∧ w' = w := by
  cases b
  all_goals
    go_enter Tryz.func131, Tryz.ntmps131
    go_wp2
    go_ret
    exact ⟨rfl, rfl⟩

set_option maxHeartbeats 16000000 in
set_option maxRecDepth 100000 in
theorem msg_any (B b : Nat) (m : Ms) (x : ByteArray) (w : World) (h : Wt B b x w) (hx : x.size ≤ 1000) (hB : B ≤ w.heap.size) (hE : Ents B m.A m.n m.es w) (wd : m.Wide) (fw : MFew m) :
    Calls Tryz.prog 74 #[.pointer (some ⟨b, 0, none⟩), mv m] w fun q w' => q = .returned (.tuple #[]) ∧ Ws w B b (x ++ pbm m) w' := by
  have hmf : ∀ (fn : Fn) (first cap : Array Value) (w : World), (Instr.makeFunc fn first cap).run Tryz.prog w = .ok (.func fn first cap) w := fun _ _ _ _ => rfl
  obtain ⟨W0, hW0⟩ : ∃ W0, W0 = (w.alloc (Obj.cells (mc m) 29)).alloc (Obj.cells #[.func (.func 108) #[.pointer (some ⟨b, 0, none⟩)] #[]] 135) := ⟨_, rfl⟩
  have hb0 : Below w.heap.size w W0 := by rw [hW0]; exact ((Below.refl _ _).alloc (Nat.le_refl _) _).alloc (by simp) _
  have hlt : b < w.heap.size := by rcases h with h | h <;> exact h.lt
  have S0 : Wm w B b m x 100000 W0 := by
    have k0 : W0.heap[w.heap.size]? = some (.cells (mc m) 29 (0, 0)) := by
      rw [hW0]; exact (Lib.alloc_old _ _ _ (by simp)).trans (heap_alloc_new w _)
    have k1 : W0.heap[w.heap.size + 1]? = some (.cells #[.func (.func 108) #[.pointer (some ⟨b, 0, none⟩)] #[]] 135 (0, 0)) := by
      have h := heap_alloc_new (w.alloc (Obj.cells (mc m) 29)) (Obj.cells #[.func (.func 108) #[.pointer (some ⟨b, 0, none⟩)] #[]] 135)
      rw [show (w.alloc (Obj.cells (mc m) 29)).heap.size = w.heap.size + 1 by simp] at h
      rw [hW0]; exact h
    exact ⟨(Ws.start h hB).below hb0, hlt, k0, k1, hE.below (hb0.mono hB), by omega⟩
  have S1 := S0.all
  have K53 := Lib.hid (wm_number w B b m)
  have K62 := Lib.hid (wm_small w B b m)
  have K55 := Lib.hid (wm_write w B b m)
  have K29 := Lib.hid (wm_entry w B b m)
  have K63 := Lib.hid (fun (W : World) => bit63b m.ok W)
  have g1 := wd.t0
  have g2 := wd.i0
  have g3 := wd.p0
  have g4 := wd.c0
  have g5 := wd.m0
  have q1 : 0 ≤ m.kind ∧ m.kind ≤ 255 := ⟨fw.k0, by have := fw.k1; omega⟩
  have q2 : 0 ≤ m.frm ∧ m.frm ≤ 255 := ⟨fw.f0, by have := fw.f1; omega⟩
  have q3 : 0 ≤ m.dst ∧ m.dst ≤ 255 := ⟨fw.o0, by have := fw.o1; omega⟩
  have hn64 : m.n ≤ 64 := fw.n1
  have q4 : 0 ≤ (m.n : Int) ∧ (m.n : Int) ≤ 255 := by omega
  have q5 : 0 ≤ bitI m.ok ∧ bitI m.ok ≤ 255 := by cases m.ok <;> decide
  have hs1 : m.snap.size ≤ 16384 := fw.s1
  have q6 : 0 ≤ (m.snap.size : Int) := by omega
  have hw6 : IntKind.u64.wrap (m.snap.size : Int) = (m.snap.size : Int) := IntWalk.u64_in _ (by omega)
  have HEN := Lib.hid (fun (k : Nat) (e : En) (he : m.es[k]? = some e) => And.intro (wd.eo e (List.mem_of_getElem? he)) (fw.es e (List.mem_of_getElem? he)))
  have HLEN := Lib.hid hE.len
  obtain ⟨S, c0, c1, c2, c3, c4, c5, c6, c7, c8, c9, c10, cf⟩ := S1
  have HW0 := Lib.hid hW0
  have HX := Lib.hid hx
  clear hW0 hb0 hlt S0 h hx hB hE wd fw
  go_enter Tryz.func74, Tryz.ntmps74
  go_upto_region 3 with fail
  rw [← HW0.out]
  clear HW0
  go_upto_region 14 with (first
    | (go_at_call 130; (with_reducible refine (K62.out _ _ _ _ S (by omega) (by assumption)).mono ?_); clear S c0 c1 c2 c3 c4 c5 c6 c7 c8 c9 c10 cf; rintro q w1 ⟨rfl, S, c0, c1, c2, c3, c4, c5, c6, c7, c8, c9, c10, cf⟩)
    | (go_at_call 131; (with_reducible refine (K63.out _).mono ?_); rintro q w1 ⟨rfl, rfl⟩)
    | (go_at_call 108; (with_reducible refine (K53.out _ _ _ _ _ S (by omega) (by assumption) (by omega)).mono ?_); clear S c0 c1 c2 c3 c4 c5 c6 c7 c8 c9 c10 cf; rintro q w1 ⟨rfl, S, c0, c1, c2, c3, c4, c5, c6, c7, c8, c9, c10, cf⟩))
  obtain ⟨y, hy⟩ : ∃ y, y = x ++ fN m.kind 1 ++ fN m.frm 1 ++ fN m.dst 1 ++ fN m.term 8 ++ fN m.index 8 ++ fN m.prev 8 ++ fN m.commit 8 ++ fN m.mark 8 ++ fN (bitI m.ok) 1 ++ fN m.n 1 := ⟨_, rfl⟩
  rw [← hy] at S
  have hys : y.size ≤ 2000 := by
    rw [hy]
    simp only [ByteArray.size_append, fN_size _ 1 (by omega) (by omega), fN_size _ 8 (by omega) (by omega)]
    have := HX.out
    omega
  have HY := Lib.hid hy
  have HYS := Lib.hid hys
  have HS := Lib.hid S
  clear hy hys S c0 c1 c2 c3 c4 c5 c6 c7 c8
  go_loopw [56] (fun i wr => ∃ k : Nat, k ≤ m.n ∧ i = .int .i64 k ∧ Wm w B b m (y ++ pbs (m.es.take k)) (90000 - 110 * k) wr) (fun i _ => m.n - (intOf i).toNat)
  case atStart =>
    refine ⟨0, Nat.zero_le _, rfl, ?_⟩
    have e0 : y ++ pbs (m.es.take 0) = y := by rw [List.take_zero]; show y ++ ⟨#[]⟩ = y; apply ByteArray.ext; simp
    rw [e0]
    have h := HS.out
    exact ⟨h.s, h.lb, h.box, h.fn, h.en, by have := h.sz; omega⟩
  case round =>
    obtain ⟨k, hk, rfl, hr⟩ := hrel
    by_cases hlt : k < m.n
    · obtain ⟨e, he⟩ : ∃ e, m.es[k]? = some e := ⟨_, List.getElem?_eq_getElem (by rw [HLEN.out]; exact hlt)⟩
      obtain ⟨a, hA, hBl, hc⟩ := hr.en.at_ k e he
      have hef := HEN.out k e he
      have hst : Hid (y ++ pbs (m.es.take k) ++ pb e = y ++ pbs (m.es.take (k + 1))) := by
        show _ = _
        rw [take_snoc he, pbs_snoc, Vi.append_assoc3]
      have hps : (y ++ pbs (m.es.take k)).size ≤ 20000 := by
        rw [ByteArray.size_append, pbs_size _ (fun e' he' => by
          obtain ⟨j, hj, hje⟩ := List.getElem_of_mem (List.mem_of_mem_take he')
          exact (HEN.out j e' (by rw [← hje]; exact List.getElem?_eq_getElem hj)).2), List.length_take]
        have := HYS.out
        omega
      have KE := Lib.hid (fun (W : World) (h : Wm w B b m (y ++ pbs (m.es.take k)) (90000 - 110 * k) W) => wm_entry w B b m _ _ e W h (by omega) (by omega) hef.1 hef.2)
      have d0 : wr.cell? (a.add (k * 11)) = some (.int .u64 e.term) := hc 0 (by omega)
      have d1 : wr.cell? ⟨(a.add (k * 11)).block, (a.add (k * 11)).off + 1, none⟩ = some (.int .u64 e.index) := hc 1 (by omega)
      have d2 : wr.cell? ⟨(a.add (k * 11)).block, (a.add (k * 11)).off + 2, none⟩ = some (.int .i64 e.kind) := hc 2 (by omega)
      have d3 : wr.cell? ⟨(a.add (k * 11)).block, (a.add (k * 11)).off + 3, none⟩ = some (.int .u64 e.client) := hc 3 (by omega)
      have d4 : wr.cell? ⟨(a.add (k * 11)).block, (a.add (k * 11)).off + 4, none⟩ = some (.int .u64 e.seq) := hc 4 (by omega)
      have d5 : wr.cell? ⟨(a.add (k * 11)).block, (a.add (k * 11)).off + 5, none⟩ = some (.int .u64 e.block) := hc 5 (by omega)
      have d6 : wr.cell? ⟨(a.add (k * 11)).block, (a.add (k * 11)).off + 6, none⟩ = some (.int .u64 e.many) := hc 6 (by omega)
      have d7 : wr.cell? ⟨(a.add (k * 11)).block, (a.add (k * 11)).off + 7, none⟩ = some (.int .i64 e.node) := hc 7 (by omega)
      have d8 : wr.cell? ⟨(a.add (k * 11)).block, (a.add (k * 11)).off + 8, none⟩ = some (.int .i64 e.level) := hc 8 (by omega)
      have d9 : wr.cell? ⟨(a.add (k * 11)).block, (a.add (k * 11)).off + 9, none⟩ = some (.string e.data) := hc 9 (by omega)
      have d10 : wr.cell? ⟨(a.add (k * 11)).block, (a.add (k * 11)).off + 10, none⟩ = some (.string e.old) := hc 10 (by omega)
      have HR := Lib.hid hr
      rw [hA]
      clear hr hc hA hBl hef hps
      go_wp2_with (go_at_call 60; (with_reducible refine (KE.out _ (HR.out.below ((Below.refl _ _).alloc (Nat.le_refl _) _))).mono ?_); rintro q w2 ⟨rfl, S2, _⟩)
      go_roundw
      case rel =>
        rw [hst.out] at S2
        refine ⟨k + 1, by omega, by go_num, ?_⟩
        rw [show 90000 - 110 * (k + 1) = 90000 - 110 * k - 110 by omega]
        exact S2
      case measure => simp [intOf]; omega
    · have hkn : k = m.n := by omega
      have htk : m.es.take k = m.es := List.take_of_length_le (by rw [HLEN.out]; omega)
      rw [htk] at hr
      obtain ⟨S, c0, c1, c2, c3, c4, c5, c6, c7, c8, c9, c10, cf⟩ := hr.all
      have K53 := Lib.hid (wm_number w B b m)
      clear hr
      go_upto_region 19 with (go_at_call 108; (with_reducible refine (K53.out _ _ _ _ _ S (by omega) (by assumption) (by omega)).mono ?_); clear S c0 c1 c2 c3 c4 c5 c6 c7 c8 c9 c10 cf; rintro q w1 ⟨rfl, S, c0, c1, c2, c3, c4, c5, c6, c7, c8, c9, c10, cf⟩)
      have Sd := S.drew
      go_region_held3 (fun w' => w'.cell? ⟨w.heap.size, 10, none⟩ = some (.string m.snap)) (first | exact c10 | assumption) (first
        | (go_at_call 110; (with_reducible refine (K55.out _ _ _ _ Sd (by omega)).mono ?_); rintro q w13 ⟨rfl, T, d0, d1, d2, d3, d4, d5, d6, d7, d8, d9, d10, df⟩))
      go_wp2_with fail
      go_end0
      refine ⟨rfl, ?_⟩
      have h := T.s
      rw [HY.out] at h
      unfold pbm
      simp only [Vi.append_assoc3] at h ⊢
      exact h

/-- The message lies where it lay, its entries, too. -/
structure Pm (w0 : World) (m : Ms) (w : World) : Prop where
  k : w.heap[w0.heap.size]? = some (.cells (mc m) 29 (0, 0))
  en : Ents w0.heap.size m.A m.n m.es w
  be : Below w0.heap.size w0 w
  sz : w0.heap.size ≤ w.heap.size
theorem Pm.on {w0 w w1 : World} {m : Ms} (h : Pm w0 m w) (hb : Below w.heap.size w w1) : Pm w0 m w1 :=
  ⟨(hb.block _ (Array.getElem?_eq_some_iff.1 h.k).1).trans h.k, h.en.below (hb.mono h.sz), h.be.trans (hb.mono h.sz), Nat.le_trans h.sz hb.size⟩
theorem Pm.all {w0 w : World} {m : Ms} (h : Pm w0 m w) : Pm w0 m w ∧ w.cell? ⟨w0.heap.size, 0, none⟩ = some (.int .i64 m.kind) ∧ w.cell? ⟨w0.heap.size, 1, none⟩ = some (.int .i64 m.frm) ∧ w.cell? ⟨w0.heap.size, 2, none⟩ = some (.int .i64 m.dst) ∧ w.cell? ⟨w0.heap.size, 3, none⟩ = some (.int .u64 m.term) ∧ w.cell? ⟨w0.heap.size, 4, none⟩ = some (.int .u64 m.index) ∧ w.cell? ⟨w0.heap.size, 5, none⟩ = some (.int .u64 m.prev) ∧ w.cell? ⟨w0.heap.size, 6, none⟩ = some (.int .u64 m.commit) ∧ w.cell? ⟨w0.heap.size, 7, none⟩ = some (.int .u64 m.mark) ∧ w.cell? ⟨w0.heap.size, 8, none⟩ = some (.bool m.ok) ∧ w.cell? ⟨w0.heap.size, 9, none⟩ = some (.slice m.A m.n m.c) ∧ w.cell? ⟨w0.heap.size, 10, none⟩ = some (.string m.snap) := ⟨h, cell_of_row w _ 0 _ 29 (0, 0) h.k, cell_of_row w _ 1 _ 29 (0, 0) h.k, cell_of_row w _ 2 _ 29 (0, 0) h.k, cell_of_row w _ 3 _ 29 (0, 0) h.k, cell_of_row w _ 4 _ 29 (0, 0) h.k, cell_of_row w _ 5 _ 29 (0, 0) h.k, cell_of_row w _ 6 _ 29 (0, 0) h.k, cell_of_row w _ 7 _ 29 (0, 0) h.k, cell_of_row w _ 8 _ 29 (0, 0) h.k, cell_of_row w _ 9 _ 29 (0, 0) h.k, cell_of_row w _ 10 _ 29 (0, 0) h.k⟩
theorem Pm.start {w : World} {m : Ms} (hE : Ents w.heap.size m.A m.n m.es w) : Pm w m (w.alloc (Obj.cells (mc m) 29)) :=
  ⟨heap_alloc_new w _, hE.below ((Below.refl _ _).alloc (Nat.le_refl _) _), (Below.refl _ _).alloc (Nat.le_refl _) _, by simp⟩
theorem wide_n5 {m : Ms} (wd : m.Wide) : (m.n : Int) ≤ 9223372036854775807 := by have := wd.n1; omega

set_option maxHeartbeats 1000000 in
set_option maxRecDepth 100000 in
theorem mmay_any (m : Ms) (w : World) (hE : Ents w.heap.size m.A m.n m.es w) (wd : m.Wide) :
    Calls Tryz.prog 73 #[mv m] w fun q w' => q = .returned (.bool (mmayB m)) ∧ Below w.heap.size w w' := by
  obtain ⟨W0, hW0⟩ : ∃ W0, W0 = w.alloc (Obj.cells (mc m) 29) := ⟨_, rfl⟩
  have P0 : Pm w m W0 := hW0 ▸ Pm.start hE
  obtain ⟨rb, hrb⟩ : ∃ rb, rb = mrightB m := ⟨_, rfl⟩
  obtain ⟨lv, hlv⟩ : ∃ lv, lv = mlvl m := ⟨_, rfl⟩
  have KR := Lib.hid (fun (W : World) (h : Pm w m W) => (mright_any5 m W (h.en.mr h.sz) (wide_n5 wd) wd.eo).mono fun q w' ⟨h1, h2⟩ => And.intro (show q = Ending.returned (.bool rb) by rw [h1, hrb]) (h.on h2).all)
  have KL := Lib.hid (fun (W : World) (h : Pm w m W) => (mlevel_any m W (h.en.mr h.sz) (wide_n5 wd)).mono fun q w' ⟨h1, h2⟩ => And.intro (show q = Ending.returned (.int .i64 lv) by rw [h1, hlv]) (h.on h2).all)
  have HM : Hid (mmayB m = (rb && (lv == 1))) := by show _ = _; unfold mmayB; rw [← hrb, ← hlv]
  have P1 := P0.all
  have HW0 := Lib.hid hW0
  rw [hW0] at P1
  obtain ⟨S, c0, c1, c2, c3, c4, c5, c6, c7, c8, c9, c10⟩ := P1
  rw [← hW0] at S
  clear hW0 P0 hrb hlv hE wd
  cases rb with
  | true =>
    go_enter Tryz.func73, Tryz.ntmps73
    go_wp2_with (first
      | (go_at_call 50; rw [← HW0.out]; (with_reducible refine (KR.out _ S).mono ?_); rintro q w1 ⟨rfl, T, d0, d1, d2, d3, d4, d5, d6, d7, d8, d9, d10⟩)
      | (go_at_call 20; (with_reducible refine (KL.out _ T).mono ?_); rintro q w2 ⟨rfl, U, e0, e1, e2, e3, e4, e5, e6, e7, e8, e9, e10⟩))
    all_goals
      go_ret
      exact ⟨by rw [HM.out]; rfl, U.be⟩
  | false =>
    go_enter Tryz.func73, Tryz.ntmps73
    go_wp2_with (first
      | (go_at_call 50; rw [← HW0.out]; (with_reducible refine (KR.out _ S).mono ?_); rintro q w1 ⟨rfl, T, d0, d1, d2, d3, d4, d5, d6, d7, d8, d9, d10⟩))
    go_ret
    exact ⟨by rw [HM.out]; rfl, T.be⟩

set_option maxHeartbeats 2000000 in
set_option maxRecDepth 100000 in
theorem putM_any (m : Ms) (w : World) (hE : Ents w.heap.size m.A m.n m.es w) (wd : m.Wide) :
    Calls Tryz.prog 32 #[mv m] w fun q w' => q = .returned (.tuple #[.string (putM m), .bool (mmayB m)]) ∧ Below w.heap.size w w' := by
  obtain ⟨W0, hW0⟩ : ∃ W0, W0 = w.alloc (Obj.cells (mc m) 29) := ⟨_, rfl⟩
  have P0 : Pm w m W0 := hW0 ▸ Pm.start hE
  obtain ⟨mb, hmb⟩ : ∃ mb, mb = mmayB m := ⟨_, rfl⟩
  have KM := Lib.hid (fun (W : World) (h : Pm w m W) => (mmay_any m W (h.en.mr h.sz) wd).mono fun q w' ⟨h1, h2⟩ => And.intro (show q = Ending.returned (.bool mb) by rw [h1, hmb]) (h.on h2))
  have P1 := P0.all
  have HW0 := Lib.hid hW0
  rw [hW0] at P1
  obtain ⟨S, c0, c1, c2, c3, c4, c5, c6, c7, c8, c9, c10⟩ := P1
  rw [← hW0] at S
  have HE := Lib.hid hE
  have WD := Lib.hid wd
  clear hW0 P0 hE wd
  cases mb with
  | false =>
    have HP : Hid (putM m = ⟨#[]⟩) := by show _ = _; unfold putM; rw [← hmb]; rfl
    have HB : Hid (mmayB m = false) := hmb.symm
    clear hmb
    go_enter Tryz.func32, Tryz.ntmps32
    go_wp2_with (first
      | (go_at_call 73; rw [← HW0.out]; (with_reducible refine (KM.out _ S).mono ?_); rintro q w1 ⟨rfl, T⟩))
    go_ret2
    exact ⟨ret_pair HP.out.symm HB.out.symm, T.be⟩
  | true =>
    have HB : Hid (mmayB m = true) := hmb.symm
    have hmr : mrightB m = true := by
      have h := HB.out
      unfold mmayB at h
      simp only [Bool.and_eq_true] at h
      exact h.1
    have fw := mfew_of WD.out hmr
    have hes : (⟨#[]⟩ : ByteArray).size ≤ 1000 := Nat.zero_le _
    have HP : Hid (putM m = pbm m) := by show _ = _; unfold putM; rw [← hmb]; rfl
    have HS := Lib.hid (pbm_size fw HE.out.len)
    have FW := Lib.hid fw
    clear hmb hmr fw
    go_enter Tryz.func32, Tryz.ntmps32
    go_wp2_with (first
      | (go_at_call 73; rw [← HW0.out]; (with_reducible refine (KM.out _ S).mono ?_); rintro q w1 ⟨rfl, T⟩; have HT : Hid (Pm w m (w1.alloc (.cells #[.pointer none, .slice none 0 0] 95))) := T.on ((Below.refl _ _).alloc (Nat.le_refl _) _); have T1 := Lib.hid (fresh_wt w1 w.heap.size T.sz); have t0 : (w1.alloc (.cells #[.pointer none, .slice none 0 0] 95)).cell? ⟨w.heap.size, 0, none⟩ = some (.int .i64 m.kind) := cell_of_row _ _ 0 _ 29 (0, 0) HT.out.k; have t1 : (w1.alloc (.cells #[.pointer none, .slice none 0 0] 95)).cell? ⟨w.heap.size, 1, none⟩ = some (.int .i64 m.frm) := cell_of_row _ _ 1 _ 29 (0, 0) HT.out.k; have t2 : (w1.alloc (.cells #[.pointer none, .slice none 0 0] 95)).cell? ⟨w.heap.size, 2, none⟩ = some (.int .i64 m.dst) := cell_of_row _ _ 2 _ 29 (0, 0) HT.out.k; have t3 : (w1.alloc (.cells #[.pointer none, .slice none 0 0] 95)).cell? ⟨w.heap.size, 3, none⟩ = some (.int .u64 m.term) := cell_of_row _ _ 3 _ 29 (0, 0) HT.out.k; have t4 : (w1.alloc (.cells #[.pointer none, .slice none 0 0] 95)).cell? ⟨w.heap.size, 4, none⟩ = some (.int .u64 m.index) := cell_of_row _ _ 4 _ 29 (0, 0) HT.out.k; have t5 : (w1.alloc (.cells #[.pointer none, .slice none 0 0] 95)).cell? ⟨w.heap.size, 5, none⟩ = some (.int .u64 m.prev) := cell_of_row _ _ 5 _ 29 (0, 0) HT.out.k; have t6 : (w1.alloc (.cells #[.pointer none, .slice none 0 0] 95)).cell? ⟨w.heap.size, 6, none⟩ = some (.int .u64 m.commit) := cell_of_row _ _ 6 _ 29 (0, 0) HT.out.k; have t7 : (w1.alloc (.cells #[.pointer none, .slice none 0 0] 95)).cell? ⟨w.heap.size, 7, none⟩ = some (.int .u64 m.mark) := cell_of_row _ _ 7 _ 29 (0, 0) HT.out.k; have t8 : (w1.alloc (.cells #[.pointer none, .slice none 0 0] 95)).cell? ⟨w.heap.size, 8, none⟩ = some (.bool m.ok) := cell_of_row _ _ 8 _ 29 (0, 0) HT.out.k; have t9 : (w1.alloc (.cells #[.pointer none, .slice none 0 0] 95)).cell? ⟨w.heap.size, 9, none⟩ = some (.slice m.A m.n m.c) := cell_of_row _ _ 9 _ 29 (0, 0) HT.out.k; have t10 : (w1.alloc (.cells #[.pointer none, .slice none 0 0] 95)).cell? ⟨w.heap.size, 10, none⟩ = some (.string m.snap) := cell_of_row _ _ 10 _ 29 (0, 0) HT.out.k; clear T)
      | (go_at_call 74; (with_reducible refine (msg_any w.heap.size w1.heap.size m ⟨#[]⟩ _ T1.out hes HT.out.sz HT.out.en WD.out FW.out).mono ?_); rintro q w2 ⟨rfl, S2⟩; have HS2 := Lib.hid S2; clear S2)
      | (go_at_call 61; (with_reducible refine (wstring w.heap.size w1.heap.size _ _ HS2.out.t (by rw [ByteArray.size_append, HS.out]; omega)).mono ?_); rintro q w3 ⟨rfl, hb3⟩))
    go_ret2
    refine ⟨ret_pair ?_ HB.out.symm, (HT.out.be.trans HS2.out.be).trans hb3⟩
    rw [HP.out]
    apply ByteArray.ext; simp
end Go.Proofs.YtpdbeijfchmlgaaGreat
namespace Go.Proofs.YtpdbeijfchmlgaaGreat
open Go.RowKit
open Vi
set_option linter.unusedVariables false
set_option linter.unusedSimpArgs false

/-- The entries that are read, what is left, and were they all there? -/
def gEs : Nat → ByteArray → List En
  | 0, _ => []
  | n + 1, t => getE t :: gEs n (getT t)
def gTs : Nat → ByteArray → ByteArray
  | 0, t => t
  | n + 1, t => gTs n (getT t)
def gOs : Nat → ByteArray → Bool
  | 0, _ => true
  | n + 1, t => getO t && gOs n (getT t)
theorem gEs_length : ∀ (n : Nat) (t : ByteArray), (gEs n t).length = n
  | 0, _ => rfl
  | n + 1, t => by show (gEs n (getT t)).length + 1 = _; rw [gEs_length]
theorem getO_may {t : ByteArray} (h : getO t = true) : mayB (prs t) = true := by
  unfold getO at h
  simp only [Bool.and_eq_true] at h
  exact h.2.1
theorem getO_pb {t : ByteArray} (h : getO t = true) : nums (pb (prs t)) = (nums t).take 110 := by
  have hs := getO_size h
  have h1 : decide (nums (beh t) = nums (zer (beh t).size)) = true := by
    unfold getO at h
    simp only [Bool.and_eq_true] at h
    exact h.2.2
  have h2 := (pb_iff t hs.1 hs.2).2 (of_decide_eq_true h1)
  rw [h2, nums_extract]
  simp
/-- Entries that were all there: what they were read of is what they are put as. -/
theorem gOs_text : ∀ (n : Nat) (t : ByteArray), gOs n t = true →
    110 * n ≤ t.size ∧ gTs n t = sk t (110 * n) ∧ nums (pbs (gEs n t)) = (nums t).take (110 * n) ∧ ∀ e ∈ gEs n t, mayB e = true
  | 0, t, _ => ⟨by omega, (sk_zero t).symm, by simp [gEs, pbs, nums], fun e he => by cases he⟩
  | n + 1, t, h => by
    unfold gOs at h
    rw [Bool.and_eq_true] at h
    obtain ⟨h1, h2⟩ := h
    have hs := getO_size h1
    have eT : getT t = sk t 110 := by unfold getT; rw [if_pos h1]
    have eE : getE t = prs t := by unfold getE; rw [if_pos h1]
    obtain ⟨i1, i2, i3, i4⟩ := gOs_text n (getT t) h2
    rw [eT, sk_size] at i1
    refine ⟨by omega, ?_, ?_, ?_⟩
    · show gTs n (getT t) = _
      rw [i2, eT, sk_sk]
      congr 1
      omega
    · show nums (pb (getE t) ++ pbs (gEs n (getT t))) = _
      rw [nums_append, i3, eE, getO_pb h1, eT, nums_sk, show 110 * (n + 1) = 110 + 110 * n by omega, take_split]
    · intro e he
      rcases List.mem_cons.1 he with rfl | he
      · rw [eE]; exact getO_may h1
      · exact i4 e he
/-- What was put one behind the other is read so, whatever stands behind. -/
theorem got_pbs : ∀ (es : List En) (r : ByteArray), (∀ e ∈ es, e.Ok ∧ mayB e = true) →
    gOs es.length (pbs es ++ r) = true ∧ gEs es.length (pbs es ++ r) = es ∧ gTs es.length (pbs es ++ r) = r
  | [], r, _ => ⟨rfl, rfl, by show (⟨#[]⟩ : ByteArray) ++ r = r; apply ByteArray.ext; simp⟩
  | e :: es, r, h => by
    have he := h e (by simp)
    obtain ⟨g1, g2, g3⟩ := got_put he.1 he.2 (pbs es ++ r)
    obtain ⟨i1, i2, i3⟩ := got_pbs es r fun x hx => h x (by simp [hx])
    have ha : pbs (e :: es) ++ r = pb e ++ (pbs es ++ r) := by
      show pb e ++ pbs es ++ r = _
      rw [append_assoc3]
    rw [ha]
    refine ⟨?_, ?_, ?_⟩
    · show (getO (pb e ++ (pbs es ++ r)) && gOs es.length (getT (pb e ++ (pbs es ++ r)))) = true
      rw [g1, g3, i1]; rfl
    · show getE (pb e ++ (pbs es ++ r)) :: gEs es.length (getT (pb e ++ (pbs es ++ r))) = _
      rw [g2, g3, i2]
    · show gTs es.length (getT (pb e ++ (pbs es ++ r))) = _
      rw [g3, i3]
/-- A message's text behind its numbers, one by one. -/
def u1 (s : ByteArray) : ByteArray := fixT s 1
def u2 (s : ByteArray) : ByteArray := fixT (u1 s) 1
def u3 (s : ByteArray) : ByteArray := fixT (u2 s) 1
def u4 (s : ByteArray) : ByteArray := fixT (u3 s) 8
def u5 (s : ByteArray) : ByteArray := fixT (u4 s) 8
def u6 (s : ByteArray) : ByteArray := fixT (u5 s) 8
def u7 (s : ByteArray) : ByteArray := fixT (u6 s) 8
def u8 (s : ByteArray) : ByteArray := fixT (u7 s) 8
def u9 (s : ByteArray) : ByteArray := fixT (u8 s) 1
def u10 (s : ByteArray) : ByteArray := fixT (u9 s) 1
def hdM (s : ByteArray) : Bool := hasF s 1 && hasF (u1 s) 1 && hasF (u2 s) 1 && hasF (u3 s) 8 && hasF (u4 s) 8 && hasF (u5 s) 8 && hasF (u6 s) 8 && hasF (u7 s) 8 && hasF (u8 s) 1 && hasF (u9 s) 1
theorem u_all (s : ByteArray) (h : 45 ≤ s.size) :
    u1 s = sk s 1 ∧ u2 s = sk s 2 ∧ u3 s = sk s 3 ∧ u4 s = sk s 11 ∧ u5 s = sk s 19 ∧ u6 s = sk s 27 ∧ u7 s = sk s 35 ∧ u8 s = sk s 43 ∧ u9 s = sk s 44 ∧ u10 s = sk s 45 ∧ hdM s = true := by
  have a1 := fix_yes s 1 (by omega) (by omega)
  have e1 : u1 s = sk s 1 := a1.2.1
  have a2 := fix_yes (sk s 1) 1 (by omega) (by rw [sk_size]; omega)
  have e2 : u2 s = sk s 2 := by unfold u2; rw [e1]; exact a2.2.1.trans (sk_sk _ _ _)
  have a3 := fix_yes (sk s 2) 1 (by omega) (by rw [sk_size]; omega)
  have e3 : u3 s = sk s 3 := by unfold u3; rw [e2]; exact a3.2.1.trans (sk_sk _ _ _)
  have a4 := fix_yes (sk s 3) 8 (by omega) (by rw [sk_size]; omega)
  have e4 : u4 s = sk s 11 := by unfold u4; rw [e3]; exact a4.2.1.trans (sk_sk _ _ _)
  have a5 := fix_yes (sk s 11) 8 (by omega) (by rw [sk_size]; omega)
  have e5 : u5 s = sk s 19 := by unfold u5; rw [e4]; exact a5.2.1.trans (sk_sk _ _ _)
  have a6 := fix_yes (sk s 19) 8 (by omega) (by rw [sk_size]; omega)
  have e6 : u6 s = sk s 27 := by unfold u6; rw [e5]; exact a6.2.1.trans (sk_sk _ _ _)
  have a7 := fix_yes (sk s 27) 8 (by omega) (by rw [sk_size]; omega)
  have e7 : u7 s = sk s 35 := by unfold u7; rw [e6]; exact a7.2.1.trans (sk_sk _ _ _)
  have a8 := fix_yes (sk s 35) 8 (by omega) (by rw [sk_size]; omega)
  have e8 : u8 s = sk s 43 := by unfold u8; rw [e7]; exact a8.2.1.trans (sk_sk _ _ _)
  have a9 := fix_yes (sk s 43) 1 (by omega) (by rw [sk_size]; omega)
  have e9 : u9 s = sk s 44 := by unfold u9; rw [e8]; exact a9.2.1.trans (sk_sk _ _ _)
  have a10 := fix_yes (sk s 44) 1 (by omega) (by rw [sk_size]; omega)
  have e10 : u10 s = sk s 45 := by unfold u10; rw [e9]; exact a10.2.1.trans (sk_sk _ _ _)
  refine ⟨e1, e2, e3, e4, e5, e6, e7, e8, e9, e10, ?_⟩
  have b1 : hasF s 1 = true := a1.2.2
  have b2 : hasF (u1 s) 1 = true := by rw [e1]; exact a2.2.2
  have b3 : hasF (u2 s) 1 = true := by rw [e2]; exact a3.2.2
  have b4 : hasF (u3 s) 8 = true := by rw [e3]; exact a4.2.2
  have b5 : hasF (u4 s) 8 = true := by rw [e4]; exact a5.2.2
  have b6 : hasF (u5 s) 8 = true := by rw [e5]; exact a6.2.2
  have b7 : hasF (u6 s) 8 = true := by rw [e6]; exact a7.2.2
  have b8 : hasF (u7 s) 8 = true := by rw [e7]; exact a8.2.2
  have b9 : hasF (u8 s) 1 = true := by rw [e8]; exact a9.2.2
  have b10 : hasF (u9 s) 1 = true := by rw [e9]; exact a10.2.2
  unfold hdM
  rw [b1, b2, b3, b4, b5, b6, b7, b8, b9, b10]; rfl
theorem hdM_size (s : ByteArray) (h : hdM s = true) : 45 ≤ s.size := by
  unfold hdM at h
  simp only [Bool.and_eq_true] at h
  obtain ⟨⟨⟨⟨⟨⟨⟨⟨⟨h1, h2⟩, h3⟩, h4⟩, h5⟩, h6⟩, h7⟩, h8⟩, h9⟩, h10⟩ := h
  have a1 := fixT_size5 _ 1 h1
  have a2 := fixT_size5 _ 1 h2
  have a3 := fixT_size5 _ 1 h3
  have a4 := fixT_size5 _ 8 h4
  have a5 := fixT_size5 _ 8 h5
  have a6 := fixT_size5 _ 8 h6
  have a7 := fixT_size5 _ 8 h7
  have a8 := fixT_size5 _ 8 h8
  have a9 := fixT_size5 _ 1 h9
  have a10 := fixT_size5 _ 1 h10
  have c1 : (u1 s).size = s.size - 1 := a1.2
  have c2 : (u2 s).size = (u1 s).size - 1 := a2.2
  have c3 : (u3 s).size = (u2 s).size - 1 := a3.2
  have c4 : (u4 s).size = (u3 s).size - 8 := a4.2
  have c5 : (u5 s).size = (u4 s).size - 8 := a5.2
  have c6 : (u6 s).size = (u5 s).size - 8 := a6.2
  have c7 : (u7 s).size = (u6 s).size - 8 := a7.2
  have c8 : (u8 s).size = (u7 s).size - 8 := a8.2
  have c9 : (u9 s).size = (u8 s).size - 1 := a9.2
  omega
/-- What a message's text says: its parts (the entries' row lies wherever it lies). -/
def mN (s : ByteArray) : Nat := fixV (u9 s) 1
def mY (s : ByteArray) : Nat := fixV (u8 s) 1
def mG (s : ByteArray) : ByteArray := gTs (mN s) (u10 s)
def mZ (s : ByteArray) : Nat := fixV (mG s) 4
def mS (s : ByteArray) : ByteArray := bytV (fixT (mG s) 4) (mZ s)
def mR (s : ByteArray) : ByteArray := bytT (fixT (mG s) 4) (mZ s)
def mPrs (s : ByteArray) (A : Option Addr) (c : Nat) : Ms :=
  { kind := fixV s 1, frm := fixV (u1 s) 1, dst := fixV (u2 s) 1, term := fixV (u3 s) 8, index := fixV (u4 s) 8, prev := fixV (u5 s) 8, commit := fixV (u6 s) 8, mark := fixV (u7 s) 8, ok := mY s == 1, A := A, n := mN s, c := c, es := gEs (mN s) (u10 s), snap := mS s }
/-- Does a message stand there, and nothing behind it? -/
def mAll (s : ByteArray) : Bool := hdM s && (decide (mY s ≤ 1) && (gOs (mN s) (u10 s) && (hasF (mG s) 4 && (hasB (fixT (mG s) 4) (mZ s) && decide ((mR s).size = 0)))))
end Go.Proofs.YtpdbeijfchmlgaaGreat
namespace Go.Proofs.YtpdbeijfchmlgaaGreat
open Go.RowKit
open Vi
set_option linter.unusedVariables false
set_option linter.unusedSimpArgs false

theorem mAll_sizes (s : ByteArray) (h : mAll s = true) :
    s.size = 49 + 110 * mN s + mZ s ∧ mG s = sk s (45 + 110 * mN s) ∧ mS s = (sk s (49 + 110 * mN s)).extract 0 (mZ s) ∧ (mS s).size = mZ s ∧ mY s ≤ 1 ∧
    nums (pbs (gEs (mN s) (u10 s))) = ((nums s).drop 45).take (110 * mN s) ∧ ∀ e ∈ gEs (mN s) (u10 s), mayB e = true := by
  unfold mAll at h
  simp only [Bool.and_eq_true, decide_eq_true_eq] at h
  obtain ⟨h1, h2, h3, h4, h5, h6⟩ := h
  have hs := hdM_size s h1
  obtain ⟨e1, e2, e3, e4, e5, e6, e7, e8, e9, e10, _⟩ := u_all s hs
  obtain ⟨g1, g2, g3, g4⟩ := gOs_text _ _ h3
  rw [e10, sk_size] at g1
  have eG : mG s = sk s (45 + 110 * mN s) := by unfold mG; rw [g2, e10, sk_sk]
  have b4 := fixT_size5 (mG s) 4 h4
  have b4' : 4 ≤ (mG s).size := b4.1
  rw [eG, sk_size] at b4'
  have eH : fixT (mG s) 4 = sk s (49 + 110 * mN s) := by
    have h := (fix_yes (sk s (45 + 110 * mN s)) 4 (by omega) (by rw [sk_size]; omega)).2.1
    rw [eG]
    refine h.trans ?_
    rw [sk_sk, show 45 + 110 * mN s + 4 = 49 + 110 * mN s by omega]
  have b5 : 0 ≤ (mZ s : Int) ∧ (mZ s : Int) ≤ (fixT (mG s) 4).size := of_decide_eq_true h5
  rw [eH, sk_size] at b5
  have bb := byt_yes (sk s (49 + 110 * mN s)) (mZ s) (by rw [sk_size]; omega)
  have eR : mR s = sk (sk s (49 + 110 * mN s)) (mZ s) := by unfold mR; rw [eH]; exact bb.2.1
  have eS : mS s = (sk s (49 + 110 * mN s)).extract 0 (mZ s) := by unfold mS; rw [eH]; exact bb.1
  rw [eR, sk_size, sk_size] at h6
  refine ⟨by omega, eG, eS, ?_, h2, ?_, g4⟩
  · rw [eS, ByteArray.size_extract, sk_size]; omega
  · rw [g3, e10, nums_sk]

set_option maxHeartbeats 2000000 in
theorem mAll_text (s : ByteArray) (A : Option Addr) (c : Nat) (h : mAll s = true) : pbm (mPrs s A c) = s := by
  obtain ⟨h1, eG, eS, hSs, hY, hE, _⟩ := mAll_sizes s h
  obtain ⟨e1, e2, e3, e4, e5, e6, e7, e8, e9, e10, _⟩ := u_all s (by omega)
  obtain ⟨l, hl⟩ : ∃ l, l = nums s := ⟨_, rfl⟩
  have hll : l.length = s.size := by rw [hl, nums_length]
  have p0 : nums (fN ((fixV s 1 : Nat) : Int) 1) = l.take 1 := by
    have h := nums_field s 0 1 (by omega) (by omega)
    rw [sk_zero, List.drop_zero, ← hl] at h
    exact h
  have p1 : nums (fN ((fixV (u1 s) 1 : Nat) : Int) 1) = (l.drop 1).take 1 := by rw [e1, hl]; exact nums_field s 1 1 (by omega) (by omega)
  have p2 : nums (fN ((fixV (u2 s) 1 : Nat) : Int) 1) = (l.drop 2).take 1 := by rw [e2, hl]; exact nums_field s 2 1 (by omega) (by omega)
  have p3 : nums (fN ((fixV (u3 s) 8 : Nat) : Int) 8) = (l.drop 3).take 8 := by rw [e3, hl]; exact nums_field s 3 8 (by omega) (by omega)
  have p4 : nums (fN ((fixV (u4 s) 8 : Nat) : Int) 8) = (l.drop 11).take 8 := by rw [e4, hl]; exact nums_field s 11 8 (by omega) (by omega)
  have p5 : nums (fN ((fixV (u5 s) 8 : Nat) : Int) 8) = (l.drop 19).take 8 := by rw [e5, hl]; exact nums_field s 19 8 (by omega) (by omega)
  have p6 : nums (fN ((fixV (u6 s) 8 : Nat) : Int) 8) = (l.drop 27).take 8 := by rw [e6, hl]; exact nums_field s 27 8 (by omega) (by omega)
  have p7 : nums (fN ((fixV (u7 s) 8 : Nat) : Int) 8) = (l.drop 35).take 8 := by rw [e7, hl]; exact nums_field s 35 8 (by omega) (by omega)
  have hb : bitI (mY s == 1) = ((fixV (u8 s) 1 : Nat) : Int) := by
    show bitI (mY s == 1) = ((mY s : Nat) : Int)
    have : mY s = 0 ∨ mY s = 1 := by omega
    rcases this with h | h <;> rw [h] <;> rfl
  have p8 : nums (fN (bitI (mY s == 1)) 1) = (l.drop 43).take 1 := by rw [hb, e8, hl]; exact nums_field s 43 1 (by omega) (by omega)
  have p9 : nums (fN ((mN s : Nat) : Int) 1) = (l.drop 44).take 1 := by unfold mN; rw [e9, hl]; exact nums_field s 44 1 (by omega) (by omega)
  have p11 : nums (fN ((mZ s : Nat) : Int) 4) = (l.drop (45 + 110 * mN s)).take 4 := by
    have h := nums_field s (45 + 110 * mN s) 4 (by omega) (by omega)
    rw [← hl, ← eG] at h
    exact h
  have p12 : nums (mS s) = (l.drop (49 + 110 * mN s)).take (mZ s) := by rw [eS, nums_extract, nums_sk, ← hl, List.drop_zero, Nat.sub_zero]
  rw [← hl] at hE
  have tk : ∀ a b d, d = a + b → l.take a ++ (l.drop a).take b = l.take d := fun a b d hd => by rw [hd]; exact (take_split l a b).symm
  apply nums_inj
  rw [← hl]
  unfold pbm mPrs
  dsimp only
  rw [hSs]
  simp only [nums_append]
  rw [p0, p1, p2, p3, p4, p5, p6, p7, p8, p9, hE, p11, p12]
  rw [tk 1 1 2 rfl, tk 2 1 3 rfl, tk 3 8 11 rfl, tk 11 8 19 rfl, tk 19 8 27 rfl, tk 27 8 35 rfl, tk 35 8 43 rfl, tk 43 1 44 rfl, tk 44 1 45 rfl, tk 45 (110 * mN s) (45 + 110 * mN s) rfl, tk (45 + 110 * mN s) 4 (49 + 110 * mN s) (by omega), tk (49 + 110 * mN s) (mZ s) (49 + 110 * mN s + mZ s) rfl]
  exact List.take_of_length_le (by omega)
end Go.Proofs.YtpdbeijfchmlgaaGreat
namespace Go.Proofs.YtpdbeijfchmlgaaGreat
open Go.RowKit
set_option linter.unusedVariables false
set_option linter.unusedSimpArgs false

theorem putS_of {m : Ms} (h : mmayB m = true) : ∀ e ∈ m.es, mayB e = true := by
  intro e he
  unfold mmayB mrightB at h
  simp only [Bool.and_eq_true, Bool.not_eq_true'] at h
  obtain ⟨⟨h1, h2⟩, h3⟩ := h
  unfold hasWrong at h2
  rw [List.any_eq_false] at h2
  have hr : rightB e = true := by simpa using h2 e he
  have hk : ¬ e.kind = 11 := by
    intro hk
    have hm : mlvl m = 2 := by
      unfold mlvl
      rw [if_pos]
      rw [Bool.or_eq_true]
      exact .inr (List.any_eq_true.2 ⟨e, he, by rw [hk]; rfl⟩)
    rw [hm] at h3
    exact absurd h3 (by decide)
  unfold mayB lvl
  rw [hr, if_neg hk]
  rfl

end Go.Proofs.YtpdbeijfchmlgaaGreat
namespace Go.Proofs.YtpdbeijfchmlgaaGreat
open Go.RowKit
open Vi
set_option linter.unusedVariables false
set_option linter.unusedSimpArgs false

theorem fN_one (v : Int) (h : 0 ≤ v ∧ v ≤ 255) (t : ByteArray) : ((fixV (fN v 1 ++ t) 1 : Nat) : Int) = v ∧ fixT (fN v 1 ++ t) 1 = t :=
  fN_put v 1 1 rfl (by omega) h.1 (by have : (256 : Nat) ^ 1 = 256 := rfl; omega) t
theorem fN_eight (v : Int) (h : 0 ≤ v ∧ v ≤ 18446744073709551615) (t : ByteArray) : ((fixV (fN v 8 ++ t) 8 : Nat) : Int) = v ∧ fixT (fN v 8 ++ t) 8 = t :=
  fN_put v 8 8 rfl (by omega) h.1 (by have : (256 : Nat) ^ 8 = 18446744073709551616 := rfl; omega) t

set_option maxHeartbeats 2000000 in
theorem mAll_put (m : Ms) (wd : m.Wide) (h : mmayB m = true) (hl : m.es.length = m.n) : mAll (pbm m) = true ∧ mPrs (pbm m) m.A m.c = m := by
  have hr : mrightB m = true := by
    have h := h
    unfold mmayB at h
    simp only [Bool.and_eq_true] at h
    exact h.1
  have fw := mfew_of wd hr
  have hsz := pbm_size fw hl
  have hh : hdM (pbm m) = true := by
    obtain ⟨_, _, _, _, _, _, _, _, _, _, e⟩ := u_all (pbm m) (by omega)
    exact e
  have hes : ∀ e ∈ m.es, e.Ok ∧ mayB e = true := fun e he => ⟨wd.eo e he, putS_of h e he⟩
  obtain ⟨x11, h11⟩ : ∃ x, x = fN (m.snap.size : Int) 4 ++ m.snap := ⟨_, rfl⟩
  obtain ⟨x10, h10⟩ : ∃ x, x = pbs m.es ++ x11 := ⟨_, rfl⟩
  obtain ⟨x9, h9⟩ : ∃ x, x = fN (m.n : Int) 1 ++ x10 := ⟨_, rfl⟩
  obtain ⟨x8, h8⟩ : ∃ x, x = fN (bitI m.ok) 1 ++ x9 := ⟨_, rfl⟩
  obtain ⟨x7, h7⟩ : ∃ x, x = fN m.mark 8 ++ x8 := ⟨_, rfl⟩
  obtain ⟨x6, h6⟩ : ∃ x, x = fN m.commit 8 ++ x7 := ⟨_, rfl⟩
  obtain ⟨x5, h5⟩ : ∃ x, x = fN m.prev 8 ++ x6 := ⟨_, rfl⟩
  obtain ⟨x4, h4⟩ : ∃ x, x = fN m.index 8 ++ x5 := ⟨_, rfl⟩
  obtain ⟨x3, h3⟩ : ∃ x, x = fN m.term 8 ++ x4 := ⟨_, rfl⟩
  obtain ⟨x2, h2⟩ : ∃ x, x = fN m.dst 1 ++ x3 := ⟨_, rfl⟩
  obtain ⟨x1, h1⟩ : ∃ x, x = fN m.frm 1 ++ x2 := ⟨_, rfl⟩
  obtain ⟨x0, h0⟩ : ∃ x, x = fN m.kind 1 ++ x1 := ⟨_, rfl⟩
  have hx : pbm m = x0 := by
    rw [h0, h1, h2, h3, h4, h5, h6, h7, h8, h9, h10, h11]
    unfold pbm
    simp only [append_assoc3]
  rw [hx] at hsz hh ⊢
  have f0 := fN_one m.kind (⟨fw.k0, by have := fw.k1; omega⟩) x1
  rw [← h0] at f0
  have v0 : ((fixV x0 1 : Nat) : Int) = m.kind := by exact f0.1
  have e1 : u1 x0 = x1 := by unfold u1; exact f0.2
  have f1 := fN_one m.frm (⟨fw.f0, by have := fw.f1; omega⟩) x2
  rw [← h1] at f1
  have v1 : ((fixV (u1 x0) 1 : Nat) : Int) = m.frm := by rw [e1]; exact f1.1
  have e2 : u2 x0 = x2 := by unfold u2; rw [e1]; exact f1.2
  have f2 := fN_one m.dst (⟨fw.o0, by have := fw.o1; omega⟩) x3
  rw [← h2] at f2
  have v2 : ((fixV (u2 x0) 1 : Nat) : Int) = m.dst := by rw [e2]; exact f2.1
  have e3 : u3 x0 = x3 := by unfold u3; rw [e2]; exact f2.2
  have f3 := fN_eight m.term (⟨wd.t0, wd.t1⟩) x4
  rw [← h3] at f3
  have v3 : ((fixV (u3 x0) 8 : Nat) : Int) = m.term := by rw [e3]; exact f3.1
  have e4 : u4 x0 = x4 := by unfold u4; rw [e3]; exact f3.2
  have f4 := fN_eight m.index (⟨wd.i0, wd.i1⟩) x5
  rw [← h4] at f4
  have v4 : ((fixV (u4 x0) 8 : Nat) : Int) = m.index := by rw [e4]; exact f4.1
  have e5 : u5 x0 = x5 := by unfold u5; rw [e4]; exact f4.2
  have f5 := fN_eight m.prev (⟨wd.p0, wd.p1⟩) x6
  rw [← h5] at f5
  have v5 : ((fixV (u5 x0) 8 : Nat) : Int) = m.prev := by rw [e5]; exact f5.1
  have e6 : u6 x0 = x6 := by unfold u6; rw [e5]; exact f5.2
  have f6 := fN_eight m.commit (⟨wd.c0, wd.c1⟩) x7
  rw [← h6] at f6
  have v6 : ((fixV (u6 x0) 8 : Nat) : Int) = m.commit := by rw [e6]; exact f6.1
  have e7 : u7 x0 = x7 := by unfold u7; rw [e6]; exact f6.2
  have f7 := fN_eight m.mark (⟨wd.m0, wd.m1⟩) x8
  rw [← h7] at f7
  have v7 : ((fixV (u7 x0) 8 : Nat) : Int) = m.mark := by rw [e7]; exact f7.1
  have e8 : u8 x0 = x8 := by unfold u8; rw [e7]; exact f7.2
  have f8 := fN_one (bitI m.ok) (by cases m.ok <;> decide) x9
  rw [← h8] at f8
  have v8 : ((fixV (u8 x0) 1 : Nat) : Int) = (bitI m.ok) := by rw [e8]; exact f8.1
  have e9 : u9 x0 = x9 := by unfold u9; rw [e8]; exact f8.2
  have f9 := fN_one (m.n : Int) (by have := fw.n1; omega) x10
  rw [← h9] at f9
  have v9 : ((fixV (u9 x0) 1 : Nat) : Int) = (m.n : Int) := by rw [e9]; exact f9.1
  have e10 : u10 x0 = x10 := by unfold u10; rw [e9]; exact f9.2
  have eN : mN x0 = m.n := by
    have h : ((mN x0 : Nat) : Int) = (m.n : Int) := v9
    omega
  have eY : ((mY x0 : Nat) : Int) = bitI m.ok := v8
  obtain ⟨g1, g2, g3⟩ := got_pbs m.es x11 hes
  rw [← h10, hl] at g1 g2 g3
  have eG : mG x0 = x11 := by unfold mG; rw [eN, e10]; exact g3
  have f11 : ((fixV x11 4 : Nat) : Int) = (m.snap.size : Int) ∧ fixT x11 4 = m.snap := by
    rw [h11]
    exact fN_put (m.snap.size : Int) 4 4 rfl (by omega) (by omega) (by have := fw.s1; have : (256 : Nat) ^ 4 = 4294967296 := rfl; omega) m.snap
  have eZ : mZ x0 = m.snap.size := by
    have h : ((mZ x0 : Nat) : Int) = (m.snap.size : Int) := by unfold mZ; rw [eG]; exact f11.1
    omega
  have hz := byt_yes m.snap m.snap.size (Nat.le_refl _)
  have eS : mS x0 = m.snap := by
    unfold mS
    rw [eG, eZ, f11.2, hz.1]
    simp
  have eR : (mR x0).size = 0 := by
    unfold mR
    rw [eG, eZ, f11.2, hz.2.1, sk_size]
    omega
  have hx11 : 4 ≤ x11.size := by rw [h11, ByteArray.size_append, fN_size _ 4 (by omega) (by omega)]; show 4 ≤ 4 + _; omega
  have hF : hasF x11 4 = true := (fix_yes x11 4 (by omega) hx11).2.2
  have hB : hasB m.snap (m.snap.size : Int) = true := hz.2.2
  constructor
  · unfold mAll
    rw [hh, eG, eN, e10, g1, hF, f11.2, eZ, hB, decide_eq_true eR]
    have : mY x0 ≤ 1 := by
      have : bitI m.ok ≤ 1 := by cases m.ok <;> decide
      omega
    rw [decide_eq_true this]
    rfl
  · have hk : (mY x0 == 1) = m.ok := by
      cases hk : m.ok with
      | true =>
        rw [hk] at eY
        have h1 : ((mY x0 : Nat) : Int) = 1 := eY
        have h2 : mY x0 = 1 := by omega
        rw [h2]; rfl
      | false =>
        rw [hk] at eY
        have h1 : ((mY x0 : Nat) : Int) = 0 := eY
        have h2 : mY x0 = 0 := by omega
        rw [h2]; rfl
    unfold mPrs
    rw [eN, e10, g2, eS, hk, v0, v1, v2, v3, v4, v5, v6, v7]
end Go.Proofs.YtpdbeijfchmlgaaGreat
namespace Go.Proofs.YtpdbeijfchmlgaaGreat
open Go.RowKit
set_option linter.unusedVariables false

theorem nk_r (x : Int) : (if x.tmod 10 < 0 then x.tmod 10 + 10 else x.tmod 10) = x % 10 := by
  have h1 := Int.tmod_add_mul_tdiv x 10
  have h2 := Int.tmod_lt_of_pos x (show (0:Int) < 10 by omega)
  have h3 : -10 < x.tmod 10 := by
    rcases Int.lt_or_le x 0 with h | h
    · have h4 := Int.tmod_lt_of_pos (-x) (show (0:Int) < 10 by omega)
      rw [Int.neg_tmod] at h4
      omega
    · have := Int.tmod_nonneg 10 h
      omega
  split <;> omega
/-- The entries that are there when the letters l have been gone through. -/
def esN (L : List (En × Bool)) (l : List UInt8) : List En := if hasT l 101 then mks L else []
theorem esN_other (L : List (En × Bool)) (l : List UInt8) (x : UInt8) (h : (x.toNat : Int) ≠ 101) : esN L (l ++ [x]) = esN L l := by
  unfold esN
  rw [hasT_snoc, beqF h, Bool.or_false]
theorem esN_101 (L : List (En × Bool)) (l : List UInt8) (x : UInt8) (h : (x.toNat : Int) = 101) : esN L (l ++ [x]) = mks L := by
  unfold esN
  rw [hasT_snoc, h]
  simp
theorem esN_none (L : List (En × Bool)) (l : List UInt8) (h : hasT l 101 = false) : esN L l = [] := by
  unfold esN
  rw [h, if_neg (by simp)]
/-- The first j of them. -/
def mkL (L : List (En × Bool)) (j : Nat) : List En := (L.take j).map fun p => mk p.1
theorem mks_done (L : List (En × Bool)) (j : Nat) (h : L.length ≤ j ∨ 10 ≤ j) (hj : j ≤ 10) : (mkL L j) = mks L := by
  unfold mks mkL
  rcases h with h | h
  · rw [List.take_of_length_le h, List.take_of_length_le (by omega)]
  · rw [show j = 10 by omega]
theorem mades_snoc (L : List (En × Bool)) (j : Nat) (p : En × Bool) (h : L[j]? = some p) : (mkL L (j + 1)) = (mkL L j) ++ [mk p.1] := by
  unfold mkL
  rw [List.take_add_one, h, List.map_append]
  rfl
theorem cell_new_list (W : World) (l : List Value) (T : TypeId) (j : Nat) (u : Value) (h : l[j]? = some u) : (W.alloc (.cells l.toArray T)).cell? ((⟨W.heap.size, 0, none⟩ : Addr).add j) = some u := by
  rw [Addr.add_mid, Nat.zero_add, World.cell?_alloc_new, List.getElem?_toArray, h]

set_option maxRecDepth 100000 in
set_option maxHeartbeats 2000000 in
theorem note_no (m : Ms) (LA : Option Addr) (ln lc : Nat) (w : World) : Calls Tryz.prog 10 #[nvv m false LA ln lc] w fun r w' => r = .returned (mv m) ∧ Below w.heap.size w w' := by
  go_enter Tryz.func10, Tryz.ntmps10
  go_wp2
  refine bodyPost_ret (v := mv m) (by simp [results, Tryz.results10, go_sem]) rfl ⟨rfl, ((Below.refl _ _).alloc (Nat.le_refl _) _).alloc (by simp) _⟩

set_option maxRecDepth 100000 in
set_option maxHeartbeats 8000000 in
theorem note_yes (m : Ms) (LA : Option Addr) (ln lc : Nat) (L : List (En × Bool)) (w : World) (hL : Mades w.heap.size LA ln L w) (hok : ∀ p ∈ L, p.1.Ok) (hln : (ln : Int) ≤ 9223372036854775807) :
    Calls Tryz.prog 10 #[nvv m true LA ln lc] w fun r w' => ∃ A c n, r = .returned (mv (nm m L A n c)) ∧ (nm m L A n c).es.length = n ∧ Ents w'.heap.size A n (nm m L A n c).es w' ∧ Below w.heap.size w w' := by
  have HL := Lib.hid hL
  have HO := Lib.hid hok
  clear hL hok
  obtain ⟨i24, hi24, hz24, hs24, hb24⟩ := info_parts (show (Tryz.prog.info? 24).map (fun i => (i.zero, i.size, i.bytes)) = some (some (ev ezz), 11, 104) by kernel_rfl)
  have hr1 := nk_r m.kind
  obtain ⟨wq, hQ⟩ : ∃ wq, wq = ((w.alloc (Obj.cells (nvc m true LA ln lc) 32)).alloc (Obj.cells (mc mzz) 29)).alloc (Obj.cells (mc m) 29) := ⟨_, rfl⟩
  have hbq : Below w.heap.size w wq := by rw [hQ]; exact (((Below.refl _ _).alloc (Nat.le_refl _) _).alloc (by simp) _).alloc (by simp; omega) _
  have hq2 : wq.heap[w.heap.size + 1 + 1]? = some (.cells (mc m) 29 (0, 0)) := by
    have h := heap_alloc_new ((w.alloc (Obj.cells (nvc m true LA ln lc) 32)).alloc (Obj.cells (mc mzz) 29)) (Obj.cells (mc m) 29)
    rw [show ((w.alloc (Obj.cells (nvc m true LA ln lc) 32)).alloc (Obj.cells (mc mzz) 29)).heap.size = w.heap.size + 1 + 1 by simp] at h
    rw [hQ]; exact h
  have hq1 : wq.heap[w.heap.size + 1]? = some (.cells (mc mzz) 29 (0, 0)) := by
    have h := heap_alloc_new (w.alloc (Obj.cells (nvc m true LA ln lc) 32)) (Obj.cells (mc mzz) 29)
    rw [show (w.alloc (Obj.cells (nvc m true LA ln lc) 32)).heap.size = w.heap.size + 1 by simp] at h
    rw [hQ]; exact (Lib.alloc_old _ _ _ (by simp)).trans h
  have hq0 : wq.heap[w.heap.size]? = some (.cells (nvc m true LA ln lc) 32 (0, 0)) := by
    rw [hQ]; exact (Lib.alloc_old _ _ _ (by simp; omega)).trans ((Lib.alloc_old _ _ _ (by simp)).trans (heap_alloc_new w _))
  have hqs : wq.heap.size = w.heap.size + 1 + 1 + 1 := by rw [hQ]; simp
  have HQ := Lib.hid hQ
  have HB := Lib.hid hbq
  have HS := Lib.hid hqs
  have H0 := Lib.hid hq0
  have H1 := Lib.hid hq1
  have H2 := Lib.hid hq2
  clear hQ hbq hqs hq0 hq1 hq2
  have HR := Lib.hid hr1
  clear hr1
  go_enter Tryz.func10, Tryz.ntmps10
  go_upto_if 22 with fail
  go_cut [4] from 22 to 24 (fun s wx => s = .int .i64 (m.kind % 10) ∧ wx = wq)
  case first =>
    by_cases hneg : m.kind.tmod 10 < 0
    · have hx := HR.out
      rw [if_pos hneg] at hx
      have hw : Hid (wrap64 (m.kind.tmod 10 + 10) = m.kind % 10) := by show _ = _; rw [hx]; unfold wrap64; omega
      clear hx
      go_wp2_with fail
      go_meet
      exact ⟨congrArg (Value.int .i64) hw.out, HQ.out.symm⟩
    · have hx := HR.out
      rw [if_neg hneg] at hx
      have hw : Hid (m.kind.tmod 10 = m.kind % 10) := hx
      clear hx
      go_wp2_with fail
      go_meet
      exact ⟨congrArg (Value.int .i64) hw.out, HQ.out.symm⟩
  case rest =>
    obtain ⟨rfl, rfl⟩ := hcut
    obtain ⟨kq, hkq⟩ : ∃ kq, kq = m.kind % 10 := ⟨_, rfl⟩
    obtain ⟨r, hr⟩ : ∃ r, r = m.kind % 10 + 1 := ⟨_, rfl⟩
    have hkr : wrap64 (kq + 1) = r := by rw [hkq, hr]; unfold wrap64; omega
    have HRR := Lib.hid hr
    rw [← hkq]
    clear hkq hr HR
    go_wp2_with (go_at_call 34; fail)
    first | rw [hkr] | skip
    with_reducible refine (rmfields_any r _).mono ?_
    rintro q w1 ⟨rfl, hb1⟩
    have hq0w : w1.heap[w.heap.size]? = some (.cells (nvc m true LA ln lc) 32 (0, 0)) := (hb1.block _ (by have := HS.out; omega)).trans H0.out
    have hq1w : w1.heap[w.heap.size + 1]? = some (.cells (mc mzz) 29 (0, 0)) := (hb1.block _ (by have := HS.out; omega)).trans H1.out
    have hq2w : w1.heap[w.heap.size + 1 + 1]? = some (.cells (mc m) 29 (0, 0)) := (hb1.block _ (by have := HS.out; omega)).trans H2.out
    have c1 : w1.cell? ⟨w.heap.size + 1 + 1, 1, none⟩ = some (.int .i64 m.frm) := cell_of_row w1 _ 1 _ 29 (0, 0) hq2w
    have c2 : w1.cell? ⟨w.heap.size + 1 + 1, 2, none⟩ = some (.int .i64 m.dst) := cell_of_row w1 _ 2 _ 29 (0, 0) hq2w
    have c3 : w1.cell? ⟨w.heap.size + 1 + 1, 3, none⟩ = some (.int .u64 m.term) := cell_of_row w1 _ 3 _ 29 (0, 0) hq2w
    have hbw : Below w.heap.size w w1 := HB.out.trans (hb1.mono HB.out.size)
    have hlt1 : w.heap.size + 1 + 1 < w1.heap.size := by have := HS.out; have := hb1.size; omega
    have hn0 : Nd w m (nvc m true LA ln lc) r w1.heap.size [] none 0 [] (w1.alloc (Obj.cells (mc (npart m r [] none 0 0 [])) 29)) :=
      ⟨(Lib.alloc_old w1 _ _ (by omega)).trans hq0w, (Lib.alloc_old w1 _ _ (by omega)).trans hq1w, (Lib.alloc_old w1 _ _ hlt1).trans hq2w, heap_alloc_new w1 _, World.ownsRow_nil _ _ _ _, hbw.alloc hbw.size _, hlt1⟩
    have HN0 := Lib.hid hn0
    have hml : (mfl r).size ≤ 5 := mfl_size r
    have e1 : wrap64 (wrap64 ((IntKind.u64.wrap m.frm).tmod 7) + 1) = IntKind.u64.wrap m.frm % 7 + 1 := node_eq _ 7 (by omega) (by omega)
    have e2 : wrap64 (wrap64 ((IntKind.u64.wrap m.dst).tmod 7) + 1) = IntKind.u64.wrap m.dst % 7 + 1 := node_eq _ 7 (by omega) (by omega)
    clear hq0w hq1w hq2w hn0 hb1
    go_wp2
    clear e1 e2 hkr c1 c2 c3 hbw
    go_loopw [8] (fun i wr => ∃ (k : Nat) (A : Option Addr) (c : Nat), k ≤ (mfl r).size ∧ i = .int .i64 k ∧ Nd w m (nvc m true LA ln lc) r w1.heap.size ((mfl r).data.toList.take k) A c (esN L ((mfl r).data.toList.take k)) wr) (fun i _ => (mfl r).size - (intOf i).toNat)
    case atStart => exact ⟨0, none, 0, Nat.zero_le _, rfl, HN0.out⟩
    case round =>
      obtain ⟨k, A, c, hk, rfl, hM⟩ := hrel
      clear HN0
      by_cases hlt : k < (mfl r).size
      · have htk : Hid ((mfl r).data.toList.take (k + 1) = (mfl r).data.toList.take k ++ [(mfl r)[k]]) := by
          show _ = _
          rw [List.take_succ_eq_append_getElem (by simpa using hlt)]
          rfl
        have honce : Hid (((mfl r)[k].toNat : Int) = 101 → hasT ((mfl r).data.toList.take k) 101 = false) := by
          intro hx
          refine mfl_once r k (by simpa using hlt) ?_
          rw [List.getElem?_eq_getElem (by simpa using hlt)]
          have hy : (mfl r)[k] = (101 : UInt8) := by
            rw [← UInt8.toNat_inj]
            have : ((101 : UInt8)).toNat = 101 := rfl
            omega
          exact congrArg some hy
        have s4 : wr.cell? ⟨w.heap.size + 1 + 1, 4, none⟩ = some (.int .u64 m.index) := hM.sc 4
        have s5 : wr.cell? ⟨w.heap.size + 1 + 1, 5, none⟩ = some (.int .u64 m.prev) := hM.sc 5
        have s6 : wr.cell? ⟨w.heap.size + 1 + 1, 6, none⟩ = some (.int .u64 m.commit) := hM.sc 6
        have s7 : wr.cell? ⟨w.heap.size + 1 + 1, 7, none⟩ = some (.int .u64 m.mark) := hM.sc 7
        have s8 : wr.cell? ⟨w.heap.size + 1 + 1, 8, none⟩ = some (.bool m.ok) := hM.sc 8
        have s10 : wr.cell? ⟨w.heap.size + 1 + 1, 10, none⟩ = some (.string m.snap) := hM.sc 10
        obtain ⟨P, hP⟩ : ∃ P, P = npart m r ((mfl r).data.toList.take k) A (esN L ((mfl r).data.toList.take k)).length c (esN L ((mfl r).data.toList.take k)) := ⟨_, rfl⟩
        have o4 : wr.cell? ⟨w1.heap.size, 4, none⟩ = some (.int .u64 P.index) := by rw [hP]; exact hM.oc 4
        have o5 : wr.cell? ⟨w1.heap.size, 5, none⟩ = some (.int .u64 P.prev) := by rw [hP]; exact hM.oc 5
        have o6 : wr.cell? ⟨w1.heap.size, 6, none⟩ = some (.int .u64 P.commit) := by rw [hP]; exact hM.oc 6
        have o7 : wr.cell? ⟨w1.heap.size, 7, none⟩ = some (.int .u64 P.mark) := by rw [hP]; exact hM.oc 7
        have o8 : wr.cell? ⟨w1.heap.size, 8, none⟩ = some (.bool P.ok) := by rw [hP]; exact hM.oc 8
        have o10 : wr.cell? ⟨w1.heap.size, 10, none⟩ = some (.string P.snap) := by rw [hP]; exact hM.oc 10
        have fz : ∀ i, wr.frozen? ⟨w1.heap.size, i, none⟩ = false := fun i => Md.of hM.out
        have HMM := Lib.hid hM
        clear hM hP
        by_cases y105 : (((mfl r)[k].toNat : Int) == 105) = true
        · have hx : ((mfl r)[k].toNat : Int) = 105 := by simpa using y105
          have HX := Lib.hid hx
          clear hx
          have hes : Hid (esN L ((mfl r).data.toList.take (k + 1)) = esN L ((mfl r).data.toList.take k)) := by show _ = _; rw [htk.out]; exact esN_other L _ _ (by rw [HX.out]; omega)
          go_wp2
          go_roundw
          case rel => exact ⟨k + 1, A, c, by omega, by go_num, by rw [hes.out, htk.out]; exact HMM.out.set1 _ 4 _ (npart_105 m r _ _ A _ c _ HX.out)⟩
          case measure => simp [intOf]; omega
        · have n105 : (((mfl r)[k].toNat : Int) == 105) = false := by simpa using y105
          clear y105
          by_cases y112 : (((mfl r)[k].toNat : Int) == 112) = true
          · have hx : ((mfl r)[k].toNat : Int) = 112 := by simpa using y112
            have HX := Lib.hid hx
            clear hx
            have hes : Hid (esN L ((mfl r).data.toList.take (k + 1)) = esN L ((mfl r).data.toList.take k)) := by show _ = _; rw [htk.out]; exact esN_other L _ _ (by rw [HX.out]; omega)
            go_wp2
            go_roundw
            case rel => exact ⟨k + 1, A, c, by omega, by go_num, by rw [hes.out, htk.out]; exact HMM.out.set1 _ 5 _ (npart_112 m r _ _ A _ c _ HX.out)⟩
            case measure => simp [intOf]; omega
          · have n112 : (((mfl r)[k].toNat : Int) == 112) = false := by simpa using y112
            clear y112
            by_cases y116 : (((mfl r)[k].toNat : Int) == 116) = true
            · have hx : ((mfl r)[k].toNat : Int) = 116 := by simpa using y116
              have HX := Lib.hid hx
              clear hx
              have hes : Hid (esN L ((mfl r).data.toList.take (k + 1)) = esN L ((mfl r).data.toList.take k)) := by show _ = _; rw [htk.out]; exact esN_other L _ _ (by rw [HX.out]; omega)
              go_wp2
              go_roundw
              case rel => exact ⟨k + 1, A, c, by omega, by go_num, by rw [hes.out, htk.out]; exact HMM.out.set1 _ 6 _ (npart_116 m r _ _ A _ c _ HX.out)⟩
              case measure => simp [intOf]; omega
            · have n116 : (((mfl r)[k].toNat : Int) == 116) = false := by simpa using y116
              clear y116
              by_cases y107 : (((mfl r)[k].toNat : Int) == 107) = true
              · have hx : ((mfl r)[k].toNat : Int) = 107 := by simpa using y107
                have HX := Lib.hid hx
                clear hx
                have hes : Hid (esN L ((mfl r).data.toList.take (k + 1)) = esN L ((mfl r).data.toList.take k)) := by show _ = _; rw [htk.out]; exact esN_other L _ _ (by rw [HX.out]; omega)
                go_wp2
                go_roundw
                case rel => exact ⟨k + 1, A, c, by omega, by go_num, by rw [hes.out, htk.out]; exact HMM.out.set1 _ 7 _ (npart_107 m r _ _ A _ c _ HX.out)⟩
                case measure => simp [intOf]; omega
              · have n107 : (((mfl r)[k].toNat : Int) == 107) = false := by simpa using y107
                clear y107
                by_cases y121 : (((mfl r)[k].toNat : Int) == 121) = true
                · have hx : ((mfl r)[k].toNat : Int) = 121 := by simpa using y121
                  have HX := Lib.hid hx
                  clear hx
                  have hes : Hid (esN L ((mfl r).data.toList.take (k + 1)) = esN L ((mfl r).data.toList.take k)) := by show _ = _; rw [htk.out]; exact esN_other L _ _ (by rw [HX.out]; omega)
                  go_wp2
                  go_roundw
                  case rel => exact ⟨k + 1, A, c, by omega, by go_num, by rw [hes.out, htk.out]; exact HMM.out.set1 _ 8 _ (npart_121 m r _ _ A _ c _ HX.out)⟩
                  case measure => simp [intOf]; omega
                · have n121 : (((mfl r)[k].toNat : Int) == 121) = false := by simpa using y121
                  clear y121
                  by_cases y101 : (((mfl r)[k].toNat : Int) == 101) = true
                  · have hx : ((mfl r)[k].toNat : Int) = 101 := by simpa using y101
                    have HX := Lib.hid hx
                    clear hx
                    have hes : Hid (esN L ((mfl r).data.toList.take k) = []) := esN_none L _ (honce.out HX.out)
                    have hdone : Hid (esN L ((mfl r).data.toList.take (k + 1)) = mks L) := by show _ = _; rw [htk.out]; exact esN_101 L _ _ HX.out
                    clear s4 s5 s6 s7 s8 s10 o4 o5 o6 o7 o8 o10 fz
                    have hM0 : Nd w m (nvc m true LA ln lc) r w1.heap.size ((mfl r).data.toList.take k) A c (mkL L 0) wr := by
                      have h := HMM.out
                      rw [hes.out] at h
                      exact h
                    have HM0 := Lib.hid hM0
                    clear hM0 HMM
                    obtain ⟨l, hl⟩ : ∃ l, l = (mfl r).data.toList.take k := ⟨_, rfl⟩
                    rw [← hl] at HM0
                    have HLL := Lib.hid hl
                    clear hl
                    go_wp2
                    go_loopw [9] (fun i wr => ∃ (j : Nat) (A : Option Addr) (c : Nat), j ≤ ln ∧ j ≤ 10 ∧ i = .int .i64 j ∧ Nd w m (nvc m true LA ln lc) r w1.heap.size l A c (mkL L j) wr) (fun i _ => 10 - (intOf i).toNat)
                    case atStart => exact ⟨0, A, c, Nat.zero_le _, Nat.zero_le _, rfl, HM0.out⟩
                    case round =>
                      obtain ⟨j, A2, c2, hj, hj10, rfl, hJ⟩ := hrel
                      clear HM0
                      have b12 : wr.cell? ⟨w.heap.size, 12, none⟩ = some (.slice LA ln lc) := hJ.bc 12
                      have HJ := Lib.hid hJ
                      clear hJ
                      by_cases h1 : j < ln
                      · have t1 : decide ((j : Int) < (ln : Int)) = true := decide_eq_true (by omega)
                        by_cases h2 : j < 10
                        · have t2 : decide ((j : Int) < 10) = true := decide_eq_true (by omega)
                          obtain ⟨p, hp⟩ : ∃ p, L[j]? = some p := ⟨_, List.getElem?_eq_getElem (by rw [HL.out.len]; exact h1)⟩
                          obtain ⟨a, hA, hB, hc⟩ := (HL.out.below HJ.out.be).at_ j p hp
                          obtain ⟨pe, po⟩ := p
                          have d0 : wr.cell? (a.add (j * 12)) = some (.int .u64 pe.term) := hc 0 (by omega)
                          have d1 : wr.cell? ⟨(a.add (j * 12)).block, (a.add (j * 12)).off + 1, none⟩ = some (.int .u64 pe.index) := hc 1 (by omega)
                          have d2 : wr.cell? ⟨(a.add (j * 12)).block, (a.add (j * 12)).off + 2, none⟩ = some (.int .i64 pe.kind) := hc 2 (by omega)
                          have d3 : wr.cell? ⟨(a.add (j * 12)).block, (a.add (j * 12)).off + 3, none⟩ = some (.int .u64 pe.client) := hc 3 (by omega)
                          have d4 : wr.cell? ⟨(a.add (j * 12)).block, (a.add (j * 12)).off + 4, none⟩ = some (.int .u64 pe.seq) := hc 4 (by omega)
                          have d5 : wr.cell? ⟨(a.add (j * 12)).block, (a.add (j * 12)).off + 5, none⟩ = some (.int .u64 pe.block) := hc 5 (by omega)
                          have d6 : wr.cell? ⟨(a.add (j * 12)).block, (a.add (j * 12)).off + 6, none⟩ = some (.int .u64 pe.many) := hc 6 (by omega)
                          have d7 : wr.cell? ⟨(a.add (j * 12)).block, (a.add (j * 12)).off + 7, none⟩ = some (.int .i64 pe.node) := hc 7 (by omega)
                          have d8 : wr.cell? ⟨(a.add (j * 12)).block, (a.add (j * 12)).off + 8, none⟩ = some (.int .i64 pe.level) := hc 8 (by omega)
                          have d9 : wr.cell? ⟨(a.add (j * 12)).block, (a.add (j * 12)).off + 9, none⟩ = some (.string pe.data) := hc 9 (by omega)
                          have d10 : wr.cell? ⟨(a.add (j * 12)).block, (a.add (j * 12)).off + 10, none⟩ = some (.string pe.old) := hc 10 (by omega)
                          have d11 : wr.cell? ⟨(a.add (j * 12)).block, (a.add (j * 12)).off + 11, none⟩ = some (.bool po) := hc 11 (by omega)
                          have K10 := Lib.hid (fun (W : World) => made_yes pe W (HO.out _ (List.mem_of_getElem? hp)))
                          have HP := Lib.hid hp
                          clear hc hp
                          rw [hA] at b12
                          clear hA hB
                          obtain ⟨E, hE⟩ : ∃ E, E = mk pe := ⟨_, rfl⟩
                          obtain ⟨es, hes2⟩ : ∃ es, es = mkL L j := ⟨_, rfl⟩
                          have hln2 : es.length = j := by rw [hes2]; unfold mkL; rw [List.length_map, List.length_take, HL.out.len]; omega
                          have hnext : Hid ((mkL L (j + 1)) = es ++ [E]) := by show _ = _; rw [mades_snoc L j _ HP.out, ← hes2, hE]
                          rw [← hes2] at HJ
                          have K10b : ∀ (W : World), Calls Tryz.prog 7 #[mdv pe true] W fun r w' => r = .returned (ev E) ∧ Below W.heap.size W w' := fun W => hE ▸ K10.out W
                          have K10h := Lib.hid K10b
                          clear hes2 hE K10 K10b
                          go_upto_region 29 with fail
                          obtain ⟨W, hW⟩ : ∃ W, W = wr.alloc (Obj.cells (mdc pe true) 26) := ⟨_, rfl⟩
                          rw [← hW]
                          have hbW : Below wr.heap.size wr W := by rw [hW]; exact (Below.refl _ _).alloc (Nat.le_refl _) _
                          have hNW : Nd w m (nvc m true LA ln lc) r w1.heap.size l A2 c2 es W := HJ.out.call hbW
                          have hkW : W.heap[wr.heap.size]? = some (.cells (mdc pe true) 26 (0, 0)) := by rw [hW]; exact heap_alloc_new wr _
                          have hgl : w1.heap.size < W.heap.size := hNW.gs
                          have q0 : W.drew.cell? ⟨wr.heap.size, 0, none⟩ = some (.int .u64 pe.term) := cell_of_row W _ 0 _ 26 (0, 0) hkW
                          have q1 : W.drew.cell? ⟨wr.heap.size, 1, none⟩ = some (.int .u64 pe.index) := cell_of_row W _ 1 _ 26 (0, 0) hkW
                          have q2 : W.drew.cell? ⟨wr.heap.size, 2, none⟩ = some (.int .i64 pe.kind) := cell_of_row W _ 2 _ 26 (0, 0) hkW
                          have q3 : W.drew.cell? ⟨wr.heap.size, 3, none⟩ = some (.int .u64 pe.client) := cell_of_row W _ 3 _ 26 (0, 0) hkW
                          have q4 : W.drew.cell? ⟨wr.heap.size, 4, none⟩ = some (.int .u64 pe.seq) := cell_of_row W _ 4 _ 26 (0, 0) hkW
                          have q5 : W.drew.cell? ⟨wr.heap.size, 5, none⟩ = some (.int .u64 pe.block) := cell_of_row W _ 5 _ 26 (0, 0) hkW
                          have q6 : W.drew.cell? ⟨wr.heap.size, 6, none⟩ = some (.int .u64 pe.many) := cell_of_row W _ 6 _ 26 (0, 0) hkW
                          have q7 : W.drew.cell? ⟨wr.heap.size, 7, none⟩ = some (.int .i64 pe.node) := cell_of_row W _ 7 _ 26 (0, 0) hkW
                          have q8 : W.drew.cell? ⟨wr.heap.size, 8, none⟩ = some (.int .i64 pe.level) := cell_of_row W _ 8 _ 26 (0, 0) hkW
                          have q9 : W.drew.cell? ⟨wr.heap.size, 9, none⟩ = some (.string pe.data) := cell_of_row W _ 9 _ 26 (0, 0) hkW
                          have q10 : W.drew.cell? ⟨wr.heap.size, 10, none⟩ = some (.string pe.old) := cell_of_row W _ 10 _ 26 (0, 0) hkW
                          have q11 : W.drew.cell? ⟨wr.heap.size, 11, none⟩ = some (.bool true) := cell_of_row W _ 11 _ 26 (0, 0) hkW
                          have x9 : W.drew.cell? ⟨w1.heap.size, 9, none⟩ = some (.slice A2 j c2) := by
                            have h := hNW.oc 9
                            rw [hln2] at h
                            exact h
                          have HNW := Lib.hid hNW
                          have HLN := Lib.hid hln2
                          clear hbW hkW hNW hW hln2 HJ d0 d1 d2 d3 d4 d5 d6 d7 d8 d9 d10 d11 b12
                          go_region_law (first
                            | (refine step_append_lies _ (by rfl) _ _ 27 (by rfl) (w1.heap.size + 1) 24 i24 (ev ezz) 11 104 Tryz.underlying27 hi24 hz24 hs24 hb24 (by rfl) (by omega) (.slice A2 j c2) j (flat es) (by rfl) (by exact HOW.out) ⟨w2.heap.size, 0, none⟩ 1 1 (ec E).toList (by rfl) rfl (by exact HNEWS.out) (fun u hu => by simp at hu; rcases hu with rfl | rfl | rfl | rfl | rfl | rfl | rfl | rfl | rfl | rfl | rfl <;> rfl) (by omega) (by unfold maxLen; omega) (by omega) (by exact HBS.out) (w2.heap.size + 1) (by simp) ?_; intro g4 cap w4 hown4 hgrow hat hlt4; have z9 : w4.cell? ⟨w1.heap.size, 9, none⟩ = some (.slice A2 j c2) := World.grownBy.cell hgrow (by exact U9.out) (HNE.out); have g0 : w4.frozen? ⟨w1.heap.size, 9, none⟩ = false := (World.frozen?_of_block (hgrow.block _ (HGL.out) (HNE.out))).trans F9.out)
                            | (go_simp; go_at_call 7; (with_reducible refine (K10h.out _).mono ?_); rintro q w2 ⟨rfl, hb2⟩; have HN2 : Hid (Nd w m (nvc m true LA ln lc) r w1.heap.size l A2 c2 es (w2.alloc (Obj.cells (ec E) 24))) := ((HNW.out.call (Below.refl _ _).drew).call hb2).call ((Below.refl _ _).alloc (Nat.le_refl _) _); have v9 : w2.cell? ⟨w1.heap.size, 9, none⟩ = some (.slice A2 j c2) := (hb2.cell (p := ⟨w1.heap.size, 9, none⟩) hgl).trans x9; have U9 : Hid ((w2.alloc (Obj.cells (ec E) 24)).cell? ⟨w1.heap.size, 9, none⟩ = some (.slice A2 j c2)) := (World.cell?_alloc_lt w2 _ ⟨w1.heap.size, 9, none⟩ (Nat.lt_of_lt_of_le hgl hb2.size)).trans v9; have t9 := U9.out; have HOW : Hid ((w2.alloc (Obj.cells (ec E) 24)).ownsRow (w1.heap.size + 1) 24 11 (.slice A2 j c2) j (flat es)) := HLN.out ▸ HN2.out.own; have HNEWS : Hid (∀ (i : Nat) u, (ec E).toList[i]? = some u → (w2.alloc (Obj.cells (ec E) 24)).cell? ((⟨w2.heap.size, 0, none⟩ : Addr).add i) = some u) := fun i u hu => cell_new_list w2 (ec E).toList 24 i u hu; have HBS : Hid (w1.heap.size + 1 ≤ (w2.alloc (Obj.cells (ec E) 24)).heap.size) := HN2.out.gs; have HGL : Hid (w1.heap.size < (w2.alloc (Obj.cells (ec E) 24)).heap.size) := HN2.out.gs; have HNE : Hid (some w1.heap.size ≠ (Value.slice A2 j c2).ownBlock) := (fun e => absurd (HOW.out.lt _ e.symm).1 (by omega)); have F9 : Hid ((w2.alloc (Obj.cells (ec E) 24)).frozen? ⟨w1.heap.size, 9, none⟩ = false) := Md.of HN2.out.out; clear hb2))
                          all_goals
                            have HN3 := Lib.hid (HN2.out.app HLN.out hown4 rfl hgrow)
                            clear HN2 hown4 hgrow hat hlt4 g0 z9 q0 q1 q2 q3 q4 q5 q6 q7 q8 q9 q10 q11 x9 v9 t9 U9 HOW HNEWS HBS HGL HNE F9 HNW K10h hgl
                            go_wp2
                            go_roundw
                            case rel => first | exact ⟨j + 1, some ⟨g4, 0, none⟩, cap, h1, h2, by go_num, by rw [hnext.out]; exact HN3.out⟩ | ((repeat apply Exists.intro); exact ⟨⟨j + 1, some ⟨g4, 0, none⟩, cap, h1, h2, by go_num, by rw [hnext.out]; exact HN3.out⟩, rfl⟩)
                            case measure => simp [intOf]; omega
                        · have t2 : decide ((j : Int) < 10) = false := decide_eq_false (by omega)
                          have hfin : Hid ((mkL L j) = mks L) := mks_done L j (.inr (by omega)) hj10
                          go_wp2
                          refine ⟨⟨k + 1, A2, c2, by omega, by go_num, ?_⟩, by simp [intOf]; omega⟩
                          rw [hdone.out, ← hfin.out, htk.out, ← HLL.out]
                          exact HJ.out.same _ (npart_101 m r _ _ A2 _ c2 _ HX.out)
                      · have t1 : decide ((j : Int) < (ln : Int)) = false := decide_eq_false (by omega)
                        have hfin : Hid ((mkL L j) = mks L) := mks_done L j (.inl (by rw [HL.out.len]; omega)) hj10
                        go_wp2
                        refine ⟨⟨k + 1, A2, c2, by omega, by go_num, ?_⟩, by simp [intOf]; omega⟩
                        rw [hdone.out, ← hfin.out, htk.out, ← HLL.out]
                        exact HJ.out.same _ (npart_101 m r _ _ A2 _ c2 _ HX.out)
                  · have n101 : (((mfl r)[k].toNat : Int) == 101) = false := by simpa using y101
                    clear y101
                    by_cases y115 : (((mfl r)[k].toNat : Int) == 115) = true
                    · have hx : ((mfl r)[k].toNat : Int) = 115 := by simpa using y115
                      have HX := Lib.hid hx
                      clear hx
                      have hes : Hid (esN L ((mfl r).data.toList.take (k + 1)) = esN L ((mfl r).data.toList.take k)) := by show _ = _; rw [htk.out]; exact esN_other L _ _ (by rw [HX.out]; omega)
                      go_wp2
                      go_roundw
                      case rel => exact ⟨k + 1, A, c, by omega, by go_num, by rw [hes.out, htk.out]; exact HMM.out.set1 _ 10 _ (npart_115 m r _ _ A _ c _ HX.out)⟩
                      case measure => simp [intOf]; omega
                    · have n115 : (((mfl r)[k].toNat : Int) == 115) = false := by simpa using y115
                      clear y115
                      have hne : Hid (∀ c ∈ ([105, 112, 116, 107, 121, 115] : List Int), ((mfl r)[k].toNat : Int) ≠ c) := by
                        intro c hc h0
                        simp only [List.mem_cons, List.not_mem_nil, or_false] at hc
                        rw [h0] at n105 n112 n116 n107 n121 n115
                        rcases hc with rfl | rfl | rfl | rfl | rfl | rfl <;> simp at n105 n112 n116 n107 n121 n115
                      have hes : Hid (esN L ((mfl r).data.toList.take (k + 1)) = esN L ((mfl r).data.toList.take k)) := by show _ = _; rw [htk.out]; exact esN_other L _ _ (fun h => by rw [h] at n101; simp at n101)
                      go_wp2
                      have hM2 : Nd w m (nvc m true LA ln lc) r w1.heap.size ((mfl r).data.toList.take (k + 1)) A c (esN L ((mfl r).data.toList.take (k + 1))) wr := by rw [hes.out, htk.out]; exact HMM.out.same _ (npart_other m r _ _ A _ c _ hne.out)
                      go_roundw
                      case rel => exact ⟨k + 1, A, c, by omega, by go_num, hM2⟩
                      case measure => simp [intOf]; omega
      · have hkn : k = (mfl r).size := by omega
        subst hkn
        have hd : Hid ((mfl r).data.toList.take (mfl r).size = (mfl r).data.toList) := by
          show _ = _
          rw [List.take_of_length_le (by simp)]
        rw [hd.out] at hM
        obtain ⟨n, hn⟩ : ∃ n, n = (esN L (mfl r).data.toList).length := ⟨_, rfl⟩
        obtain ⟨E, hE⟩ : ∃ E, E = nm m L A n c := ⟨_, rfl⟩
        have hEp : E = npart m r (mfl r).data.toList A n c (esN L (mfl r).data.toList) := by rw [hE, HRR.out]; rfl
        have hout := hM.out
        rw [← hn, ← hEp] at hout
        have hown : wr.ownsRow (w1.heap.size + 1) 24 11 (.slice A n c) n (flat E.es) := by
          have h := hM.own
          rw [← hn] at h
          rw [hEp]
          exact h
        have hlen : E.es.length = n := by rw [hEp, hn]; rfl
        have hEo : ∀ i, wr.cell? ⟨w1.heap.size, i, none⟩ = (mc E)[i]? := fun i => cell_of_row wr _ i _ 29 (0, 0) hout
        have p0 : wr.cell? ⟨w1.heap.size, 0, none⟩ = some (.int .i64 E.kind) := hEo 0
        have p1 : wr.cell? ⟨w1.heap.size, 1, none⟩ = some (.int .i64 E.frm) := hEo 1
        have p2 : wr.cell? ⟨w1.heap.size, 2, none⟩ = some (.int .i64 E.dst) := hEo 2
        have p3 : wr.cell? ⟨w1.heap.size, 3, none⟩ = some (.int .u64 E.term) := hEo 3
        have p4 : wr.cell? ⟨w1.heap.size, 4, none⟩ = some (.int .u64 E.index) := hEo 4
        have p5 : wr.cell? ⟨w1.heap.size, 5, none⟩ = some (.int .u64 E.prev) := hEo 5
        have p6 : wr.cell? ⟨w1.heap.size, 6, none⟩ = some (.int .u64 E.commit) := hEo 6
        have p7 : wr.cell? ⟨w1.heap.size, 7, none⟩ = some (.int .u64 E.mark) := hEo 7
        have p8 : wr.cell? ⟨w1.heap.size, 8, none⟩ = some (.bool E.ok) := hEo 8
        have p9 : wr.cell? ⟨w1.heap.size, 9, none⟩ = some (.slice E.A E.n E.c) := hEo 9
        have p10 : wr.cell? ⟨w1.heap.size, 10, none⟩ = some (.string E.snap) := hEo 10
        have z0 : wr.cell? ⟨w.heap.size + 1, 0, none⟩ = some (.int .i64 0) := hM.rc 0
        have z1 : wr.cell? ⟨w.heap.size + 1, 1, none⟩ = some (.int .i64 0) := hM.rc 1
        have z2 : wr.cell? ⟨w.heap.size + 1, 2, none⟩ = some (.int .i64 0) := hM.rc 2
        have z3 : wr.cell? ⟨w.heap.size + 1, 3, none⟩ = some (.int .u64 0) := hM.rc 3
        have z4 : wr.cell? ⟨w.heap.size + 1, 4, none⟩ = some (.int .u64 0) := hM.rc 4
        have z5 : wr.cell? ⟨w.heap.size + 1, 5, none⟩ = some (.int .u64 0) := hM.rc 5
        have z6 : wr.cell? ⟨w.heap.size + 1, 6, none⟩ = some (.int .u64 0) := hM.rc 6
        have z7 : wr.cell? ⟨w.heap.size + 1, 7, none⟩ = some (.int .u64 0) := hM.rc 7
        have z8 : wr.cell? ⟨w.heap.size + 1, 8, none⟩ = some (.bool false) := hM.rc 8
        have z9 : wr.cell? ⟨w.heap.size + 1, 9, none⟩ = some (.slice none 0 0) := hM.rc 9
        have z10 : wr.cell? ⟨w.heap.size + 1, 10, none⟩ = some (.string ⟨#[]⟩) := hM.rc 10
        have fz : ∀ i, wr.frozen? ⟨w.heap.size + 1, i, none⟩ = false := fun i => Md.of hM.res
        have HBE := Lib.hid hM.be
        have HRES := Lib.hid hM.res
        have HOWN := Lib.hid hown
        have HLEN := Lib.hid hlen
        have HEE := Lib.hid hE
        have HGT := Lib.hid hM.lt
        clear hout hEo hM hEp hown hlen hE hn hd
        go_wp2
        obtain ⟨WF, hWF⟩ : ∃ WF, WF = wrm wr (w.heap.size + 1) E := ⟨_, rfl⟩
        unfold wrm at hWF
        rw [← hWF]
        have hblk : WF.heap[w.heap.size + 1]? = some (.cells (mc E) 29 (0, 0)) := by
          rw [hWF]
          exact store_allm E HRES.out
        have hbF : Below w.heap.size w WF := by
          rw [hWF]
          exact below_allm E HBE.out (by omega)
        have hownF : WF.ownsRow (w1.heap.size + 1) 24 11 (.slice A n c) n (flat E.es) := by
          rw [hWF]
          exact own_allm E HOWN.out (by have := HGT.out; omega)
        have hEf : ∀ i, WF.cell? ⟨w.heap.size + 1, i, none⟩ = (mc E)[i]? := fun i => cell_of_row WF _ i _ 29 (0, 0) hblk
        have f0 : WF.cell? ⟨w.heap.size + 1, 0, none⟩ = some (.int .i64 E.kind) := hEf 0
        have f1 : WF.cell? ⟨w.heap.size + 1, 1, none⟩ = some (.int .i64 E.frm) := hEf 1
        have f2 : WF.cell? ⟨w.heap.size + 1, 2, none⟩ = some (.int .i64 E.dst) := hEf 2
        have f3 : WF.cell? ⟨w.heap.size + 1, 3, none⟩ = some (.int .u64 E.term) := hEf 3
        have f4 : WF.cell? ⟨w.heap.size + 1, 4, none⟩ = some (.int .u64 E.index) := hEf 4
        have f5 : WF.cell? ⟨w.heap.size + 1, 5, none⟩ = some (.int .u64 E.prev) := hEf 5
        have f6 : WF.cell? ⟨w.heap.size + 1, 6, none⟩ = some (.int .u64 E.commit) := hEf 6
        have f7 : WF.cell? ⟨w.heap.size + 1, 7, none⟩ = some (.int .u64 E.mark) := hEf 7
        have f8 : WF.cell? ⟨w.heap.size + 1, 8, none⟩ = some (.bool E.ok) := hEf 8
        have f9 : WF.cell? ⟨w.heap.size + 1, 9, none⟩ = some (.slice E.A E.n E.c) := hEf 9
        have f10 : WF.cell? ⟨w.heap.size + 1, 10, none⟩ = some (.string E.snap) := hEf 10
        clear hEf hblk hWF
        exact bodyPost_ret (v := mv E) (by simp [results, Tryz.results10, go_sem, f0, f1, f2, f3, f4, f5, f6, f7, f8, f9, f10]) rfl ⟨A, c, n, by rw [← HEE.out], by rw [← HEE.out]; exact HLEN.out, by rw [← HEE.out]; exact ents_of_own hownF HLEN.out, hbF⟩
end Go.Proofs.YtpdbeijfchmlgaaGreat
namespace Go.Proofs.YtpdbeijfchmlgaaGreat
open Go.RowKit
open Vi
set_option linter.unusedVariables false
set_option linter.unusedSimpArgs false

/-- What stands in the midst of reading a message. -/
structure Nq (w0 : World) (g : Nat) (T : ByteArray) (b : Bool) (w : World) : Prop where
  hr : Rd 178 g T b w
  fn : w.heap[w0.heap.size + 1]? = some (.cells #[.func (.func 83) #[.pointer (some ⟨g, 0, none⟩)] #[]] 115 (0, 0))
  res : w.heap[w0.heap.size]? = some (.cells (mc mzz) 29 (0, 0))
  fr : w0.grownBy w (some g)
  lg : g < w0.heap.size
  sz : T.size ≤ 281474976710656
/-- .. with the message in block p. -/
structure Ny (w0 : World) (g p : Nat) (E : Ms) (T : ByteArray) (b : Bool) (w : World) : Prop where
  q : Nq w0 g T b w
  al : w.heap[p]? = some (.cells (mc E) 29 (0, 0))
  lp : w0.heap.size + 1 < p
theorem rd_allm {T r g : Nat} {s : ByteArray} {b : Bool} {w : World} (E : Ms) (h : Rd T g s b w) (hr : r ≠ g) : Rd T g s b (wrm w r E) :=
  rd_set (rd_set (rd_set (rd_set (rd_set (rd_set (rd_set (rd_set (rd_set (rd_set (rd_set h hr) hr) hr) hr) hr) hr) hr) hr) hr) hr) hr
theorem gb_allm {w0 w : World} {g r : Nat} (E : Ms) (h : w0.grownBy w (some g)) (hr : w0.heap.size ≤ r) : w0.grownBy (wrm w r E) (some g) :=
  gb_set (gb_set (gb_set (gb_set (gb_set (gb_set (gb_set (gb_set (gb_set (gb_set (gb_set h hr) hr) hr) hr) hr) hr) hr) hr) hr) hr) hr
section
variable {w0 w w1 : World} {g p : Nat} {T T' : ByteArray} {b b' : Bool} {E E' : Ms}
theorem Nq.step (h : Nq w0 g T b w) (hx : Rd 178 g T' b' w1) (hf : w.grownBy w1 (some g)) (hT : T'.size ≤ T.size) : Nq w0 g T' b' w1 := by
  have h1 := h.lg
  exact ⟨hx, (hf.block _ (Array.getElem?_eq_some_iff.1 h.fn).1 (by simp; omega)).trans h.fn, (hf.block _ (Array.getElem?_eq_some_iff.1 h.res).1 (by simp; omega)).trans h.res, h.fr.trans hf, h.lg, Nat.le_trans hT h.sz⟩
theorem Nq.below (h : Nq w0 g T b w) (hb : Below w.heap.size w w1) : Nq w0 g T b w1 :=
  ⟨h.hr.below hb h.hr.lt, (hb.block _ (Array.getElem?_eq_some_iff.1 h.fn).1).trans h.fn, (hb.block _ (Array.getElem?_eq_some_iff.1 h.res).1).trans h.res, gb_below h.fr hb, h.lg, h.sz⟩
theorem Nq.drew (h : Nq w0 g T b w) : Nq w0 g T b w.drew := ⟨h.hr, h.fn, h.res, gb_below h.fr (Below.refl _ _).drew, h.lg, h.sz⟩
theorem Nq.fcell (h : Nq w0 g T b w) : w.cell? ⟨w0.heap.size + 1, 0, none⟩ = some (.func (.func 83) #[.pointer (some ⟨g, 0, none⟩)] #[]) := cell_of_row w _ 0 _ 115 (0, 0) h.fn
theorem Nq.fcella (h : Nq w0 g T b w) (o : Obj) : (w.alloc o).cell? ⟨w0.heap.size + 1, 0, none⟩ = some (.func (.func 83) #[.pointer (some ⟨g, 0, none⟩)] #[]) := (h.below ((Below.refl _ _).alloc (Nat.le_refl _) _)).fcell
theorem Nq.toY (E : Ms) (h : Nq w0 g T b w) : Ny w0 g w.heap.size E T b (w.alloc (.cells (mc E) 29)) :=
  ⟨h.below ((Below.refl _ _).alloc (Nat.le_refl _) _), heap_alloc_new w _, (Array.getElem?_eq_some_iff.1 h.fn).1⟩
theorem Ny.step (h : Ny w0 g p E T b w) (hx : Rd 178 g T' b' w1) (hf : w.grownBy w1 (some g)) (hT : T'.size ≤ T.size) : Ny w0 g p E T' b' w1 := by
  have h1 := h.q.lg
  have h2 := h.lp
  exact ⟨h.q.step hx hf hT, (hf.block _ (Array.getElem?_eq_some_iff.1 h.al).1 (by simp; omega)).trans h.al, h.lp⟩
theorem Ny.below (h : Ny w0 g p E T b w) (hb : Below w.heap.size w w1) : Ny w0 g p E T b w1 :=
  ⟨h.q.below hb, (hb.block _ (Array.getElem?_eq_some_iff.1 h.al).1).trans h.al, h.lp⟩
theorem Ny.drew (h : Ny w0 g p E T b w) : Ny w0 g p E T b w.drew := ⟨h.q.drew, h.al, h.lp⟩
theorem Ny.fz (h : Ny w0 g p E T b w) (i : Nat) : w.frozen? ⟨p, i, none⟩ = false := Md.of h.al
theorem Ny.cell (h : Ny w0 g p E T b w) (i : Nat) : w.cell? ⟨p, i, none⟩ = (mc E)[i]? := cell_of_row w _ i _ 29 (0, 0) h.al
theorem Ny.set (h : Ny w0 g p E T b w) (i : Nat) (v : Value) (he : (mc E).setIfInBounds i v = mc E') : Ny w0 g p E' T b (w.setCell ⟨p, i, none⟩ v) := by
  have h1 := h.q.lg
  have h2 := h.lp
  refine ⟨⟨rd_set h.q.hr (by simp; omega), ?_, ?_, gb_set h.q.fr (by simp; omega), h.q.lg, h.q.sz⟩, ?_, h.lp⟩
  · rw [Below.heap_setCell _ _ _ _ (by simp; omega)]; exact h.q.fn
  · rw [Below.heap_setCell _ _ _ _ (by simp; omega)]; exact h.q.res
  · rw [← he]; exact set_blk h.al i v
theorem Ny.sets (h : Ny w0 g p mzz T b w) (E' : Ms) : Ny w0 g p E' T b (wrm w p E') := by
  have h1 := h.q.lg
  have h2 := h.lp
  have hB : Below (w0.heap.size + 2) w (wrm w p E') := below_allm E' (Below.refl _ _) (by omega)
  exact ⟨⟨rd_allm E' h.q.hr (by omega), (hB.block _ (by omega)).trans h.q.fn, (hB.block _ (by omega)).trans h.q.res, gb_allm E' h.q.fr (by omega), h.q.lg, h.q.sz⟩, store_allm E' h.al, h.lp⟩
end
section
variable (w0 : World) (g p : Nat) (E : Ms) (T : ByteArray) (b : Bool) (k : Int) (w : World)
theorem nq_fix (h : Nq w0 g T b w) :
    Calls Tryz.prog 83 #[.pointer (some ⟨g, 0, none⟩), .int .i64 k] w fun q w' => q = .returned (.int .u64 (fixV T k)) ∧ Nq w0 g (fixT T k) (b || !hasF T k) w' ∧ w'.cell? ⟨w0.heap.size + 1, 0, none⟩ = some (.func (.func 83) #[.pointer (some ⟨g, 0, none⟩)] #[]) ∧ w.grownBy w' (some g) :=
  (fixedr_any g T b k w h.hr h.sz).mono fun q w' ⟨h1, h2, h3⟩ => ⟨h1, h.step h2 h3 (fixT_le T k), (h.step h2 h3 (fixT_le T k)).fcell, h3⟩
theorem nq_byt (h : Nq w0 g T b w) :
    Calls Tryz.prog 84 #[.pointer (some ⟨g, 0, none⟩), .int .i64 k] w fun q w' => q = .returned (.string (bytV T k)) ∧ Nq w0 g (bytT T k) (b || !hasB T k) w' ∧ w'.cell? ⟨w0.heap.size + 1, 0, none⟩ = some (.func (.func 83) #[.pointer (some ⟨g, 0, none⟩)] #[]) ∧ w.grownBy w' (some g) :=
  (bytes_any g T b k w h.hr h.sz).mono fun q w' ⟨h1, h2, h3⟩ => ⟨h1, h.step h2 h3 (bytT_le T k), (h.step h2 h3 (bytT_le T k)).fcell, h3⟩
set_option maxHeartbeats 400000 in
set_option maxRecDepth 100000 in
theorem nq_small (h : Nq w0 g T b w) :
    Calls Tryz.prog 157 #[.pointer (some ⟨w0.heap.size + 1, 0, none⟩)] w fun q w' => q = .returned (.int .i64 (fixV T 1)) ∧ Nq w0 g (fixT T 1) (b || !hasF T 1) w' ∧ w'.cell? ⟨w0.heap.size + 1, 0, none⟩ = some (.func (.func 83) #[.pointer (some ⟨g, 0, none⟩)] #[]) ∧ w.grownBy w' (some g) := by
  have c := h.fcell
  have hv := fixV_lt T 1 (by omega)
  rw [show (256 : Nat) ^ 1 = 256 from by decide] at hv
  have K := Lib.hid (nq_fix w0 g T b 1 w h)
  obtain ⟨v, hV⟩ : ∃ v, v = fixV T 1 := ⟨_, rfl⟩
  have hv2 : v < 256 := by rw [hV]; exact hv
  rw [← hV] at K ⊢
  have hw : IntKind.i64.wrap (v : Int) = (v : Int) := IntWalk.i64_in _ (by omega)
  clear h hV hv hv2
  go_enter Tryz.func157, Tryz.ntmps157
  go_wp2_with (go_at_call 83; (with_reducible refine K.out.mono ?_); rintro q w1 ⟨rfl, h1⟩)
  go_ret
  exact ⟨rfl, h1⟩
theorem ny_fix (h : Ny w0 g p E T b w) :
    Calls Tryz.prog 83 #[.pointer (some ⟨g, 0, none⟩), .int .i64 k] w fun q w' => q = .returned (.int .u64 (fixV T k)) ∧ Ny w0 g p E (fixT T k) (b || !hasF T k) w' ∧ w'.cell? ⟨w0.heap.size + 1, 0, none⟩ = some (.func (.func 83) #[.pointer (some ⟨g, 0, none⟩)] #[]) :=
  (nq_fix w0 g T b k w h.q).mono fun q w' ⟨h1, h2, h3, h4⟩ => by
    have hy := h.step h2.hr h4 (fixT_le T k)
    exact ⟨h1, hy, h3⟩
theorem ny_byt (h : Ny w0 g p E T b w) :
    Calls Tryz.prog 84 #[.pointer (some ⟨g, 0, none⟩), .int .i64 k] w fun q w' => q = .returned (.string (bytV T k)) ∧ Ny w0 g p E (bytT T k) (b || !hasB T k) w' ∧ w'.cell? ⟨w0.heap.size + 1, 0, none⟩ = some (.func (.func 83) #[.pointer (some ⟨g, 0, none⟩)] #[]) :=
  (nq_byt w0 g T b k w h.q).mono fun q w' ⟨h1, h2, h3, h4⟩ => by
    have hy := h.step h2.hr h4 (bytT_le T k)
    exact ⟨h1, hy, h3⟩
theorem ny_small (h : Ny w0 g p E T b w) :
    Calls Tryz.prog 157 #[.pointer (some ⟨w0.heap.size + 1, 0, none⟩)] w fun q w' => q = .returned (.int .i64 (fixV T 1)) ∧ Ny w0 g p E (fixT T 1) (b || !hasF T 1) w' ∧ w'.cell? ⟨w0.heap.size + 1, 0, none⟩ = some (.func (.func 83) #[.pointer (some ⟨g, 0, none⟩)] #[]) :=
  (nq_small w0 g T b w h.q).mono fun q w' ⟨h1, h2, h3, h4⟩ => by
    have hy := h.step h2.hr h4 (fixT_le T 1)
    exact ⟨h1, hy, h3⟩
end
set_option maxHeartbeats 400000 in
theorem bit63_any (b : Bool) (w : World) : Calls Tryz.prog 131 #[.bool b] w fun q w' => q = .returned (.int .i64 (bitI b)) ∧ w' = w := by
  cases b
  · go_enter Tryz.func131, Tryz.ntmps131
    go_wp2
    go_ret
    exact ⟨rfl, rfl⟩
  · go_enter Tryz.func131, Tryz.ntmps131
    go_wp2
    go_ret
    exact ⟨rfl, rfl⟩

/-- The message's first eight numbers, and has the reader failed? -/
def mP8 (s : ByteArray) : Ms := { kind := fixV s 1, frm := fixV (u1 s) 1, dst := fixV (u2 s) 1, term := fixV (u3 s) 8, index := fixV (u4 s) 8, prev := fixV (u5 s) 8, commit := fixV (u6 s) 8, mark := fixV (u7 s) 8, ok := false, A := none, n := 0, c := 0, es := [], snap := ⟨#[]⟩ }
def fm8 (s : ByteArray) : Bool := false || !hasF s 1 || !hasF (u1 s) 1 || !hasF (u2 s) 1 || !hasF (u3 s) 8 || !hasF (u4 s) 8 || !hasF (u5 s) 8 || !hasF (u6 s) 8 || !hasF (u7 s) 8
end Go.Proofs.YtpdbeijfchmlgaaGreat
namespace Go.Proofs.YtpdbeijfchmlgaaGreat
open Go.RowKit
open Vi
set_option linter.unusedVariables false
set_option linter.unusedSimpArgs false

/-- What is read behind the first eight numbers: the text, and has the reader failed? -/
def mX9 (s : ByteArray) : ByteArray := if mY s ≤ 1 then u9 s else ⟨#[]⟩
def rN (s : ByteArray) : Nat := fixV (mX9 s) 1
def r10 (s : ByteArray) : ByteArray := fixT (mX9 s) 1
def rG (s : ByteArray) : ByteArray := gTs (rN s) (r10 s)
def rZ (s : ByteArray) : Nat := fixV (rG s) 4
def rS (s : ByteArray) : ByteArray := bytV (fixT (rG s) 4) (rZ s)
def rT (s : ByteArray) : ByteArray := bytT (fixT (rG s) 4) (rZ s)
def gFs : Bool → Nat → ByteArray → Bool
  | b, 0, _ => b
  | b, n + 1, t => gFs (b || !getO t) n (getT t)
def mF8 (s : ByteArray) : Bool := fm8 s || !hasF (u8 s) 1
def mF9 (s : ByteArray) : Bool := mF8 s || decide (1 < mY s)
def mF10 (s : ByteArray) : Bool := mF9 s || !hasF (mX9 s) 1
def mFG (s : ByteArray) : Bool := gFs (mF10 s) (rN s) (r10 s)
def mFR (s : ByteArray) : Bool := (mFG s || !hasF (rG s) 4) || !hasB (fixT (rG s) 4) (rZ s)
def mP9 (s : ByteArray) : Ms := { mP8 s with ok := mY s == 1 }
def mKp (P : Ms) (y : ByteArray) (k : Nat) (A : Option Addr) (c : Nat) : Ms := { P with A := A, n := k, c := c, es := gEs k y }
def mRd (s : ByteArray) (A : Option Addr) (c : Nat) : Ms := { mKp (mP9 s) (r10 s) (rN s) A c with snap := rS s }
/-- What readMsg returns. -/
def ReadM (g : Nat) (s : ByteArray) (w : World) (q : Ending) (w' : World) : Prop :=
  ∃ A c, q = .returned (mv (mRd s A c)) ∧ (∀ a, A = some a → w.heap.size ≤ a.block) ∧ Ents w'.heap.size A (rN s) (gEs (rN s) (r10 s)) w' ∧ Rd 178 g (rT s) (mFR s) w' ∧ w.grownBy w' (some g)
theorem gEs_snoc : ∀ (k : Nat) (y : ByteArray), gEs (k + 1) y = gEs k y ++ [getE (gTs k y)]
  | 0, y => rfl
  | k + 1, y => by
    show getE y :: gEs (k + 1) (getT y) = getE y :: gEs k (getT y) ++ [getE (gTs k (getT y))]
    rw [gEs_snoc k (getT y)]
    rfl
theorem gTs_snoc : ∀ (k : Nat) (y : ByteArray), gTs (k + 1) y = getT (gTs k y)
  | 0, y => rfl
  | k + 1, y => gTs_snoc k (getT y)
theorem gFs_snoc : ∀ (b : Bool) (k : Nat) (y : ByteArray), gFs b (k + 1) y = (gFs b k y || !getO (gTs k y))
  | b, 0, y => rfl
  | b, k + 1, y => gFs_snoc (b || !getO y) k (getT y)
theorem getO_nil : getO ⟨#[]⟩ = false := by
  cases h : getO ⟨#[]⟩ with
  | false => rfl
  | true =>
    have := (getO_size h).1
    exact absurd this (by show ¬ 110 ≤ 0; omega)
theorem getT_nil : getT ⟨#[]⟩ = ⟨#[]⟩ := by unfold getT; rw [getO_nil]; rfl
theorem getT_no {t : ByteArray} (h : getO t = false) : getT t = ⟨#[]⟩ := by unfold getT; rw [h]; rfl
theorem getT_le (t : ByteArray) : (getT t).size ≤ t.size := by
  unfold getT
  split
  · rw [sk_size]; omega
  · exact Nat.zero_le _
theorem sane_get {t : ByteArray} {b : Bool} (h : Vi.Sane t b) : Vi.Sane (getT t) (b || !getO t) ∧ getE' t b = getE t ∧ getT' t b = getT t := by
  cases b with
  | true =>
    have e : t = ⟨#[]⟩ := h rfl
    subst e
    refine ⟨fun _ => getT_nil, ?_, ?_⟩
    · show ezz = getE _
      unfold getE; rw [getO_nil]; rfl
    · show (⟨#[]⟩ : ByteArray) = getT _
      exact getT_nil.symm
  | false =>
    refine ⟨fun hb => ?_, rfl, rfl⟩
    rw [Bool.false_or] at hb
    exact getT_no (by simpa using hb)
theorem sane_gs : ∀ (k : Nat) (b : Bool) (y : ByteArray), Vi.Sane y b → Vi.Sane (gTs k y) (gFs b k y)
  | 0, _, _, h => h
  | k + 1, _, _, h => sane_gs k _ _ (sane_get h).1
theorem getE_ok (t : ByteArray) : (getE t).Ok := by
  unfold getE
  split
  · exact prs_ok t
  · exact ok_of2 0 0 0 0 0 0 0 0 0 ⟨#[]⟩ (by decide) (by decide) (by decide) (by decide) (by decide) (by decide) (by decide) (by decide) (by decide) (by decide)
theorem gTs_le : ∀ (k : Nat) (y : ByteArray), (gTs k y).size ≤ y.size
  | 0, _ => Nat.le_refl _
  | k + 1, y => Nat.le_trans (gTs_le k (getT y)) (getT_le y)
/-- In the midst of the entries: they lie in a row of the call's own. -/
structure Nr (w0 : World) (g p : Nat) (E : Ms) (T : ByteArray) (b : Bool) (w : World) : Prop where
  y : Ny w0 g p E T b w
  own : w.ownsRow (p + 1) 24 11 (.slice E.A E.n E.c) E.n (flat E.es)
  hl : E.es.length = E.n
  lw : w0.heap.size ≤ p
section
variable {w0 w w1 : World} {g p : Nat} {T T' : ByteArray} {b b' : Bool} {E E' : Ms}
theorem Nr.gs (h : Nr w0 g p E T b w) : p < w.heap.size := (Array.getElem?_eq_some_iff.1 h.y.al).1
theorem Nr.drew (h : Nr w0 g p E T b w) : Nr w0 g p E T b w.drew := ⟨h.y.drew, own_of_heap h.own fun _ _ => rfl, h.hl, h.lw⟩
theorem Nr.step (h : Nr w0 g p E T b w) (hx : Rd 178 g T' b' w1) (hf : w.grownBy w1 (some g)) (hT : T'.size ≤ T.size) : Nr w0 g p E T' b' w1 := by
  have h1 := h.y.q.lg
  have h2 := h.lw
  exact ⟨h.y.step hx hf hT, own_of_heap h.own fun k hk => hf.block k (h.own.lt k hk).2 (fun e => by have := (h.own.lt k hk).1; injection e; omega), h.hl, h.lw⟩
theorem Nr.below (h : Nr w0 g p E T b w) (hb : Below w.heap.size w w1) : Nr w0 g p E T b w1 :=
  ⟨h.y.below hb, own_of_heap h.own fun k hk => hb.block k (h.own.lt k hk).2, h.hl, h.lw⟩
/-- An entry was appended. -/
theorem Nr.app {w2 w4 : World} {e : En} {n g4 cap : Nat} (h : Nr w0 g p E T b w2) (hn : E.n = n) (hown : w4.ownsRow (p + 1) 24 11 (.slice (some ⟨g4, 0, none⟩) (n + 1) cap) (n + 1) (flat E.es ++ (ec e).toList)) (hgrow : w2.grownBy w4 (Value.slice E.A n E.c).ownBlock) :
    Nr w0 g p { E with A := some ⟨g4, 0, none⟩, n := n + 1, c := cap, es := E.es ++ [e] } T b (w4.setCell ⟨p, 9, none⟩ (.slice (some ⟨g4, 0, none⟩) (n + 1) cap)) := by
  subst hn
  have hg := h.gs
  have h1 := h.y.q.lg
  have h2 := h.lw
  have h3 := h.y.lp
  have hne : ∀ k, k ≤ p → some k ≠ (Value.slice E.A E.n E.c).ownBlock := fun k hk e => by
    have := (h.own.lt k e.symm).1
    omega
  have hbl : ∀ k, k ≤ p → w4.heap[k]? = w2.heap[k]? := fun k hk => hgrow.block k (by omega) (hne k hk)
  have hY : Ny w0 g p E T b w4 := by
    refine ⟨⟨(hbl _ (by omega)).trans h.y.q.hr, (hbl _ (by omega)).trans h.y.q.fn, (hbl _ (by omega)).trans h.y.q.res, ?_, h1, h.y.q.sz⟩, (hbl _ (Nat.le_refl _)).trans h.y.al, h3⟩
    have f := h.y.q.fr
    exact ⟨hgrow.os.trans f.os, hgrow.tape.trans f.tape, hgrow.output.trans f.output, Nat.le_trans f.size hgrow.size, fun k hk hk2 => (hbl k (by omega)).trans (f.block k hk hk2)⟩
  refine ⟨hY.set 9 _ (by simp), ?_, ?_, h2⟩
  · show World.ownsRow _ (p + 1) 24 11 (.slice (some ⟨g4, 0, none⟩) (E.n + 1) cap) (E.n + 1) (flat (E.es ++ [e]))
    rw [flat_snoc]
    exact ownsRow_setCell_below hown (by simp) _
  · show (E.es ++ [e]).length = E.n + 1
    rw [List.length_append, h.hl]
    rfl
theorem Nr.set (h : Nr w0 g p E T b w) (i : Nat) (v : Value) (he : (mc E).setIfInBounds i v = mc E') (hA : E'.A = E.A) (hc : E'.c = E.c) (hn : E'.n = E.n) (hes : E'.es = E.es) : Nr w0 g p E' T b (w.setCell ⟨p, i, none⟩ v) := by
  refine ⟨h.y.set i v he, ?_, by rw [hes, hn]; exact h.hl, h.lw⟩
  rw [hA, hc, hn, hes]
  exact ownsRow_setCell_below h.own (by simp) _
end
section
variable (w0 : World) (g p : Nat) (E : Ms) (T : ByteArray) (b : Bool) (k : Int) (w : World)
theorem ny_fail (h : Ny w0 g p E T b w) :
    Calls Tryz.prog 87 #[.pointer (some ⟨g, 0, none⟩)] w fun q w' => q = .returned (.tuple #[]) ∧ Ny w0 g p E ⟨#[]⟩ true w' :=
  (fail_any g T b w h.q.hr).mono fun q w' ⟨h1, h2, h3⟩ => ⟨h1, h.step h2 h3 (Nat.zero_le _)⟩
theorem nr_get (h : Nr w0 g p E T b w) (hs : Vi.Sane T b) :
    Calls Tryz.prog 39 #[.pointer (some ⟨g, 0, none⟩)] w fun q w' => q = .returned (ev (getE T)) ∧ Nr w0 g p E (getT T) (b || !getO T) w' := by
  obtain ⟨_, e1, e2⟩ := sane_get hs
  refine (get_any g T b w h.y.q.hr h.y.q.sz).mono fun q w' ⟨h1, h2, h3⟩ => ?_
  rw [e1] at h1
  rw [e2] at h2
  exact ⟨h1, h.step h2 h3 (getT_le T)⟩
theorem nr_fix (h : Nr w0 g p E T b w) :
    Calls Tryz.prog 83 #[.pointer (some ⟨g, 0, none⟩), .int .i64 k] w fun q w' => q = .returned (.int .u64 (fixV T k)) ∧ Nr w0 g p E (fixT T k) (b || !hasF T k) w' :=
  (fixedr_any g T b k w h.y.q.hr h.y.q.sz).mono fun q w' ⟨h1, h2, h3⟩ => ⟨h1, h.step h2 h3 (fixT_le T k)⟩
theorem nr_byt (h : Nr w0 g p E T b w) :
    Calls Tryz.prog 84 #[.pointer (some ⟨g, 0, none⟩), .int .i64 k] w fun q w' => q = .returned (.string (bytV T k)) ∧ Nr w0 g p E (bytT T k) (b || !hasB T k) w' :=
  (bytes_any g T b k w h.y.q.hr h.y.q.sz).mono fun q w' ⟨h1, h2, h3⟩ => ⟨h1, h.step h2 h3 (bytT_le T k)⟩
end
theorem sane_fm8 (s : ByteArray) : Vi.Sane (u8 s) (fm8 s) := by
  unfold fm8 u8 u7 u6 u5 u4 u3 u2 u1
  exact Vi.sane_fix _ _ _ (Vi.sane_fix _ _ _ (Vi.sane_fix _ _ _ (Vi.sane_fix _ _ _ (Vi.sane_fix _ _ _ (Vi.sane_fix _ _ _ (Vi.sane_fix _ _ _ (Vi.sane_fix _ _ _ (fun h => by cases h))))))))
theorem sane_m10 (s : ByteArray) : Vi.Sane (r10 s) (mF10 s) := by
  have h8 : Vi.Sane (u9 s) (mF8 s) := Vi.sane_fix _ _ _ (sane_fm8 s)
  unfold r10 mF10
  refine Vi.sane_fix _ _ _ ?_
  unfold mX9 mF9
  by_cases h : mY s ≤ 1
  · rw [if_pos h, decide_eq_false (by omega), Bool.or_false]; exact h8
  · rw [if_neg h]; exact fun _ => rfl
theorem mc_set10 (E : Ms) (v : ByteArray) : (mc E).setIfInBounds 10 (.string v) = mc { E with snap := v } := by simp
theorem nr_next {w0 w2 w4 : World} {g p k c g4 cap : Nat} {P : Ms} {t0 : ByteArray} {b0 : Bool} {A : Option Addr} {E : En} {es : List En} (h : Nr w0 g p (mKp P t0 k A c) (getT (gTs k t0)) (gFs b0 k t0 || !getO (gTs k t0)) w2) (hE : E = getE (gTs k t0)) (hes : es = gEs k t0) (hown : w4.ownsRow (p + 1) 24 11 (.slice (some ⟨g4, 0, none⟩) (k + 1) cap) (k + 1) (flat es ++ (ec E).toList)) (hgrow : w2.grownBy w4 (Value.slice A k c).ownBlock) :
    Nr w0 g p (mKp P t0 (k + 1) (some ⟨g4, 0, none⟩) cap) (gTs (k + 1) t0) (gFs b0 (k + 1) t0) (w4.setCell ⟨p, 9, none⟩ (.slice (some ⟨g4, 0, none⟩) (k + 1) cap)) := by
  subst hE hes
  have h1 := h.app (E := mKp P t0 k A c) (e := getE (gTs k t0)) (n := k) rfl hown hgrow
  unfold mKp
  rw [gEs_snoc, gTs_snoc, gFs_snoc]
  exact h1
theorem nr_snap {w0 w : World} {g p : Nat} {E : Ms} {T : ByteArray} {b : Bool} (h : Nr w0 g p E T b w) (v : ByteArray) : Nr w0 g p { E with snap := v } T b (w.setCell ⟨p, 10, none⟩ (.string v)) :=
  h.set 10 _ (mc_set10 _ _) rfl rfl rfl rfl
theorem mRd_parts (s : ByteArray) (A : Option Addr) (c : Nat) : (mRd s A c).A = A ∧ (mRd s A c).n = rN s ∧ (mRd s A c).es = gEs (rN s) (r10 s) := by
  simp only [mRd, mKp, and_self]

set_option maxHeartbeats 16000000 in
set_option maxRecDepth 100000 in
theorem readMsg_any (g : Nat) (s : ByteArray) (w : World) (h : Rd 178 g s false w) (hm : s.size ≤ 140737488351232) :
    Calls Tryz.prog 95 #[.pointer (some ⟨g, 0, none⟩)] w (ReadM g s w) := by
  have hmf : ∀ (fn : Fn) (first cap : Array Value) (w : World), (Instr.makeFunc fn first cap).run Tryz.prog w = .ok (.func fn first cap) w := fun _ _ _ _ => rfl
  have hlt := h.lt
  obtain ⟨W0, hW0⟩ : ∃ W0, W0 = (w.alloc (Obj.cells (mc mzz) 29)).alloc (Obj.cells #[.func (.func 83) #[.pointer (some ⟨g, 0, none⟩)] #[]] 115) := ⟨_, rfl⟩
  have G0 : Nq w g s false W0 := by
    have k0 : W0.heap[w.heap.size]? = some (.cells (mc mzz) 29 (0, 0)) := by
      rw [hW0]; exact (Lib.alloc_old _ _ _ (by simp)).trans (heap_alloc_new w _)
    have k1 : W0.heap[w.heap.size + 1]? = some (.cells #[.func (.func 83) #[.pointer (some ⟨g, 0, none⟩)] #[]] 115 (0, 0)) := by
      have h := heap_alloc_new (w.alloc (Obj.cells (mc mzz) 29)) (Obj.cells #[.func (.func 83) #[.pointer (some ⟨g, 0, none⟩)] #[]] 115)
      rw [show (w.alloc (Obj.cells (mc mzz) 29)).heap.size = w.heap.size + 1 by simp] at h
      rw [hW0]; exact h
    have hb : Below w.heap.size w W0 := by rw [hW0]; exact ((Below.refl _ _).alloc (Nat.le_refl _) _).alloc (by simp) _
    exact ⟨h.below hb hlt, k1, k0, grownBy_below hb _, hlt, by omega⟩
  have KS := Lib.hid (nq_small w g)
  have KF := Lib.hid (nq_fix w g)
  have KSy := Lib.hid (ny_small w g)
  have KFy := Lib.hid (ny_fix w g)
  have KBy := Lib.hid (ny_byt w g)
  have HW0 := Lib.hid hW0
  have Gd := G0.drew
  have c0 := G0.fcell
  clear hW0 h
  have HSM := Lib.hid hm
  clear hm
  go_enter Tryz.func95, Tryz.ntmps95
  go_upto_region 3 with fail
  rw [← HW0.out]
  go_cut [6] from 8 to 60 (fun s6 wx => ∃ p, s6 = .pointer (some ⟨p, 0, none⟩) ∧ Ny w g p (mP8 s) (u8 s) (fm8 s) wx)
  case first =>
    refine wp_region_noPanic ?_
    refine wp_region_held_drew (S := (fun w' => w'.cell? ⟨w.heap.size + 1, 0, none⟩ = some (.func (.func 83) #[.pointer (some ⟨g, 0, none⟩)] #[]))) (by kernel_rfl) (by exact c0) (fun hHeld => ?_)
    refine wpAnyH_take (v := ?v0) (i := 0) rfl (by kernel_rfl) (by kernel_rfl) (by kernel_rfl) (fun _ _ _ h => h) (Or.inl ⟨by kernel_rfl, ?hy0⟩) (by assumption) ?rest0
    case hy0 => (intro w hSw; (try dsimp only at hSw); go_simp; first | done | (with_reducible rfl))
    try simp only [Act.put, List.setIfInBounds_toArray, List.set_cons_zero, List.set_cons_succ]
    refine wpAnyH_take (v := ?v2) (i := 2) rfl (by kernel_rfl) (by kernel_rfl) (by kernel_rfl) (fun _ _ _ h => h) (Or.inl ⟨by kernel_rfl, ?hy2⟩) (by assumption) ?rest2
    case hy2 => (intro w hSw; (try dsimp only at hSw); go_simp; first | done | (with_reducible rfl))
    try simp only [Act.put, List.setIfInBounds_toArray, List.set_cons_zero, List.set_cons_succ]
    refine wpAnyH_take (v := ?v4) (i := 4) rfl (by kernel_rfl) (by kernel_rfl) (by kernel_rfl) (fun _ _ _ h => h) (Or.inl ⟨by kernel_rfl, ?hy4⟩) (by assumption) ?rest4
    case hy4 => (intro w hSw; (try dsimp only at hSw); go_simp; first | done | (with_reducible rfl))
    try simp only [Act.put, List.setIfInBounds_toArray, List.set_cons_zero, List.set_cons_succ]
    refine wpAnyH_take (v := ?v6) (i := 6) rfl (by kernel_rfl) (by kernel_rfl) (by kernel_rfl) (fun _ _ _ h => h) (Or.inl ⟨by kernel_rfl, ?hy6⟩) (by assumption) ?rest6
    case hy6 => (intro w hSw; (try dsimp only at hSw); go_simp; first | done | (with_reducible rfl))
    try simp only [Act.put, List.setIfInBounds_toArray, List.set_cons_zero, List.set_cons_succ]
    refine wpAnyH_take (v := ?v8) (i := 8) rfl (by kernel_rfl) (by kernel_rfl) (by kernel_rfl) (fun _ _ _ h => h) (Or.inl ⟨by kernel_rfl, ?hy8⟩) (by assumption) ?rest8
    case hy8 => (intro w hSw; (try dsimp only at hSw); go_simp; first | done | (with_reducible rfl))
    try simp only [Act.put, List.setIfInBounds_toArray, List.set_cons_zero, List.set_cons_succ]
    refine wpAnyH_take (v := ?v10) (i := 10) rfl (by kernel_rfl) (by kernel_rfl) (by kernel_rfl) (fun _ _ _ h => h) (Or.inl ⟨by kernel_rfl, ?hy10⟩) (by assumption) ?rest10
    case hy10 => (intro w hSw; (try dsimp only at hSw); go_simp; first | done | (with_reducible rfl))
    try simp only [Act.put, List.setIfInBounds_toArray, List.set_cons_zero, List.set_cons_succ]
    refine wpAnyH_take (v := ?v12) (i := 12) rfl (by kernel_rfl) (by kernel_rfl) (by kernel_rfl) (fun _ _ _ h => h) (Or.inl ⟨by kernel_rfl, ?hy12⟩) (by assumption) ?rest12
    case hy12 => (intro w hSw; (try dsimp only at hSw); go_simp; first | done | (with_reducible rfl))
    try simp only [Act.put, List.setIfInBounds_toArray, List.set_cons_zero, List.set_cons_succ]
    refine wpAnyH_take (v := ?v14) (i := 14) rfl (by kernel_rfl) (by kernel_rfl) (by kernel_rfl) (fun _ _ _ h => h) (Or.inl ⟨by kernel_rfl, ?hy14⟩) (by assumption) ?rest14
    case hy14 => (intro w hSw; (try dsimp only at hSw); go_simp; first | done | (with_reducible rfl))
    try simp only [Act.put, List.setIfInBounds_toArray, List.set_cons_zero, List.set_cons_succ]
    have Gi := G0
    have G0 := Gd
    refine wpAnyH_ready (rs := [1, 17]) (by kernel_rfl) (by simp) ?_
    refine AllReadyH.cons rfl (fun K hK => ?_) (AllReadyH.cons rfl (fun K hK => ?_) AllReadyH.nil)
    · go_simp
      go_at_call 157
      (with_reducible refine (KS.out _ _ _ G0).mono ?_)
      rintro q w1 ⟨rfl, G1, c1, _⟩
      try go_wp2_with fail
      refine hK.out _ _ ?_ (fun hHeld => ?_)
      · exact c1
      clear hK K
      try simp only [Act.put, List.setIfInBounds_toArray, List.set_cons_zero, List.set_cons_succ]
      refine wpAnyH_ready (rs := [3, 17]) (by kernel_rfl) (by simp) ?_
      refine AllReadyH.cons rfl (fun K hK => ?_) (AllReadyH.cons rfl (fun K hK => ?_) AllReadyH.nil)
      · go_simp
        go_at_call 157
        (with_reducible refine (KS.out _ _ _ G1).mono ?_)
        rintro q w2 ⟨rfl, G2, c2, _⟩
        try go_wp2_with fail
        refine hK.out _ _ ?_ (fun hHeld => ?_)
        · exact c2
        clear hK K
        try simp only [Act.put, List.setIfInBounds_toArray, List.set_cons_zero, List.set_cons_succ]
        refine wpAnyH_ready (rs := [5, 17]) (by kernel_rfl) (by simp) ?_
        refine AllReadyH.cons rfl (fun K hK => ?_) (AllReadyH.cons rfl (fun K hK => ?_) AllReadyH.nil)
        · go_simp
          go_at_call 157
          (with_reducible refine (KS.out _ _ _ G2).mono ?_)
          rintro q w3 ⟨rfl, G3, c3, _⟩
          try go_wp2_with fail
          refine hK.out _ _ ?_ (fun hHeld => ?_)
          · exact c3
          clear hK K
          try simp only [Act.put, List.setIfInBounds_toArray, List.set_cons_zero, List.set_cons_succ]
          refine wpAnyH_ready (rs := [7, 17]) (by kernel_rfl) (by simp) ?_
          refine AllReadyH.cons rfl (fun K hK => ?_) (AllReadyH.cons rfl (fun K hK => ?_) AllReadyH.nil)
          · go_simp
            go_at_call 83
            (with_reducible refine (KF.out _ _ _ _ G3).mono ?_)
            rintro q w4 ⟨rfl, G4, c4, _⟩
            try go_wp2_with fail
            refine hK.out _ _ ?_ (fun hHeld => ?_)
            · exact c4
            clear hK K
            try simp only [Act.put, List.setIfInBounds_toArray, List.set_cons_zero, List.set_cons_succ]
            refine wpAnyH_ready (rs := [9, 17]) (by kernel_rfl) (by simp) ?_
            refine AllReadyH.cons rfl (fun K hK => ?_) (AllReadyH.cons rfl (fun K hK => ?_) AllReadyH.nil)
            · go_simp
              go_at_call 83
              (with_reducible refine (KF.out _ _ _ _ G4).mono ?_)
              rintro q w5 ⟨rfl, G5, c5, _⟩
              try go_wp2_with fail
              refine hK.out _ _ ?_ (fun hHeld => ?_)
              · exact c5
              clear hK K
              try simp only [Act.put, List.setIfInBounds_toArray, List.set_cons_zero, List.set_cons_succ]
              refine wpAnyH_ready (rs := [11, 17]) (by kernel_rfl) (by simp) ?_
              refine AllReadyH.cons rfl (fun K hK => ?_) (AllReadyH.cons rfl (fun K hK => ?_) AllReadyH.nil)
              · go_simp
                go_at_call 83
                (with_reducible refine (KF.out _ _ _ _ G5).mono ?_)
                rintro q w6 ⟨rfl, G6, c6, _⟩
                try go_wp2_with fail
                refine hK.out _ _ ?_ (fun hHeld => ?_)
                · exact c6
                clear hK K
                try simp only [Act.put, List.setIfInBounds_toArray, List.set_cons_zero, List.set_cons_succ]
                refine wpAnyH_ready (rs := [13, 17]) (by kernel_rfl) (by simp) ?_
                refine AllReadyH.cons rfl (fun K hK => ?_) (AllReadyH.cons rfl (fun K hK => ?_) AllReadyH.nil)
                · go_simp
                  go_at_call 83
                  (with_reducible refine (KF.out _ _ _ _ G6).mono ?_)
                  rintro q w7 ⟨rfl, G7, c7, _⟩
                  try go_wp2_with fail
                  refine hK.out _ _ ?_ (fun hHeld => ?_)
                  · exact c7
                  clear hK K
                  try simp only [Act.put, List.setIfInBounds_toArray, List.set_cons_zero, List.set_cons_succ]
                  refine wpAnyH_ready (rs := [15, 17]) (by kernel_rfl) (by simp) ?_
                  refine AllReadyH.cons rfl (fun K hK => ?_) (AllReadyH.cons rfl (fun K hK => ?_) AllReadyH.nil)
                  · go_simp
                    go_at_call 83
                    (with_reducible refine (KF.out _ _ _ _ G7).mono ?_)
                    rintro q w8 ⟨rfl, G8, c8, _⟩
                    try go_wp2_with fail
                    refine hK.out _ _ ?_ (fun hHeld => ?_)
                    · exact c8
                    clear hK K
                    try simp only [Act.put, List.setIfInBounds_toArray, List.set_cons_zero, List.set_cons_succ]
                    refine wpAnyH_take (v := ?vn_16) (i := 16) rfl (by kernel_rfl) (by kernel_rfl) (by kernel_rfl) (fun _ _ _ h => h) (Or.inl ⟨by kernel_rfl, ?hyn_16⟩) (by assumption) ?restn_16
                    case hyn_16 => (intro w hSw; (try dsimp only at hSw); go_simp; first | done | (with_reducible rfl))
                    try simp only [Act.put, List.setIfInBounds_toArray, List.set_cons_zero, List.set_cons_succ]
                    refine wpAnyH_ready (rs := [17]) (by kernel_rfl) (by simp) ?_
                    refine AllReadyH.cons rfl (fun K hK => ?_) AllReadyH.nil
                    go_simp
                    refine hK.out _ _ ?_ (fun hHeld => ?_)
                    · exact Nq.fcella G8 _
                    clear hK K
                    try simp only [Act.put, List.setIfInBounds_toArray, List.set_cons_zero, List.set_cons_succ]
                    have G8y := Nq.toY (mP8 s) G8
                    refine wpAnyH_ready (rs := [18]) (by kernel_rfl) (by simp) ?_
                    refine AllReadyH.cons rfl (fun K hK => ?_) AllReadyH.nil
                    go_simp
                    refine hK.out _ _ ?_ (fun hHeld => ?_)
                    · exact G8y.q.fcell
                    clear hK K
                    try simp only [Act.put, List.setIfInBounds_toArray, List.set_cons_zero, List.set_cons_succ]
                    refine wpAnyH_done (by kernel_rfl) ?_ _
                    refine NoPanic.normal ?_
                    go_wp2_with fail
                    go_meet
                    exact ⟨_, rfl, G8y⟩
                  · go_simp
                    refine hK.out _ _ ?_ (fun hHeld => ?_)
                    · exact Nq.fcella G7 _
                    clear hK K
                    try simp only [Act.put, List.setIfInBounds_toArray, List.set_cons_zero, List.set_cons_succ]
                    have G7y := Nq.toY mzz G7
                    refine wpAnyH_ready (rs := [15]) (by kernel_rfl) (by simp) ?_
                    refine AllReadyH.cons rfl (fun K hK => ?_) AllReadyH.nil
                    go_simp
                    go_at_call 83
                    (with_reducible refine (KFy.out _ _ _ _ _ _ G7y).mono ?_)
                    rintro q w8y ⟨rfl, G8y, c8y⟩
                    try go_wp2_with fail
                    refine hK.out _ _ ?_ (fun hHeld => ?_)
                    · exact c8y
                    clear hK K
                    try simp only [Act.put, List.setIfInBounds_toArray, List.set_cons_zero, List.set_cons_succ]
                    refine wpAnyH_take (v := ?vb7_16) (i := 16) rfl (by kernel_rfl) (by kernel_rfl) (by kernel_rfl) (fun _ _ _ h => h) (Or.inl ⟨by kernel_rfl, ?hyb7_16⟩) (by assumption) ?restb7_16
                    case hyb7_16 => (intro w hSw; (try dsimp only at hSw); go_simp; first | done | (with_reducible rfl))
                    try simp only [Act.put, List.setIfInBounds_toArray, List.set_cons_zero, List.set_cons_succ]
                    have e0 : w8y.cell? ⟨w7.heap.size, 0, none⟩ = some (.int .i64 0) := G8y.cell 0
                    have e1 : w8y.cell? ⟨w7.heap.size, 1, none⟩ = some (.int .i64 0) := G8y.cell 1
                    have e2 : w8y.cell? ⟨w7.heap.size, 2, none⟩ = some (.int .i64 0) := G8y.cell 2
                    have e3 : w8y.cell? ⟨w7.heap.size, 3, none⟩ = some (.int .u64 0) := G8y.cell 3
                    have e4 : w8y.cell? ⟨w7.heap.size, 4, none⟩ = some (.int .u64 0) := G8y.cell 4
                    have e5 : w8y.cell? ⟨w7.heap.size, 5, none⟩ = some (.int .u64 0) := G8y.cell 5
                    have e6 : w8y.cell? ⟨w7.heap.size, 6, none⟩ = some (.int .u64 0) := G8y.cell 6
                    have e7 : w8y.cell? ⟨w7.heap.size, 7, none⟩ = some (.int .u64 0) := G8y.cell 7
                    have e8 : w8y.cell? ⟨w7.heap.size, 8, none⟩ = some (.bool false) := G8y.cell 8
                    have e9 : w8y.cell? ⟨w7.heap.size, 9, none⟩ = some (.slice none 0 0) := G8y.cell 9
                    have e10 : w8y.cell? ⟨w7.heap.size, 10, none⟩ = some (.string ⟨#[]⟩) := G8y.cell 10
                    have fz := G8y.fz
                    refine wpAnyH_ready (rs := [18]) (by kernel_rfl) (by simp) ?_
                    refine AllReadyH.cons rfl (fun K hK => ?_) AllReadyH.nil
                    go_simp
                    refine hK.out _ _ ?_ (fun hHeld => ?_)
                    · exact (G8y.sets (mP8 s)).q.fcell
                    clear hK K
                    try simp only [Act.put, List.setIfInBounds_toArray, List.set_cons_zero, List.set_cons_succ]
                    refine wpAnyH_done (by kernel_rfl) ?_ _
                    refine NoPanic.normal ?_
                    go_wp2_with fail
                    go_meet
                    exact ⟨_, rfl, G8y.sets (mP8 s)⟩
                · go_simp
                  refine hK.out _ _ ?_ (fun hHeld => ?_)
                  · exact Nq.fcella G6 _
                  clear hK K
                  try simp only [Act.put, List.setIfInBounds_toArray, List.set_cons_zero, List.set_cons_succ]
                  have G6y := Nq.toY mzz G6
                  refine wpAnyH_ready (rs := [13]) (by kernel_rfl) (by simp) ?_
                  refine AllReadyH.cons rfl (fun K hK => ?_) AllReadyH.nil
                  go_simp
                  go_at_call 83
                  (with_reducible refine (KFy.out _ _ _ _ _ _ G6y).mono ?_)
                  rintro q w7y ⟨rfl, G7y, c7y⟩
                  try go_wp2_with fail
                  refine hK.out _ _ ?_ (fun hHeld => ?_)
                  · exact c7y
                  clear hK K
                  try simp only [Act.put, List.setIfInBounds_toArray, List.set_cons_zero, List.set_cons_succ]
                  refine wpAnyH_ready (rs := [15]) (by kernel_rfl) (by simp) ?_
                  refine AllReadyH.cons rfl (fun K hK => ?_) AllReadyH.nil
                  go_simp
                  go_at_call 83
                  (with_reducible refine (KFy.out _ _ _ _ _ _ G7y).mono ?_)
                  rintro q w8y ⟨rfl, G8y, c8y⟩
                  try go_wp2_with fail
                  refine hK.out _ _ ?_ (fun hHeld => ?_)
                  · exact c8y
                  clear hK K
                  try simp only [Act.put, List.setIfInBounds_toArray, List.set_cons_zero, List.set_cons_succ]
                  refine wpAnyH_take (v := ?vb6_16) (i := 16) rfl (by kernel_rfl) (by kernel_rfl) (by kernel_rfl) (fun _ _ _ h => h) (Or.inl ⟨by kernel_rfl, ?hyb6_16⟩) (by assumption) ?restb6_16
                  case hyb6_16 => (intro w hSw; (try dsimp only at hSw); go_simp; first | done | (with_reducible rfl))
                  try simp only [Act.put, List.setIfInBounds_toArray, List.set_cons_zero, List.set_cons_succ]
                  have e0 : w8y.cell? ⟨w6.heap.size, 0, none⟩ = some (.int .i64 0) := G8y.cell 0
                  have e1 : w8y.cell? ⟨w6.heap.size, 1, none⟩ = some (.int .i64 0) := G8y.cell 1
                  have e2 : w8y.cell? ⟨w6.heap.size, 2, none⟩ = some (.int .i64 0) := G8y.cell 2
                  have e3 : w8y.cell? ⟨w6.heap.size, 3, none⟩ = some (.int .u64 0) := G8y.cell 3
                  have e4 : w8y.cell? ⟨w6.heap.size, 4, none⟩ = some (.int .u64 0) := G8y.cell 4
                  have e5 : w8y.cell? ⟨w6.heap.size, 5, none⟩ = some (.int .u64 0) := G8y.cell 5
                  have e6 : w8y.cell? ⟨w6.heap.size, 6, none⟩ = some (.int .u64 0) := G8y.cell 6
                  have e7 : w8y.cell? ⟨w6.heap.size, 7, none⟩ = some (.int .u64 0) := G8y.cell 7
                  have e8 : w8y.cell? ⟨w6.heap.size, 8, none⟩ = some (.bool false) := G8y.cell 8
                  have e9 : w8y.cell? ⟨w6.heap.size, 9, none⟩ = some (.slice none 0 0) := G8y.cell 9
                  have e10 : w8y.cell? ⟨w6.heap.size, 10, none⟩ = some (.string ⟨#[]⟩) := G8y.cell 10
                  have fz := G8y.fz
                  refine wpAnyH_ready (rs := [18]) (by kernel_rfl) (by simp) ?_
                  refine AllReadyH.cons rfl (fun K hK => ?_) AllReadyH.nil
                  go_simp
                  refine hK.out _ _ ?_ (fun hHeld => ?_)
                  · exact (G8y.sets (mP8 s)).q.fcell
                  clear hK K
                  try simp only [Act.put, List.setIfInBounds_toArray, List.set_cons_zero, List.set_cons_succ]
                  refine wpAnyH_done (by kernel_rfl) ?_ _
                  refine NoPanic.normal ?_
                  go_wp2_with fail
                  go_meet
                  exact ⟨_, rfl, G8y.sets (mP8 s)⟩
              · go_simp
                refine hK.out _ _ ?_ (fun hHeld => ?_)
                · exact Nq.fcella G5 _
                clear hK K
                try simp only [Act.put, List.setIfInBounds_toArray, List.set_cons_zero, List.set_cons_succ]
                have G5y := Nq.toY mzz G5
                refine wpAnyH_ready (rs := [11]) (by kernel_rfl) (by simp) ?_
                refine AllReadyH.cons rfl (fun K hK => ?_) AllReadyH.nil
                go_simp
                go_at_call 83
                (with_reducible refine (KFy.out _ _ _ _ _ _ G5y).mono ?_)
                rintro q w6y ⟨rfl, G6y, c6y⟩
                try go_wp2_with fail
                refine hK.out _ _ ?_ (fun hHeld => ?_)
                · exact c6y
                clear hK K
                try simp only [Act.put, List.setIfInBounds_toArray, List.set_cons_zero, List.set_cons_succ]
                refine wpAnyH_ready (rs := [13]) (by kernel_rfl) (by simp) ?_
                refine AllReadyH.cons rfl (fun K hK => ?_) AllReadyH.nil
                go_simp
                go_at_call 83
                (with_reducible refine (KFy.out _ _ _ _ _ _ G6y).mono ?_)
                rintro q w7y ⟨rfl, G7y, c7y⟩
                try go_wp2_with fail
                refine hK.out _ _ ?_ (fun hHeld => ?_)
                · exact c7y
                clear hK K
                try simp only [Act.put, List.setIfInBounds_toArray, List.set_cons_zero, List.set_cons_succ]
                refine wpAnyH_ready (rs := [15]) (by kernel_rfl) (by simp) ?_
                refine AllReadyH.cons rfl (fun K hK => ?_) AllReadyH.nil
                go_simp
                go_at_call 83
                (with_reducible refine (KFy.out _ _ _ _ _ _ G7y).mono ?_)
                rintro q w8y ⟨rfl, G8y, c8y⟩
                try go_wp2_with fail
                refine hK.out _ _ ?_ (fun hHeld => ?_)
                · exact c8y
                clear hK K
                try simp only [Act.put, List.setIfInBounds_toArray, List.set_cons_zero, List.set_cons_succ]
                refine wpAnyH_take (v := ?vb5_16) (i := 16) rfl (by kernel_rfl) (by kernel_rfl) (by kernel_rfl) (fun _ _ _ h => h) (Or.inl ⟨by kernel_rfl, ?hyb5_16⟩) (by assumption) ?restb5_16
                case hyb5_16 => (intro w hSw; (try dsimp only at hSw); go_simp; first | done | (with_reducible rfl))
                try simp only [Act.put, List.setIfInBounds_toArray, List.set_cons_zero, List.set_cons_succ]
                have e0 : w8y.cell? ⟨w5.heap.size, 0, none⟩ = some (.int .i64 0) := G8y.cell 0
                have e1 : w8y.cell? ⟨w5.heap.size, 1, none⟩ = some (.int .i64 0) := G8y.cell 1
                have e2 : w8y.cell? ⟨w5.heap.size, 2, none⟩ = some (.int .i64 0) := G8y.cell 2
                have e3 : w8y.cell? ⟨w5.heap.size, 3, none⟩ = some (.int .u64 0) := G8y.cell 3
                have e4 : w8y.cell? ⟨w5.heap.size, 4, none⟩ = some (.int .u64 0) := G8y.cell 4
                have e5 : w8y.cell? ⟨w5.heap.size, 5, none⟩ = some (.int .u64 0) := G8y.cell 5
                have e6 : w8y.cell? ⟨w5.heap.size, 6, none⟩ = some (.int .u64 0) := G8y.cell 6
                have e7 : w8y.cell? ⟨w5.heap.size, 7, none⟩ = some (.int .u64 0) := G8y.cell 7
                have e8 : w8y.cell? ⟨w5.heap.size, 8, none⟩ = some (.bool false) := G8y.cell 8
                have e9 : w8y.cell? ⟨w5.heap.size, 9, none⟩ = some (.slice none 0 0) := G8y.cell 9
                have e10 : w8y.cell? ⟨w5.heap.size, 10, none⟩ = some (.string ⟨#[]⟩) := G8y.cell 10
                have fz := G8y.fz
                refine wpAnyH_ready (rs := [18]) (by kernel_rfl) (by simp) ?_
                refine AllReadyH.cons rfl (fun K hK => ?_) AllReadyH.nil
                go_simp
                refine hK.out _ _ ?_ (fun hHeld => ?_)
                · exact (G8y.sets (mP8 s)).q.fcell
                clear hK K
                try simp only [Act.put, List.setIfInBounds_toArray, List.set_cons_zero, List.set_cons_succ]
                refine wpAnyH_done (by kernel_rfl) ?_ _
                refine NoPanic.normal ?_
                go_wp2_with fail
                go_meet
                exact ⟨_, rfl, G8y.sets (mP8 s)⟩
            · go_simp
              refine hK.out _ _ ?_ (fun hHeld => ?_)
              · exact Nq.fcella G4 _
              clear hK K
              try simp only [Act.put, List.setIfInBounds_toArray, List.set_cons_zero, List.set_cons_succ]
              have G4y := Nq.toY mzz G4
              refine wpAnyH_ready (rs := [9]) (by kernel_rfl) (by simp) ?_
              refine AllReadyH.cons rfl (fun K hK => ?_) AllReadyH.nil
              go_simp
              go_at_call 83
              (with_reducible refine (KFy.out _ _ _ _ _ _ G4y).mono ?_)
              rintro q w5y ⟨rfl, G5y, c5y⟩
              try go_wp2_with fail
              refine hK.out _ _ ?_ (fun hHeld => ?_)
              · exact c5y
              clear hK K
              try simp only [Act.put, List.setIfInBounds_toArray, List.set_cons_zero, List.set_cons_succ]
              refine wpAnyH_ready (rs := [11]) (by kernel_rfl) (by simp) ?_
              refine AllReadyH.cons rfl (fun K hK => ?_) AllReadyH.nil
              go_simp
              go_at_call 83
              (with_reducible refine (KFy.out _ _ _ _ _ _ G5y).mono ?_)
              rintro q w6y ⟨rfl, G6y, c6y⟩
              try go_wp2_with fail
              refine hK.out _ _ ?_ (fun hHeld => ?_)
              · exact c6y
              clear hK K
              try simp only [Act.put, List.setIfInBounds_toArray, List.set_cons_zero, List.set_cons_succ]
              refine wpAnyH_ready (rs := [13]) (by kernel_rfl) (by simp) ?_
              refine AllReadyH.cons rfl (fun K hK => ?_) AllReadyH.nil
              go_simp
              go_at_call 83
              (with_reducible refine (KFy.out _ _ _ _ _ _ G6y).mono ?_)
              rintro q w7y ⟨rfl, G7y, c7y⟩
              try go_wp2_with fail
              refine hK.out _ _ ?_ (fun hHeld => ?_)
              · exact c7y
              clear hK K
              try simp only [Act.put, List.setIfInBounds_toArray, List.set_cons_zero, List.set_cons_succ]
              refine wpAnyH_ready (rs := [15]) (by kernel_rfl) (by simp) ?_
              refine AllReadyH.cons rfl (fun K hK => ?_) AllReadyH.nil
              go_simp
              go_at_call 83
              (with_reducible refine (KFy.out _ _ _ _ _ _ G7y).mono ?_)
              rintro q w8y ⟨rfl, G8y, c8y⟩
              try go_wp2_with fail
              refine hK.out _ _ ?_ (fun hHeld => ?_)
              · exact c8y
              clear hK K
              try simp only [Act.put, List.setIfInBounds_toArray, List.set_cons_zero, List.set_cons_succ]
              refine wpAnyH_take (v := ?vb4_16) (i := 16) rfl (by kernel_rfl) (by kernel_rfl) (by kernel_rfl) (fun _ _ _ h => h) (Or.inl ⟨by kernel_rfl, ?hyb4_16⟩) (by assumption) ?restb4_16
              case hyb4_16 => (intro w hSw; (try dsimp only at hSw); go_simp; first | done | (with_reducible rfl))
              try simp only [Act.put, List.setIfInBounds_toArray, List.set_cons_zero, List.set_cons_succ]
              have e0 : w8y.cell? ⟨w4.heap.size, 0, none⟩ = some (.int .i64 0) := G8y.cell 0
              have e1 : w8y.cell? ⟨w4.heap.size, 1, none⟩ = some (.int .i64 0) := G8y.cell 1
              have e2 : w8y.cell? ⟨w4.heap.size, 2, none⟩ = some (.int .i64 0) := G8y.cell 2
              have e3 : w8y.cell? ⟨w4.heap.size, 3, none⟩ = some (.int .u64 0) := G8y.cell 3
              have e4 : w8y.cell? ⟨w4.heap.size, 4, none⟩ = some (.int .u64 0) := G8y.cell 4
              have e5 : w8y.cell? ⟨w4.heap.size, 5, none⟩ = some (.int .u64 0) := G8y.cell 5
              have e6 : w8y.cell? ⟨w4.heap.size, 6, none⟩ = some (.int .u64 0) := G8y.cell 6
              have e7 : w8y.cell? ⟨w4.heap.size, 7, none⟩ = some (.int .u64 0) := G8y.cell 7
              have e8 : w8y.cell? ⟨w4.heap.size, 8, none⟩ = some (.bool false) := G8y.cell 8
              have e9 : w8y.cell? ⟨w4.heap.size, 9, none⟩ = some (.slice none 0 0) := G8y.cell 9
              have e10 : w8y.cell? ⟨w4.heap.size, 10, none⟩ = some (.string ⟨#[]⟩) := G8y.cell 10
              have fz := G8y.fz
              refine wpAnyH_ready (rs := [18]) (by kernel_rfl) (by simp) ?_
              refine AllReadyH.cons rfl (fun K hK => ?_) AllReadyH.nil
              go_simp
              refine hK.out _ _ ?_ (fun hHeld => ?_)
              · exact (G8y.sets (mP8 s)).q.fcell
              clear hK K
              try simp only [Act.put, List.setIfInBounds_toArray, List.set_cons_zero, List.set_cons_succ]
              refine wpAnyH_done (by kernel_rfl) ?_ _
              refine NoPanic.normal ?_
              go_wp2_with fail
              go_meet
              exact ⟨_, rfl, G8y.sets (mP8 s)⟩
          · go_simp
            refine hK.out _ _ ?_ (fun hHeld => ?_)
            · exact Nq.fcella G3 _
            clear hK K
            try simp only [Act.put, List.setIfInBounds_toArray, List.set_cons_zero, List.set_cons_succ]
            have G3y := Nq.toY mzz G3
            refine wpAnyH_ready (rs := [7]) (by kernel_rfl) (by simp) ?_
            refine AllReadyH.cons rfl (fun K hK => ?_) AllReadyH.nil
            go_simp
            go_at_call 83
            (with_reducible refine (KFy.out _ _ _ _ _ _ G3y).mono ?_)
            rintro q w4y ⟨rfl, G4y, c4y⟩
            try go_wp2_with fail
            refine hK.out _ _ ?_ (fun hHeld => ?_)
            · exact c4y
            clear hK K
            try simp only [Act.put, List.setIfInBounds_toArray, List.set_cons_zero, List.set_cons_succ]
            refine wpAnyH_ready (rs := [9]) (by kernel_rfl) (by simp) ?_
            refine AllReadyH.cons rfl (fun K hK => ?_) AllReadyH.nil
            go_simp
            go_at_call 83
            (with_reducible refine (KFy.out _ _ _ _ _ _ G4y).mono ?_)
            rintro q w5y ⟨rfl, G5y, c5y⟩
            try go_wp2_with fail
            refine hK.out _ _ ?_ (fun hHeld => ?_)
            · exact c5y
            clear hK K
            try simp only [Act.put, List.setIfInBounds_toArray, List.set_cons_zero, List.set_cons_succ]
            refine wpAnyH_ready (rs := [11]) (by kernel_rfl) (by simp) ?_
            refine AllReadyH.cons rfl (fun K hK => ?_) AllReadyH.nil
            go_simp
            go_at_call 83
            (with_reducible refine (KFy.out _ _ _ _ _ _ G5y).mono ?_)
            rintro q w6y ⟨rfl, G6y, c6y⟩
            try go_wp2_with fail
            refine hK.out _ _ ?_ (fun hHeld => ?_)
            · exact c6y
            clear hK K
            try simp only [Act.put, List.setIfInBounds_toArray, List.set_cons_zero, List.set_cons_succ]
            refine wpAnyH_ready (rs := [13]) (by kernel_rfl) (by simp) ?_
            refine AllReadyH.cons rfl (fun K hK => ?_) AllReadyH.nil
            go_simp
            go_at_call 83
            (with_reducible refine (KFy.out _ _ _ _ _ _ G6y).mono ?_)
            rintro q w7y ⟨rfl, G7y, c7y⟩
            try go_wp2_with fail
            refine hK.out _ _ ?_ (fun hHeld => ?_)
            · exact c7y
            clear hK K
            try simp only [Act.put, List.setIfInBounds_toArray, List.set_cons_zero, List.set_cons_succ]
            refine wpAnyH_ready (rs := [15]) (by kernel_rfl) (by simp) ?_
            refine AllReadyH.cons rfl (fun K hK => ?_) AllReadyH.nil
            go_simp
            go_at_call 83
            (with_reducible refine (KFy.out _ _ _ _ _ _ G7y).mono ?_)
            rintro q w8y ⟨rfl, G8y, c8y⟩
            try go_wp2_with fail
            refine hK.out _ _ ?_ (fun hHeld => ?_)
            · exact c8y
            clear hK K
            try simp only [Act.put, List.setIfInBounds_toArray, List.set_cons_zero, List.set_cons_succ]
            refine wpAnyH_take (v := ?vb3_16) (i := 16) rfl (by kernel_rfl) (by kernel_rfl) (by kernel_rfl) (fun _ _ _ h => h) (Or.inl ⟨by kernel_rfl, ?hyb3_16⟩) (by assumption) ?restb3_16
            case hyb3_16 => (intro w hSw; (try dsimp only at hSw); go_simp; first | done | (with_reducible rfl))
            try simp only [Act.put, List.setIfInBounds_toArray, List.set_cons_zero, List.set_cons_succ]
            have e0 : w8y.cell? ⟨w3.heap.size, 0, none⟩ = some (.int .i64 0) := G8y.cell 0
            have e1 : w8y.cell? ⟨w3.heap.size, 1, none⟩ = some (.int .i64 0) := G8y.cell 1
            have e2 : w8y.cell? ⟨w3.heap.size, 2, none⟩ = some (.int .i64 0) := G8y.cell 2
            have e3 : w8y.cell? ⟨w3.heap.size, 3, none⟩ = some (.int .u64 0) := G8y.cell 3
            have e4 : w8y.cell? ⟨w3.heap.size, 4, none⟩ = some (.int .u64 0) := G8y.cell 4
            have e5 : w8y.cell? ⟨w3.heap.size, 5, none⟩ = some (.int .u64 0) := G8y.cell 5
            have e6 : w8y.cell? ⟨w3.heap.size, 6, none⟩ = some (.int .u64 0) := G8y.cell 6
            have e7 : w8y.cell? ⟨w3.heap.size, 7, none⟩ = some (.int .u64 0) := G8y.cell 7
            have e8 : w8y.cell? ⟨w3.heap.size, 8, none⟩ = some (.bool false) := G8y.cell 8
            have e9 : w8y.cell? ⟨w3.heap.size, 9, none⟩ = some (.slice none 0 0) := G8y.cell 9
            have e10 : w8y.cell? ⟨w3.heap.size, 10, none⟩ = some (.string ⟨#[]⟩) := G8y.cell 10
            have fz := G8y.fz
            refine wpAnyH_ready (rs := [18]) (by kernel_rfl) (by simp) ?_
            refine AllReadyH.cons rfl (fun K hK => ?_) AllReadyH.nil
            go_simp
            refine hK.out _ _ ?_ (fun hHeld => ?_)
            · exact (G8y.sets (mP8 s)).q.fcell
            clear hK K
            try simp only [Act.put, List.setIfInBounds_toArray, List.set_cons_zero, List.set_cons_succ]
            refine wpAnyH_done (by kernel_rfl) ?_ _
            refine NoPanic.normal ?_
            go_wp2_with fail
            go_meet
            exact ⟨_, rfl, G8y.sets (mP8 s)⟩
        · go_simp
          refine hK.out _ _ ?_ (fun hHeld => ?_)
          · exact Nq.fcella G2 _
          clear hK K
          try simp only [Act.put, List.setIfInBounds_toArray, List.set_cons_zero, List.set_cons_succ]
          have G2y := Nq.toY mzz G2
          refine wpAnyH_ready (rs := [5]) (by kernel_rfl) (by simp) ?_
          refine AllReadyH.cons rfl (fun K hK => ?_) AllReadyH.nil
          go_simp
          go_at_call 157
          (with_reducible refine (KSy.out _ _ _ _ _ G2y).mono ?_)
          rintro q w3y ⟨rfl, G3y, c3y⟩
          try go_wp2_with fail
          refine hK.out _ _ ?_ (fun hHeld => ?_)
          · exact c3y
          clear hK K
          try simp only [Act.put, List.setIfInBounds_toArray, List.set_cons_zero, List.set_cons_succ]
          refine wpAnyH_ready (rs := [7]) (by kernel_rfl) (by simp) ?_
          refine AllReadyH.cons rfl (fun K hK => ?_) AllReadyH.nil
          go_simp
          go_at_call 83
          (with_reducible refine (KFy.out _ _ _ _ _ _ G3y).mono ?_)
          rintro q w4y ⟨rfl, G4y, c4y⟩
          try go_wp2_with fail
          refine hK.out _ _ ?_ (fun hHeld => ?_)
          · exact c4y
          clear hK K
          try simp only [Act.put, List.setIfInBounds_toArray, List.set_cons_zero, List.set_cons_succ]
          refine wpAnyH_ready (rs := [9]) (by kernel_rfl) (by simp) ?_
          refine AllReadyH.cons rfl (fun K hK => ?_) AllReadyH.nil
          go_simp
          go_at_call 83
          (with_reducible refine (KFy.out _ _ _ _ _ _ G4y).mono ?_)
          rintro q w5y ⟨rfl, G5y, c5y⟩
          try go_wp2_with fail
          refine hK.out _ _ ?_ (fun hHeld => ?_)
          · exact c5y
          clear hK K
          try simp only [Act.put, List.setIfInBounds_toArray, List.set_cons_zero, List.set_cons_succ]
          refine wpAnyH_ready (rs := [11]) (by kernel_rfl) (by simp) ?_
          refine AllReadyH.cons rfl (fun K hK => ?_) AllReadyH.nil
          go_simp
          go_at_call 83
          (with_reducible refine (KFy.out _ _ _ _ _ _ G5y).mono ?_)
          rintro q w6y ⟨rfl, G6y, c6y⟩
          try go_wp2_with fail
          refine hK.out _ _ ?_ (fun hHeld => ?_)
          · exact c6y
          clear hK K
          try simp only [Act.put, List.setIfInBounds_toArray, List.set_cons_zero, List.set_cons_succ]
          refine wpAnyH_ready (rs := [13]) (by kernel_rfl) (by simp) ?_
          refine AllReadyH.cons rfl (fun K hK => ?_) AllReadyH.nil
          go_simp
          go_at_call 83
          (with_reducible refine (KFy.out _ _ _ _ _ _ G6y).mono ?_)
          rintro q w7y ⟨rfl, G7y, c7y⟩
          try go_wp2_with fail
          refine hK.out _ _ ?_ (fun hHeld => ?_)
          · exact c7y
          clear hK K
          try simp only [Act.put, List.setIfInBounds_toArray, List.set_cons_zero, List.set_cons_succ]
          refine wpAnyH_ready (rs := [15]) (by kernel_rfl) (by simp) ?_
          refine AllReadyH.cons rfl (fun K hK => ?_) AllReadyH.nil
          go_simp
          go_at_call 83
          (with_reducible refine (KFy.out _ _ _ _ _ _ G7y).mono ?_)
          rintro q w8y ⟨rfl, G8y, c8y⟩
          try go_wp2_with fail
          refine hK.out _ _ ?_ (fun hHeld => ?_)
          · exact c8y
          clear hK K
          try simp only [Act.put, List.setIfInBounds_toArray, List.set_cons_zero, List.set_cons_succ]
          refine wpAnyH_take (v := ?vb2_16) (i := 16) rfl (by kernel_rfl) (by kernel_rfl) (by kernel_rfl) (fun _ _ _ h => h) (Or.inl ⟨by kernel_rfl, ?hyb2_16⟩) (by assumption) ?restb2_16
          case hyb2_16 => (intro w hSw; (try dsimp only at hSw); go_simp; first | done | (with_reducible rfl))
          try simp only [Act.put, List.setIfInBounds_toArray, List.set_cons_zero, List.set_cons_succ]
          have e0 : w8y.cell? ⟨w2.heap.size, 0, none⟩ = some (.int .i64 0) := G8y.cell 0
          have e1 : w8y.cell? ⟨w2.heap.size, 1, none⟩ = some (.int .i64 0) := G8y.cell 1
          have e2 : w8y.cell? ⟨w2.heap.size, 2, none⟩ = some (.int .i64 0) := G8y.cell 2
          have e3 : w8y.cell? ⟨w2.heap.size, 3, none⟩ = some (.int .u64 0) := G8y.cell 3
          have e4 : w8y.cell? ⟨w2.heap.size, 4, none⟩ = some (.int .u64 0) := G8y.cell 4
          have e5 : w8y.cell? ⟨w2.heap.size, 5, none⟩ = some (.int .u64 0) := G8y.cell 5
          have e6 : w8y.cell? ⟨w2.heap.size, 6, none⟩ = some (.int .u64 0) := G8y.cell 6
          have e7 : w8y.cell? ⟨w2.heap.size, 7, none⟩ = some (.int .u64 0) := G8y.cell 7
          have e8 : w8y.cell? ⟨w2.heap.size, 8, none⟩ = some (.bool false) := G8y.cell 8
          have e9 : w8y.cell? ⟨w2.heap.size, 9, none⟩ = some (.slice none 0 0) := G8y.cell 9
          have e10 : w8y.cell? ⟨w2.heap.size, 10, none⟩ = some (.string ⟨#[]⟩) := G8y.cell 10
          have fz := G8y.fz
          refine wpAnyH_ready (rs := [18]) (by kernel_rfl) (by simp) ?_
          refine AllReadyH.cons rfl (fun K hK => ?_) AllReadyH.nil
          go_simp
          refine hK.out _ _ ?_ (fun hHeld => ?_)
          · exact (G8y.sets (mP8 s)).q.fcell
          clear hK K
          try simp only [Act.put, List.setIfInBounds_toArray, List.set_cons_zero, List.set_cons_succ]
          refine wpAnyH_done (by kernel_rfl) ?_ _
          refine NoPanic.normal ?_
          go_wp2_with fail
          go_meet
          exact ⟨_, rfl, G8y.sets (mP8 s)⟩
      · go_simp
        refine hK.out _ _ ?_ (fun hHeld => ?_)
        · exact Nq.fcella G1 _
        clear hK K
        try simp only [Act.put, List.setIfInBounds_toArray, List.set_cons_zero, List.set_cons_succ]
        have G1y := Nq.toY mzz G1
        refine wpAnyH_ready (rs := [3]) (by kernel_rfl) (by simp) ?_
        refine AllReadyH.cons rfl (fun K hK => ?_) AllReadyH.nil
        go_simp
        go_at_call 157
        (with_reducible refine (KSy.out _ _ _ _ _ G1y).mono ?_)
        rintro q w2y ⟨rfl, G2y, c2y⟩
        try go_wp2_with fail
        refine hK.out _ _ ?_ (fun hHeld => ?_)
        · exact c2y
        clear hK K
        try simp only [Act.put, List.setIfInBounds_toArray, List.set_cons_zero, List.set_cons_succ]
        refine wpAnyH_ready (rs := [5]) (by kernel_rfl) (by simp) ?_
        refine AllReadyH.cons rfl (fun K hK => ?_) AllReadyH.nil
        go_simp
        go_at_call 157
        (with_reducible refine (KSy.out _ _ _ _ _ G2y).mono ?_)
        rintro q w3y ⟨rfl, G3y, c3y⟩
        try go_wp2_with fail
        refine hK.out _ _ ?_ (fun hHeld => ?_)
        · exact c3y
        clear hK K
        try simp only [Act.put, List.setIfInBounds_toArray, List.set_cons_zero, List.set_cons_succ]
        refine wpAnyH_ready (rs := [7]) (by kernel_rfl) (by simp) ?_
        refine AllReadyH.cons rfl (fun K hK => ?_) AllReadyH.nil
        go_simp
        go_at_call 83
        (with_reducible refine (KFy.out _ _ _ _ _ _ G3y).mono ?_)
        rintro q w4y ⟨rfl, G4y, c4y⟩
        try go_wp2_with fail
        refine hK.out _ _ ?_ (fun hHeld => ?_)
        · exact c4y
        clear hK K
        try simp only [Act.put, List.setIfInBounds_toArray, List.set_cons_zero, List.set_cons_succ]
        refine wpAnyH_ready (rs := [9]) (by kernel_rfl) (by simp) ?_
        refine AllReadyH.cons rfl (fun K hK => ?_) AllReadyH.nil
        go_simp
        go_at_call 83
        (with_reducible refine (KFy.out _ _ _ _ _ _ G4y).mono ?_)
        rintro q w5y ⟨rfl, G5y, c5y⟩
        try go_wp2_with fail
        refine hK.out _ _ ?_ (fun hHeld => ?_)
        · exact c5y
        clear hK K
        try simp only [Act.put, List.setIfInBounds_toArray, List.set_cons_zero, List.set_cons_succ]
        refine wpAnyH_ready (rs := [11]) (by kernel_rfl) (by simp) ?_
        refine AllReadyH.cons rfl (fun K hK => ?_) AllReadyH.nil
        go_simp
        go_at_call 83
        (with_reducible refine (KFy.out _ _ _ _ _ _ G5y).mono ?_)
        rintro q w6y ⟨rfl, G6y, c6y⟩
        try go_wp2_with fail
        refine hK.out _ _ ?_ (fun hHeld => ?_)
        · exact c6y
        clear hK K
        try simp only [Act.put, List.setIfInBounds_toArray, List.set_cons_zero, List.set_cons_succ]
        refine wpAnyH_ready (rs := [13]) (by kernel_rfl) (by simp) ?_
        refine AllReadyH.cons rfl (fun K hK => ?_) AllReadyH.nil
        go_simp
        go_at_call 83
        (with_reducible refine (KFy.out _ _ _ _ _ _ G6y).mono ?_)
        rintro q w7y ⟨rfl, G7y, c7y⟩
        try go_wp2_with fail
        refine hK.out _ _ ?_ (fun hHeld => ?_)
        · exact c7y
        clear hK K
        try simp only [Act.put, List.setIfInBounds_toArray, List.set_cons_zero, List.set_cons_succ]
        refine wpAnyH_ready (rs := [15]) (by kernel_rfl) (by simp) ?_
        refine AllReadyH.cons rfl (fun K hK => ?_) AllReadyH.nil
        go_simp
        go_at_call 83
        (with_reducible refine (KFy.out _ _ _ _ _ _ G7y).mono ?_)
        rintro q w8y ⟨rfl, G8y, c8y⟩
        try go_wp2_with fail
        refine hK.out _ _ ?_ (fun hHeld => ?_)
        · exact c8y
        clear hK K
        try simp only [Act.put, List.setIfInBounds_toArray, List.set_cons_zero, List.set_cons_succ]
        refine wpAnyH_take (v := ?vb1_16) (i := 16) rfl (by kernel_rfl) (by kernel_rfl) (by kernel_rfl) (fun _ _ _ h => h) (Or.inl ⟨by kernel_rfl, ?hyb1_16⟩) (by assumption) ?restb1_16
        case hyb1_16 => (intro w hSw; (try dsimp only at hSw); go_simp; first | done | (with_reducible rfl))
        try simp only [Act.put, List.setIfInBounds_toArray, List.set_cons_zero, List.set_cons_succ]
        have e0 : w8y.cell? ⟨w1.heap.size, 0, none⟩ = some (.int .i64 0) := G8y.cell 0
        have e1 : w8y.cell? ⟨w1.heap.size, 1, none⟩ = some (.int .i64 0) := G8y.cell 1
        have e2 : w8y.cell? ⟨w1.heap.size, 2, none⟩ = some (.int .i64 0) := G8y.cell 2
        have e3 : w8y.cell? ⟨w1.heap.size, 3, none⟩ = some (.int .u64 0) := G8y.cell 3
        have e4 : w8y.cell? ⟨w1.heap.size, 4, none⟩ = some (.int .u64 0) := G8y.cell 4
        have e5 : w8y.cell? ⟨w1.heap.size, 5, none⟩ = some (.int .u64 0) := G8y.cell 5
        have e6 : w8y.cell? ⟨w1.heap.size, 6, none⟩ = some (.int .u64 0) := G8y.cell 6
        have e7 : w8y.cell? ⟨w1.heap.size, 7, none⟩ = some (.int .u64 0) := G8y.cell 7
        have e8 : w8y.cell? ⟨w1.heap.size, 8, none⟩ = some (.bool false) := G8y.cell 8
        have e9 : w8y.cell? ⟨w1.heap.size, 9, none⟩ = some (.slice none 0 0) := G8y.cell 9
        have e10 : w8y.cell? ⟨w1.heap.size, 10, none⟩ = some (.string ⟨#[]⟩) := G8y.cell 10
        have fz := G8y.fz
        refine wpAnyH_ready (rs := [18]) (by kernel_rfl) (by simp) ?_
        refine AllReadyH.cons rfl (fun K hK => ?_) AllReadyH.nil
        go_simp
        refine hK.out _ _ ?_ (fun hHeld => ?_)
        · exact (G8y.sets (mP8 s)).q.fcell
        clear hK K
        try simp only [Act.put, List.setIfInBounds_toArray, List.set_cons_zero, List.set_cons_succ]
        refine wpAnyH_done (by kernel_rfl) ?_ _
        refine NoPanic.normal ?_
        go_wp2_with fail
        go_meet
        exact ⟨_, rfl, G8y.sets (mP8 s)⟩
    · go_simp
      refine hK.out _ _ ?_ (fun hHeld => ?_)
      · exact Nq.fcella G0 _
      clear hK K
      try simp only [Act.put, List.setIfInBounds_toArray, List.set_cons_zero, List.set_cons_succ]
      have G0y := (Nq.toY mzz Gi).drew
      refine wpAnyH_ready (rs := [1]) (by kernel_rfl) (by simp) ?_
      refine AllReadyH.cons rfl (fun K hK => ?_) AllReadyH.nil
      go_simp
      go_at_call 157
      (with_reducible refine (KSy.out _ _ _ _ _ G0y).mono ?_)
      rintro q w1y ⟨rfl, G1y, c1y⟩
      try go_wp2_with fail
      refine hK.out _ _ ?_ (fun hHeld => ?_)
      · exact c1y
      clear hK K
      try simp only [Act.put, List.setIfInBounds_toArray, List.set_cons_zero, List.set_cons_succ]
      refine wpAnyH_ready (rs := [3]) (by kernel_rfl) (by simp) ?_
      refine AllReadyH.cons rfl (fun K hK => ?_) AllReadyH.nil
      go_simp
      go_at_call 157
      (with_reducible refine (KSy.out _ _ _ _ _ G1y).mono ?_)
      rintro q w2y ⟨rfl, G2y, c2y⟩
      try go_wp2_with fail
      refine hK.out _ _ ?_ (fun hHeld => ?_)
      · exact c2y
      clear hK K
      try simp only [Act.put, List.setIfInBounds_toArray, List.set_cons_zero, List.set_cons_succ]
      refine wpAnyH_ready (rs := [5]) (by kernel_rfl) (by simp) ?_
      refine AllReadyH.cons rfl (fun K hK => ?_) AllReadyH.nil
      go_simp
      go_at_call 157
      (with_reducible refine (KSy.out _ _ _ _ _ G2y).mono ?_)
      rintro q w3y ⟨rfl, G3y, c3y⟩
      try go_wp2_with fail
      refine hK.out _ _ ?_ (fun hHeld => ?_)
      · exact c3y
      clear hK K
      try simp only [Act.put, List.setIfInBounds_toArray, List.set_cons_zero, List.set_cons_succ]
      refine wpAnyH_ready (rs := [7]) (by kernel_rfl) (by simp) ?_
      refine AllReadyH.cons rfl (fun K hK => ?_) AllReadyH.nil
      go_simp
      go_at_call 83
      (with_reducible refine (KFy.out _ _ _ _ _ _ G3y).mono ?_)
      rintro q w4y ⟨rfl, G4y, c4y⟩
      try go_wp2_with fail
      refine hK.out _ _ ?_ (fun hHeld => ?_)
      · exact c4y
      clear hK K
      try simp only [Act.put, List.setIfInBounds_toArray, List.set_cons_zero, List.set_cons_succ]
      refine wpAnyH_ready (rs := [9]) (by kernel_rfl) (by simp) ?_
      refine AllReadyH.cons rfl (fun K hK => ?_) AllReadyH.nil
      go_simp
      go_at_call 83
      (with_reducible refine (KFy.out _ _ _ _ _ _ G4y).mono ?_)
      rintro q w5y ⟨rfl, G5y, c5y⟩
      try go_wp2_with fail
      refine hK.out _ _ ?_ (fun hHeld => ?_)
      · exact c5y
      clear hK K
      try simp only [Act.put, List.setIfInBounds_toArray, List.set_cons_zero, List.set_cons_succ]
      refine wpAnyH_ready (rs := [11]) (by kernel_rfl) (by simp) ?_
      refine AllReadyH.cons rfl (fun K hK => ?_) AllReadyH.nil
      go_simp
      go_at_call 83
      (with_reducible refine (KFy.out _ _ _ _ _ _ G5y).mono ?_)
      rintro q w6y ⟨rfl, G6y, c6y⟩
      try go_wp2_with fail
      refine hK.out _ _ ?_ (fun hHeld => ?_)
      · exact c6y
      clear hK K
      try simp only [Act.put, List.setIfInBounds_toArray, List.set_cons_zero, List.set_cons_succ]
      refine wpAnyH_ready (rs := [13]) (by kernel_rfl) (by simp) ?_
      refine AllReadyH.cons rfl (fun K hK => ?_) AllReadyH.nil
      go_simp
      go_at_call 83
      (with_reducible refine (KFy.out _ _ _ _ _ _ G6y).mono ?_)
      rintro q w7y ⟨rfl, G7y, c7y⟩
      try go_wp2_with fail
      refine hK.out _ _ ?_ (fun hHeld => ?_)
      · exact c7y
      clear hK K
      try simp only [Act.put, List.setIfInBounds_toArray, List.set_cons_zero, List.set_cons_succ]
      refine wpAnyH_ready (rs := [15]) (by kernel_rfl) (by simp) ?_
      refine AllReadyH.cons rfl (fun K hK => ?_) AllReadyH.nil
      go_simp
      go_at_call 83
      (with_reducible refine (KFy.out _ _ _ _ _ _ G7y).mono ?_)
      rintro q w8y ⟨rfl, G8y, c8y⟩
      try go_wp2_with fail
      refine hK.out _ _ ?_ (fun hHeld => ?_)
      · exact c8y
      clear hK K
      try simp only [Act.put, List.setIfInBounds_toArray, List.set_cons_zero, List.set_cons_succ]
      refine wpAnyH_take (v := ?vb0_16) (i := 16) rfl (by kernel_rfl) (by kernel_rfl) (by kernel_rfl) (fun _ _ _ h => h) (Or.inl ⟨by kernel_rfl, ?hyb0_16⟩) (by assumption) ?restb0_16
      case hyb0_16 => (intro w hSw; (try dsimp only at hSw); go_simp; first | done | (with_reducible rfl))
      try simp only [Act.put, List.setIfInBounds_toArray, List.set_cons_zero, List.set_cons_succ]
      have e0 : w8y.cell? ⟨W0.heap.size, 0, none⟩ = some (.int .i64 0) := G8y.cell 0
      have e1 : w8y.cell? ⟨W0.heap.size, 1, none⟩ = some (.int .i64 0) := G8y.cell 1
      have e2 : w8y.cell? ⟨W0.heap.size, 2, none⟩ = some (.int .i64 0) := G8y.cell 2
      have e3 : w8y.cell? ⟨W0.heap.size, 3, none⟩ = some (.int .u64 0) := G8y.cell 3
      have e4 : w8y.cell? ⟨W0.heap.size, 4, none⟩ = some (.int .u64 0) := G8y.cell 4
      have e5 : w8y.cell? ⟨W0.heap.size, 5, none⟩ = some (.int .u64 0) := G8y.cell 5
      have e6 : w8y.cell? ⟨W0.heap.size, 6, none⟩ = some (.int .u64 0) := G8y.cell 6
      have e7 : w8y.cell? ⟨W0.heap.size, 7, none⟩ = some (.int .u64 0) := G8y.cell 7
      have e8 : w8y.cell? ⟨W0.heap.size, 8, none⟩ = some (.bool false) := G8y.cell 8
      have e9 : w8y.cell? ⟨W0.heap.size, 9, none⟩ = some (.slice none 0 0) := G8y.cell 9
      have e10 : w8y.cell? ⟨W0.heap.size, 10, none⟩ = some (.string ⟨#[]⟩) := G8y.cell 10
      have fz := G8y.fz
      refine wpAnyH_ready (rs := [18]) (by kernel_rfl) (by simp) ?_
      refine AllReadyH.cons rfl (fun K hK => ?_) AllReadyH.nil
      go_simp
      refine hK.out _ _ ?_ (fun hHeld => ?_)
      · exact (G8y.sets (mP8 s)).q.fcell
      clear hK K
      try simp only [Act.put, List.setIfInBounds_toArray, List.set_cons_zero, List.set_cons_succ]
      refine wpAnyH_done (by kernel_rfl) ?_ _
      refine NoPanic.normal ?_
      go_wp2_with fail
      go_meet
      exact ⟨_, rfl, G8y.sets (mP8 s)⟩
  case rest =>
    obtain ⟨p, rfl, G⟩ := hcut
    clear hmf G0 HW0 KS KF Gd c0
    have hlg := G.q.lg
    obtain ⟨y, hy⟩ : ∃ y, y = mY s := ⟨_, rfl⟩
    obtain ⟨yb, hyb⟩ : ∃ yb, yb = (mY s == 1) := ⟨_, rfl⟩
    obtain ⟨nb, hnb⟩ : ∃ nb, nb = decide (1 < mY s) := ⟨_, rfl⟩
    have hq1 : ((y : Int) == 1) = yb := by
      rw [hyb, ← hy, Bool.eq_iff_iff]
      simp only [beq_iff_eq]
      omega
    have hq2 : ((y : Int) != bitI yb) = nb := by
      rw [hnb, hyb, ← hy, Bool.eq_iff_iff]
      simp only [bne_iff_ne, ne_eq, decide_eq_true_eq]
      by_cases h1 : y = 1
      · subst h1; simp [bitI]
      · have e : (y == 1) = false := by simpa using h1
        rw [e]
        show ¬ (y : Int) = 0 ↔ _
        omega
    have K1 : Hid (Calls Tryz.prog 157 #[.pointer (some ⟨w.heap.size + 1, 0, none⟩)] wc fun q w' => q = .returned (.int .i64 y) ∧ Ny w g p (mP8 s) (Go.Proofs.YtpdbeijfchmlgaaGreat.u9 s) (mF8 s) w') := by
      have eT : Go.Proofs.YtpdbeijfchmlgaaGreat.u9 s = fixT (Go.Proofs.YtpdbeijfchmlgaaGreat.u8 s) 1 := by unfold Go.Proofs.YtpdbeijfchmlgaaGreat.u9; rfl
      have eF : mF8 s = (fm8 s || !hasF (Go.Proofs.YtpdbeijfchmlgaaGreat.u8 s) 1) := by unfold mF8; rfl
      have eV : fixV (Go.Proofs.YtpdbeijfchmlgaaGreat.u8 s) 1 = y := by rw [hy]; unfold mY; rfl
      rw [eT, eF]
      refine (KSy.out _ _ _ _ _ G).mono fun q w' ⟨h1, h2, _⟩ => ⟨?_, h2⟩
      rw [eV] at h1
      exact h1
    have HP9 : Hid (∀ W, Ny w g p (mP8 s) (Go.Proofs.YtpdbeijfchmlgaaGreat.u9 s) (mF8 s) W → Ny w g p (mP9 s) (Go.Proofs.YtpdbeijfchmlgaaGreat.u9 s) (mF8 s) (W.setCell ⟨p, 8, none⟩ (.bool yb))) := fun W h => h.set 8 _ (by rw [hyb]; simp [mP9, mP8])
    have HY := Lib.hid hy
    have HNB := Lib.hid hnb
    clear hy hyb hnb G
    go_upto_if 39 with (first
      | (go_at_call 157; (with_reducible refine K1.out.mono ?_); rintro q w1 ⟨rfl, G1⟩; have u8c : w1.cell? ⟨p, 8, none⟩ = some (.bool false) := G1.cell 8; have fz8 := G1.fz 8; have G2 := HP9.out _ G1)
      | (go_at_call 131; (with_reducible refine (bit63_any _ _).mono ?_); rintro q w2 ⟨rfl, rfl⟩))
    go_cut [7] from 39 to 41 (fun s7 wx => s7 = .int .i64 y ∧ Ny w g p (mP9 s) (mX9 s) (mF9 s) wx)
    case first =>
      cases nb with
      | true =>
        have KX := Lib.hid (ny_fail w g p (mP9 s) (Go.Proofs.YtpdbeijfchmlgaaGreat.u9 s) (mF8 s) _ G2)
        have HE : Hid (∀ W, Ny w g p (mP9 s) ⟨#[]⟩ true W → Ny w g p (mP9 s) (mX9 s) (mF9 s) W) := by
          have h1 : 1 < mY s := of_decide_eq_true HNB.out.symm
          intro W h
          unfold mX9 mF9
          rw [if_neg (by omega), decide_eq_true h1, Bool.or_true]
          exact h
        clear u8c fz8
        go_wp2_with (go_at_call 87; (with_reducible refine KX.out.mono ?_); rintro q w3 ⟨rfl, G3⟩)
        go_meet
        exact ⟨rfl, HE.out _ G3⟩
      | false =>
        have h1 : ¬ 1 < mY s := of_decide_eq_false HNB.out.symm
        have HE : Hid (Ny w g p (mP9 s) (mX9 s) (mF9 s) (w1.setCell ⟨p, 8, none⟩ (.bool yb))) := by
          show Ny _ _ _ _ _ _ _
          unfold mX9 mF9
          rw [if_pos (by omega), decide_eq_false h1, Bool.or_false]
          exact G2
        clear u8c fz8 h1
        go_wp2_with fail
        go_meet
        exact ⟨rfl, HE.out⟩
    case rest =>
      obtain ⟨rfl, G4⟩ := hcut
      clear G1 G2 u8c fz8 hq1 hq2 HY HNB K1 HP9
      obtain ⟨N, hN⟩ : ∃ N, N = rN s := ⟨_, rfl⟩
      have hN2 : N < 256 := by rw [hN]; exact fixV_lt (mX9 s) 1 (by omega)
      obtain ⟨P, hP⟩ : ∃ P, P = mP9 s := ⟨_, rfl⟩
      obtain ⟨t0, ht0⟩ : ∃ t0, t0 = r10 s := ⟨_, rfl⟩
      obtain ⟨b0, hb0⟩ : ∃ b0, b0 = mF10 s := ⟨_, rfl⟩
      have hsane : Vi.Sane t0 b0 := by rw [ht0, hb0]; exact sane_m10 s
      have K2 : Hid (Calls Tryz.prog 157 #[.pointer (some ⟨w.heap.size + 1, 0, none⟩)] wc fun q w' => q = .returned (.int .i64 N) ∧ Nr w g p (mKp P t0 0 none 0) t0 b0 w') := by
        have eT : t0 = fixT (mX9 s) 1 := by rw [ht0]; unfold r10; rfl
        have eF : b0 = (mF9 s || !hasF (mX9 s) 1) := by rw [hb0]; unfold mF10; rfl
        have eV : fixV (mX9 s) 1 = N := by rw [hN]; unfold rN; rfl
        have eP : mP9 s = mKp P t0 0 none 0 := by rw [hP]; rfl
        refine (KSy.out _ _ _ _ _ G4).mono fun q w' ⟨h1, h2, _⟩ => ⟨?_, ?_⟩
        · rw [eV] at h1
          exact h1
        · rw [← eT, ← eF, eP] at h2
          exact ⟨h2, World.ownsRow_nil _ _ _ _, rfl, by have := h2.lp; omega⟩
      have HFIN : Hid (∀ A c W, Nr w g p (mKp P t0 N A c) (gTs N t0) (gFs b0 N t0) W → Nr w g p (mKp (mP9 s) (r10 s) (rN s) A c) (rG s) (mFG s) W) := by
        intro A c W h
        rw [hP, ht0, hb0, hN] at h
        unfold rG mFG
        exact h
      have HSA := Lib.hid hsane
      clear hP ht0 hb0 hN hsane KSy G4
      obtain ⟨i24, hi24, hz24, hs24, hb24⟩ := info_parts (show (Tryz.prog.info? 24).map (fun i => (i.zero, i.size, i.bytes)) = some (some (ev ezz), 11, 104) by kernel_rfl)
      go_wp2_with (go_at_call 157; (with_reducible refine K2.out.mono ?_); rintro q w5 ⟨rfl, R0⟩)
      go_loopw [44] (fun i wr => ∃ (k : Nat) (A : Option Addr) (c : Nat), k ≤ N ∧ i = .int .i64 k ∧ Nr w g p (mKp P t0 k A c) (gTs k t0) (gFs b0 k t0) wr) (fun i _ => N - (intOf i).toNat)
      case atStart => exact ⟨0, none, 0, Nat.zero_le _, rfl, R0⟩
      case round =>
        obtain ⟨k, A, c, hk, rfl, hr⟩ := hrel
        clear R0
        by_cases hlt : k < N
        · have t1 : decide ((k : Int) < (N : Int)) = true := decide_eq_true (by omega)
          have hsk := sane_gs k b0 t0 HSA.out
          have KG : Hid (∀ W, Nr w g p (mKp P t0 k A c) (gTs k t0) (gFs b0 k t0) W → Calls Tryz.prog 39 #[.pointer (some ⟨g, 0, none⟩)] W fun q w' => q = .returned (ev (getE (gTs k t0))) ∧ Nr w g p (mKp P t0 k A c) (getT (gTs k t0)) (gFs b0 k t0 || !getO (gTs k t0)) w') := fun W h => nr_get w g p _ _ _ W h hsk
          obtain ⟨E, hE⟩ : ∃ E, E = getE (gTs k t0) := ⟨_, rfl⟩
          rw [← hE] at KG
          have HE := Lib.hid hE
          obtain ⟨es, hes⟩ : ∃ es, es = gEs k t0 := ⟨_, rfl⟩
          have hME : Hid ((mKp P t0 k A c).es = es) := hes.symm
          have HES := Lib.hid hes
          have xx9 : wr.drew.cell? ⟨p, 9, none⟩ = some (.slice A k c) := hr.drew.y.cell 9
          have HRD := Lib.hid hr.drew
          have hpl : p < wr.drew.heap.size := hr.drew.gs
          clear hE hsk hr hes
          go_upto_region 10 with fail
          go_region_law (first
            | (refine step_append_lies _ (by rfl) _ _ 27 (by rfl) (p + 1) 24 i24 (ev ezz) 11 104 Tryz.underlying27 hi24 hz24 hs24 hb24 (by rfl) (by omega) (.slice A k c) k (flat es) (by rfl) (by exact HOW.out) ⟨w2.heap.size, 0, none⟩ 1 1 (ec E).toList (by rfl) rfl (by exact HNEWS.out) (fun u hu => by simp at hu; rcases hu with rfl | rfl | rfl | rfl | rfl | rfl | rfl | rfl | rfl | rfl | rfl <;> rfl) (by omega) (by unfold maxLen; omega) (by omega) (by exact HBS.out) (w2.heap.size + 1) (by simp) ?_; intro g4 cap w4 hown4 hgrow hat hlt4; have z9 : w4.cell? ⟨p, 9, none⟩ = some (.slice A k c) := World.grownBy.cell hgrow (by exact U9.out) (HNE.out); have g0 : w4.frozen? ⟨p, 9, none⟩ = false := (World.frozen?_of_block (hgrow.block _ (HGL.out) (HNE.out))).trans F9.out)
            | (go_simp; go_at_call 39; (with_reducible refine (KG.out _ HRD.out).mono ?_); rintro q w2 ⟨rfl, HC⟩; have HN2 : Hid (Nr w g p (mKp P t0 k A c) (getT (gTs k t0)) (gFs b0 k t0 || !getO (gTs k t0)) (w2.alloc (Obj.cells (ec E) 24))) := HC.below ((Below.refl _ _).alloc (Nat.le_refl _) _); have v9 : w2.cell? ⟨p, 9, none⟩ = some (.slice A k c) := HC.y.cell 9; have U9 : Hid ((w2.alloc (Obj.cells (ec E) 24)).cell? ⟨p, 9, none⟩ = some (.slice A k c)) := HN2.out.y.cell 9; have t9 := U9.out; have HOW : Hid ((w2.alloc (Obj.cells (ec E) 24)).ownsRow (p + 1) 24 11 (.slice A k c) k (flat es)) := hME.out ▸ HN2.out.own; have HNEWS : Hid (∀ (i : Nat) u, (ec E).toList[i]? = some u → (w2.alloc (Obj.cells (ec E) 24)).cell? ((⟨w2.heap.size, 0, none⟩ : Addr).add i) = some u) := fun i u hu => cell_new_list w2 (ec E).toList 24 i u hu; have HBS : Hid (p + 1 ≤ (w2.alloc (Obj.cells (ec E) 24)).heap.size) := HN2.out.gs; have HGL : Hid (p < (w2.alloc (Obj.cells (ec E) 24)).heap.size) := HN2.out.gs; have HNE : Hid (some p ≠ (Value.slice A k c).ownBlock) := (fun e => absurd (HOW.out.lt _ e.symm).1 (by omega)); have F9 : Hid ((w2.alloc (Obj.cells (ec E) 24)).frozen? ⟨p, 9, none⟩ = false) := Md.of HN2.out.y.al; have HCC := Lib.hid HC; clear HC))
          all_goals
            have HN3 := Lib.hid (nr_next HN2.out HE.out HES.out hown4 hgrow)
            clear HN2 hown4 hgrow hat hlt4 g0 z9 xx9 v9 t9 U9 HOW HNEWS HBS HGL HNE F9 HRD KG HCC hME hpl HE HES
            go_wp2
            go_roundw
            case rel => first | exact ⟨k + 1, some ⟨g4, 0, none⟩, cap, hlt, by go_num, HN3.out⟩ | ((repeat apply Exists.intro); exact ⟨⟨k + 1, some ⟨g4, 0, none⟩, cap, hlt, by go_num, HN3.out⟩, rfl⟩)
            case measure => simp [intOf]; omega
        · have t1 : decide ((k : Int) < (N : Int)) = false := decide_eq_false (by omega)
          have hkN : k = N := by omega
          subst hkN
          have R1 := HFIN.out _ _ _ hr
          have R1d : Nr w g p (mKp (mP9 s) (r10 s) (rN s) A c) (rG s) (mFG s) wr := R1
          obtain ⟨Z, hZ⟩ : ∃ Z, Z = rZ s := ⟨_, rfl⟩
          have hZ2 : Z < 4294967296 := by
            have h := fixV_lt (rG s) 4 (by omega)
            rw [show (256 : Nat) ^ 4 = 4294967296 from by decide] at h
            rw [hZ]; exact h
          have hwz : IntKind.i64.wrap (Z : Int) = (Z : Int) := IntWalk.i64_in _ (by omega)
          have K3 : Hid (Calls Tryz.prog 83 #[.pointer (some ⟨g, 0, none⟩), .int .i64 4] wr fun q w' => q = .returned (.int .u64 Z) ∧ Nr w g p (mKp (mP9 s) (r10 s) (rN s) A c) (fixT (rG s) 4) (mFG s || !hasF (rG s) 4) w') := by
            have eV : fixV (rG s) 4 = Z := by rw [hZ]; unfold rZ; rfl
            refine (nr_fix w g p _ _ _ 4 wr R1).mono fun q w' ⟨h1, h2⟩ => ⟨?_, h2⟩
            rw [eV] at h1
            exact h1
          have K4 : Hid (∀ W, Nr w g p (mKp (mP9 s) (r10 s) (rN s) A c) (fixT (rG s) 4) (mFG s || !hasF (rG s) 4) W → Calls Tryz.prog 84 #[.pointer (some ⟨g, 0, none⟩), .int .i64 Z] W fun q w' => q = .returned (.string (rS s)) ∧ Nr w g p (mKp (mP9 s) (r10 s) (rN s) A c) (rT s) (mFR s) w') := by
            intro W h
            have eS : bytV (fixT (rG s) 4) (Z : Int) = rS s := by rw [hZ]; unfold rS; rfl
            have eT : bytT (fixT (rG s) 4) (Z : Int) = rT s := by rw [hZ]; unfold rT; rfl
            have eF : ((mFG s || !hasF (rG s) 4) || !hasB (fixT (rG s) 4) (Z : Int)) = mFR s := by rw [hZ]; unfold mFR; rfl
            refine (nr_byt w g p _ _ _ (Z : Int) W h).mono fun q w' ⟨h1, h2⟩ => ?_
            rw [eS] at h1
            rw [eT, eF] at h2
            exact ⟨h1, h2⟩
          have HSET : Hid (∀ W, Nr w g p (mKp (mP9 s) (r10 s) (rN s) A c) (rT s) (mFR s) W → Nr w g p (mRd s A c) (rT s) (mFR s) (W.setCell ⟨p, 10, none⟩ (.string (rS s)))) := by
            intro W h
            have h2 := nr_snap h (rS s)
            unfold mRd
            exact h2
          have c5 : wr.cell? ⟨w.heap.size + 1, 0, none⟩ = some (.func (.func 83) #[.pointer (some ⟨g, 0, none⟩)] #[]) := R1.y.q.fcell
          clear hZ hZ2 hr R1 HFIN HSA
          go_upto_region 13 with (first
            | (go_at_call 83; (with_reducible refine K3.out.mono ?_); rintro q w6 ⟨rfl, R2⟩)
            | (go_at_call 84; (with_reducible refine (K4.out _ R2).mono ?_); rintro q w7 ⟨rfl, R3⟩; have u10c : w7.cell? ⟨p, 10, none⟩ = some (.string (mKp (mP9 s) (r10 s) (rN s) A c).snap) := R3.y.cell 10; have fz10 := R3.y.fz 10))
          have R4 := HSET.out _ R3
          obtain ⟨W6, hW6⟩ : ∃ W6, W6 = w7.setCell ⟨p, 10, none⟩ (.string (rS s)) := ⟨_, rfl⟩
          rw [← hW6] at R4 ⊢
          clear hW6 R2 R3 u10c fz10 K3 K4 HSET R1d c5 KFy KBy
          obtain ⟨M, hM⟩ : ∃ M, M = mRd s A c := ⟨_, rfl⟩
          have HMA : Hid (M.A = A ∧ M.n = rN s ∧ M.es = gEs (rN s) (r10 s)) := hM ▸ mRd_parts s A c
          rw [← hM] at R4
          have HM := Lib.hid hM
          clear hM
          have p0 : W6.cell? ⟨p, 0, none⟩ = some (.int .i64 M.kind) := R4.y.cell 0
          have z0 : W6.cell? ⟨w.heap.size, 0, none⟩ = some (.int .i64 0) := cell_of_row W6 _ 0 _ 29 (0, 0) R4.y.q.res
          have p1 : W6.cell? ⟨p, 1, none⟩ = some (.int .i64 M.frm) := R4.y.cell 1
          have z1 : W6.cell? ⟨w.heap.size, 1, none⟩ = some (.int .i64 0) := cell_of_row W6 _ 1 _ 29 (0, 0) R4.y.q.res
          have p2 : W6.cell? ⟨p, 2, none⟩ = some (.int .i64 M.dst) := R4.y.cell 2
          have z2 : W6.cell? ⟨w.heap.size, 2, none⟩ = some (.int .i64 0) := cell_of_row W6 _ 2 _ 29 (0, 0) R4.y.q.res
          have p3 : W6.cell? ⟨p, 3, none⟩ = some (.int .u64 M.term) := R4.y.cell 3
          have z3 : W6.cell? ⟨w.heap.size, 3, none⟩ = some (.int .u64 0) := cell_of_row W6 _ 3 _ 29 (0, 0) R4.y.q.res
          have p4 : W6.cell? ⟨p, 4, none⟩ = some (.int .u64 M.index) := R4.y.cell 4
          have z4 : W6.cell? ⟨w.heap.size, 4, none⟩ = some (.int .u64 0) := cell_of_row W6 _ 4 _ 29 (0, 0) R4.y.q.res
          have p5 : W6.cell? ⟨p, 5, none⟩ = some (.int .u64 M.prev) := R4.y.cell 5
          have z5 : W6.cell? ⟨w.heap.size, 5, none⟩ = some (.int .u64 0) := cell_of_row W6 _ 5 _ 29 (0, 0) R4.y.q.res
          have p6 : W6.cell? ⟨p, 6, none⟩ = some (.int .u64 M.commit) := R4.y.cell 6
          have z6 : W6.cell? ⟨w.heap.size, 6, none⟩ = some (.int .u64 0) := cell_of_row W6 _ 6 _ 29 (0, 0) R4.y.q.res
          have p7 : W6.cell? ⟨p, 7, none⟩ = some (.int .u64 M.mark) := R4.y.cell 7
          have z7 : W6.cell? ⟨w.heap.size, 7, none⟩ = some (.int .u64 0) := cell_of_row W6 _ 7 _ 29 (0, 0) R4.y.q.res
          have p8 : W6.cell? ⟨p, 8, none⟩ = some (.bool M.ok) := R4.y.cell 8
          have z8 : W6.cell? ⟨w.heap.size, 8, none⟩ = some (.bool false) := cell_of_row W6 _ 8 _ 29 (0, 0) R4.y.q.res
          have p9 : W6.cell? ⟨p, 9, none⟩ = some (.slice M.A M.n M.c) := R4.y.cell 9
          have z9 : W6.cell? ⟨w.heap.size, 9, none⟩ = some (.slice none 0 0) := cell_of_row W6 _ 9 _ 29 (0, 0) R4.y.q.res
          have p10 : W6.cell? ⟨p, 10, none⟩ = some (.string M.snap) := R4.y.cell 10
          have z10 : W6.cell? ⟨w.heap.size, 10, none⟩ = some (.string ⟨#[]⟩) := cell_of_row W6 _ 10 _ 29 (0, 0) R4.y.q.res
          have fz : ∀ i, W6.frozen? ⟨w.heap.size, i, none⟩ = false := fun i => Md.of R4.y.q.res
          go_wp2
          obtain ⟨WF, hWF⟩ : ∃ WF, WF = wrm W6 w.heap.size M := ⟨_, rfl⟩
          unfold wrm at hWF
          rw [← hWF]
          have hblk : WF.heap[w.heap.size]? = some (.cells (mc M) 29 (0, 0)) := by rw [hWF]; exact store_allm M R4.y.q.res
          have f0 : WF.cell? ⟨w.heap.size, 0, none⟩ = some (.int .i64 M.kind) := cell_of_row WF _ 0 _ 29 (0, 0) hblk
          have f1 : WF.cell? ⟨w.heap.size, 1, none⟩ = some (.int .i64 M.frm) := cell_of_row WF _ 1 _ 29 (0, 0) hblk
          have f2 : WF.cell? ⟨w.heap.size, 2, none⟩ = some (.int .i64 M.dst) := cell_of_row WF _ 2 _ 29 (0, 0) hblk
          have f3 : WF.cell? ⟨w.heap.size, 3, none⟩ = some (.int .u64 M.term) := cell_of_row WF _ 3 _ 29 (0, 0) hblk
          have f4 : WF.cell? ⟨w.heap.size, 4, none⟩ = some (.int .u64 M.index) := cell_of_row WF _ 4 _ 29 (0, 0) hblk
          have f5 : WF.cell? ⟨w.heap.size, 5, none⟩ = some (.int .u64 M.prev) := cell_of_row WF _ 5 _ 29 (0, 0) hblk
          have f6 : WF.cell? ⟨w.heap.size, 6, none⟩ = some (.int .u64 M.commit) := cell_of_row WF _ 6 _ 29 (0, 0) hblk
          have f7 : WF.cell? ⟨w.heap.size, 7, none⟩ = some (.int .u64 M.mark) := cell_of_row WF _ 7 _ 29 (0, 0) hblk
          have f8 : WF.cell? ⟨w.heap.size, 8, none⟩ = some (.bool M.ok) := cell_of_row WF _ 8 _ 29 (0, 0) hblk
          have f9 : WF.cell? ⟨w.heap.size, 9, none⟩ = some (.slice M.A M.n M.c) := cell_of_row WF _ 9 _ 29 (0, 0) hblk
          have f10 : WF.cell? ⟨w.heap.size, 10, none⟩ = some (.string M.snap) := cell_of_row WF _ 10 _ 29 (0, 0) hblk
          have hlp := R4.y.lp
          have hlg2 := R4.y.q.lg
          refine bodyPost_ret (v := mv M) (by simp [results, Tryz.results95, go_sem, f0, f1, f2, f3, f4, f5, f6, f7, f8, f9, f10]) rfl ⟨A, c, by rw [HM.out], ?_, ?_, by rw [hWF]; exact rd_allm M R4.y.q.hr (by omega), by rw [hWF]; exact gb_allm M R4.y.q.fr (Nat.le_refl _)⟩
          · intro a ha
            have h := (R4.own.lt a.block (by rw [HMA.out.1, ha]; rfl)).1
            omega
          obtain ⟨m1, m2, m3⟩ := HMA.out
          have ho := own_allm (g := w.heap.size) M R4.own (by omega)
          have hE := ents_of_own ho R4.hl
          rw [m1, m2, m3] at hE
          rw [hWF]
          exact hE
end Go.Proofs.YtpdbeijfchmlgaaGreat
namespace Go.Proofs.YtpdbeijfchmlgaaGreat
open Go.RowKit
open Vi
set_option linter.unusedVariables false
set_option linter.unusedSimpArgs false

theorem gFs_eq : ∀ (n : Nat) (b : Bool) (t : ByteArray), gFs b n t = (b || !gOs n t)
  | 0, b, t => by show b = (b || !true); simp
  | n + 1, b, t => by
    show gFs (b || !getO t) n (getT t) = (b || !(getO t && gOs n (getT t)))
    rw [gFs_eq n]
    cases b <;> cases getO t <;> simp
theorem mX9_le {s : ByteArray} (h : mY s ≤ 1) : mX9 s = u9 s ∧ rN s = mN s ∧ r10 s = u10 s ∧ rG s = mG s ∧ rZ s = mZ s ∧ rS s = mS s ∧ rT s = mR s := by
  have e : mX9 s = u9 s := by unfold mX9; rw [if_pos h]
  have e1 : rN s = mN s := by unfold rN mN; rw [e]
  have e2 : r10 s = u10 s := by unfold r10 u10; rw [e]
  have e3 : rG s = mG s := by unfold rG mG; rw [e1, e2]
  have e4 : rZ s = mZ s := by unfold rZ mZ; rw [e3]
  refine ⟨e, e1, e2, e3, e4, ?_, ?_⟩
  · unfold rS mS; rw [e3, e4]
  · unfold rT mR; rw [e3, e4]
theorem mFR_eq (s : ByteArray) : (!mFR s && decide ((rT s).size = 0)) = mAll s := by
  by_cases h : mY s ≤ 1
  · obtain ⟨e0, e1, e2, e3, e4, e5, e6⟩ := mX9_le h
    unfold mFR mFG
    rw [gFs_eq, e1, e2, e3, e4, e6]
    unfold mF10 mF9 mF8 fm8 mAll hdM
    rw [e0, decide_eq_false (show ¬ 1 < mY s by omega), decide_eq_true h]
    simp only [Bool.false_or, Bool.or_false, Bool.true_and, Bool.not_or, Bool.not_not, Bool.and_assoc]
  · have e1 : mFR s = true := by
      unfold mFR mFG
      rw [gFs_eq]
      unfold mF10 mF9
      rw [decide_eq_true (show 1 < mY s by omega)]
      simp
    have e2 : mAll s = false := by
      unfold mAll
      rw [decide_eq_false h]
      simp
    rw [e1, e2]
    rfl
theorem mRd_eq {s : ByteArray} (h : mAll s = true) (A : Option Addr) (c : Nat) : mRd s A c = mPrs s A c := by
  have hY := (mAll_sizes s h).2.2.2.2.1
  obtain ⟨e0, e1, e2, e3, e4, e5, e6⟩ := mX9_le hY
  unfold mRd mKp mPrs mP9 mP8
  rw [e1, e2, e5]
theorem gEs_ok : ∀ (n : Nat) (t : ByteArray), ∀ e ∈ gEs n t, e.Ok
  | 0, _, e, he => by cases he
  | n + 1, t, e, he => by
    rcases List.mem_cons.1 he with rfl | he
    · exact getE_ok t
    · exact gEs_ok n _ e he
theorem u_le (s : ByteArray) : (u8 s).size ≤ s.size := by
  unfold u8 u7 u6 u5 u4 u3 u2 u1
  exact Nat.le_trans (fixT_le _ _) (Nat.le_trans (fixT_le _ _) (Nat.le_trans (fixT_le _ _) (Nat.le_trans (fixT_le _ _) (Nat.le_trans (fixT_le _ _) (Nat.le_trans (fixT_le _ _) (Nat.le_trans (fixT_le _ _) (fixT_le _ _)))))))
theorem fv1 (s : ByteArray) : (fixV s 1 : Nat) < 256 := by
  have h := fixV_lt s 1 (by omega)
  rwa [show (256 : Nat) ^ 1 = 256 from by decide] at h
theorem fv8 (s : ByteArray) : (fixV s 8 : Nat) < 18446744073709551616 := by
  have h := fixV_lt s 8 (by omega)
  rwa [show (256 : Nat) ^ 8 = 18446744073709551616 from by decide] at h
theorem bytV_sz (s : ByteArray) (k : Int) : (bytV s k).size ≤ s.size := by
  unfold bytV
  split
  · rw [ByteArray.size_extract]; omega
  · exact Nat.zero_le _
theorem rS_le (s : ByteArray) : (rS s).size ≤ s.size := by
  unfold rS
  refine Nat.le_trans (bytV_sz _ _) (Nat.le_trans (fixT_le _ _) ?_)
  unfold rG
  refine Nat.le_trans (gTs_le _ _) ?_
  unfold r10
  refine Nat.le_trans (fixT_le _ _) ?_
  unfold mX9
  split
  · unfold u9
    exact Nat.le_trans (fixT_le _ _) (u_le s)
  · exact Nat.zero_le _
/-- The numbers of a message that was read, of any kind of text. -/
theorem wide_of (a b c n : Nat) (d e f g h : Nat) (o : Bool) (A : Option Addr) (cc : Nat) (es : List En) (sn : ByteArray) (ha : a < 256) (hb : b < 256) (hc : c < 256) (hn : n < 256) (hd : d < 18446744073709551616) (he : e < 18446744073709551616) (hf : f < 18446744073709551616) (hg : g < 18446744073709551616) (hh : h < 18446744073709551616) (hs : sn.size ≤ 140737488351232) (hes : ∀ x ∈ es, x.Ok) :
    (⟨a, b, c, d, e, f, g, h, o, A, n, cc, es, sn⟩ : Ms).Wide := by
  constructor
  all_goals dsimp only
  all_goals first | omega | exact hes
theorem rN_lt (s : ByteArray) : rN s < 256 := by
  unfold rN
  exact fv1 _
theorem mRd_form (s : ByteArray) (A : Option Addr) (c : Nat) : mRd s A c = ⟨fixV s 1, fixV (u1 s) 1, fixV (u2 s) 1, fixV (u3 s) 8, fixV (u4 s) 8, fixV (u5 s) 8, fixV (u6 s) 8, fixV (u7 s) 8, mY s == 1, A, rN s, c, gEs (rN s) (r10 s), rS s⟩ := by
  simp only [mRd, mKp, mP9, mP8]
theorem mRd_wide (s : ByteArray) (A : Option Addr) (c : Nat) (hm : s.size ≤ 140737488351232) : (mRd s A c).Wide := by
  have h := rS_le s
  rw [mRd_form]
  exact wide_of (fixV s 1) (fixV (u1 s) 1) (fixV (u2 s) 1) (rN s) (fixV (u3 s) 8) (fixV (u4 s) 8) (fixV (u5 s) 8) (fixV (u6 s) 8) (fixV (u7 s) 8) (mY s == 1) A c (gEs (rN s) (r10 s)) (rS s) (fv1 _) (fv1 _) (fv1 _) (rN_lt s) (fv8 _) (fv8 _) (fv8 _) (fv8 _) (fv8 _) (Nat.le_trans h hm) (gEs_ok _ _)
end Go.Proofs.YtpdbeijfchmlgaaGreat
namespace Go.Proofs.YtpdbeijfchmlgaaGreat
open Go.RowKit
open Vi
set_option linter.unusedVariables false
set_option linter.unusedSimpArgs false

theorem new2 (u : ByteArray) (w : World) : Calls Tryz.prog 80 #[.string u] w fun q w' => q = .returned (.pointer (some ⟨w.heap.size, 0, none⟩)) ∧ Rd 178 w.heap.size u false w' ∧ Below w.heap.size w w' ∧ w'.heap.size = w.heap.size + 1 := by
  refine (new_any u w).mono ?_
  rintro q w' ⟨h1, rfl⟩
  exact ⟨h1, Rd.new w 178 u false, (Below.refl _ _).alloc (Nat.le_refl _) _, by simp⟩
theorem rnew2 (u : ByteArray) (w : World) : Calls Tryz.prog 42 #[.string u] w fun q w' => q = .returned (.pointer (some ⟨w.heap.size, 0, none⟩)) ∧ Rd 72 w.heap.size u false w' ∧ Below w.heap.size w w' ∧ w'.heap.size = w.heap.size + 1 := by
  refine (rnew_any u w).mono ?_
  rintro q w' ⟨h1, rfl⟩
  exact ⟨h1, Rd.new w 72 u false, (Below.refl _ _).alloc (Nat.le_refl _) _, by simp⟩
theorem ok2 (g : Nat) (T : ByteArray) (f : Bool) (w : World) (h : Rd 178 g T f w) : Calls Tryz.prog 81 #[.pointer (some ⟨g, 0, none⟩)] w fun q w' => q = .returned (.bool (!f)) ∧ w = w' := ok_any g T f w h
theorem left2 (g : Nat) (T : ByteArray) (f : Bool) (w : World) (h : Rd 178 g T f w) : Calls Tryz.prog 82 #[.pointer (some ⟨g, 0, none⟩)] w fun q w' => q = .returned (.int .i64 T.size) ∧ w = w' := left_any g T f w h

/-- Is a message got of the text? -/
def gok (s : ByteArray) : Bool := mAll s && mmayB (mPrs s none 0)
theorem may_at (s : ByteArray) (A : Option Addr) (c : Nat) : mmayB (mPrs s A c) = mmayB (mPrs s none 0) := rfl
def GMsg (s : ByteArray) (w : World) (q : Ending) (w' : World) : Prop :=
  ∃ M : Ms, q = .returned (.tuple #[mv M, .bool (gok s)]) ∧ Ents w'.heap.size M.A M.n M.es w' ∧ M.Wide ∧ Below w.heap.size w w' ∧ (gok s = true → ∃ A c, M = mPrs s A c) ∧ (gok s = false → M = mzz)
theorem mzz_wide5 : mzz.Wide := by
  constructor
  all_goals dsimp only
  all_goals first | omega | exact Nat.zero_le _ | (intro e he; cases he)
theorem gmsg_no {s : ByteArray} {w w' : World} (h : gok s = false) (hb : Below w.heap.size w w') : GMsg s w (.returned (.tuple #[mv mzz, .bool false])) w' :=
  by
  refine ⟨mzz, by rw [h], ⟨rfl, fun i e he => by cases he⟩, mzz_wide5, hb, fun e => ?_, fun _ => rfl⟩
  rw [h] at e
  cases e
theorem gmsg_yes {s : ByteArray} {w w' : World} {A : Option Addr} {c : Nat} (hm : s.size ≤ 140737488351232) (h : gok s = true) (hb : Below w.heap.size w w') (hE : Ents w'.heap.size A (rN s) (gEs (rN s) (r10 s)) w') : GMsg s w (.returned (.tuple #[mv (mRd s A c), .bool true])) w' := by
  have ha : mAll s = true := by
    have h2 := h
    unfold gok at h2
    rw [Bool.and_eq_true] at h2
    exact h2.1
  obtain ⟨p1, p2, p3⟩ := mRd_parts s A c
  have hw := mRd_wide s A c hm
  have he := mRd_eq ha A c
  obtain ⟨M, hM⟩ : ∃ M, M = mRd s A c := ⟨_, rfl⟩
  rw [← hM] at p1 p2 p3 hw he ⊢
  refine ⟨M, by rw [h], ?_, hw, hb, fun _ => ⟨A, c, he⟩, fun e => ?_⟩
  · rw [p1, p2, p3]
    exact hE
  · rw [h] at e
    cases e
theorem gok_iff (s : ByteArray) (A : Option Addr) (c : Nat) : gok s = ((!mFR s && decide ((rT s).size = 0)) && mmayB (mRd s A c)) := by
  rw [mFR_eq]
  unfold gok
  by_cases h : mAll s = true
  · rw [mRd_eq h A c, may_at s A c]
  · have h2 : mAll s = false := by simpa using h
    rw [h2, Bool.false_and, Bool.false_and]
theorem heap_wrm5 (w : World) (g k : Nat) (M : Ms) (h : k ≠ g) : (wrm w g M).heap[k]? = w.heap[k]? := by
  have hs : ∀ (w : World) (i : Nat) (u : Value), (w.setCell ⟨g, i, none⟩ u).heap[k]? = w.heap[k]? := fun w i u => Below.heap_setCell w _ _ k (by simp; omega)
  unfold wrm
  rw [hs, hs, hs, hs, hs, hs, hs, hs, hs, hs, hs]
theorem size_wrm (w : World) (g : Nat) (M : Ms) : (wrm w g M).heap.size = w.heap.size := by
  simp [World.setCell]
theorem ents_wrm2 {w : World} {g B n : Nat} {A : Option Addr} {es : List En} (M : Ms) (h : Ents B A n es w) (hA : ∀ a, A = some a → a.block ≠ g) : Ents B A n es (wrm w g M) :=
  ⟨h.len, fun i e he => by
    obtain ⟨a, h1, h2, h3⟩ := h.at_ i e he
    refine ⟨a, h1, h2, fun j hj => ?_⟩
    rw [← h3 j hj]
    exact World.cell?_of_block (heap_wrm5 w g _ M (by rw [block_of_add, block_of_add]; exact hA a h1))⟩

set_option maxHeartbeats 8000000 in
set_option maxRecDepth 100000 in
theorem getMsg_any (s : ByteArray) (w : World) (hm : s.size ≤ 140737488351232) : Calls Tryz.prog 46 #[.string s] w (GMsg s w) := by
  obtain ⟨W0, hW0⟩ : ∃ W0, W0 = w.alloc (Obj.cells (mc mzz) 29) := ⟨_, rfl⟩
  have k0 : W0.heap[w.heap.size]? = some (.cells (mc mzz) 29 (0, 0)) := by rw [hW0]; exact heap_alloc_new w _
  have b0 : Below w.heap.size w W0 := by rw [hW0]; exact (Below.refl _ _).alloc (Nat.le_refl _) _
  have s0 : W0.heap.size = w.heap.size + 1 := by rw [hW0]; simp
  have KN := Lib.hid (new2 s W0)
  have KR := Lib.hid (fun (g : Nat) (W : World) (h : Rd 178 g s false W) => readMsg_any g s W h hm)
  have HM := Lib.hid hm
  have HW0 := Lib.hid hW0
  have HK0 := Lib.hid k0
  have HB0 := Lib.hid b0
  have HS0 := Lib.hid s0
  clear hW0 k0 b0 s0 hm
  go_enter Tryz.func46, Tryz.ntmps46
  go_wp2_with fail
  rw [← HW0.out]
  refine KN.out.mono ?_
  rintro q w1 ⟨rfl, R1, b1, s1⟩
  have HR1 := Lib.hid R1
  have HK1 : Hid (w1.heap[w.heap.size]? = some (.cells (mc mzz) 29 (0, 0))) := (b1.block _ (by have := HS0.out; omega)).trans HK0.out
  have HB1 : Hid (Below w.heap.size w w1) := HB0.out.trans (b1.mono HB0.out.size)
  clear R1 b1 s1
  go_wp2_with fail
  refine (KR.out _ _ HR1.out).mono ?_
  rintro q w2 ⟨A, c, rfl, hLo, hE, R2, g2⟩
  have HLO : Hid (∀ a, A = some a → a.block ≠ w.heap.size) := fun a ha => by have h1 := hLo a ha; have h2 := HB1.out.size; have h3 := (Array.getElem?_eq_some_iff.1 HK1.out).1; omega
  have hW1 : w.heap.size < W0.heap.size := by have := HS0.out; omega
  have HK2 : Hid (w2.heap[w.heap.size]? = some (.cells (mc mzz) 29 (0, 0))) := (g2.block _ (Array.getElem?_eq_some_iff.1 HK1.out).1 (by simp; omega)).trans HK1.out
  have HB2 : Hid (Below w.heap.size w w2) := HB1.out.grown g2 HB1.out.size (fun k hk => by injection hk with hk; omega)
  have HG := gok_iff s A c
  have HY : Hid (∀ W, Below w.heap.size w W → Ents W.heap.size A (rN s) (gEs (rN s) (r10 s)) W → gok s = true → GMsg s w (.returned (.tuple #[mv (mRd s A c), .bool true])) W) := fun W hb he hk => gmsg_yes HM.out hk hb he
  have HWD := Lib.hid (mRd_wide s A c HM.out)
  have HP := Lib.hid (mRd_parts s A c)
  obtain ⟨M, hMe⟩ : ∃ M, M = mRd s A c := ⟨_, rfl⟩
  rw [← hMe] at HG HY HWD HP ⊢
  obtain ⟨bf, hbf⟩ : ∃ bf, bf = mFR s := ⟨_, rfl⟩
  obtain ⟨st, hst⟩ : ∃ st, st = rT s := ⟨_, rfl⟩
  rw [← hbf, ← hst] at HG R2
  have HGG := Lib.hid HG
  obtain ⟨W2, hW2⟩ : ∃ W2, W2 = w2.alloc (Obj.cells (mc M) 29) := ⟨_, rfl⟩
  have bb : Below w2.heap.size w2 W2 := by rw [hW2]; exact (Below.refl _ _).alloc (Nat.le_refl _) _
  have HR3 : Hid (Rd 178 W0.heap.size st bf W2) := R2.below bb R2.lt
  have HK3 : Hid (W2.heap[w.heap.size]? = some (.cells (mc mzz) 29 (0, 0))) := (bb.block _ (Array.getElem?_eq_some_iff.1 HK2.out).1).trans HK2.out
  have HKM : Hid (W2.heap[w2.heap.size]? = some (.cells (mc M) 29 (0, 0))) := by show _ = _; rw [hW2]; exact heap_alloc_new w2 _
  have HB3 : Hid (Below w.heap.size w W2) := HB2.out.trans (bb.mono HB2.out.size)
  have HE3 : Hid (Ents W2.heap.size A (rN s) (gEs (rN s) (r10 s)) W2) := (hE.below bb).mr bb.size
  have HL2 : Hid (w2.heap.size < W2.heap.size) := (Array.getElem?_eq_some_iff.1 HKM.out).1
  have HW2 := Lib.hid hW2
  have KO := Lib.hid (ok2 _ _ _ _ HR3.out)
  have KL := Lib.hid (left2 _ _ _ _ HR3.out)
  have KM : Hid (Calls Tryz.prog 73 #[mv M] W2 fun q w' => q = .returned (.bool (mmayB M)) ∧ Below W2.heap.size W2 w') := mmay_any M W2 (by rw [HP.out.1, HP.out.2.1, HP.out.2.2]; exact HE3.out) HWD.out
  clear hE hLo R2 g2 hW1 HG hMe hbf hst hW2 bb KR KN HR1 HK1 HB1 HK2 HB2
  cases bf with
  | true =>
    have hk : gok s = false := by rw [HGG.out]; rfl
    have z0 : W2.cell? ⟨w.heap.size, 0, none⟩ = some (.int .i64 0) := cell_of_row W2 _ 0 _ 29 (0, 0) HK3.out
    have z1 : W2.cell? ⟨w.heap.size, 1, none⟩ = some (.int .i64 0) := cell_of_row W2 _ 1 _ 29 (0, 0) HK3.out
    have z2 : W2.cell? ⟨w.heap.size, 2, none⟩ = some (.int .i64 0) := cell_of_row W2 _ 2 _ 29 (0, 0) HK3.out
    have z3 : W2.cell? ⟨w.heap.size, 3, none⟩ = some (.int .u64 0) := cell_of_row W2 _ 3 _ 29 (0, 0) HK3.out
    have z4 : W2.cell? ⟨w.heap.size, 4, none⟩ = some (.int .u64 0) := cell_of_row W2 _ 4 _ 29 (0, 0) HK3.out
    have z5 : W2.cell? ⟨w.heap.size, 5, none⟩ = some (.int .u64 0) := cell_of_row W2 _ 5 _ 29 (0, 0) HK3.out
    have z6 : W2.cell? ⟨w.heap.size, 6, none⟩ = some (.int .u64 0) := cell_of_row W2 _ 6 _ 29 (0, 0) HK3.out
    have z7 : W2.cell? ⟨w.heap.size, 7, none⟩ = some (.int .u64 0) := cell_of_row W2 _ 7 _ 29 (0, 0) HK3.out
    have z8 : W2.cell? ⟨w.heap.size, 8, none⟩ = some (.bool false) := cell_of_row W2 _ 8 _ 29 (0, 0) HK3.out
    have z9 : W2.cell? ⟨w.heap.size, 9, none⟩ = some (.slice none 0 0) := cell_of_row W2 _ 9 _ 29 (0, 0) HK3.out
    have z10 : W2.cell? ⟨w.heap.size, 10, none⟩ = some (.string ⟨#[]⟩) := cell_of_row W2 _ 10 _ 29 (0, 0) HK3.out
    have fz : ∀ i, W2.frozen? ⟨w.heap.size, i, none⟩ = false := fun i => Md.of HK3.out
    go_wp2_with fail
    rw [← HW2.out]
    refine KO.out.mono ?_
    rintro q w3 ⟨rfl, rfl⟩
    go_wp2
    obtain ⟨WF, hWF⟩ : ∃ WF, WF = wrm W2 w.heap.size mzz := ⟨_, rfl⟩
    have hblk : WF.heap[w.heap.size]? = some (.cells (mc mzz) 29 (0, 0)) := by rw [hWF]; exact store_allm mzz HK3.out
    have hbF : Below w.heap.size w WF := by rw [hWF]; exact below_allm mzz HB3.out (Nat.le_refl _)
    unfold wrm at hWF
    rw [← hWF]
    have hWF2 := Lib.hid hWF
    clear hWF
    have f0 : WF.cell? ⟨w.heap.size, 0, none⟩ = some (.int .i64 0) := cell_of_row WF _ 0 _ 29 (0, 0) hblk
    have f1 : WF.cell? ⟨w.heap.size, 1, none⟩ = some (.int .i64 0) := cell_of_row WF _ 1 _ 29 (0, 0) hblk
    have f2 : WF.cell? ⟨w.heap.size, 2, none⟩ = some (.int .i64 0) := cell_of_row WF _ 2 _ 29 (0, 0) hblk
    have f3 : WF.cell? ⟨w.heap.size, 3, none⟩ = some (.int .u64 0) := cell_of_row WF _ 3 _ 29 (0, 0) hblk
    have f4 : WF.cell? ⟨w.heap.size, 4, none⟩ = some (.int .u64 0) := cell_of_row WF _ 4 _ 29 (0, 0) hblk
    have f5 : WF.cell? ⟨w.heap.size, 5, none⟩ = some (.int .u64 0) := cell_of_row WF _ 5 _ 29 (0, 0) hblk
    have f6 : WF.cell? ⟨w.heap.size, 6, none⟩ = some (.int .u64 0) := cell_of_row WF _ 6 _ 29 (0, 0) hblk
    have f7 : WF.cell? ⟨w.heap.size, 7, none⟩ = some (.int .u64 0) := cell_of_row WF _ 7 _ 29 (0, 0) hblk
    have f8 : WF.cell? ⟨w.heap.size, 8, none⟩ = some (.bool false) := cell_of_row WF _ 8 _ 29 (0, 0) hblk
    have f9 : WF.cell? ⟨w.heap.size, 9, none⟩ = some (.slice none 0 0) := cell_of_row WF _ 9 _ 29 (0, 0) hblk
    have f10 : WF.cell? ⟨w.heap.size, 10, none⟩ = some (.string ⟨#[]⟩) := cell_of_row WF _ 10 _ 29 (0, 0) hblk
    exact bodyPost_ret (v := .tuple #[mv mzz, .bool false]) (by simp [results, Tryz.results46, go_sem, f0, f1, f2, f3, f4, f5, f6, f7, f8, f9, f10]) rfl (gmsg_no hk hbF)
  | false =>
    by_cases hz : st.size = 0
    · have hd : decide (0 < (st.size : Int)) = false := decide_eq_false (by omega)
      have hd2 : ¬ 0 < st.size := by omega
      have hkk : gok s = mmayB M := by rw [HGG.out, decide_eq_true hz]; rfl
      have HKK := Lib.hid hkk
      obtain ⟨mb, hmb⟩ : ∃ mb, mb = mmayB M := ⟨_, rfl⟩
      rw [← hmb] at KM HKK
      clear hkk hmb
      have m0 : W2.cell? ⟨w2.heap.size, 0, none⟩ = some (.int .i64 M.kind) := cell_of_row W2 _ 0 _ 29 (0, 0) HKM.out
      have m1 : W2.cell? ⟨w2.heap.size, 1, none⟩ = some (.int .i64 M.frm) := cell_of_row W2 _ 1 _ 29 (0, 0) HKM.out
      have m2 : W2.cell? ⟨w2.heap.size, 2, none⟩ = some (.int .i64 M.dst) := cell_of_row W2 _ 2 _ 29 (0, 0) HKM.out
      have m3 : W2.cell? ⟨w2.heap.size, 3, none⟩ = some (.int .u64 M.term) := cell_of_row W2 _ 3 _ 29 (0, 0) HKM.out
      have m4 : W2.cell? ⟨w2.heap.size, 4, none⟩ = some (.int .u64 M.index) := cell_of_row W2 _ 4 _ 29 (0, 0) HKM.out
      have m5 : W2.cell? ⟨w2.heap.size, 5, none⟩ = some (.int .u64 M.prev) := cell_of_row W2 _ 5 _ 29 (0, 0) HKM.out
      have m6 : W2.cell? ⟨w2.heap.size, 6, none⟩ = some (.int .u64 M.commit) := cell_of_row W2 _ 6 _ 29 (0, 0) HKM.out
      have m7 : W2.cell? ⟨w2.heap.size, 7, none⟩ = some (.int .u64 M.mark) := cell_of_row W2 _ 7 _ 29 (0, 0) HKM.out
      have m8 : W2.cell? ⟨w2.heap.size, 8, none⟩ = some (.bool M.ok) := cell_of_row W2 _ 8 _ 29 (0, 0) HKM.out
      have m9 : W2.cell? ⟨w2.heap.size, 9, none⟩ = some (.slice M.A M.n M.c) := cell_of_row W2 _ 9 _ 29 (0, 0) HKM.out
      have m10 : W2.cell? ⟨w2.heap.size, 10, none⟩ = some (.string M.snap) := cell_of_row W2 _ 10 _ 29 (0, 0) HKM.out
      go_wp2_with fail
      rw [← HW2.out]
      refine KO.out.mono ?_
      rintro q w3 ⟨rfl, rfl⟩
      go_wp2_with fail
      refine KL.out.mono ?_
      rintro q w3 ⟨rfl, rfl⟩
      cases mb with
      | true =>
        go_wp2_with fail
        refine KM.out.mono ?_
        rintro q w4 ⟨rfl, b4⟩
        have HK4 : Hid (w4.heap[w.heap.size]? = some (.cells (mc mzz) 29 (0, 0))) := (b4.block _ (Array.getElem?_eq_some_iff.1 HK3.out).1).trans HK3.out
        have HM4 : Hid (w4.heap[w2.heap.size]? = some (.cells (mc M) 29 (0, 0))) := (b4.block _ HL2.out).trans HKM.out
        have HB4 : Hid (Below w.heap.size w w4) := HB3.out.trans (b4.mono HB3.out.size)
        have HE4 : Hid (Ents w4.heap.size A (rN s) (gEs (rN s) (r10 s)) w4) := (HE3.out.below b4).mr b4.size
        clear b4 m0 m1 m2 m3 m4 m5 m6 m7 m8 m9 m10
        have z0 : w4.cell? ⟨w.heap.size, 0, none⟩ = some (.int .i64 0) := cell_of_row w4 _ 0 _ 29 (0, 0) HK4.out
        have z1 : w4.cell? ⟨w.heap.size, 1, none⟩ = some (.int .i64 0) := cell_of_row w4 _ 1 _ 29 (0, 0) HK4.out
        have z2 : w4.cell? ⟨w.heap.size, 2, none⟩ = some (.int .i64 0) := cell_of_row w4 _ 2 _ 29 (0, 0) HK4.out
        have z3 : w4.cell? ⟨w.heap.size, 3, none⟩ = some (.int .u64 0) := cell_of_row w4 _ 3 _ 29 (0, 0) HK4.out
        have z4 : w4.cell? ⟨w.heap.size, 4, none⟩ = some (.int .u64 0) := cell_of_row w4 _ 4 _ 29 (0, 0) HK4.out
        have z5 : w4.cell? ⟨w.heap.size, 5, none⟩ = some (.int .u64 0) := cell_of_row w4 _ 5 _ 29 (0, 0) HK4.out
        have z6 : w4.cell? ⟨w.heap.size, 6, none⟩ = some (.int .u64 0) := cell_of_row w4 _ 6 _ 29 (0, 0) HK4.out
        have z7 : w4.cell? ⟨w.heap.size, 7, none⟩ = some (.int .u64 0) := cell_of_row w4 _ 7 _ 29 (0, 0) HK4.out
        have z8 : w4.cell? ⟨w.heap.size, 8, none⟩ = some (.bool false) := cell_of_row w4 _ 8 _ 29 (0, 0) HK4.out
        have z9 : w4.cell? ⟨w.heap.size, 9, none⟩ = some (.slice none 0 0) := cell_of_row w4 _ 9 _ 29 (0, 0) HK4.out
        have z10 : w4.cell? ⟨w.heap.size, 10, none⟩ = some (.string ⟨#[]⟩) := cell_of_row w4 _ 10 _ 29 (0, 0) HK4.out
        have fz : ∀ i, w4.frozen? ⟨w.heap.size, i, none⟩ = false := fun i => Md.of HK4.out
        have m0 : w4.cell? ⟨w2.heap.size, 0, none⟩ = some (.int .i64 M.kind) := cell_of_row w4 _ 0 _ 29 (0, 0) HM4.out
        have m1 : w4.cell? ⟨w2.heap.size, 1, none⟩ = some (.int .i64 M.frm) := cell_of_row w4 _ 1 _ 29 (0, 0) HM4.out
        have m2 : w4.cell? ⟨w2.heap.size, 2, none⟩ = some (.int .i64 M.dst) := cell_of_row w4 _ 2 _ 29 (0, 0) HM4.out
        have m3 : w4.cell? ⟨w2.heap.size, 3, none⟩ = some (.int .u64 M.term) := cell_of_row w4 _ 3 _ 29 (0, 0) HM4.out
        have m4 : w4.cell? ⟨w2.heap.size, 4, none⟩ = some (.int .u64 M.index) := cell_of_row w4 _ 4 _ 29 (0, 0) HM4.out
        have m5 : w4.cell? ⟨w2.heap.size, 5, none⟩ = some (.int .u64 M.prev) := cell_of_row w4 _ 5 _ 29 (0, 0) HM4.out
        have m6 : w4.cell? ⟨w2.heap.size, 6, none⟩ = some (.int .u64 M.commit) := cell_of_row w4 _ 6 _ 29 (0, 0) HM4.out
        have m7 : w4.cell? ⟨w2.heap.size, 7, none⟩ = some (.int .u64 M.mark) := cell_of_row w4 _ 7 _ 29 (0, 0) HM4.out
        have m8 : w4.cell? ⟨w2.heap.size, 8, none⟩ = some (.bool M.ok) := cell_of_row w4 _ 8 _ 29 (0, 0) HM4.out
        have m9 : w4.cell? ⟨w2.heap.size, 9, none⟩ = some (.slice M.A M.n M.c) := cell_of_row w4 _ 9 _ 29 (0, 0) HM4.out
        have m10 : w4.cell? ⟨w2.heap.size, 10, none⟩ = some (.string M.snap) := cell_of_row w4 _ 10 _ 29 (0, 0) HM4.out
        go_wp2
        obtain ⟨WF, hWF⟩ : ∃ WF, WF = wrm w4 w.heap.size M := ⟨_, rfl⟩
        have hblk : WF.heap[w.heap.size]? = some (.cells (mc M) 29 (0, 0)) := by rw [hWF]; exact store_allm M HK4.out
        have hbF : Below w.heap.size w WF := by rw [hWF]; exact below_allm M HB4.out (Nat.le_refl _)
        unfold wrm at hWF
        rw [← hWF]
        have hWF2 := Lib.hid hWF
        clear hWF
        have f0 : WF.cell? ⟨w.heap.size, 0, none⟩ = some (.int .i64 M.kind) := cell_of_row WF _ 0 _ 29 (0, 0) hblk
        have f1 : WF.cell? ⟨w.heap.size, 1, none⟩ = some (.int .i64 M.frm) := cell_of_row WF _ 1 _ 29 (0, 0) hblk
        have f2 : WF.cell? ⟨w.heap.size, 2, none⟩ = some (.int .i64 M.dst) := cell_of_row WF _ 2 _ 29 (0, 0) hblk
        have f3 : WF.cell? ⟨w.heap.size, 3, none⟩ = some (.int .u64 M.term) := cell_of_row WF _ 3 _ 29 (0, 0) hblk
        have f4 : WF.cell? ⟨w.heap.size, 4, none⟩ = some (.int .u64 M.index) := cell_of_row WF _ 4 _ 29 (0, 0) hblk
        have f5 : WF.cell? ⟨w.heap.size, 5, none⟩ = some (.int .u64 M.prev) := cell_of_row WF _ 5 _ 29 (0, 0) hblk
        have f6 : WF.cell? ⟨w.heap.size, 6, none⟩ = some (.int .u64 M.commit) := cell_of_row WF _ 6 _ 29 (0, 0) hblk
        have f7 : WF.cell? ⟨w.heap.size, 7, none⟩ = some (.int .u64 M.mark) := cell_of_row WF _ 7 _ 29 (0, 0) hblk
        have f8 : WF.cell? ⟨w.heap.size, 8, none⟩ = some (.bool M.ok) := cell_of_row WF _ 8 _ 29 (0, 0) hblk
        have f9 : WF.cell? ⟨w.heap.size, 9, none⟩ = some (.slice M.A M.n M.c) := cell_of_row WF _ 9 _ 29 (0, 0) hblk
        have f10 : WF.cell? ⟨w.heap.size, 10, none⟩ = some (.string M.snap) := cell_of_row WF _ 10 _ 29 (0, 0) hblk
        exact bodyPost_ret (v := .tuple #[mv M, .bool true]) (by simp [results, Tryz.results46, go_sem, f0, f1, f2, f3, f4, f5, f6, f7, f8, f9, f10]) rfl (HY.out _ hbF (by have hq := ents_wrm2 (g := w.heap.size) M HE4.out HLO.out; have hz := size_wrm w4 w.heap.size M; rw [← hz] at hq; unfold wrm at hq; rw [← hWF2.out] at hq; exact hq) HKK.out)
      | false =>
        go_wp2_with fail
        refine KM.out.mono ?_
        rintro q w4 ⟨rfl, b4⟩
        have HK4 : Hid (w4.heap[w.heap.size]? = some (.cells (mc mzz) 29 (0, 0))) := (b4.block _ (Array.getElem?_eq_some_iff.1 HK3.out).1).trans HK3.out
        have HB4 : Hid (Below w.heap.size w w4) := HB3.out.trans (b4.mono HB3.out.size)
        clear b4 m0 m1 m2 m3 m4 m5 m6 m7 m8 m9 m10
        have z0 : w4.cell? ⟨w.heap.size, 0, none⟩ = some (.int .i64 0) := cell_of_row w4 _ 0 _ 29 (0, 0) HK4.out
        have z1 : w4.cell? ⟨w.heap.size, 1, none⟩ = some (.int .i64 0) := cell_of_row w4 _ 1 _ 29 (0, 0) HK4.out
        have z2 : w4.cell? ⟨w.heap.size, 2, none⟩ = some (.int .i64 0) := cell_of_row w4 _ 2 _ 29 (0, 0) HK4.out
        have z3 : w4.cell? ⟨w.heap.size, 3, none⟩ = some (.int .u64 0) := cell_of_row w4 _ 3 _ 29 (0, 0) HK4.out
        have z4 : w4.cell? ⟨w.heap.size, 4, none⟩ = some (.int .u64 0) := cell_of_row w4 _ 4 _ 29 (0, 0) HK4.out
        have z5 : w4.cell? ⟨w.heap.size, 5, none⟩ = some (.int .u64 0) := cell_of_row w4 _ 5 _ 29 (0, 0) HK4.out
        have z6 : w4.cell? ⟨w.heap.size, 6, none⟩ = some (.int .u64 0) := cell_of_row w4 _ 6 _ 29 (0, 0) HK4.out
        have z7 : w4.cell? ⟨w.heap.size, 7, none⟩ = some (.int .u64 0) := cell_of_row w4 _ 7 _ 29 (0, 0) HK4.out
        have z8 : w4.cell? ⟨w.heap.size, 8, none⟩ = some (.bool false) := cell_of_row w4 _ 8 _ 29 (0, 0) HK4.out
        have z9 : w4.cell? ⟨w.heap.size, 9, none⟩ = some (.slice none 0 0) := cell_of_row w4 _ 9 _ 29 (0, 0) HK4.out
        have z10 : w4.cell? ⟨w.heap.size, 10, none⟩ = some (.string ⟨#[]⟩) := cell_of_row w4 _ 10 _ 29 (0, 0) HK4.out
        have fz : ∀ i, w4.frozen? ⟨w.heap.size, i, none⟩ = false := fun i => Md.of HK4.out
        go_wp2
        obtain ⟨WF, hWF⟩ : ∃ WF, WF = wrm w4 w.heap.size mzz := ⟨_, rfl⟩
        have hblk : WF.heap[w.heap.size]? = some (.cells (mc mzz) 29 (0, 0)) := by rw [hWF]; exact store_allm mzz HK4.out
        have hbF : Below w.heap.size w WF := by rw [hWF]; exact below_allm mzz HB4.out (Nat.le_refl _)
        unfold wrm at hWF
        rw [← hWF]
        have hWF2 := Lib.hid hWF
        clear hWF
        have f0 : WF.cell? ⟨w.heap.size, 0, none⟩ = some (.int .i64 0) := cell_of_row WF _ 0 _ 29 (0, 0) hblk
        have f1 : WF.cell? ⟨w.heap.size, 1, none⟩ = some (.int .i64 0) := cell_of_row WF _ 1 _ 29 (0, 0) hblk
        have f2 : WF.cell? ⟨w.heap.size, 2, none⟩ = some (.int .i64 0) := cell_of_row WF _ 2 _ 29 (0, 0) hblk
        have f3 : WF.cell? ⟨w.heap.size, 3, none⟩ = some (.int .u64 0) := cell_of_row WF _ 3 _ 29 (0, 0) hblk
        have f4 : WF.cell? ⟨w.heap.size, 4, none⟩ = some (.int .u64 0) := cell_of_row WF _ 4 _ 29 (0, 0) hblk
        have f5 : WF.cell? ⟨w.heap.size, 5, none⟩ = some (.int .u64 0) := cell_of_row WF _ 5 _ 29 (0, 0) hblk
        have f6 : WF.cell? ⟨w.heap.size, 6, none⟩ = some (.int .u64 0) := cell_of_row WF _ 6 _ 29 (0, 0) hblk
        have f7 : WF.cell? ⟨w.heap.size, 7, none⟩ = some (.int .u64 0) := cell_of_row WF _ 7 _ 29 (0, 0) hblk
        have f8 : WF.cell? ⟨w.heap.size, 8, none⟩ = some (.bool false) := cell_of_row WF _ 8 _ 29 (0, 0) hblk
        have f9 : WF.cell? ⟨w.heap.size, 9, none⟩ = some (.slice none 0 0) := cell_of_row WF _ 9 _ 29 (0, 0) hblk
        have f10 : WF.cell? ⟨w.heap.size, 10, none⟩ = some (.string ⟨#[]⟩) := cell_of_row WF _ 10 _ 29 (0, 0) hblk
        exact bodyPost_ret (v := .tuple #[mv mzz, .bool false]) (by simp [results, Tryz.results46, go_sem, f0, f1, f2, f3, f4, f5, f6, f7, f8, f9, f10]) rfl (gmsg_no HKK.out hbF)
    · have hd : decide (0 < (st.size : Int)) = true := decide_eq_true (by omega)
      have hd2 : 0 < st.size := by omega
      have hk : gok s = false := by rw [HGG.out, decide_eq_false hz]; rfl
      have z0 : W2.cell? ⟨w.heap.size, 0, none⟩ = some (.int .i64 0) := cell_of_row W2 _ 0 _ 29 (0, 0) HK3.out
      have z1 : W2.cell? ⟨w.heap.size, 1, none⟩ = some (.int .i64 0) := cell_of_row W2 _ 1 _ 29 (0, 0) HK3.out
      have z2 : W2.cell? ⟨w.heap.size, 2, none⟩ = some (.int .i64 0) := cell_of_row W2 _ 2 _ 29 (0, 0) HK3.out
      have z3 : W2.cell? ⟨w.heap.size, 3, none⟩ = some (.int .u64 0) := cell_of_row W2 _ 3 _ 29 (0, 0) HK3.out
      have z4 : W2.cell? ⟨w.heap.size, 4, none⟩ = some (.int .u64 0) := cell_of_row W2 _ 4 _ 29 (0, 0) HK3.out
      have z5 : W2.cell? ⟨w.heap.size, 5, none⟩ = some (.int .u64 0) := cell_of_row W2 _ 5 _ 29 (0, 0) HK3.out
      have z6 : W2.cell? ⟨w.heap.size, 6, none⟩ = some (.int .u64 0) := cell_of_row W2 _ 6 _ 29 (0, 0) HK3.out
      have z7 : W2.cell? ⟨w.heap.size, 7, none⟩ = some (.int .u64 0) := cell_of_row W2 _ 7 _ 29 (0, 0) HK3.out
      have z8 : W2.cell? ⟨w.heap.size, 8, none⟩ = some (.bool false) := cell_of_row W2 _ 8 _ 29 (0, 0) HK3.out
      have z9 : W2.cell? ⟨w.heap.size, 9, none⟩ = some (.slice none 0 0) := cell_of_row W2 _ 9 _ 29 (0, 0) HK3.out
      have z10 : W2.cell? ⟨w.heap.size, 10, none⟩ = some (.string ⟨#[]⟩) := cell_of_row W2 _ 10 _ 29 (0, 0) HK3.out
      have fz : ∀ i, W2.frozen? ⟨w.heap.size, i, none⟩ = false := fun i => Md.of HK3.out
      go_wp2_with fail
      rw [← HW2.out]
      refine KO.out.mono ?_
      rintro q w3 ⟨rfl, rfl⟩
      go_wp2_with fail
      refine KL.out.mono ?_
      rintro q w3 ⟨rfl, rfl⟩
      go_wp2
      obtain ⟨WF, hWF⟩ : ∃ WF, WF = wrm W2 w.heap.size mzz := ⟨_, rfl⟩
      have hblk : WF.heap[w.heap.size]? = some (.cells (mc mzz) 29 (0, 0)) := by rw [hWF]; exact store_allm mzz HK3.out
      have hbF : Below w.heap.size w WF := by rw [hWF]; exact below_allm mzz HB3.out (Nat.le_refl _)
      unfold wrm at hWF
      rw [← hWF]
      have hWF2 := Lib.hid hWF
      clear hWF
      have f0 : WF.cell? ⟨w.heap.size, 0, none⟩ = some (.int .i64 0) := cell_of_row WF _ 0 _ 29 (0, 0) hblk
      have f1 : WF.cell? ⟨w.heap.size, 1, none⟩ = some (.int .i64 0) := cell_of_row WF _ 1 _ 29 (0, 0) hblk
      have f2 : WF.cell? ⟨w.heap.size, 2, none⟩ = some (.int .i64 0) := cell_of_row WF _ 2 _ 29 (0, 0) hblk
      have f3 : WF.cell? ⟨w.heap.size, 3, none⟩ = some (.int .u64 0) := cell_of_row WF _ 3 _ 29 (0, 0) hblk
      have f4 : WF.cell? ⟨w.heap.size, 4, none⟩ = some (.int .u64 0) := cell_of_row WF _ 4 _ 29 (0, 0) hblk
      have f5 : WF.cell? ⟨w.heap.size, 5, none⟩ = some (.int .u64 0) := cell_of_row WF _ 5 _ 29 (0, 0) hblk
      have f6 : WF.cell? ⟨w.heap.size, 6, none⟩ = some (.int .u64 0) := cell_of_row WF _ 6 _ 29 (0, 0) hblk
      have f7 : WF.cell? ⟨w.heap.size, 7, none⟩ = some (.int .u64 0) := cell_of_row WF _ 7 _ 29 (0, 0) hblk
      have f8 : WF.cell? ⟨w.heap.size, 8, none⟩ = some (.bool false) := cell_of_row WF _ 8 _ 29 (0, 0) hblk
      have f9 : WF.cell? ⟨w.heap.size, 9, none⟩ = some (.slice none 0 0) := cell_of_row WF _ 9 _ 29 (0, 0) hblk
      have f10 : WF.cell? ⟨w.heap.size, 10, none⟩ = some (.string ⟨#[]⟩) := cell_of_row WF _ 10 _ 29 (0, 0) hblk
      exact bodyPost_ret (v := .tuple #[mv mzz, .bool false]) (by simp [results, Tryz.results46, go_sem, f0, f1, f2, f3, f4, f5, f6, f7, f8, f9, f10]) rfl (gmsg_no hk hbF)

end Go.Proofs.YtpdbeijfchmlgaaGreat
