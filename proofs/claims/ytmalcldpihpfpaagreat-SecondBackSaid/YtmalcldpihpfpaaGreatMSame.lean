/-
  Are two messages the same: the package's way and the document's.
  Conditions: named in each theorem.
-/
import Derived.Test.YtmalcldpihpfpaaGreatMRB11
import Derived.Test.YtmalcldpihpfpaaGreatSmall
import Derived.Test.YtmalcldpihpfpaaGreatMkFacts
import Derived.Deep.RegionHeld3
namespace Go.Proofs.YtmalcldpihpfpaaGreat
open Go.RowKit
set_option linter.unusedVariables false

/-- The first k entries of both are the same. -/
def preB (es fs : List En) (k : Nat) : Bool := (List.zipWith sameB (es.take k) (fs.take k)).all id
theorem preB_step (es fs : List En) (k : Nat) (e f : En) (he : es[k]? = some e) (hf : fs[k]? = some f) : preB es fs (k + 1) = (preB es fs k && sameB e f) := by
  unfold preB
  have h1 : es.take (k + 1) = es.take k ++ [e] := by rw [List.take_add_one, he]; rfl
  have h2 : fs.take (k + 1) = fs.take k ++ [f] := by rw [List.take_add_one, hf]; rfl
  have l1 : (es.take k).length = (fs.take k).length := by
    have := (List.getElem?_eq_some_iff.1 he).1
    have := (List.getElem?_eq_some_iff.1 hf).1
    rw [List.length_take, List.length_take]
    omega
  rw [h1, h2, List.zipWith_append l1, List.all_append]
  simp
/-- The entries are the same. -/
def entsB (n k : Nat) (es fs : List En) : Bool := decide (n = k) && preB es fs n
theorem entsB_len {n k : Nat} {es fs : List En} (h : n ≠ k) : entsB n k es fs = false := by
  unfold entsB
  rw [decide_eq_false h]
  rfl
theorem preB_stop {es fs : List En} {k n : Nat} (h : preB es fs k = false) (hk : k ≤ n) (h1 : es.length = n) (h2 : fs.length = n) : preB es fs n = false := by
  obtain ⟨d, rfl⟩ : ∃ d, n = k + d := ⟨n - k, by omega⟩
  have hd : ∀ j, k + j ≤ k + d → preB es fs (k + j) = false := by
    intro j
    induction j with
    | zero => intro _; exact h
    | succ j ih =>
      intro hj
      obtain ⟨e, he⟩ : ∃ e, es[k + j]? = some e := ⟨_, List.getElem?_eq_getElem (by omega)⟩
      obtain ⟨f, hf⟩ : ∃ f, fs[k + j]? = some f := ⟨_, List.getElem?_eq_getElem (by omega)⟩
      rw [show k + (j + 1) = (k + j) + 1 by omega, preB_step es fs (k + j) e f he hf, ih (by omega)]
      rfl
  exact hd d (Nat.le_refl _)

set_option maxRecDepth 100000 in
set_option maxHeartbeats 4000000 in
theorem equal_any (A A' : Option Addr) (n c n' c' : Nat) (es fs : List En) (w : World) (hE : Ents w.heap.size A n es w) (hF : Ents w.heap.size A' n' fs w) (hn : (n : Int) ≤ 9223372036854775807) (hn' : (n' : Int) ≤ 9223372036854775807) :
    Calls Tryz.prog 53 #[.slice A n c, .slice A' n' c', .func (.func 28) #[] #[]] w fun r w' => r = .returned (.bool (entsB n n' es fs)) ∧ Below w.heap.size w w' := by
  have HE := Lib.hid hE
  have HF := Lib.hid hF
  clear hE hF
  by_cases hnn : n = n'
  · subst hnn
    have hT : Hid (entsB n n es fs = preB es fs n) := by show _ = _; unfold entsB; rw [decide_eq_true rfl, Bool.true_and]
    go_enter Tryz.func53, Tryz.ntmps53
    go_wp2
    go_loopw [17] (fun i wr => ∃ k : Nat, k ≤ n ∧ i = .int .i64 k ∧ Hid (preB es fs k = true) ∧ Below w.heap.size w wr) (fun i _ => n - (intOf i).toNat)
    case atStart => exact ⟨0, Nat.zero_le _, rfl, rfl, Below.refl _ _⟩
    case round =>
      obtain ⟨k, hk, rfl, HI, hb⟩ := hrel
      by_cases hlt : k < n
      · obtain ⟨e, he⟩ : ∃ e, es[k]? = some e := ⟨_, List.getElem?_eq_getElem (by rw [HE.out.len]; exact hlt)⟩
        obtain ⟨f, hf⟩ : ∃ f, fs[k]? = some f := ⟨_, List.getElem?_eq_getElem (by rw [HF.out.len]; exact hlt)⟩
        obtain ⟨a, hA, hB, hc⟩ := (HE.out.below hb).at_ k e he
        obtain ⟨a', hA', hB', hc'⟩ := (HF.out.below hb).at_ k f hf
        have hst : Hid (preB es fs (k + 1) = (preB es fs k && sameB e f)) := preB_step es fs k e f he hf
        have hlb : (a.add (k * 11)).block < wr.heap.size := by rw [block_of_add]; exact Nat.lt_of_lt_of_le hB hb.size
        have hlb' : (a'.add (k * 11)).block < wr.heap.size := by rw [block_of_add]; exact Nat.lt_of_lt_of_le hB' hb.size
        obtain ⟨W1, hW1⟩ : ∃ W1, W1 = wr.alloc (Obj.cells (ec e) 24) := ⟨_, rfl⟩
        have hb1 : Below wr.heap.size wr W1 := by rw [hW1]; exact (Below.refl _ _).alloc (Nat.le_refl _) _
        have hc1 : ∀ j, j < 11 → W1.cell? ((a'.add (k * 11)).add j) = (ec f)[j]? := fun j hj => (hb1.cell (by rw [block_of_add]; exact hlb')).trans (hc' j hj)
        have d0 : wr.cell? (a.add (k * 11)) = some (.int .u64 e.term) := hc 0 (by omega)
        have d1 : wr.cell? ⟨(a.add (k * 11)).block, (a.add (k * 11)).off + 1, none⟩ = some (.int .u64 e.index) := hc 1 (by omega)
        have d2 : wr.cell? ⟨(a.add (k * 11)).block, (a.add (k * 11)).off + 2, none⟩ = some (.int .i64 e.kind) := hc 2 (by omega)
        have d3 : wr.cell? ⟨(a.add (k * 11)).block, (a.add (k * 11)).off + 3, none⟩ = some (.int .u64 e.client) := hc 3 (by omega)
        have d4 : wr.cell? ⟨(a.add (k * 11)).block, (a.add (k * 11)).off + 4, none⟩ = some (.int .u64 e.seq) := hc 4 (by omega)
        have d5 : wr.cell? ⟨(a.add (k * 11)).block, (a.add (k * 11)).off + 5, none⟩ = some (.int .u64 e.block) := hc 5 (by omega)
        have d6 : wr.cell? ⟨(a.add (k * 11)).block, (a.add (k * 11)).off + 6, none⟩ = some (.int .u64 e.many) := hc 6 (by omega)
        have d7 : wr.cell? ⟨(a.add (k * 11)).block, (a.add (k * 11)).off + 7, none⟩ = some (.int .i64 e.node) := hc 7 (by omega)
        have d8 : wr.cell? ⟨(a.add (k * 11)).block, (a.add (k * 11)).off + 8, none⟩ = some (.int .i64 e.level) := hc 8 (by omega)
        have d9 : wr.cell? ⟨(a.add (k * 11)).block, (a.add (k * 11)).off + 9, none⟩ = some (.string e.data) := hc 9 (by omega)
        have d10 : wr.cell? ⟨(a.add (k * 11)).block, (a.add (k * 11)).off + 10, none⟩ = some (.string e.old) := hc 10 (by omega)
        have f0 : W1.cell? (a'.add (k * 11)) = some (.int .u64 f.term) := hc1 0 (by omega)
        have f1 : W1.cell? ⟨(a'.add (k * 11)).block, (a'.add (k * 11)).off + 1, none⟩ = some (.int .u64 f.index) := hc1 1 (by omega)
        have f2 : W1.cell? ⟨(a'.add (k * 11)).block, (a'.add (k * 11)).off + 2, none⟩ = some (.int .i64 f.kind) := hc1 2 (by omega)
        have f3 : W1.cell? ⟨(a'.add (k * 11)).block, (a'.add (k * 11)).off + 3, none⟩ = some (.int .u64 f.client) := hc1 3 (by omega)
        have f4 : W1.cell? ⟨(a'.add (k * 11)).block, (a'.add (k * 11)).off + 4, none⟩ = some (.int .u64 f.seq) := hc1 4 (by omega)
        have f5 : W1.cell? ⟨(a'.add (k * 11)).block, (a'.add (k * 11)).off + 5, none⟩ = some (.int .u64 f.block) := hc1 5 (by omega)
        have f6 : W1.cell? ⟨(a'.add (k * 11)).block, (a'.add (k * 11)).off + 6, none⟩ = some (.int .u64 f.many) := hc1 6 (by omega)
        have f7 : W1.cell? ⟨(a'.add (k * 11)).block, (a'.add (k * 11)).off + 7, none⟩ = some (.int .i64 f.node) := hc1 7 (by omega)
        have f8 : W1.cell? ⟨(a'.add (k * 11)).block, (a'.add (k * 11)).off + 8, none⟩ = some (.int .i64 f.level) := hc1 8 (by omega)
        have f9 : W1.cell? ⟨(a'.add (k * 11)).block, (a'.add (k * 11)).off + 9, none⟩ = some (.string f.data) := hc1 9 (by omega)
        have f10 : W1.cell? ⟨(a'.add (k * 11)).block, (a'.add (k * 11)).off + 10, none⟩ = some (.string f.old) := hc1 10 (by omega)
        rw [hW1] at f0 f1 f2 f3 f4 f5 f6 f7 f8 f9 f10
        have K := Lib.hid (same_any e f ((wr.alloc (Obj.cells (ec e) 24)).alloc (Obj.cells (ec f) 24)))
        have HB := Lib.hid hb
        have HB2 : Hid (Below w.heap.size w ((wr.alloc (Obj.cells (ec e) 24)).alloc (Obj.cells (ec f) 24))) := (hb.alloc hb.size _).alloc (Nat.le_trans hb.size (by simp)) _
        have hz : w.heap.size ≤ ((wr.alloc (Obj.cells (ec e) 24)).alloc (Obj.cells (ec f) 24)).heap.size := HB2.out.size
        have HZ := Lib.hid hz
        clear hb hc hc' hc1 he hf hB hB' hb1 hW1 hz hlb hlb'
        rw [hA, hA']
        clear hA hA'
        cases hs : sameB e f with
        | true =>
          rw [hs] at K hst
          have H2 : Hid (preB es fs (k + 1) = true) := by show _ = _; rw [hst.out, HI.out]; rfl
          clear hs
          go_wp2_with (go_at_call 28; (with_reducible refine K.out.mono ?_); rintro r w1 ⟨rfl, hb1⟩)
          go_roundw
          case rel => exact ⟨k + 1, by omega, by go_num, H2, HB2.out.trans (hb1.mono HZ.out)⟩
          case measure => simp [intOf]; omega
        | false =>
          rw [hs] at K hst
          have H2 : Hid (preB es fs n = false) := preB_stop (k := k + 1) (by rw [hst.out, HI.out]; rfl) (by omega) HE.out.len HF.out.len
          clear hs
          go_wp2_with (go_at_call 28; (with_reducible refine K.out.mono ?_); rintro r w1 ⟨rfl, hb1⟩)
          go_ret
          exact ⟨ret_bool (by rw [hT.out, H2.out]), HB2.out.trans (hb1.mono HZ.out)⟩
      · have hkn : k = n := by omega
        subst hkn
        go_wp2
        go_ret
        exact ⟨ret_bool (by rw [hT.out, HI.out]), hb⟩
  · have hT : Hid (entsB n n' es fs = false) := entsB_len hnn
    have h1 : ¬ (n : Int) = (n' : Int) := by omega
    have h2 : ((n : Int) == (n' : Int)) = false := beqF h1
    have h3 : ((n : Int) != (n' : Int)) = true := by simp only [bne, h2]; rfl
    clear hnn
    go_enter Tryz.func53, Tryz.ntmps53
    go_wp2
    go_ret
    exact ⟨ret_bool hT.out.symm, Below.refl _ _⟩
end Go.Proofs.YtmalcldpihpfpaaGreat
