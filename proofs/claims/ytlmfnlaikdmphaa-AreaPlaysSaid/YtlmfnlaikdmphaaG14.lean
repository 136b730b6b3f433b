/-
  Texts of the layer below and of this one: AQ, PX, LOvrA, LBakA.
  Conditions: named in each theorem.
-/
import Derived.Test.YtlmfnlaikdmphaaG12
import Derived.Test.YtlmfnlaikdmphaaG08
import Derived.Test.YtlmfnlaikdmphaaG07
import Derived.Deep.CutRange
namespace Go.Proofs.Ytlmfnlaikdmphaa
open Go.RowKit Vi Dk
set_option linter.unusedVariables false
set_option linter.unusedSimpArgs false
theorem wrL_more (first : Nat) (l : List UInt8) (n : Nat) : ∀ (r k : Nat) (d : St), Alv d n → first + k + r ≤ n → (∀ j, (wrL first l r k d).1.fl j = d.fl j) ∧ ∀ j, ((wrL first l r k d).1.wt j).isSome = (decide (first + k ≤ j ∧ j < first + k + r) || (d.wt j).isSome)
  | 0, k, d, h, _ => ⟨fun j => rfl, fun j => by rw [decide_eq_false (by omega), Bool.false_or]; rfl⟩
  | r + 1, k, d, h, hk => by
    obtain ⟨h1, h2⟩ := h.write (i := first + k) (by omega) ((l.drop (k * 64)).take 64) (by rw [List.length_take]; omega)
    have ih := wrL_more first l n r (k + 1) _ h2 (by omega)
    have e : wrL first l (r + 1) k d = wrL first l r (k + 1) (d.step.put (first + k) (pad ((l.drop (k * 64)).take 64))) := by
      rw [wrL, h1, if_pos rfl]
    rw [e]
    refine ⟨fun j => ih.1 j, fun j => ?_⟩
    rw [ih.2 j]
    show (decide _ || (if j = first + k then some _ else d.wt j).isSome) = _
    by_cases hj : j = first + k
    · rw [if_pos hj, decide_eq_false (by omega), decide_eq_true (by omega)]
      rfl
    · rw [if_neg hj]
      congr 1
      rw [decide_eq_decide]
      omega
/-- A device that is not dead and is armed. -/
theorem wrL_arm (first : Nat) (l : List UInt8) (n : Nat) : ∀ (r k : Nat) (d : St), d.n = n → d.dead = false → 0 ≤ d.left → first + k + r ≤ n →
    (wrL first l r k d).1.n = n ∧ (∀ j, (wrL first l r k d).1.fl j = d.fl j) ∧
    ((r : Int) ≤ d.left → (wrL first l r k d).2 = 0 ∧ (wrL first l r k d).1.dead = false ∧ ∀ j, (wrL first l r k d).1.now j = if first + k ≤ j ∧ j < first + k + r then sx l (j - first) else d.now j) ∧
    (¬ (r : Int) ≤ d.left → (wrL first l r k d).2 = 7)
  | 0, k, d, hn, hd, hl, _ => ⟨hn, fun j => rfl, fun _ => ⟨rfl, hd, fun j => by rw [if_neg (by omega)]; rfl⟩, fun h => absurd hl h⟩
  | r + 1, k, d, hn, hd, hl, hk => by
    have hre : d.refuses ((first + k : Nat) : Int) = 0 := by
      unfold St.refuses
      rw [hd, hn]
      simp
      omega
    have hlen : ¬ 64 < ((l.drop (k * 64)).take 64).length := by rw [List.length_take]; omega
    by_cases h0 : d.left = 0
    · have hw : d.write ((first + k : Nat) : Int) ((l.drop (k * 64)).take 64) = (d.die, 7) := by
        unfold St.write St.try_
        rw [hre, if_neg (by simp), if_neg hlen, if_pos h0]
      have e : wrL first l (r + 1) k d = (d.die, 7) := by rw [wrL, hw, if_neg (show ¬ (7 : Int) = 0 by decide)]
      rw [e]
      exact ⟨hn, fun j => rfl, fun h => by omega, fun _ => rfl⟩
    · have hw : d.write ((first + k : Nat) : Int) ((l.drop (k * 64)).take 64) = (d.step.put (first + k) (pad ((l.drop (k * 64)).take 64)), 0) := by
        unfold St.write St.try_
        rw [hre, if_neg (by simp), if_neg hlen, if_neg h0, if_neg (by rw [hd]; decide), Int.toNat_natCast]
      have e : wrL first l (r + 1) k d = wrL first l r (k + 1) (d.step.put (first + k) (pad ((l.drop (k * 64)).take 64))) := by
        rw [wrL, hw, if_pos rfl]
      have hleft : (d.step.put (first + k) (pad ((l.drop (k * 64)).take 64))).left = d.left - 1 := by
        show (if 0 < d.left then d.left - 1 else d.left) = _
        rw [if_pos (by omega)]
      obtain ⟨i1, i2, i3, i4⟩ := wrL_arm first l n r (k + 1) (d.step.put (first + k) (pad ((l.drop (k * 64)).take 64))) hn hd (by rw [hleft]; omega) (by omega)
      rw [hleft] at i3 i4
      rw [e]
      refine ⟨i1, fun j => i2 j, fun h => ?_, fun h => i4 (by omega)⟩
      obtain ⟨j1, j2, j3⟩ := i3 (by omega)
      refine ⟨j1, j2, fun j => ?_⟩
      rw [j3, put_now]
      by_cases hj : j = first + k
      · rw [if_neg (by omega), if_pos hj, if_pos (by omega)]
        unfold sx
        rw [show j - first = k by omega]
      · rw [if_neg hj]
        by_cases h3 : first + (k + 1) ≤ j ∧ j < first + (k + 1) + r
        · rw [if_pos h3, if_pos (by omega)]
        · rw [if_neg h3, if_neg (by omega)]
theorem arW_go {d : St} {a M : Nat} {v : Int} {s : Sn} (hO : snO v s = true) (hon : onA d.n a M = true) (hf : (snS v s).size ≤ M * 64) : arW d a M v s = wrL a (snS v s).data.toList M 0 d := by
  unfold arW
  rw [hO, hon, Bool.and_self, if_pos rfl, if_pos (by omega), Int.toNat_natCast, Int.toNat_natCast]
theorem onA_nat {n a M : Nat} (h1 : 1 ≤ M) (h2 : a + M ≤ n) : onA n a M = true := onA_iff.2 ⟨by omega, by omega, by omega⟩
/-- What stands in the sectors is read. -/
theorem arR_holds {d : St} {a M : Nat} {v : Int} {s : Sn} (ok : s.Ok) (hO : snO v s = true) (hf : (snS v s).size ≤ M * 64) (hM : 1 ≤ M) (hn : a + M ≤ d.n) (hd : d.dead = false) (h : ∀ i, i < M → d.now (a + i) = sx (snS v s).data.toList i) : arR d a M = (s, v, 0) := by
  have hl : (snS v s).data.toList.length = (snS v s).size := Array.length_toList
  have hb : rdB d a M = snS v s ++ txt (List.replicate (M * 64 - (snS v s).size) 0) := by
    unfold rdB
    rw [cat_sx _ _ M h, List.take_of_length_le (by rw [List.length_append, List.length_replicate, hl]; omega), hl]
    apply ByteArray.ext
    apply Array.toList_inj.1
    rw [ByteArray.data_append, Array.toList_append, txt_list, txt_list]
  obtain ⟨g1, g2, g3⟩ := gt_put ok hO (txt (List.replicate (M * 64 - (snS v s).size) 0))
  unfold arR
  rw [onA_nat hM hn, if_pos rfl, hd, if_neg (by decide), Int.toNat_natCast, Int.toNat_natCast, hb, g1, g2, g3, if_pos rfl]
theorem snS_fits {v : Int} {s : Sn} (ok : s.Ok) (hv : v = 1 ∨ v = 2) (hd : s.da.size ≤ 300) : snO v s = true ∧ (snS v s).size ≤ 327 := by
  have hO : snO v s = true := snO_iff.2 ⟨hv, by omega⟩
  refine ⟨hO, ?_⟩
  rcases hv with rfl | rfl
  · rw [snS1_size hO]; omega
  · have h1 := putB_10 _ ok.i
    have h2 := putB_10 _ ok.t
    have h3 : (putB ((putB s.ix).size + (putB s.tm).size + s.da.size)).size ≤ 2 := by
      unfold putB
      rw [str_size]
      exact put_length_le _ 1 (by
        show (str (put s.ix)).size + (str (put s.tm)).size + s.da.size < _
        have h1' : (str (put s.ix)).size ≤ 10 := h1
        have h2' : (str (put s.tm)).size ≤ 10 := h2
        omega)
    rw [snS2_size hO]
    omega
theorem fresh_alv (n : Nat) : Alv (St.fresh n fun _ => zsec) n := ⟨rfl, rfl, rfl⟩
/-- Write on a device that works. -/
theorem arW_alv {d : St} {n a M : Nat} {v : Int} {s : Sn} (h : Alv d n) (hO : snO v s = true) (hf : (snS v s).size ≤ M * 64) (hM : 1 ≤ M) (hn : a + M ≤ n) :
    (arW d a M v s).2 = 0 ∧ Alv (arW d a M v s).1 n ∧ (∀ i, i < M → (arW d a M v s).1.now (a + i) = sx (snS v s).data.toList i) ∧ (∀ j, j < a ∨ a + M ≤ j → (arW d a M v s).1.now j = d.now j) ∧
    (∀ j, (arW d a M v s).1.fl j = d.fl j) ∧ ∀ j, ((arW d a M v s).1.wt j).isSome = (decide (a ≤ j ∧ j < a + M) || (d.wt j).isSome) := by
  rw [arW_go hO (onA_nat hM (by rw [h.n]; exact hn)) hf]
  obtain ⟨h1, h2⟩ := wrL_ok a (snS v s).data.toList n M 0 d h (by omega)
  have h3 := wrL_now a (snS v s).data.toList n M 0 d h (by omega)
  obtain ⟨h4, h5⟩ := wrL_more a (snS v s).data.toList n M 0 d h (by omega)
  refine ⟨h1, h2, fun i hi => ?_, fun j hj => ?_, h4, fun j => by rw [h5, Nat.add_zero]⟩
  · rw [h3, if_pos (by omega), show a + i - a = i by omega]
  · rw [h3, if_neg (by omega)]
theorem after_now (d : St) (lost : List Int) (j : Nat) : (d.after lost).now j = if (j : Int) ∈ lost then d.fl j else d.now j := by
  unfold St.after St.settle St.now
  dsimp only
  by_cases h : (j : Int) ∈ lost
  · simp [h]
  · simp [h]
end Go.Proofs.Ytlmfnlaikdmphaa
namespace Go.Proofs.Ytlmfnlaikdmphaa
open Go.RowKit Vi Dk
set_option linter.unusedVariables false
theorem Dk.Dv.keep {w w' : World} {g : Nat} {L : List Nat} {d : St} {K : List Nat} (h : Dv w g L d) (hk : Keep K w w') (hd : ∀ k ∈ L, k ∉ K) : Dv w' g L d := h.of_heap (fun k hm => hk.block k (h.lt k hm) (hd k hm))
theorem Dk.Rf.keep {w w' : World} {B gr : Nat} {L : List Nat} {d : St} {K : List Nat} (h : Rf w B gr L d) (hk : Keep K w w') (hd : ∀ k ∈ L, k ∉ K) : Rf w' B gr L d := h.of_heap (fun k hm => hk.block k (h.lt k hm) (hd k hm))
theorem rf_apart {w : World} {B gr : Nat} {L : List Nat} {d : St} {K : List Nat} {gd : Nat} {e : St} (h : Rf w B gr L d) (hD : Dv w gd K e) : ∀ k ∈ L, k ∉ K := by
  intro k hk hm
  obtain ⟨cur, t, hh, ht⟩ := h.types k hk
  obtain ⟨_, fb, mb, cap, rfl, hA⟩ := hD
  simp at hm
  rcases hm with rfl | rfl | rfl
  · rcases ht with rfl | rfl | rfl <;> (have := hh.symm.trans hA.blk; simp at this)
  · obtain ⟨cur', h1, _⟩ := hA.row
    rcases ht with rfl | rfl | rfl <;> (have := hh.symm.trans h1; simp at this)
  · obtain ⟨D, ⟨es, clock, hb, _⟩, _⟩ := hA.map
    have := hh.symm.trans hb; simp at this
/-- A device above what stood, and blocks of the call's own that it does not hold. -/
def Qx (w : World) (g : Nat) (K : List (Nat × Obj)) (d : St) (W : World) : Prop :=
  ∃ L, Dv W g L d ∧ (∀ x ∈ L, w.heap.size ≤ x) ∧ Below w.heap.size w W ∧ ∀ p ∈ K, W.heap[p.1]? = some p.2 ∧ p.1 ∉ L ∧ w.heap.size ≤ p.1
section
variable {w W W' : World} {g : Nat} {K : List (Nat × Obj)} {d d' : St}
theorem Qx.be (h : Qx w g K d W) : Below w.heap.size w W := by obtain ⟨L, h1, h3, h4, h5⟩ := h; exact h4
theorem Qx.below (h : Qx w g K d W) (hb : Below W.heap.size W W') : Qx w g K d W' := by
  obtain ⟨L, h1, h3, h4, h5⟩ := h
  exact ⟨L, h1.below hb, h3, h4.trans (hb.mono h4.size), fun p hp => ⟨(hb.block _ (Array.getElem?_eq_some_iff.1 (h5 p hp).1).1).trans (h5 p hp).1, (h5 p hp).2⟩⟩
theorem Qx.drew (h : Qx w g K d W) : Qx w g K d W.drew := h.below (Below.refl _ W).drew
theorem Qx.get (h : Qx w g K d W) {k : Nat} {o : Obj} (hm : (k, o) ∈ K) : W.heap[k]? = some o := by obtain ⟨L, h1, h3, h4, h5⟩ := h; exact (h5 _ hm).1
theorem Qx.low (h : Qx w g K d W) {k : Nat} {o : Obj} (hm : (k, o) ∈ K) : w.heap.size ≤ k := by obtain ⟨L, h1, h3, h4, h5⟩ := h; exact (h5 _ hm).2.2
theorem Qx.dok (h : Qx w g K d W) : d.Ok := by obtain ⟨L, h1, h3, h4, h5⟩ := h; exact h1.1
theorem Qx.add (h : Qx w g K d W) (hb : Below W.heap.size W W') {k : Nat} {o : Obj} (hk : W.heap.size ≤ k) (ho : W'.heap[k]? = some o) : Qx w g ((k, o) :: K) d W' := by
  have hs := h.be.size
  obtain ⟨L, h1, h3, h4, h5⟩ := h
  refine ⟨L, h1.below hb, h3, h4.trans (hb.mono h4.size), fun p hp => ?_⟩
  rcases List.mem_cons.1 hp with rfl | hp
  · exact ⟨ho, fun hm => by have := h1.lt _ hm; simp at this; omega, Nat.le_trans hs hk⟩
  · exact ⟨(hb.block _ (Array.getElem?_eq_some_iff.1 (h5 p hp).1).1).trans (h5 p hp).1, (h5 p hp).2⟩
/-- A call on the device. -/
theorem Qx.c1 {f : Nat} {xs : Array Value} {r : Ending} (h : Qx w g K d W) (hc : ∀ L, Dv W g L d → Calls Try.prog f xs W fun x w' => x = r ∧ Moves g L d' W w') :
    Calls Try.prog f xs W fun x w' => x = r ∧ Qx w g K d' w' := by
  obtain ⟨L, h1, h3, h4, h5⟩ := h
  refine (hc L h1).mono fun x w' ⟨hx, hm⟩ => ⟨hx, ?_⟩
  obtain ⟨L', a1, a2, a3, a4, a5, a6⟩ := hm.below h4 h4.size h3
  refine ⟨L', a1, a2, a3, fun p hp => ?_⟩
  obtain ⟨b1, b2, b3⟩ := h5 p hp
  have hlt := (Array.getElem?_eq_some_iff.1 b1).1
  exact ⟨(a5.block _ hlt b2).trans b1, fun hx => (a6 _ hx).elim b2 (fun h => by omega), b3⟩
/-- A call that leaves all as it is. -/
theorem Qx.q1 {f : Nat} {xs : Array Value} {r : Ending} (h : Qx w g K d W) (hc : ∀ L, Dv W g L d → Calls Try.prog f xs W fun x w' => x = r ∧ Below W.heap.size W w') :
    Calls Try.prog f xs W fun x w' => x = r ∧ Qx w g K d w' ∧ Below W.heap.size W w' := by
  have h0 := h
  obtain ⟨L, h1, h3, h4, h5⟩ := h
  exact (hc L h1).mono fun x w' ⟨hx, hm⟩ => ⟨hx, h0.below hm, hm⟩
/-- A crash: a new device. -/
theorem Qx.a1 {f : Nat} {xs : Array Value} (h : Qx w g K d W) (hc : ∀ L, Dv W g L d → Calls Try.prog f xs W fun x w' => ∃ g' L', x = .returned (ptr g') ∧ Dv w' g' L' d' ∧ (∀ k ∈ L', W.heap.size ≤ k) ∧ Below W.heap.size W w') :
    Calls Try.prog f xs W fun x w' => ∃ g', x = .returned (ptr g') ∧ Qx w g' K d' w' := by
  obtain ⟨L, h1, h3, h4, h5⟩ := h
  refine (hc L h1).mono fun x w' ⟨g', L', hx, a1, a2, a3⟩ => ⟨g', hx, L', a1, fun k hk => Nat.le_trans h4.size (a2 k hk), h4.trans (a3.mono h4.size), fun p hp => ?_⟩
  have hlt := (Array.getElem?_eq_some_iff.1 (h5 p hp).1).1
  exact ⟨(a3.block _ hlt).trans (h5 p hp).1, fun hm => by have := a2 _ hm; omega, (h5 p hp).2.2⟩
end
/-- A new device. -/
theorem Qx.new {w W : World} {K : List (Nat × Obj)} (n : Nat) (h1 : 1 ≤ n) (h2 : n ≤ 4096) (hb : Below w.heap.size w W) (hK : ∀ p ∈ K, W.heap[p.1]? = some p.2 ∧ w.heap.size ≤ p.1) :
    Calls Try.prog 17 #[.int .i64 n] W fun x w' => ∃ g, x = .returned (.tuple #[ptr g, .int .i64 0]) ∧ Qx w g K (St.fresh n fun _ => zsec) w' := by
  refine (new_yes n W h1 h2).mono ?_
  rintro e w2 ⟨g, L, rfl, D2, l2, b2⟩
  refine ⟨g, rfl, L, D2, fun x hx => Nat.le_trans hb.size (l2 x hx), hb.trans (b2.mono hb.size), fun p hp => ?_⟩
  have hlt := (Array.getElem?_eq_some_iff.1 (hK p hp).1).1
  exact ⟨(b2.block _ hlt).trans (hK p hp).1, fun hm => by have := l2 _ hm; omega, (hK p hp).2⟩
/-- Two devices, the program's and the document's, above what stood, and blocks that neither holds. -/
def Px (w : World) (g gr : Nat) (K : List (Nat × Obj)) (d e : St) (W : World) : Prop :=
  ∃ L Lr, Dv W g L d ∧ Rf W w.heap.size gr Lr e ∧ (∀ x ∈ L, w.heap.size ≤ x) ∧ Below w.heap.size w W ∧ ∀ p ∈ K, W.heap[p.1]? = some p.2 ∧ p.1 ∉ L ∧ p.1 ∉ Lr
section
variable {w W W' : World} {g gr : Nat} {K : List (Nat × Obj)} {d e d' e' : St}
theorem Px.below (h : Px w g gr K d e W) (hb : Below W.heap.size W W') : Px w g gr K d e W' := by
  obtain ⟨L, Lr, h1, h2, h3, h4, h5⟩ := h
  exact ⟨L, Lr, h1.below hb, h2.below hb, h3, h4.trans (hb.mono h4.size), fun p hp => ⟨(hb.block _ (Array.getElem?_eq_some_iff.1 (h5 p hp).1).1).trans (h5 p hp).1, (h5 p hp).2⟩⟩
theorem Px.be (h : Px w g gr K d e W) : Below w.heap.size w W := by obtain ⟨L, Lr, h1, h2, h3, h4, h5⟩ := h; exact h4
theorem Px.drew (h : Px w g gr K d e W) : Px w g gr K d e W.drew := h.below (Below.refl _ W).drew
theorem Px.get (h : Px w g gr K d e W) {k : Nat} {o : Obj} (hm : (k, o) ∈ K) : W.heap[k]? = some o := by obtain ⟨L, Lr, h1, h2, h3, h4, h5⟩ := h; exact (h5 _ hm).1
theorem Px.add (h : Px w g gr K d e W) (hb : Below W.heap.size W W') {k : Nat} {o : Obj} (hk : W.heap.size ≤ k) (ho : W'.heap[k]? = some o) : Px w g gr ((k, o) :: K) d e W' := by
  obtain ⟨L, Lr, h1, h2, h3, h4, h5⟩ := h
  refine ⟨L, Lr, h1.below hb, h2.below hb, h3, h4.trans (hb.mono h4.size), fun p hp => ?_⟩
  rcases List.mem_cons.1 hp with rfl | hp
  · exact ⟨ho, fun hm => by have := h1.lt _ hm; simp at this; omega, fun hm => by have := h2.lt _ hm; simp at this; omega⟩
  · exact ⟨(hb.block _ (Array.getElem?_eq_some_iff.1 (h5 p hp).1).1).trans (h5 p hp).1, (h5 p hp).2⟩
theorem Px.put {k : Nat} {o o' : Obj} (h : Px w g gr ((k, o) :: K) d e W) (hn : ∀ p ∈ K, p.1 ≠ k) (hk : w.heap.size ≤ k) (h1 : W'.heap[k]? = some o') (h2 : ∀ j, j ≠ k → W'.heap[j]? = W.heap[j]?) (h3 : Below w.heap.size w W') : Px w g gr ((k, o') :: K) d e W' := by
  obtain ⟨L, Lr, a1, a2, a3, a4, a5⟩ := h
  have hk5 := (a5 (k, o) (by simp)).2
  refine ⟨L, Lr, a1.of_heap fun j hj => h2 j (fun e => hk5.1 (by subst e; exact hj)), a2.of_heap fun j hj => h2 j (fun e => hk5.2 (by subst e; exact hj)), a3, h3, fun p hp => ?_⟩
  rcases List.mem_cons.1 hp with rfl | hp
  · exact ⟨h1, hk5⟩
  · have := a5 p (by simp [hp]); exact ⟨(h2 _ (hn p hp)).trans this.1, this.2⟩
theorem Px.m1 (h : Px w g gr K d e W) (hm : ∀ L, Dv W g L d → Moves g L d' W W') : Px w g gr K d' e W' := by
  obtain ⟨L, Lr, h1, h2, h3, h4, h5⟩ := h
  obtain ⟨L', a1, a2, a3, a4, a5, a6⟩ := (hm L h1).below h4 h4.size h3
  refine ⟨L', Lr, a1, h2.keep a5 (rf_apart h2 h1), a2, a3, fun p hp => ?_⟩
  obtain ⟨b1, b2, b3⟩ := h5 p hp
  have hlt := (Array.getElem?_eq_some_iff.1 b1).1
  exact ⟨(a5.block _ hlt b2).trans b1, fun hx => (a6 _ hx).elim b2 (fun h => by omega), b3⟩
theorem Px.m2 (h : Px w g gr K d e W) (hm : ∀ L, Rf W w.heap.size gr L e → RMoves w.heap.size gr L e' W W') : Px w g gr K d e' W' := by
  obtain ⟨L, Lr, h1, h2, h3, h4, h5⟩ := h
  obtain ⟨a1, a2⟩ := hm Lr h2
  refine ⟨L, Lr, h1.keep a2 (fun j hj hx => rf_apart h2 h1 j hx hj), a1, h3, Keep.below h4 a2 h4.size h2.low, fun p hp => ?_⟩
  obtain ⟨b1, b2, b3⟩ := h5 p hp
  exact ⟨(a2.block _ (Array.getElem?_eq_some_iff.1 b1).1 b3).trans b1, b2, b3⟩
/-- A call on the program's device. -/
theorem Px.c1 {f : Nat} {xs : Array Value} {r : Ending} (h : Px w g gr K d e W) (hc : ∀ L, Dv W g L d → Calls Try.prog f xs W fun x w' => x = r ∧ Moves g L d' W w') :
    Calls Try.prog f xs W fun x w' => x = r ∧ Px w g gr K d' e w' := by
  have h0 := h
  obtain ⟨L, Lr, h1, h2, h3, h4, h5⟩ := h
  refine (hc L h1).mono fun x w' ⟨hx, hm⟩ => ⟨hx, ?_⟩
  obtain ⟨L', a1, a2, a3, a4, a5, a6⟩ := hm.below h4 h4.size h3
  refine ⟨L', Lr, a1, h2.keep a5 (rf_apart h2 h1), a2, a3, fun p hp => ?_⟩
  obtain ⟨b1, b2, b3⟩ := h5 p hp
  have hlt := (Array.getElem?_eq_some_iff.1 b1).1
  exact ⟨(a5.block _ hlt b2).trans b1, fun hx => (a6 _ hx).elim b2 (fun h => by omega), b3⟩
/-- .. on the document's. -/
theorem Px.c2 {f : Nat} {xs : Array Value} {r : Ending} (h : Px w g gr K d e W) (hc : ∀ L, Rf W w.heap.size gr L e → Calls Try.prog f xs W fun x w' => x = r ∧ RMoves w.heap.size gr L e' W w') :
    Calls Try.prog f xs W fun x w' => x = r ∧ Px w g gr K d e' w' := by
  obtain ⟨L, Lr, h1, h2, h3, h4, h5⟩ := h
  refine (hc Lr h2).mono fun x w' ⟨hx, a1, a2⟩ => ⟨hx, ?_⟩
  refine ⟨L, Lr, h1.keep a2 (fun j hj hx => rf_apart h2 h1 j hx hj), a1, h3, Keep.below h4 a2 h4.size h2.low, fun p hp => ?_⟩
  obtain ⟨b1, b2, b3⟩ := h5 p hp
  exact ⟨(a2.block _ (Array.getElem?_eq_some_iff.1 b1).1 b3).trans b1, b2, b3⟩
/-- A call that leaves all as it is, on either. -/
theorem Px.q1 {f : Nat} {xs : Array Value} {r : Ending} (h : Px w g gr K d e W) (hc : ∀ L, Dv W g L d → Calls Try.prog f xs W fun x w' => x = r ∧ Below W.heap.size W w') :
    Calls Try.prog f xs W fun x w' => x = r ∧ Px w g gr K d e w' ∧ Below W.heap.size W w' := by
  have h0 := h
  obtain ⟨L, Lr, h1, h2, h3, h4, h5⟩ := h
  exact (hc L h1).mono fun x w' ⟨hx, hm⟩ => ⟨hx, h0.below hm, hm⟩
theorem Px.q2 {f : Nat} {xs : Array Value} {r : Ending} (h : Px w g gr K d e W) (hc : ∀ L, Rf W w.heap.size gr L e → Calls Try.prog f xs W fun x w' => x = r ∧ Below W.heap.size W w') :
    Calls Try.prog f xs W fun x w' => x = r ∧ Px w g gr K d e w' ∧ Below W.heap.size W w' := by
  have h0 := h
  obtain ⟨L, Lr, h1, h2, h3, h4, h5⟩ := h
  exact (hc Lr h2).mono fun x w' ⟨hx, hm⟩ => ⟨hx, h0.below hm, hm⟩
end
end Go.Proofs.Ytlmfnlaikdmphaa
namespace Go.Proofs.Ytlmfnlaikdmphaa
open Go.RowKit Vi Dk
set_option linter.unusedVariables false
set_option linter.unusedSimpArgs false
/-- A text cut to 300 bytes. -/
def cutD (D : ByteArray) : ByteArray := D.extract 0 (min D.size 300)
theorem cutD_size (D : ByteArray) : (cutD D).size ≤ 300 := by unfold cutD; rw [ByteArray.size_extract]; omega
abbrev cutS (s : Sn) : Sn := ⟨s.ix, s.tm, cutD s.da⟩
theorem cutS_ok {s : Sn} (h : s.Ok) : (cutS s).Ok := ⟨h.i, h.t, by have := cutD_size s.da; show (cutD s.da).size ≤ _; omega⟩
theorem flush_fl {d : St} {n : Nat} (h : Alv d n) (j : Nat) : d.flush.1.fl j = d.now j := by
  have e : d.flush = (d.step.settle, 0) := by
    unfold St.flush St.try_
    rw [if_neg (by rw [h.l]; decide), if_neg (by rw [h.x]; decide)]
  rw [e]
  rfl
/-- The devices of AreaOver. -/
theorem over_math {v : Int} {s t : Sn} (oks : s.Ok) (okt : t.Ok) (hv : v = 1 ∨ v = 2) (hs : s.da.size ≤ 300) (ht : t.da.size ≤ 300) (k : Nat) :
    ∃ d1 d2 d3 d4 : St, ∃ f : Int, arW (St.fresh 6 fun _ => zsec) 0 6 v s = (d1, 0) ∧ d1.flush = (d2, 0) ∧ d2.arm k = d3 ∧ arW d3 0 6 v t = (d4, f) ∧
      (6 ≤ k → f = 0 ∧ arR d4 0 6 = (t, v, 0)) ∧ (k < 6 → f = 7 ∧ arR (d4.after [0, 1, 2, 3, 4, 5]) 0 6 = (s, v, 0)) := by
  obtain ⟨o1, z1⟩ := snS_fits oks hv hs
  obtain ⟨o2, z2⟩ := snS_fits okt hv ht
  obtain ⟨a1, a2, a3, _, _, _⟩ := arW_alv (d := St.fresh 6 fun _ => zsec) (a := 0) (M := 6) (fresh_alv 6) o1 (by omega) (by omega) (by omega)
  obtain ⟨f1, f2, f3⟩ := flush_now a2
  have f4 := flush_fl a2
  obtain ⟨D1, hD1⟩ : ∃ D, D = (arW (St.fresh 6 fun _ => zsec) ((0 : Nat) : Int) ((6 : Nat) : Int) v s).1 := ⟨_, rfl⟩
  rw [← hD1] at a2 a3 f1 f2 f3 f4
  obtain ⟨D2, hD2⟩ : ∃ D, D = D1.flush.1 := ⟨_, rfl⟩
  rw [← hD2] at f2 f3 f4
  have hw := arW_go (d := D2.arm k) (a := 0) (M := 6) (v := v) o2 (onA_nat (by omega) (by show 0 + 6 ≤ D2.n; rw [f2.n]; omega)) (by omega)
  obtain ⟨b1, b2, b3, b4⟩ := wrL_arm 0 (snS v t).data.toList 6 6 0 (D2.arm k) f2.n f2.x (by show (0 : Int) ≤ (k : Int); omega) (by omega)
  rw [← hw] at b1 b2 b3 b4
  obtain ⟨X, hX⟩ : ∃ X, X = arW (D2.arm k) ((0 : Nat) : Int) ((6 : Nat) : Int) v t := ⟨_, rfl⟩
  rw [← hX] at b1 b2 b3 b4
  refine ⟨D1, D2, D2.arm k, X.1, X.2, ?_, ?_, rfl, hX.symm, fun h => ?_, fun h => ?_⟩
  · exact Prod.ext hD1.symm a1
  · exact Prod.ext hD2.symm f1
  · obtain ⟨c1, c2, c3⟩ := b3 (show ((6 : Nat) : Int) ≤ (k : Int) by omega)
    exact ⟨c1, arR_holds (a := 0) (M := 6) okt o2 (by omega) (by omega) (by rw [b1]; omega) c2 (fun i hi => by rw [c3, if_pos (by omega), show 0 + i - 0 = i by omega])⟩
  · refine ⟨b4 (show ¬ ((6 : Nat) : Int) ≤ (k : Int) by omega), arR_holds (a := 0) (M := 6) oks o1 (by omega) (by omega) (by show 0 + 6 ≤ X.1.n; rw [b1]; omega) rfl (fun i hi => ?_)⟩
    rw [after_now]
    have hm : (((0 + i : Nat) : Int)) ∈ ([0, 1, 2, 3, 4, 5] : List Int) := by
      have h6 : i = 0 ∨ i = 1 ∨ i = 2 ∨ i = 3 ∨ i = 4 ∨ i = 5 := by omega
      rcases h6 with rfl | rfl | rfl | rfl | rfl | rfl <;> simp
    rw [if_pos hm, b2]
    show D2.fl (0 + i) = _
    rw [f4, a3 i hi]
set_option maxHeartbeats 4000000 in
set_option maxRecDepth 100000 in
theorem lover_any (s t : Sn) (step : Nat) (two : Bool) (w : World) (oks : s.Ok) (okt : t.Ok) (zs : step < 256) :
    Calls Try.prog 7 #[s.v, t.v, .int .u8 step, .bool two] w fun e w' => e = .returned (.bool true) ∧ Below w.heap.size w w' := by
  obtain ⟨W, hW⟩ : ∃ W, W = (w.alloc (.cells s.c 24)).alloc (.cells t.c 24) := ⟨_, rfl⟩
  have hB : Below w.heap.size w W := by rw [hW]; exact ((Below.refl _ w).alloc (Nat.le_refl _) _).alloc (by simp) _
  have h1 : W.heap[w.heap.size]? = some (.cells s.c 24 (0, 0)) := by rw [hW, Lib.alloc_old _ _ _ (by simp)]; exact heap_alloc_new w _
  obtain ⟨q, hq⟩ : ∃ q, q = w.heap.size + 1 := ⟨_, rfl⟩
  have h2 : W.heap[q]? = some (.cells t.c 24 (0, 0)) := by
    rw [hW, hq]
    have := heap_alloc_new (w.alloc (.cells s.c 24)) (.cells t.c 24)
    rwa [World.size_alloc] at this
  have KE := Lib.hid (examples_any W)
  have HB := Lib.hid hB
  have H1 := Lib.hid h1
  have H2 := Lib.hid h2
  have HW := Lib.hid hW
  have HQ := Lib.hid hq
  have HOS := Lib.hid (cutS_ok oks)
  have HOT := Lib.hid (cutS_ok okt)
  have hd1 := cutD_size s.da
  have hd2 := cutD_size t.da
  have HD1 := Lib.hid hd1
  have HD2 := Lib.hid hd2
  have HC1 : Hid (s.da.extract 0 (min s.da.size 300) = cutD s.da) := rfl
  have HC2 : Hid (t.da.extract 0 (min t.da.size 300) = cutD t.da) := rfl
  have hk1 : min (s.da.size : Int) 300 = ((min s.da.size 300 : Nat) : Int) := by omega
  have hk2 : min (t.da.size : Int) 300 = ((min t.da.size 300 : Nat) : Int) := by omega
  obtain ⟨k1, hk1'⟩ : ∃ k, k = min s.da.size 300 := ⟨_, rfl⟩
  obtain ⟨k2, hk2'⟩ : ∃ k, k = min t.da.size 300 := ⟨_, rfl⟩
  rw [← hk1'] at HC1 hk1
  rw [← hk2'] at HC2 hk2
  have hl1 : (k1 : Int) ≤ (s.da.size : Int) := by omega
  have hl2 : (k2 : Int) ≤ (t.da.size : Int) := by omega
  have HZS := Lib.hid zs
  clear hB h1 h2 hW hq oks okt hd1 hd2 hk1' hk2' zs
  obtain ⟨ix, tm, D⟩ := s
  obtain ⟨jx, tn, D2⟩ := t
  unfold Sn.v Sn.c cutS at *
  dsimp only at *
  go_enter Try.func7, Try.ntmps7
  go_upto_region 1 with fail
  refine wp_at (w := W) HW.out.symm ?_
  rw [← HQ.out]
  go_upto_region 4 with (go_at_call 8; (with_reducible refine KE.out.mono ?_); rintro r w1 ⟨rfl, b1⟩)
  have HB1 : Hid (Below w.heap.size w w1) := HB.out.trans (b1.mono HB.out.size)
  have G1 : Hid (w1.heap[w.heap.size]? = some (.cells (Sn.c ⟨ix, tm, D⟩) 24 (0, 0))) := (b1.block _ (Array.getElem?_eq_some_iff.1 H1.out).1).trans H1.out
  have G2 : Hid (w1.heap[q]? = some (.cells (Sn.c ⟨jx, tn, D2⟩) 24 (0, 0))) := (b1.block _ (Array.getElem?_eq_some_iff.1 H2.out).1).trans H2.out
  clear b1 H1 H2 HB KE HW
  obtain ⟨v, hv, hv12⟩ : ∃ v : Int, v = (if two then 2 else 1) ∧ (v = 1 ∨ v = 2) := ⟨_, rfl, by cases two <;> simp⟩
  go_upto_if 24 with fail
  go_cut [10, 24] from 25 to 25 (fun s10 s24 wx => s24 = s24 ∧ s10 = .int .i64 v ∧ w1 = wx)
  case first =>
    cases two
    · obtain rfl : v = 1 := hv
      go_wp2_with fail
      go_meet
      exact ⟨trivial, rfl, rfl⟩
    · obtain rfl : v = 2 := hv
      go_wp2_with fail
      go_meet
      exact ⟨trivial, rfl, rfl⟩
  case rest =>
    obtain ⟨_, rfl, rfl⟩ := hcut
    have HV12 := Lib.hid hv12
    clear hv hv12
    obtain ⟨x0, x1, x2⟩ := sn_cells (s := ⟨ix, tm, D⟩) G1.out
    have xf : w1.frozen? ⟨w.heap.size, 2, none⟩ = false := Lib.frozen_of_heap G1.out 2
    obtain ⟨W2, hW2⟩ : ∃ W2, W2 = w1.setCell ⟨w.heap.size, 2, none⟩ (.string (cutD D)) := ⟨_, rfl⟩
    have G12 : Hid (W2.heap[w.heap.size]? = some (.cells (Sn.c ⟨ix, tm, cutD D⟩) 24 (0, 0))) := by show _ = _; rw [hW2]; exact heap_setCell_same _ w.heap.size 2 _ 24 (.string (cutD D)) G1.out
    have G22 : Hid (W2.heap[q]? = some (.cells (Sn.c ⟨jx, tn, D2⟩) 24 (0, 0))) := by show _ = _; rw [hW2]; exact (heap_setCell_other w1 ⟨w.heap.size, 2, none⟩ q _ (by have := HQ.out; show q ≠ w.heap.size; omega)).trans G2.out
    have HB2 : Hid (Below w.heap.size w W2) := by show Below _ _ _; rw [hW2]; exact HB1.out.setCell (p := ⟨w.heap.size, 2, none⟩) (Nat.le_refl _) _
    have HW2 := Lib.hid hW2
    clear hW2
    go_upto_region 8 with fail
    rw [HC1.out, ← HW2.out]
    clear x0 x1 x2 xf HC1 hk1 hl1 HW2 G1 G2 HB1
    obtain ⟨x0, x1, x2⟩ := sn_cells (s := ⟨jx, tn, D2⟩) G22.out
    have xf : W2.frozen? ⟨q, 2, none⟩ = false := Lib.frozen_of_heap G22.out 2
    obtain ⟨W3, hW3⟩ : ∃ W3, W3 = W2.setCell ⟨q, 2, none⟩ (.string (cutD D2)) := ⟨_, rfl⟩
    have G13 : Hid (W3.heap[w.heap.size]? = some (.cells (Sn.c ⟨ix, tm, cutD D⟩) 24 (0, 0))) := by show _ = _; rw [hW3]; exact (heap_setCell_other W2 ⟨q, 2, none⟩ w.heap.size _ (by have := HQ.out; show w.heap.size ≠ q; omega)).trans G12.out
    have G23 : Hid (W3.heap[q]? = some (.cells (Sn.c ⟨jx, tn, cutD D2⟩) 24 (0, 0))) := by show _ = _; rw [hW3]; exact heap_setCell_same _ q 2 _ 24 (.string (cutD D2)) G22.out
    have HB3 : Hid (Below w.heap.size w W3) := by show Below _ _ _; rw [hW3]; exact HB2.out.setCell (p := ⟨q, 2, none⟩) (by have := HQ.out; show w.heap.size ≤ q; omega) _
    have HW3 := Lib.hid hW3
    clear hW3
    go_upto_region 9 with fail
    rw [HC2.out, ← HW3.out]
    clear x0 x1 x2 xf HC2 hk2 hl2 HW3 G12 G22 HB2
    have zs := HZS.out
    obtain ⟨d1, d2, d3, d4, f, m1, m2, m3, m4, m5, m6⟩ := over_math HOS.out HOT.out HV12.out HD1.out HD2.out (step % 8)
    have KN := Lib.hid (Qx.new (w := w) (W := W3) (K := [(w.heap.size, .cells (Sn.c ⟨ix, tm, cutD D⟩) 24 (0, 0)), (q, .cells (Sn.c ⟨jx, tn, cutD D2⟩) 24 (0, 0))]) 6 (by omega) (by omega) HB3.out (by
      intro p hp
      simp at hp
      rcases hp with rfl | rfl
      · exact ⟨G13.out, Nat.le_refl _⟩
      · exact ⟨G23.out, by have := HQ.out; show w.heap.size ≤ q; omega⟩))
    obtain ⟨K0, hK0⟩ : ∃ K0, K0 = [(w.heap.size, Obj.cells (Sn.c ⟨ix, tm, cutD D⟩) 24 (0, 0)), (q, Obj.cells (Sn.c ⟨jx, tn, cutD D2⟩) 24 (0, 0))] := ⟨_, rfl⟩
    have GS : Hid (∀ g d W, Qx w g K0 d W → W.heap[w.heap.size]? = some (.cells (Sn.c ⟨ix, tm, cutD D⟩) 24 (0, 0)) ∧ W.heap[q]? = some (.cells (Sn.c ⟨jx, tn, cutD D2⟩) 24 (0, 0))) := fun g d W hp => by rw [hK0] at hp; exact ⟨hp.get (by simp), hp.get (by simp)⟩
    rw [← hK0] at KN
    clear hK0 G13 G23 HB3
    have K1 := Lib.hid (fun (g : Nat) (W : World) (hp : Qx w g K0 (St.fresh 6 fun _ => zsec) W) => hp.c1 fun L hD => awrite_any g L _ 0 6 v ⟨ix, tm, cutD D⟩ W hD HOS.out (by omega))
    have K2 := Lib.hid (fun (g : Nat) (W : World) (hp : Qx w g K0 d1 W) => hp.c1 fun L hD => flush_any g L d1 W hD)
    have K3 := Lib.hid (fun (g : Nat) (W : World) (hp : Qx w g K0 d2 W) => hp.c1 fun L hD => arm_any g L d2 ((step % 8 : Nat) : Int) W hD (by omega) (by omega))
    have K4 := Lib.hid (fun (g : Nat) (W : World) (hp : Qx w g K0 d3 W) => hp.c1 fun L hD => awrite_any g L d3 0 6 v ⟨jx, tn, cutD D2⟩ W hD HOT.out (by omega))
    rw [m1] at K1
    rw [m2] at K2
    rw [m3] at K3
    rw [m4] at K4
    generalize cutD D = E1 at *
    generalize cutD D2 = E2 at *
    unfold Sn.v at *
    unfold ptr at *
    dsimp only at *
    go_wp2_with fail
    refine KN.out.mono ?_
    rintro e w4 ⟨g, rfl, P4⟩
    have HP4 := Lib.hid P4
    clear P4 KN
    obtain ⟨a1, a2⟩ := GS.out _ _ _ HP4.out
    obtain ⟨c0, c1, c2⟩ := sn_cells (s := ⟨ix, tm, E1⟩) a1
    clear a1 a2
    unfold ptr at *
    go_wp2_with fail
    refine (K1.out _ _ HP4.out).mono ?_
    rintro e w5 ⟨rfl, P5⟩
    have HP5 := Lib.hid P5
    clear P5 HP4 K1 c0 c1 c2
    go_wp2_with fail
    refine (K2.out _ _ HP5.out).mono ?_
    rintro e w6 ⟨rfl, P6⟩
    have HP6 := Lib.hid P6
    clear P6 HP5 K2
    go_upto_region 12 with fail
    have KA : Hid (((step % 8 : Nat) : Int) = (step : Int) % 8) := by show _ = _; omega
    rw [KA.out] at K3
    go_wp2_with fail
    refine (K3.out _ _ HP6.out).mono ?_
    rintro e w7 ⟨rfl, P7⟩
    have HP7 := Lib.hid P7
    obtain ⟨a1, a2⟩ := GS.out _ _ _ P7
    obtain ⟨c0, c1, c2⟩ := sn_cells (s := ⟨jx, tn, E2⟩) a2
    clear P7 HP6 K3 KA a1 a2
    go_wp2_with fail
    refine (K4.out _ _ HP7.out).mono ?_
    rintro e w8 ⟨rfl, P8⟩
    have HP8 := Lib.hid P8
    clear P8 HP7 K4 c0 c1 c2
    have hs8 : (step : Int) % 8 = ((step % 8 : Nat) : Int) := by omega
    obtain ⟨k, hk⟩ : ∃ k, k = step % 8 := ⟨_, rfl⟩
    rw [← hk] at m5 m6 hs8
    have hkb : k < 8 := by omega
    by_cases h6 : 6 ≤ k
    · obtain ⟨rfl, m7⟩ := m5 h6
      have K5 := Lib.hid (fun (g : Nat) (W : World) (hp : Qx w g K0 d4 W) => hp.q1 fun L hD => aread_any g L d4 0 6 W hD (by omega))
      rw [m7] at K5
      have kq := fun (W : World) => eql_sn ⟨jx, tn, E2⟩ ⟨jx, tn, E2⟩ W
      rw [sameSn_self] at kq
      have qv : (v == v) = true := beq_self_eq_true _
      have q6 : decide ((6 : Int) ≤ (k : Int)) = true := decide_eq_true (by omega)
      unfold Sn.v at *
      unfold ptr at *
      dsimp only at *
      clear m1 m2 m3 m4 m5 m6 m7 h6 hkb hk zs
      go_upto_region 16 with (go_at_call 27; (with_reducible refine (K5.out _ _ HP8.out).mono ?_); rintro e w9 ⟨rfl, P9, b9⟩)
      obtain ⟨p, hp⟩ : ∃ p, p = w9.heap.size := ⟨_, rfl⟩
      obtain ⟨W10, hW10⟩ : ∃ W, W = w9.alloc (.cells #[.int .u64 jx, .int .u64 tn, .string E2] 24) := ⟨_, rfl⟩
      have P10 := P9.add (W' := W10) (k := p) (o := .cells (Sn.c ⟨jx, tn, E2⟩) 24 (0, 0)) (by rw [hW10]; exact (Below.refl _ _).alloc (Nat.le_refl _) _) (by rw [hp]; exact Nat.le_refl _) (by rw [hW10, hp]; exact heap_alloc_new w9 _)
      have HB10 := Lib.hid P10.be
      have a0 := P10.get (k := p) (o := .cells (Sn.c ⟨jx, tn, E2⟩) 24 (0, 0)) (by simp)
      obtain ⟨e0, e1, e2⟩ := sn_cells (s := ⟨jx, tn, E2⟩) a0
      have P10' : Qx w g K0 d4 W10 := by rw [hW10]; exact P9.below ((Below.refl _ _).alloc (Nat.le_refl _) _)
      obtain ⟨a1, a2⟩ := GS.out _ _ _ P10'
      obtain ⟨c0, c1, c2⟩ := sn_cells (s := ⟨jx, tn, E2⟩) a2
      rw [← hW10, ← hp]
      clear P9 P10 P10' a0 a1 a2 hW10 hp b9
      go_wp2
      go_ret
      exact ⟨rfl, HB10.out⟩
    · obtain ⟨rfl, m7⟩ := m6 (by omega)
      clear m1 m2 m3 m4 m5 m6
      obtain ⟨W9, hW9⟩ : ∃ W9, W9 = w8.alloc (.cells #[.int .i64 0, .int .i64 1, .int .i64 2, .int .i64 3, .int .i64 4, .int .i64 5] 3) := ⟨_, rfl⟩
      have hb9 : Below w8.heap.size w8 W9 := by rw [hW9]; exact (Below.refl _ _).alloc (Nat.le_refl _) _
      have h9 : W9.heap[w8.heap.size]? = some (.cells #[.int .i64 0, .int .i64 1, .int .i64 2, .int .i64 3, .int .i64 4, .int .i64 5] 3 (0, 0)) := by rw [hW9]; exact heap_alloc_new w8 _
      have HP9 := Lib.hid (HP8.out.below hb9)
      have hI : IntsAt W9 (some ⟨w8.heap.size, 0, none⟩) [0, 1, 2, 3, 4, 5] := fun j x hj => by
        have hjl : j < 6 := (List.getElem?_eq_some_iff.1 hj).1
        have hj6 : j = 0 ∨ j = 1 ∨ j = 2 ∨ j = 3 ∨ j = 4 ∨ j = 5 := by omega
        rcases hj6 with rfl | rfl | rfl | rfl | rfl | rfl <;> (simp at hj; subst hj; exact ⟨by decide, _, rfl, (Array.getElem?_eq_some_iff.1 h9).1, by rw [Addr.add_mid, Nat.zero_add]; exact cell_of_row _ _ _ _ 3 (0, 0) h9⟩)
      have K5 := Lib.hid (HP9.out.a1 fun L hD => after_any g L d4 (some ⟨w8.heap.size, 0, none⟩) [0, 1, 2, 3, 4, 5] 6 W9 hD hI (by simp only [maxLen]; decide))
      have K6 := Lib.hid (fun (g : Nat) (W : World) (hp : Qx w g K0 (d4.after [0, 1, 2, 3, 4, 5]) W) => hp.q1 fun L hD => aread_any g L _ 0 6 W hD (by omega))
      rw [m7] at K6
      have HW9 := Lib.hid hW9
      clear hW9 hb9 h9 hI m7
      generalize d4.after [0, 1, 2, 3, 4, 5] = d5 at *
      have kq := fun (W : World) => eql_sn ⟨ix, tm, E1⟩ ⟨ix, tm, E1⟩ W
      rw [sameSn_self] at kq
      have qv : (v == v) = true := beq_self_eq_true _
      have q6 : decide ((k : Int) < (6 : Int)) = true := decide_eq_true (by omega)
      unfold Sn.v at *
      unfold ptr at *
      dsimp only at *
      clear h6 hkb hk zs
      go_wp2_with fail
      rw [← HW9.out]
      refine K5.out.mono ?_
      rintro e w10 ⟨g2, rfl, P10⟩
      have HP10 := Lib.hid P10
      clear P10 K5 HW9
      unfold ptr at *
      go_upto_region 21 with (go_at_call 27; (with_reducible refine (K6.out _ _ HP10.out).mono ?_); rintro e w11 ⟨rfl, P11, b11⟩)
      obtain ⟨p, hp⟩ : ∃ p, p = w11.heap.size := ⟨_, rfl⟩
      obtain ⟨W12, hW12⟩ : ∃ W, W = w11.alloc (.cells #[.int .u64 ix, .int .u64 tm, .string E1] 24) := ⟨_, rfl⟩
      have P12 := P11.add (W' := W12) (k := p) (o := .cells (Sn.c ⟨ix, tm, E1⟩) 24 (0, 0)) (by rw [hW12]; exact (Below.refl _ _).alloc (Nat.le_refl _) _) (by rw [hp]; exact Nat.le_refl _) (by rw [hW12, hp]; exact heap_alloc_new w11 _)
      have HB12 := Lib.hid P12.be
      have a0 := P12.get (k := p) (o := .cells (Sn.c ⟨ix, tm, E1⟩) 24 (0, 0)) (by simp)
      obtain ⟨e0, e1, e2⟩ := sn_cells (s := ⟨ix, tm, E1⟩) a0
      have P12' : Qx w g2 K0 d5 W12 := by rw [hW12]; exact P11.below ((Below.refl _ _).alloc (Nat.le_refl _) _)
      obtain ⟨a1, a2⟩ := GS.out _ _ _ P12'
      obtain ⟨c0, c1, c2⟩ := sn_cells (s := ⟨ix, tm, E1⟩) a1
      rw [← hW12, ← hp]
      clear P11 P12 P12' a0 a1 a2 hW12 hp b11
      go_wp2
      go_ret
      exact ⟨rfl, HB12.out⟩
end Go.Proofs.Ytlmfnlaikdmphaa
namespace Go.Proofs.Ytlmfnlaikdmphaa
open Go.RowKit Vi Dk
set_option linter.unusedVariables false
set_option linter.unusedSimpArgs false
abbrev tL : List UInt8 := [108, 101, 102, 116]
abbrev tR : List UInt8 := [114, 105, 103, 104, 116]
/-- The devices of AreaBack. -/
theorem back_math {v u : Int} {s t : Sn} (oks : s.Ok) (okt : t.Ok) (hv : v = 1 ∨ v = 2) (hu : u = 1 ∨ u = 2) (hs : s.da.size ≤ 300) (ht : t.da.size ≤ 300) :
    ∃ d1 d2 d3 d4 : St, (St.fresh 10 fun _ => zsec).write 0 tL = (d1, 0) ∧ d1.write 8 tR = (d2, 0) ∧ arW d2 1 7 v s = (d3, 0) ∧ arR d3 1 7 = (s, v, 0) ∧ arW d3 1 7 u t = (d4, 0) ∧ arR d4 1 7 = (t, u, 0) ∧
      d4.readS 0 = pad tL ∧ d4.refuses 0 = 0 ∧ d4.readS 8 = pad tR ∧ d4.refuses 8 = 0 := by
  obtain ⟨o1, z1⟩ := snS_fits oks hv hs
  obtain ⟨o2, z2⟩ := snS_fits okt hu ht
  obtain ⟨w1, a1⟩ := (fresh_alv 10).write (i := 0) (by omega) tL (by decide)
  have n1 := put_now (St.fresh 10 fun _ => zsec) 0 0 (pad tL)
  obtain ⟨D1, hD1⟩ : ∃ D, D = ((St.fresh 10 fun _ => zsec).step.put 0 (pad tL)) := ⟨_, rfl⟩
  rw [← hD1] at w1 a1 n1
  obtain ⟨w2, a2⟩ := a1.write (i := 8) (by omega) tR (by decide)
  have n2 := put_now D1 8
  obtain ⟨D2, hD2⟩ : ∃ D, D = D1.step.put 8 (pad tR) := ⟨_, rfl⟩
  have n20 : D2.now 0 = pad tL := by rw [hD2, n2, if_neg (by decide), n1]; rfl
  have n28 : D2.now 8 = pad tR := by rw [hD2, n2, if_pos rfl]
  rw [← hD2] at w2 a2
  obtain ⟨b1, b2, b3, b4, _, _⟩ := arW_alv (d := D2) (a := 1) (M := 7) (v := v) a2 o1 (by omega) (by omega) (by omega)
  obtain ⟨D3, hD3⟩ : ∃ D, D = (arW D2 ((1 : Nat) : Int) ((7 : Nat) : Int) v s).1 := ⟨_, rfl⟩
  rw [← hD3] at b2 b3 b4
  have r1 := arR_holds (a := 1) (M := 7) oks o1 (by omega) (by omega) (by rw [b2.n]; omega) b2.x b3
  obtain ⟨c1, c2, c3, c4, _, _⟩ := arW_alv (d := D3) (a := 1) (M := 7) (v := u) b2 o2 (by omega) (by omega) (by omega)
  obtain ⟨D4, hD4⟩ : ∃ D, D = (arW D3 ((1 : Nat) : Int) ((7 : Nat) : Int) u t).1 := ⟨_, rfl⟩
  rw [← hD4] at c2 c3 c4
  have r2 := arR_holds (a := 1) (M := 7) okt o2 (by omega) (by omega) (by rw [c2.n]; omega) c2.x c3
  have e0 : D4.refuses ((0 : Nat) : Int) = 0 := c2.refuses (by omega)
  have e8 : D4.refuses ((8 : Nat) : Int) = 0 := c2.refuses (by omega)
  refine ⟨D1, D2, D3, D4, w1, w2, Prod.ext hD3.symm b1, r1, Prod.ext hD4.symm c1, r2, ?_, e0, ?_, e8⟩
  · exact (readS_eq (i := 0) c2.x (by rw [c2.n]; omega)).trans (by rw [c4 0 (by omega), b4 0 (by omega), n20])
  · exact (readS_eq (i := 8) c2.x (by rw [c2.n]; omega)).trans (by rw [c4 8 (by omega), b4 8 (by omega), n28])
theorem cutL : (txt (pad tL)).extract 0 5 = ⟨#[108, 101, 102, 116, 0]⟩ ∧ (txt (pad tL)).size = 64 := ⟨by decide +kernel, by decide +kernel⟩
theorem cutR : (txt (pad tR)).extract 0 6 = ⟨#[114, 105, 103, 104, 116, 0]⟩ ∧ (txt (pad tR)).size = 64 := ⟨by decide +kernel, by decide +kernel⟩
set_option maxHeartbeats 4000000 in
set_option maxRecDepth 100000 in
theorem lback_any (s t : Sn) (one two : Bool) (w : World) (oks : s.Ok) (okt : t.Ok) :
    Calls Try.prog 5 #[s.v, t.v, .bool one, .bool two] w fun e w' => e = .returned (.bool true) ∧ Below w.heap.size w w' := by
  obtain ⟨W, hW⟩ : ∃ W, W = (w.alloc (.cells s.c 24)).alloc (.cells t.c 24) := ⟨_, rfl⟩
  have hB : Below w.heap.size w W := by rw [hW]; exact ((Below.refl _ w).alloc (Nat.le_refl _) _).alloc (by simp) _
  have h1 : W.heap[w.heap.size]? = some (.cells s.c 24 (0, 0)) := by rw [hW, Lib.alloc_old _ _ _ (by simp)]; exact heap_alloc_new w _
  obtain ⟨q, hq⟩ : ∃ q, q = w.heap.size + 1 := ⟨_, rfl⟩
  have h2 : W.heap[q]? = some (.cells t.c 24 (0, 0)) := by
    rw [hW, hq]
    have := heap_alloc_new (w.alloc (.cells s.c 24)) (.cells t.c 24)
    rwa [World.size_alloc] at this
  have KE := Lib.hid (examples_any W)
  have HB := Lib.hid hB
  have H1 := Lib.hid h1
  have H2 := Lib.hid h2
  have HW := Lib.hid hW
  have HQ := Lib.hid hq
  have HOS := Lib.hid (cutS_ok oks)
  have HOT := Lib.hid (cutS_ok okt)
  have hd1 := cutD_size s.da
  have hd2 := cutD_size t.da
  have HD1 := Lib.hid hd1
  have HD2 := Lib.hid hd2
  have HC1 : Hid (s.da.extract 0 (min s.da.size 300) = cutD s.da) := rfl
  have HC2 : Hid (t.da.extract 0 (min t.da.size 300) = cutD t.da) := rfl
  have hk1 : min (s.da.size : Int) 300 = ((min s.da.size 300 : Nat) : Int) := by omega
  have hk2 : min (t.da.size : Int) 300 = ((min t.da.size 300 : Nat) : Int) := by omega
  obtain ⟨k1, hk1'⟩ : ∃ k, k = min s.da.size 300 := ⟨_, rfl⟩
  obtain ⟨k2, hk2'⟩ : ∃ k, k = min t.da.size 300 := ⟨_, rfl⟩
  rw [← hk1'] at HC1 hk1
  rw [← hk2'] at HC2 hk2
  have hl1 : (k1 : Int) ≤ (s.da.size : Int) := by omega
  have hl2 : (k2 : Int) ≤ (t.da.size : Int) := by omega
  clear hB h1 h2 hW hq oks okt hd1 hd2 hk1' hk2'
  obtain ⟨ix, tm, D⟩ := s
  obtain ⟨jx, tn, D2⟩ := t
  unfold Sn.v Sn.c cutS at *
  dsimp only at *
  go_enter Try.func5, Try.ntmps5
  go_upto_region 1 with fail
  refine wp_at (w := W) HW.out.symm ?_
  rw [← HQ.out]
  go_upto_region 4 with (go_at_call 8; (with_reducible refine KE.out.mono ?_); rintro r w1 ⟨rfl, b1⟩)
  have HB1 : Hid (Below w.heap.size w w1) := HB.out.trans (b1.mono HB.out.size)
  have G1 : Hid (w1.heap[w.heap.size]? = some (.cells (Sn.c ⟨ix, tm, D⟩) 24 (0, 0))) := (b1.block _ (Array.getElem?_eq_some_iff.1 H1.out).1).trans H1.out
  have G2 : Hid (w1.heap[q]? = some (.cells (Sn.c ⟨jx, tn, D2⟩) 24 (0, 0))) := (b1.block _ (Array.getElem?_eq_some_iff.1 H2.out).1).trans H2.out
  clear b1 H1 H2 HB KE HW
  obtain ⟨x0, x1, x2⟩ := sn_cells (s := ⟨ix, tm, D⟩) G1.out
  have xf : w1.frozen? ⟨w.heap.size, 2, none⟩ = false := Lib.frozen_of_heap G1.out 2
  obtain ⟨W2, hW2⟩ : ∃ W2, W2 = w1.setCell ⟨w.heap.size, 2, none⟩ (.string (cutD D)) := ⟨_, rfl⟩
  have G12 : Hid (W2.heap[w.heap.size]? = some (.cells (Sn.c ⟨ix, tm, cutD D⟩) 24 (0, 0))) := by show _ = _; rw [hW2]; exact heap_setCell_same _ w.heap.size 2 _ 24 (.string (cutD D)) G1.out
  have G22 : Hid (W2.heap[q]? = some (.cells (Sn.c ⟨jx, tn, D2⟩) 24 (0, 0))) := by show _ = _; rw [hW2]; exact (heap_setCell_other w1 ⟨w.heap.size, 2, none⟩ q _ (by have := HQ.out; show q ≠ w.heap.size; omega)).trans G2.out
  have HB2 : Hid (Below w.heap.size w W2) := by show Below _ _ _; rw [hW2]; exact HB1.out.setCell (p := ⟨w.heap.size, 2, none⟩) (Nat.le_refl _) _
  have HW2 := Lib.hid hW2
  clear hW2
  go_upto_region 5 with fail
  rw [HC1.out, ← HW2.out]
  clear x0 x1 x2 xf HC1 hk1 hl1 HW2 G1 G2 HB1
  obtain ⟨x0, x1, x2⟩ := sn_cells (s := ⟨jx, tn, D2⟩) G22.out
  have xf : W2.frozen? ⟨q, 2, none⟩ = false := Lib.frozen_of_heap G22.out 2
  obtain ⟨W3, hW3⟩ : ∃ W3, W3 = W2.setCell ⟨q, 2, none⟩ (.string (cutD D2)) := ⟨_, rfl⟩
  have G13 : Hid (W3.heap[w.heap.size]? = some (.cells (Sn.c ⟨ix, tm, cutD D⟩) 24 (0, 0))) := by show _ = _; rw [hW3]; exact (heap_setCell_other W2 ⟨q, 2, none⟩ w.heap.size _ (by have := HQ.out; show w.heap.size ≠ q; omega)).trans G12.out
  have G23 : Hid (W3.heap[q]? = some (.cells (Sn.c ⟨jx, tn, cutD D2⟩) 24 (0, 0))) := by show _ = _; rw [hW3]; exact heap_setCell_same _ q 2 _ 24 (.string (cutD D2)) G22.out
  have HB3 : Hid (Below w.heap.size w W3) := by show Below _ _ _; rw [hW3]; exact HB2.out.setCell (p := ⟨q, 2, none⟩) (by have := HQ.out; show w.heap.size ≤ q; omega) _
  have HW3 := Lib.hid hW3
  clear hW3
  go_upto_region 6 with fail
  rw [HC2.out, ← HW3.out]
  clear x0 x1 x2 xf HC2 hk2 hl2 HW3 G12 G22 HB2
  obtain ⟨v, hv, hv12⟩ : ∃ v : Int, v = (if one then 2 else 1) ∧ (v = 1 ∨ v = 2) := ⟨_, rfl, by cases one <;> simp⟩
  obtain ⟨u, hu, hu12⟩ : ∃ u : Int, u = (if two then 2 else 1) ∧ (u = 1 ∨ u = 2) := ⟨_, rfl, by cases two <;> simp⟩
  have HV12 := Lib.hid hv12
  have HU12 := Lib.hid hu12
  have HV := Lib.hid hv
  have HU := Lib.hid hu
  clear hv12 hu12 hv hu
  go_upto_if 45 with fail
  go_cut [10, 45] from 46 to 46 (fun s10 s45 wx => s45 = s45 ∧ s10 = .int .i64 v ∧ W3 = wx)
  case first =>
    cases one
    · obtain rfl : v = 1 := HV.out
      go_wp2_with fail
      go_meet
      exact ⟨trivial, rfl, rfl⟩
    · obtain rfl : v = 2 := HV.out
      go_wp2_with fail
      go_meet
      exact ⟨trivial, rfl, rfl⟩
  case rest =>
    obtain ⟨_, rfl, rfl⟩ := hcut
    go_upto_if 46 with fail
    go_cut [11, 46] from 47 to 47 (fun s11 s46 wx => s46 = s46 ∧ s11 = .int .i64 u ∧ W3 = wx)
    case first =>
      cases two
      · obtain rfl : u = 1 := HU.out
        go_wp2_with fail
        go_meet
        exact ⟨trivial, rfl, rfl⟩
      · obtain rfl : u = 2 := HU.out
        go_wp2_with fail
        go_meet
        exact ⟨trivial, rfl, rfl⟩
    case rest =>
      obtain ⟨_, rfl, rfl⟩ := hcut
      clear HV HU
      obtain ⟨d1, d2, d3, d4, m1, m2, m3, m4, m5, m6, m7, m8, m9, m10⟩ := back_math HOS.out HOT.out HV12.out HU12.out HD1.out HD2.out
      have KN := Lib.hid (Qx.new (w := w) (W := W3) (K := [(w.heap.size, .cells (Sn.c ⟨ix, tm, cutD D⟩) 24 (0, 0)), (q, .cells (Sn.c ⟨jx, tn, cutD D2⟩) 24 (0, 0))]) 10 (by omega) (by omega) HB3.out (by
        intro p hp
        simp at hp
        rcases hp with rfl | rfl
        · exact ⟨G13.out, Nat.le_refl _⟩
        · exact ⟨G23.out, by have := HQ.out; show w.heap.size ≤ q; omega⟩))
      obtain ⟨K0, hK0⟩ : ∃ K0, K0 = [(w.heap.size, Obj.cells (Sn.c ⟨ix, tm, cutD D⟩) 24 (0, 0)), (q, Obj.cells (Sn.c ⟨jx, tn, cutD D2⟩) 24 (0, 0))] := ⟨_, rfl⟩
      have GS : Hid (∀ g d W, Qx w g K0 d W → W.heap[w.heap.size]? = some (.cells (Sn.c ⟨ix, tm, cutD D⟩) 24 (0, 0)) ∧ W.heap[q]? = some (.cells (Sn.c ⟨jx, tn, cutD D2⟩) 24 (0, 0))) := fun g d W hp => by rw [hK0] at hp; exact ⟨hp.get (by simp), hp.get (by simp)⟩
      rw [← hK0] at KN
      clear hK0 G13 G23 HB3
      have K1 := Lib.hid (fun (g : Nat) (W : World) (hp : Qx w g K0 (St.fresh 10 fun _ => zsec) W) => hp.c1 fun L hD => (show Calls Try.prog 31 #[ptr g, .int .i64 0, .string ⟨#[108, 101, 102, 116]⟩] W fun e w' => e = .returned (.int .i64 ((St.fresh 10 fun _ => zsec).write 0 tL).2) ∧ Moves g L ((St.fresh 10 fun _ => zsec).write 0 tL).1 W w' from write_any g L _ 0 tL W hD))
      have K2 := Lib.hid (fun (g : Nat) (W : World) (hp : Qx w g K0 d1 W) => hp.c1 fun L hD => (show Calls Try.prog 31 #[ptr g, .int .i64 8, .string ⟨#[114, 105, 103, 104, 116]⟩] W fun e w' => e = .returned (.int .i64 (d1.write 8 tR).2) ∧ Moves g L (d1.write 8 tR).1 W w' from write_any g L d1 8 tR W hD))
      have K3 := Lib.hid (fun (g : Nat) (W : World) (hp : Qx w g K0 d2 W) => hp.c1 fun L hD => awrite_any g L d2 1 7 v ⟨ix, tm, cutD D⟩ W hD HOS.out (by omega))
      have K4 := Lib.hid (fun (g : Nat) (W : World) (hp : Qx w g K0 d3 W) => hp.q1 fun L hD => aread_any g L d3 1 7 W hD (by omega))
      have K5 := Lib.hid (fun (g : Nat) (K : List (Nat × Obj)) (W : World) (hp : Qx w g K d3 W) => hp.c1 fun L hD => awrite_any g L d3 1 7 u ⟨jx, tn, cutD D2⟩ W hD HOT.out (by omega))
      have K6 := Lib.hid (fun (g : Nat) (K : List (Nat × Obj)) (W : World) (hp : Qx w g K d4 W) => hp.q1 fun L hD => aread_any g L d4 1 7 W hD (by omega))
      have K7 := Lib.hid (fun (g : Nat) (K : List (Nat × Obj)) (W : World) (hp : Qx w g K d4 W) => hp.q1 fun L hD => read_any g L d4 0 W hD)
      have K8 := Lib.hid (fun (g : Nat) (K : List (Nat × Obj)) (W : World) (hp : Qx w g K d4 W) => hp.q1 fun L hD => read_any g L d4 8 W hD)
      rw [m1] at K1
      rw [m2] at K2
      rw [m3] at K3
      rw [m4] at K4
      rw [m5] at K5
      rw [m6] at K6
      rw [m7, m8] at K7
      rw [m9, m10] at K8
      obtain ⟨eL, zL⟩ := cutL
      obtain ⟨eR, zR⟩ := cutR
      generalize txt (pad tL) = SL at *
      generalize txt (pad tR) = SR at *
      generalize cutD D = E1 at *
      generalize cutD D2 = E2 at *
      have EL := Lib.hid eL
      have ER := Lib.hid eR
      have ZL := Lib.hid zL
      have ZR := Lib.hid zR
      have kq1 := fun (W : World) => eql_sn ⟨ix, tm, E1⟩ ⟨ix, tm, E1⟩ W
      have kq2 := fun (W : World) => eql_sn ⟨jx, tn, E2⟩ ⟨jx, tn, E2⟩ W
      rw [sameSn_self] at kq1 kq2
      have KQ1 := Lib.hid kq1
      have KQ2 := Lib.hid kq2
      clear m1 m2 m3 m4 m5 m6 m7 m8 m9 m10 eL eR zL zR kq1 kq2
      unfold Sn.v at *
      unfold ptr at *
      dsimp only at *
      go_wp2_with fail
      refine KN.out.mono ?_
      rintro e w4 ⟨g, rfl, P4⟩
      have HP4 := Lib.hid P4
      clear P4 KN
      unfold ptr at *
      go_wp2_with fail
      refine (K1.out _ _ HP4.out).mono ?_
      rintro e w5 ⟨rfl, P5⟩
      have HP5 := Lib.hid P5
      clear P5 HP4 K1
      go_wp2_with fail
      refine (K2.out _ _ HP5.out).mono ?_
      rintro e w6 ⟨rfl, P6⟩
      have HP6 := Lib.hid P6
      clear HP5 K2
      obtain ⟨a1, a2⟩ := GS.out _ _ _ P6
      obtain ⟨c0, c1, c2⟩ := sn_cells (s := ⟨ix, tm, E1⟩) a1
      clear a1 a2 P6
      go_wp2_with fail
      refine (K3.out _ _ HP6.out).mono ?_
      rintro e w7 ⟨rfl, P7⟩
      have HP7 := Lib.hid P7
      clear P7 HP6 K3 c0 c1 c2
      go_upto_region 17 with (go_at_call 27; (with_reducible refine (K4.out _ _ HP7.out).mono ?_); rintro e w8 ⟨rfl, P8, b8⟩)
      obtain ⟨p, hp⟩ : ∃ p, p = w8.heap.size := ⟨_, rfl⟩
      obtain ⟨W9, hW9⟩ : ∃ W, W = w8.alloc (.cells #[.int .u64 ix, .int .u64 tm, .string E1] 24) := ⟨_, rfl⟩
      have P9 := P8.add (W' := W9) (k := p) (o := .cells (Sn.c ⟨ix, tm, E1⟩) 24 (0, 0)) (by rw [hW9]; exact (Below.refl _ _).alloc (Nat.le_refl _) _) (by rw [hp]; exact Nat.le_refl _) (by rw [hW9, hp]; exact heap_alloc_new w8 _)
      have HP9 := Lib.hid P9
      rw [← hW9, ← hp]
      clear P9 P8 b8 hW9 hp HP7 K4
      have GT : Hid (∀ g d K W, Qx w g (K ++ (p, Obj.cells (Sn.c ⟨ix, tm, E1⟩) 24 (0, 0)) :: K0) d W → Qx w g K0 d W ∧ W.heap[p]? = some (.cells (Sn.c ⟨ix, tm, E1⟩) 24 (0, 0))) := fun g d K W hp => by
        refine ⟨?_, hp.get (by simp)⟩
        obtain ⟨L, h1, h3, h4, h5⟩ := hp
        exact ⟨L, h1, h3, h4, fun p hp => h5 p (by simp [hp])⟩
      obtain ⟨Q9, g9⟩ := GT.out _ _ [] _ HP9.out
      obtain ⟨a1, a2⟩ := GS.out _ _ _ Q9
      obtain ⟨c0, c1, c2⟩ := sn_cells (s := ⟨jx, tn, E2⟩) a2
      clear a1 a2 Q9 g9
      go_wp2_with fail
      refine (K5.out _ _ _ HP9.out).mono ?_
      rintro e w10 ⟨rfl, P10⟩
      have HP10 := Lib.hid P10
      clear P10 HP9 K5 c0 c1 c2
      go_upto_region 19 with (go_at_call 27; (with_reducible refine (K6.out _ _ _ HP10.out).mono ?_); rintro e w11 ⟨rfl, P11, b11⟩)
      obtain ⟨p2, hp2⟩ : ∃ p, p = w11.heap.size := ⟨_, rfl⟩
      obtain ⟨W12, hW12⟩ : ∃ W, W = w11.alloc (.cells #[.int .u64 jx, .int .u64 tn, .string E2] 24) := ⟨_, rfl⟩
      have P12 := P11.add (W' := W12) (k := p2) (o := .cells (Sn.c ⟨jx, tn, E2⟩) 24 (0, 0)) (by rw [hW12]; exact (Below.refl _ _).alloc (Nat.le_refl _) _) (by rw [hp2]; exact Nat.le_refl _) (by rw [hW12, hp2]; exact heap_alloc_new w11 _)
      have HP12 := Lib.hid P12
      rw [← hW12, ← hp2]
      clear P12 P11 b11 hW12 hp2 HP10 K6
      go_wp2_with fail
      refine (K7.out _ _ _ HP12.out).mono ?_
      rintro e w13 ⟨rfl, P13, b13⟩
      have HP13 := Lib.hid P13
      clear P13 b13 HP12 K7
      go_upto_region 21 with (go_at_call 32; (with_reducible refine (K8.out _ _ _ HP13.out).mono ?_); rintro e w14 ⟨rfl, P14, b14⟩)
      have HB14 := Lib.hid P14.be
      have a3 := P14.get (k := p2) (o := .cells (Sn.c ⟨jx, tn, E2⟩) 24 (0, 0)) (by simp)
      obtain ⟨Q14, a4⟩ := GT.out _ _ [(p2, .cells (Sn.c ⟨jx, tn, E2⟩) 24 (0, 0))] _ P14
      obtain ⟨a1, a2⟩ := GS.out _ _ _ Q14
      obtain ⟨x0, x1, x2⟩ := sn_cells (s := ⟨ix, tm, E1⟩) a1
      obtain ⟨y0, y1, y2⟩ := sn_cells (s := ⟨jx, tn, E2⟩) a2
      obtain ⟨e0, e1, e2⟩ := sn_cells (s := ⟨ix, tm, E1⟩) a4
      obtain ⟨f0, f1, f2⟩ := sn_cells (s := ⟨jx, tn, E2⟩) a3
      clear P14 b14 a1 a2 a3 a4 Q14 HP13 K8
      have kq1 := KQ1.out
      have kq2 := KQ2.out
      have qv : (v == v) = true := beq_self_eq_true _
      have qu : (u == u) = true := beq_self_eq_true _
      have eL := EL.out
      have eR := ER.out
      have zL : 5 ≤ SL.size := by rw [ZL.out]; decide
      have zR : 6 ≤ SR.size := by rw [ZR.out]; decide
      have zL' : (5 : Int) ≤ (SL.size : Int) := by omega
      have zR' : (6 : Int) ≤ (SR.size : Int) := by omega
      go_wp2
      go_ret
      exact ⟨rfl, HB14.out⟩
end Go.Proofs.Ytlmfnlaikdmphaa
