/-
  Clone, Insert, Delete of rows of integers of the call's own.
  Conditions: named in each theorem.
-/
import Derived.Test.YtmencfmjmbbfhaaDoorLRh
namespace Go.Proofs.YtmencfmjmbbfhaaDoor
open Go.RowKit
set_option linter.unusedVariables false
set_option linter.unusedSimpArgs false
theorem clone_any (b cap : Nat) (l : List Int) (w : World) (h : Rw w b cap l) (hl : l.length ≤ 1099511627776) :
    Calls Tryd.prog 24 #[.slice (some ⟨b, 0, none⟩) l.length cap] w fun e w' => ∃ b' cap', e = .returned (.slice (some ⟨b', 0, none⟩) l.length cap') ∧ w.heap.size ≤ b' ∧ Rw w' b' cap' l ∧ Below w.heap.size w w' := by
  refine (Tryd.slices_Clone_int b 0 l.length cap l w (Nat.le_refl _) (by omega) (fun j hj => h.getD j hj)).mono ?_
  rintro e w' ⟨v, rfl, ho, hne, hb⟩
  rw [List.take_length] at ho
  obtain ⟨_, b', cap', rfl, h1, h2⟩ := Rw.of_own ho hne
  exact ⟨b', cap', rfl, h1, h2, hb⟩
theorem map_get (l : List Int) (j : Nat) : (l.map (Value.int .i64))[j]? = (l[j]?).map (Value.int .i64) := List.getElem?_map
/-- The whole row is written anew. -/
theorem Rw.over {w w' : World} {b cap : Nat} {l l' : List Int} {q : Nat} (h : Rw w b cap l) (zs : List Int) (hw : w' = (w.drewN q).setCells b 0 (zs.map (Value.int .i64))) (hz : zs.length ≤ cap) (hl : ∀ (j : Nat) (x : Int), l'[j]? = some x → zs[j]? = some x) (hl' : l'.length ≤ cap) : Rw w' b cap l' ∧ w.grownBy w' (some b) := by
  obtain ⟨cur, h1, h2, h3⟩ := h.ex
  have h1' : (w.drewN q).heap[b]? = some (.cells cur 3 (0, 0)) := h1
  have hh := heap_setCells_row (zs.map (Value.int .i64)) 0 (w.drewN q) cur h1'
  have hg : (w.drewN q).grownBy ((w.drewN q).setCells b 0 (zs.map (Value.int .i64))) (some b) := grownBy_setCells _ _ _
  rw [← hw] at hh hg
  refine ⟨⟨⟨_, hh, by rw [ovr_size]; exact h2, fun j x hx => ?_⟩, hl', h.mx⟩, ⟨hg.os, hg.tape, hg.output, hg.size, hg.block⟩⟩
  have hj := hl j x hx
  have hjl : j < zs.length := (List.getElem?_eq_some_iff.1 hj).1
  rw [ovr_get _ _ _ _ (by simp; omega), if_pos (by simp; omega), map_get, Nat.sub_zero, hj]
  rfl
theorem delete_any (b cap k : Nat) (l : List Int) (w : World) (h : Rw w b cap l) (hk : k < l.length) :
    Calls Tryd.prog 68 #[.slice (some ⟨b, 0, none⟩) l.length cap, .int .i64 k, .int .i64 ((k : Int) + 1)] w fun e w' => e = .returned (.slice (some ⟨b, 0, none⟩) ((delA l k).length) cap) ∧ Rw w' b cap (delA l k) ∧ w.grownBy w' (some b) := by
  have hc := h.le
  have hm := h.mx
  unfold maxLen at hm
  have K := Tryd.slices_Delete_int_cells b 0 l.length cap k (k + 1) l w (Nat.le_refl _) hc (by omega) (by omega) (by omega) (fun j hj => h.getD j hj) (fun j _ => h.fz _)
  rw [show ((k + 1 : Nat) : Int) = (k : Int) + 1 from by simp] at K
  refine K.mono ?_
  rintro e w' ⟨rfl, q, hw⟩
  rw [List.take_length] at hw
  refine ⟨?_, h.over _ hw (by simp; omega) ?_ ?_⟩
  · rw [delA_length _ _ hk, show k + 1 - k = 1 from by omega]
  · intro j x hx
    rw [List.getElem?_append_left (by have := (List.getElem?_eq_some_iff.1 hx).1; unfold delA at this; exact this)]
    exact hx
  · rw [delA_length _ _ hk]; omega
/-- A place that is written, then those behind it. -/
theorem ovr2 (cur : Array Value) (l : List Int) (k : Nat) (x : Int) (hk : k ≤ l.length) (hs : l.length + 1 ≤ cur.size) (hc : ∀ (j : Nat) (y : Int), j < k → l[j]? = some y → cur[j]? = some (.int .i64 y)) :
    ∀ (j : Nat) (y : Int), (insA l k x)[j]? = some y → (ovr (ovr cur (k + 1) ((l.drop k).map (Value.int .i64))) k [.int .i64 x])[j]? = some (.int .i64 y) := by
  intro j y hj
  have hjl : j < l.length + 1 := by have := (List.getElem?_eq_some_iff.1 hj).1; rwa [insA_length _ _ _ hk] at this
  rw [ovr_get _ _ _ _ (by rw [ovr_size]; simp; omega)]
  have hlt : (l.take k).length = k := by simp; omega
  unfold insA at hj
  by_cases h1 : j = k
  · subst h1
    rw [if_pos (by simp)]
    rw [List.getElem?_append_right (by omega), hlt, Nat.sub_self] at hj
    simp at hj ⊢; exact hj
  · rw [if_neg (by simp; omega), ovr_get _ _ _ _ (by simp; omega)]
    by_cases h2 : j < k
    · rw [if_neg (by omega)]
      rw [List.getElem?_append_left (by omega), List.getElem?_take_of_lt h2] at hj
      exact hc j y h2 hj
    · rw [if_pos (by simp; omega), map_get]
      rw [List.getElem?_append_right (by omega), hlt, show j - k = (j - (k + 1)) + 1 from by omega, List.getElem?_cons_succ] at hj
      rw [hj]; rfl
theorem ovr3 (cur : Array Value) (l : List Int) (k : Nat) (x : Int) (hk : k ≤ l.length) (hs : l.length + 1 ≤ cur.size) (hc : ∀ (j : Nat) (y : Int), j < k → l[j]? = some y → cur[j]? = some (.int .i64 y)) :
    ∀ (j : Nat) (y : Int), (insA l k x)[j]? = some y → (ovr (ovr cur k [.int .i64 x]) (k + 1) ((l.map (Value.int .i64)).drop k))[j]? = some (.int .i64 y) := by
  intro j y hj
  have hjl : j < l.length + 1 := by have := (List.getElem?_eq_some_iff.1 hj).1; rwa [insA_length _ _ _ hk] at this
  rw [← List.map_drop, ovr_get _ _ _ _ (by rw [ovr_size]; simp; omega)]
  have hlt : (l.take k).length = k := by simp; omega
  unfold insA at hj
  by_cases h2 : k < j
  · rw [if_pos (by simp; omega), map_get]
    rw [List.getElem?_append_right (by omega), hlt, show j - k = (j - (k + 1)) + 1 from by omega, List.getElem?_cons_succ] at hj
    rw [hj]; rfl
  · rw [if_neg (by omega), ovr_get _ _ _ _ (by simp; omega)]
    by_cases h1 : j = k
    · subst h1
      rw [if_pos (by simp)]
      rw [List.getElem?_append_right (by omega), hlt, Nat.sub_self] at hj
      simp at hj ⊢; exact hj
    · rw [if_neg (by simp; omega)]
      rw [List.getElem?_append_left (by omega), List.getElem?_take_of_lt (by omega)] at hj
      exact hc j y (by omega) hj
theorem zc_size (n : Nat) : (Builtin.zeroCells (Value.int .i64 0).cells n).size = n := by
  simp only [Builtin.zeroCells]
  rw [Array.size_map, Array.size_range]
  show n * 1 = n
  omega
theorem one_ints (l : List Int) : ∀ v ∈ l.map (Value.int .i64), v.oneCell' = true := by
  intro v hv
  obtain ⟨x, _, rfl⟩ := List.mem_map.1 hv
  rfl
set_option maxRecDepth 100000 in
theorem insert_any (b cap k vb : Nat) (l : List Int) (x : Int) (w : World) (h : Rw w b cap l) (hk : k ≤ l.length) (hl : l.length ≤ 1048576) (hv : w.heap[vb]? = some (.cells #[.int .i64 x] 3 (0, 0))) (hvb : vb ≠ b) :
    Calls Tryd.prog 67 #[.slice (some ⟨b, 0, none⟩) l.length cap, .int .i64 k, .slice (some ⟨vb, 0, none⟩) 1 1] w fun e w' => ∃ b' cap', e = .returned (.slice (some ⟨b', 0, none⟩) ((insA l k x).length) cap') ∧ Rw w' b' cap' (insA l k x) ∧ (b' = b ∨ w.heap.size ≤ b') ∧ w.grownBy w' (some b) := by
  have hc := h.le
  have hm := h.mx
  have hm2 := h.mx
  unfold maxLen at hm2
  have hv0 : ∀ (j : Nat) (v : Value), [Value.int .i64 x][j]? = some v → w.cell? ⟨vb, 0 + j, none⟩ = some v := by
    intro j v hj
    rw [cell_of_row w vb (0 + j) _ 3 (0, 0) hv, Nat.zero_add]
    match j, hj with
    | 0, hj => simpa using hj
  have h1v : ∀ v ∈ [Value.int .i64 x], v.oneCell' = true := by intro v hv; simp at hv; subst hv; rfl
  have hcs : ∀ (j : Nat) (v : Value), (l.map (Value.int .i64))[j]? = some v → w.cell? ⟨b, 0 + j, none⟩ = some v := by
    intro j v hj
    rw [map_get] at hj
    obtain ⟨y, hy, rfl⟩ := Option.map_eq_some_iff.1 hj
    rw [Nat.zero_add]; exact h.cell j y hy
  obtain ⟨cur, c1, c2, c3⟩ := h.ex
  by_cases hroom : l.length + 1 ≤ cap
  · by_cases hkl : k < l.length
    · have K := Any2.slices_Insert_int_shift Tryd.insertA b 0 l.length cap k vb 0 1 1 (l.map (Value.int .i64)) [.int .i64 x] w hkl (by omega) hroom (by omega) hvb (by simp) rfl hcs (fun j hj => by rw [Nat.zero_add]; exact h.room j (by omega)) (fun j _ => h.fz _) hv0 (one_ints l) h1v 3 3 1 cap (by simp [World.shape?, hv]) h.shape (by omega) (by simp [World.frozen?, hv]) (by simp [World.frozen?, hv])
      refine K.mono ?_
      rintro e w' ⟨rfl, rfl⟩
      rw [← List.map_drop, Nat.zero_add, Nat.zero_add]
      have hh := heap_setCells_row [Value.int .i64 x] k _ _ (heap_setCells_row ((l.drop k).map (Value.int .i64)) (k + 1) w.drew cur c1)
      refine ⟨b, cap, by rw [insA_length _ _ _ hk], ⟨⟨_, hh, by rw [ovr_size, ovr_size]; exact c2, ?_⟩, by rw [insA_length _ _ _ hk]; exact hroom, hm⟩, .inl rfl, ?_⟩
      · exact ovr2 cur l k x hk (by omega) (fun j y _ hy => c3 j y hy)
      · have g1 : w.drew.grownBy _ (some b) := grownBy_setCells (g := b) ((l.drop k).map (Value.int .i64)) (k + 1) w.drew
        have g2 := grownBy_setCells (g := b) [Value.int .i64 x] k (w.drew.setCells b (k + 1) ((l.drop k).map (Value.int .i64)))
        exact ⟨g2.os.trans g1.os, g2.tape.trans g1.tape, g2.output.trans g1.output, Nat.le_trans g1.size g2.size, fun j hj hne => (g2.block j (Nat.lt_of_lt_of_le hj g1.size) hne).trans (g1.block j hj hne)⟩
    · have hkk : k = l.length := by omega
      subst hkk
      have K := Any2.slices_Insert_int_end_room Tryd.insertA b 0 l.length cap vb 0 1 1 [.int .i64 x] w (by omega) hroom (by omega) rfl (fun j hj => by rw [Nat.zero_add]; exact h.room _ (by omega)) (fun j _ => h.fz _) hv0 h1v
      refine K.mono ?_
      rintro e w' ⟨rfl, rfl⟩
      rw [Nat.zero_add]
      have hh := heap_setCells_row [Value.int .i64 x] l.length w cur c1
      have hq := ovr2 cur l l.length x (Nat.le_refl _) (by omega) (fun j y _ hy => c3 j y hy)
      rw [List.drop_length] at hq
      refine ⟨b, cap, by rw [insA_length _ _ _ hk], ⟨⟨_, hh, by rw [ovr_size]; exact c2, hq⟩, by rw [insA_length _ _ _ hk]; exact hroom, hm⟩, .inl rfl, grownBy_setCells _ _ _⟩
  · have hgc : grownCap w (l.length + 1) cap 3 ≤ maxLen := grownCap_le_maxLen w _ cap 3 (by unfold maxLen; omega)
    have hgl : l.length + 1 ≤ grownCap w (l.length + 1) cap 3 := grownCap_ge w _ _ _
    by_cases hkl : k < l.length
    · have K := Any2.slices_Insert_int_grow Tryd.insertA b 0 l.length cap k vb 0 1 1 (l.map (Value.int .i64)) [.int .i64 x] w hkl (by omega) hc (by omega) (by omega) (by simp) rfl hcs hv0 (one_ints l) h1v
      rw [show Tryd.insertA_ren.t 3 = 3 from rfl] at K
      refine K.mono ?_
      rintro e w' ⟨rfl, rfl⟩
      obtain ⟨G, hG⟩ : ∃ G, G = grownCap w (l.length + 1) cap 3 := ⟨_, rfl⟩
      rw [← hG] at hgc hgl ⊢
      obtain ⟨cs, hcs'⟩ : ∃ cs, cs = ((l.map (Value.int .i64)).take k).toArray ++ Builtin.zeroCells (Value.int .i64 0).cells (l.length + 1 - k) ++ Builtin.zeroCells (Value.int .i64 0).cells (G - (l.length + 1)) := ⟨_, rfl⟩
      rw [← hcs']
      have hsz : cs.size = G := by rw [hcs']; simp [zc_size]; omega
      have hfst : ∀ (j : Nat) (y : Int), j < k → l[j]? = some y → cs[j]? = some (.int .i64 y) := by
        intro j y hj hy
        rw [hcs', Array.getElem?_append_left (by simp; omega), Array.getElem?_append_left (by simp; omega)]
        simp [hj, hy]
      have hn := heap_alloc_new w (.cells cs 3)
      have h1 := heap_setCells_row [Value.int .i64 x] k (w.alloc (.cells cs 3)).drew cs hn
      have h2 := heap_setCells_row ((l.map (Value.int .i64)).drop k) (k + 1) ((w.alloc (.cells cs 3)).drew.setCells w.heap.size k [Value.int .i64 x]).drew _ h1
      have g0 : Below w.heap.size w (w.alloc (.cells cs 3)) := (Below.refl _ w).alloc (Nat.le_refl _) _
      have g1 : (w.alloc (.cells cs 3)).drew.grownBy _ (some w.heap.size) := grownBy_setCells (g := w.heap.size) [Value.int .i64 x] k (w.alloc (.cells cs 3)).drew
      have g2 := grownBy_setCells (g := w.heap.size) ((l.map (Value.int .i64)).drop k) (k + 1) ((w.alloc (.cells cs 3)).drew.setCells w.heap.size k [Value.int .i64 x]).drew
      refine ⟨w.heap.size, G, by rw [insA_length _ _ _ hk], ⟨⟨_, h2, by rw [ovr_size, ovr_size]; exact hsz, ovr3 cs l k x hk (by omega) hfst⟩, by rw [insA_length _ _ _ hk]; exact hgl, hgc⟩, .inr (Nat.le_refl _), ?_⟩
      refine ⟨g2.os.trans (g1.os.trans g0.os), g2.tape.trans (g1.tape.trans g0.tape), g2.output.trans (g1.output.trans g0.output), Nat.le_trans g0.size (Nat.le_trans g1.size g2.size), fun j hj hne => ?_⟩
      have ne : some j ≠ some w.heap.size := fun e => by cases e; omega
      exact (g2.block j (Nat.lt_of_lt_of_le hj (Nat.le_trans g0.size g1.size)) ne).trans ((g1.block j (Nat.lt_of_lt_of_le hj g0.size) ne).trans (g0.block j hj))
    · have hkk : k = l.length := by omega
      subst hkk
      have K := Any2.slices_Insert_int_end_grow Tryd.insertA (some ⟨b, 0, none⟩) l.length cap vb 0 1 1 (l.map (Value.int .i64)) [.int .i64 x] w (by omega) hc (by omega) (by omega) (by simp) rfl (fun e => by cases e) (fun a ha j v hj => by cases ha; have h9 := hcs j v hj; unfold Addr.add; rw [Nat.zero_add] at h9; split; (next e => rw [e] at h9; exact h9); (next => simpa using h9)) hv0 h1v
      rw [show Tryd.insertA_ren.t 3 = 3 from rfl] at K
      refine K.mono ?_
      rintro e w' ⟨rfl, rfl⟩
      obtain ⟨G, hG⟩ : ∃ G, G = grownCap w (l.length + 1) cap 3 := ⟨_, rfl⟩
      rw [← hG] at hgc hgl ⊢
      obtain ⟨cs, hcs'⟩ : ∃ cs, cs = (l.map (Value.int .i64) ++ [Value.int .i64 x]).toArray ++ Builtin.zeroCells (Value.int .i64 0).cells (G - (l.length + 1)) := ⟨_, rfl⟩
      rw [← hcs']
      have hn : (w.drew.alloc (.cells cs 3)).heap[w.heap.size]? = some (.cells cs 3 (0, 0)) := heap_alloc_new w.drew (.cells cs 3)
      have hsz : cs.size = G := by rw [hcs']; simp [zc_size]; omega
      have g0 : Below w.heap.size w (w.drew.alloc (.cells cs 3)) := (Below.refl _ w).drew.alloc (Nat.le_refl _) _
      refine ⟨w.heap.size, G, by rw [insA_length _ _ _ hk], ⟨⟨_, hn, hsz, fun j y hy => ?_⟩, by rw [insA_length _ _ _ hk]; exact hgl, hgc⟩, .inr (Nat.le_refl _), grownBy_below g0 _⟩
      have hjl : j < l.length + 1 := by have := (List.getElem?_eq_some_iff.1 hy).1; rwa [insA_length _ _ _ hk] at this
      unfold insA at hy
      rw [List.take_length, List.drop_length] at hy
      rw [hcs', Array.getElem?_append_left (by simp; omega), List.getElem?_toArray]
      rw [show l.map (Value.int .i64) ++ [Value.int .i64 x] = (l ++ [x]).map (Value.int .i64) from by simp, map_get, hy]
      rfl
end Go.Proofs.YtmencfmjmbbfhaaDoor
