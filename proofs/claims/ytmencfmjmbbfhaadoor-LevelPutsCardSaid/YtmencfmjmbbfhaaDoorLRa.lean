/-
  Rows of integers in memory; the closures within and rising; all.
  Conditions: named in each theorem.
-/
import Derived.Test.YtmencfmjmbbfhaaDoorLMa
import Derived.Test.YtmencfmjmbbfhaaDoorVRd
import Derived.Deep.RegionHeld3
namespace Go.Proofs.YtmencfmjmbbfhaaDoor
open Go.RowKit
set_option linter.unusedVariables false
set_option linter.unusedSimpArgs false
structure Rw (w : World) (b cap : Nat) (l : List Int) : Prop where
  ex : ∃ cur : Array Value, w.heap[b]? = some (.cells cur 3 (0, 0)) ∧ cur.size = cap ∧ ∀ (j : Nat) (x : Int), l[j]? = some x → cur[j]? = some (.int .i64 x)
  le : l.length ≤ cap
  mx : cap ≤ maxLen
theorem Rw.lt {w : World} {b cap : Nat} {l : List Int} (h : Rw w b cap l) : b < w.heap.size := by
  obtain ⟨cur, h1, _⟩ := h.ex; exact (Array.getElem?_eq_some_iff.1 h1).1
theorem Rw.cell {w : World} {b cap : Nat} {l : List Int} (h : Rw w b cap l) (j : Nat) (x : Int) (hx : l[j]? = some x) : w.cell? ⟨b, j, none⟩ = some (.int .i64 x) := by
  obtain ⟨cur, h1, _, h2⟩ := h.ex
  rw [cell_of_row w b j cur 3 (0, 0) h1]; exact h2 j x hx
theorem Rw.getD {w : World} {b cap : Nat} {l : List Int} (h : Rw w b cap l) (j : Nat) (hj : j < l.length) : w.cell? ⟨b, 0 + j, none⟩ = some (.int .i64 (l.getD j 0)) := by
  rw [Nat.zero_add]; refine h.cell j _ ?_
  rw [List.getD_eq_getElem?_getD, List.getElem?_eq_getElem hj]; rfl
theorem Rw.fz {w : World} {b cap : Nat} {l : List Int} (h : Rw w b cap l) (j : Nat) : w.frozen? ⟨b, j, none⟩ = false := by
  obtain ⟨cur, h1, _⟩ := h.ex; simp [World.frozen?, h1]
theorem Rw.room {w : World} {b cap : Nat} {l : List Int} (h : Rw w b cap l) (j : Nat) (hj : j < cap) : (w.cell? ⟨b, j, none⟩).isSome = true := by
  obtain ⟨cur, h1, h2, _⟩ := h.ex
  rw [cell_of_row w b j cur 3 (0, 0) h1, Array.getElem?_eq_getElem (by omega)]; rfl
theorem Rw.shape {w : World} {b cap : Nat} {l : List Int} (h : Rw w b cap l) : w.shape? b = some (3, cap) := by
  obtain ⟨cur, h1, h2, _⟩ := h.ex; simp [World.shape?, h1, h2]
theorem Rw.at {w w' : World} {b cap : Nat} {l : List Int} (h : Rw w b cap l) (he : w'.heap[b]? = w.heap[b]?) : Rw w' b cap l := by
  obtain ⟨cur, h1, h2⟩ := h.ex; exact ⟨⟨cur, he.trans h1, h2⟩, h.le, h.mx⟩
theorem Rw.below {w w' : World} {b cap : Nat} {l : List Int} (h : Rw w b cap l) {B : Nat} (hb : Below B w w') (hB : b < B) : Rw w' b cap l := h.at (hb.block b hB)
theorem Rw.grown {w w' : World} {b cap : Nat} {l : List Int} (h : Rw w b cap l) {r : Option Nat} (hg : w.grownBy w' r) (hr : some b ≠ r) : Rw w' b cap l := h.at (hg.block b h.lt hr)
theorem Rw.holds {w : World} {b cap : Nat} {l : List Int} (h : Rw w b cap l) : Go.Sort.Holds (Value.int .i64) w b 0 l.toArray := by
  intro j hj
  have hj' : j < l.length := by simpa using hj
  refine ⟨?_, h.fz _⟩
  rw [h.getD j hj']; simp [hj']
theorem Rw.of_own {w : World} {B n : Nat} {v : Value} {l : List Int} (h : w.ownsRow B 3 1 v n (l.map (Value.int .i64))) (hne : v ≠ .slice none 0 0) : n = l.length ∧ ∃ b cap, v = .slice (some ⟨b, 0, none⟩) l.length cap ∧ B ≤ b ∧ Rw w b cap l := by
  have hl : n = l.length := by have := h.1; simp at this; omega
  subst hl
  refine ⟨rfl, ?_⟩
  rcases h.2 with ⟨hv, _⟩ | ⟨g, cap, cur, hv, hB, hg, h1, h2, h3, h4⟩
  · exact absurd hv hne
  · refine ⟨g, cap, hv, hB, ⟨cur, hg, by omega, fun j x hx => ?_⟩, h1, h2⟩
    have hj : j < l.length := (List.getElem?_eq_some_iff.1 hx).1
    have h5 : (cur.toList.take (l.length * 1))[j]? = (l.map (Value.int .i64))[j]? := by rw [h4]
    rw [List.getElem?_take_of_lt (by omega), List.getElem?_map, hx] at h5
    simpa using h5
/-- A row that is written from a place on. -/
def ovr (cur : Array Value) : Nat → List Value → Array Value
  | _, [] => cur
  | o, v :: r => ovr (cur.setIfInBounds o v) (o + 1) r
theorem ovr_size : ∀ (vs : List Value) (o : Nat) (cur : Array Value), (ovr cur o vs).size = cur.size
  | [], _, _ => rfl
  | v :: r, o, cur => by rw [ovr, ovr_size r]; simp
theorem ovr_get : ∀ (vs : List Value) (o : Nat) (cur : Array Value) (j : Nat), o + vs.length ≤ cur.size → (ovr cur o vs)[j]? = if o ≤ j ∧ j < o + vs.length then vs[j - o]? else cur[j]?
  | [], o, cur, j, _ => by rw [ovr, if_neg (by simp)]
  | v :: r, o, cur, j, h => by
    simp only [List.length_cons] at h
    rw [ovr, ovr_get r (o + 1) _ j (by simp; omega)]
    by_cases h1 : o + 1 ≤ j ∧ j < o + 1 + r.length
    · rw [if_pos h1, if_pos (by simp only [List.length_cons]; omega), show j - o = (j - (o + 1)) + 1 from by omega, List.getElem?_cons_succ]
    · rw [if_neg h1]
      by_cases h2 : j = o
      · subst h2
        rw [if_pos (by simp only [List.length_cons]; omega), Nat.sub_self, Array.getElem?_setIfInBounds_self_of_lt (by omega)]
        rfl
      · rw [if_neg (by simp only [List.length_cons]; omega), Array.getElem?_setIfInBounds_ne (by omega)]
theorem heap_setCell_row {w : World} {g : Nat} {T : TypeId} {cs : Array Value} (h : w.heap[g]? = some (.cells cs T (0, 0))) (i : Nat) (u : Value) : (w.setCell ⟨g, i, none⟩ u).heap[g]? = some (.cells (cs.setIfInBounds i u) T (0, 0)) := by
  simp only [World.setCell]
  rw [Array.getElem?_modify, if_pos rfl, h]
  rfl
theorem heap_setCells_row {g : Nat} {T : TypeId} : ∀ (vs : List Value) (o : Nat) (w : World) (cs : Array Value), w.heap[g]? = some (.cells cs T (0, 0)) → (w.setCells g o vs).heap[g]? = some (.cells (ovr cs o vs) T (0, 0))
  | [], _, _, _, h => h
  | v :: r, o, w, cs, h => by rw [World.setCells, ovr]; exact heap_setCells_row r (o + 1) _ _ (heap_setCell_row h o v)
theorem grownBy_setCells {g : Nat} : ∀ (vs : List Value) (o : Nat) (w : World), w.grownBy (w.setCells g o vs) (some g)
  | [], _, w => ⟨rfl, rfl, rfl, Nat.le_refl _, fun _ _ _ => rfl⟩
  | v :: r, o, w => by
    rw [World.setCells]
    have h1 : w.grownBy (w.setCell ⟨g, o, none⟩ v) (some g) := grownBy_set v
    have h2 := grownBy_setCells (g := g) r (o + 1) (w.setCell ⟨g, o, none⟩ v)
    exact ⟨h2.os.trans h1.os, h2.tape.trans h1.tape, h2.output.trans h1.output, Nat.le_trans h1.size h2.size, fun k hk hne => (h2.block k (Nat.lt_of_lt_of_le hk h1.size) hne).trans (h1.block k hk hne)⟩
theorem within_any (lo hi : Int) (w : World) :
    Calls Tryd.prog 26 #[.int .i64 lo, .int .i64 hi] w fun e w' => e = .returned (.func (.func 52) #[] #[.pointer (some ⟨w.heap.size, 0, none⟩), .pointer (some ⟨w.heap.size + 1, 0, none⟩)]) ∧ w' = (w.alloc (.cells #[.int .i64 lo] 3)).alloc (.cells #[.int .i64 hi] 3) := by
  have hmf : ∀ (fn : Fn) (first cap : Array Value) (w : World), (Instr.makeFunc fn first cap).run Tryd.prog w = .ok (.func fn first cap) w := fun _ _ _ _ => rfl
  go_enter Tryd.func26, Tryd.ntmps26
  go_wp2
  go_ret
  exact ⟨rfl, rfl⟩
theorem in_any (lo hi n : Int) (a b : Nat) (w : World) (ha : w.cell? ⟨a, 0, none⟩ = some (.int .i64 lo)) (hb : w.cell? ⟨b, 0, none⟩ = some (.int .i64 hi)) :
    Calls Tryd.prog 52 #[.int .i64 n, .pointer (some ⟨a, 0, none⟩), .pointer (some ⟨b, 0, none⟩)] w fun e w' => e = .returned (.bool (wthn lo hi n)) ∧ w' = w := by
  unfold wthn
  by_cases h1 : lo ≤ n
  · have d1 : decide (lo ≤ n) = true := decide_eq_true h1
    go_enter Tryd.func52, Tryd.ntmps52
    go_wp2
    all_goals
      go_ret
      refine ⟨?_, rfl⟩
      simp_all
  · have d1 : decide (lo ≤ n) = false := decide_eq_false h1
    go_enter Tryd.func52, Tryd.ntmps52
    go_wp2
    all_goals
      go_ret
      refine ⟨?_, rfl⟩
      simp_all
theorem rising_any (lo hi : Int) (w : World) :
    Calls Tryd.prog 33 #[.int .i64 lo, .int .i64 hi] w fun e w' => e = .returned (.func (.func 56) #[] #[.pointer (some ⟨w.heap.size + 1, 0, none⟩), .pointer (some ⟨w.heap.size, 0, none⟩)]) ∧ w'.heap[w.heap.size + 1]? = some (.cells #[.int .i64 lo] 3 (0, 0)) ∧ w'.heap[w.heap.size]? = some (.cells #[.int .i64 hi] 3 (0, 0)) ∧ Below w.heap.size w w' := by
  have hmf : ∀ (fn : Fn) (first cap : Array Value) (w : World), (Instr.makeFunc fn first cap).run Tryd.prog w = .ok (.func fn first cap) w := fun _ _ _ _ => rfl
  go_enter Tryd.func33, Tryd.ntmps33
  go_wp2
  go_ret
  refine ⟨rfl, ?_, ?_, ?_⟩
  · have h := heap_alloc_new (w.alloc (.cells #[.int .i64 hi] 3)) (.cells #[.int .i64 lo] 3)
    rw [World.size_alloc] at h
    exact h
  · exact (Below.heap_alloc _ _ _ (by simp)).trans (heap_alloc_new w _)
  · exact ((Below.refl _ w).alloc (Nat.le_refl _) _).alloc (by simp) _
theorem heap1 {w w' : World} {B a : Nat} {o : Obj} (h : w.heap[a]? = some o) (hb : Below B w w') (ha : a < B) : w'.heap[a]? = some o := (hb.block a ha).trans h
theorem rin_any (lo hi n : Int) (a b : Nat) (w : World) (ha : w.heap[a]? = some (.cells #[.int .i64 lo] 3 (0, 0))) (hb : w.cell? ⟨b, 0, none⟩ = some (.int .i64 hi)) (hab : a ≠ b) :
    Calls Tryd.prog 56 #[.int .i64 n, .pointer (some ⟨a, 0, none⟩), .pointer (some ⟨b, 0, none⟩)] w fun e w' => e = .returned (.bool (wthn lo hi n)) ∧ w'.heap[a]? = some (.cells #[.int .i64 (wrap64 (n + 1))] 3 (0, 0)) ∧ w.grownBy w' (some a) := by
  have hca : w.cell? ⟨a, 0, none⟩ = some (.int .i64 lo) := cell_of_row w a 0 _ 3 (0, 0) ha
  have hal : a < w.heap.size := (Array.getElem?_eq_some_iff.1 ha).1
  obtain ⟨V, hV⟩ : ∃ V, V = wthn lo hi n := ⟨_, rfl⟩
  obtain ⟨w1, hw1⟩ : ∃ w1, w1 = (w.alloc (.cells #[.int .i64 lo] 3)).alloc (.cells #[.int .i64 hi] 3) := ⟨_, rfl⟩
  have K1 := within_any lo hi w
  have b1 : Below w.heap.size w w1 := by rw [hw1]; exact ((Below.refl _ w).alloc (Nat.le_refl _) _).alloc (by simp) _
  have g1 : w1.heap[w.heap.size]? = some (.cells #[.int .i64 lo] 3 (0, 0)) := by rw [hw1]; exact (Below.heap_alloc _ _ _ (by simp)).trans (heap_alloc_new w _)
  have g2 : w1.heap[w.heap.size + 1]? = some (.cells #[.int .i64 hi] 3 (0, 0)) := by
    rw [hw1]
    have h := heap_alloc_new (w.alloc (.cells #[.int .i64 lo] 3)) (.cells #[.int .i64 hi] 3)
    rwa [World.size_alloc] at h
  have K2 := in_any lo hi n w.heap.size (w.heap.size + 1) w1 (cell_of_row _ _ 0 _ _ _ g1) (cell_of_row _ _ 0 _ _ _ g2)
  rw [← hw1] at K1
  rw [← hV] at K2
  rw [← hV]
  have ha1 := heap1 ha b1 hal
  have hf1 : w1.frozen? ⟨a, 0, none⟩ = false := by simp [World.frozen?, ha1]
  have hc1 : w1.cell? ⟨a, 0, none⟩ = some (.int .i64 lo) := cell_of_row w1 a 0 _ 3 (0, 0) ha1
  have KA := Lib.hid K1
  have KB := Lib.hid K2
  have HA := Lib.hid ha1
  have HB := Lib.hid b1
  clear K1 K2 ha1 b1 g1 g2 hw1 hV ha
  go_enter Tryd.func56, Tryd.ntmps56
  go_wp2_with (first
    | (go_at_call 26; refine KA.out.mono ?_; rintro e w' ⟨rfl, rfl⟩)
    | (go_at_call 52; refine KB.out.mono ?_; rintro e w' ⟨rfl, rfl⟩))
  go_ret
  refine ⟨rfl, ?_, ?_⟩
  · have h := heap_setCell_row HA.out 0 (.int .i64 (wrap64 (n + 1)))
    exact h
  · have h := HB.out
    have h2 : w'.grownBy _ (some a) := grownBy_set (i := 0) (Value.int .i64 (wrap64 (n + 1)))
    exact ⟨h2.os.trans h.os, h2.tape.trans h.tape, h2.output.trans h.output, Nat.le_trans h.size h2.size, fun k hk hne => (h2.block k (Nat.lt_of_lt_of_le hk h.size) hne).trans (h.block k hk)⟩
set_option maxHeartbeats 2000000 in
set_option maxRecDepth 100000 in
/-- all, over a closure of two variables: P goes on where the answer is yes, R holds behind the first no. -/
theorem all_l (F : Nat) (hF : F = 52 ∨ F = 56) (a b : Value) (bk n cap : Nat) (l : List Int) (P : Nat → World → Prop) (R : World → Prop) (w : World) (hl : l.length = n) (hn : n ≤ 1099511627776) (h0 : P 0 w)
    (hc : ∀ (k : Nat) (x : Int) (w1 : World), P k w1 → l[k]? = some x → w1.cell? ⟨bk, k, none⟩ = some (.int .i64 x))
    (hs : ∀ (k : Nat) (x : Int) (w1 : World), l[k]? = some x → P k w1 → Calls Tryd.prog F #[.int .i64 x, a, b] w1 fun e w' => ∃ t : Bool, e = .returned (.bool t) ∧ (t = true → P (k + 1) w') ∧ (t = false → R w')) :
    Calls Tryd.prog 32 #[.slice (some ⟨bk, 0, none⟩) n cap, .func (.func F) #[] #[a, b]] w fun e w' => ∃ t : Bool, e = .returned (.bool t) ∧ (t = true → P n w') ∧ (t = false → R w') := by
  have HS := Lib.hid hs
  have HC := Lib.hid hc
  have H0 := Lib.hid h0
  clear hs h0 hc
  rcases hF with rfl | rfl
  all_goals
    go_enter Tryd.func32, Tryd.ntmps32
    go_wp2
    go_loopw [6, 9] (fun _ i wr => ∃ k : Nat, i = .int .i64 k ∧ k ≤ n ∧ Hid (P k wr)) (fun _ i _ => n - (Go.RowKit.intOf i).toNat)
    case atStart => exact ⟨0, rfl, Nat.zero_le _, H0⟩
    case round =>
      obtain ⟨k, rfl, hk1, hP⟩ := hrel
      by_cases hlt : k < n
      · obtain ⟨x, hx⟩ : ∃ x, l[k]? = some x := ⟨_, List.getElem?_eq_getElem (by omega)⟩
        have hcc := HC.out k x wr hP.out hx
        have t1 : decide ((k : Int) < (n : Int)) = true := decide_eq_true (by omega)
        have K := Lib.hid (HS.out k x wr hx hP.out)
        go_wp2_with (first
          | (go_at_call 52; refine K.out.mono ?_; rintro q w1 ⟨z, rfl, hz0, hz1⟩; clear K hP)
          | (go_at_call 56; refine K.out.mono ?_; rintro q w1 ⟨z, rfl, hz0, hz1⟩; clear K hP))
        · have hz : z = false := by simpa using ‹(!z) = true›
          go_ret
          exact ⟨false, rfl, (fun h => by cases h), fun _ => hz1 hz⟩
        · have hz : z = true := by simpa using ‹(!z) = false›
          exact ⟨⟨k + 1, by go_num, by omega, hz0 hz⟩, by simp [Go.RowKit.intOf]; omega⟩
      · have hkt : k = n := by omega
        subst hkt
        have t1 : decide ((k : Int) < (k : Int)) = false := decide_eq_false (by omega)
        go_wp2
        go_ret
        exact ⟨true, rfl, fun _ => hP.out, fun h => by cases h⟩
theorem all_take_step (p : Int → Bool) (l : List Int) (k : Nat) (x : Int) (hx : l[k]? = some x) : (l.take (k + 1)).all p = ((l.take k).all p && p x) := by
  obtain ⟨hk, rfl⟩ := List.getElem?_eq_some_iff.1 hx
  rw [List.take_succ_eq_append_getElem hk, List.all_append]
  simp
/-- all, over within: the world stays. -/
theorem allIn_any (lo hi : Int) (a b bk cap : Nat) (l : List Int) (w : World) (hn : l.length ≤ 1099511627776) (ha : w.cell? ⟨a, 0, none⟩ = some (.int .i64 lo)) (hb : w.cell? ⟨b, 0, none⟩ = some (.int .i64 hi)) (hr : ∀ (k : Nat) (x : Int), l[k]? = some x → w.cell? ⟨bk, k, none⟩ = some (.int .i64 x)) :
    Calls Tryd.prog 32 #[.slice (some ⟨bk, 0, none⟩) l.length cap, .func (.func 52) #[] #[.pointer (some ⟨a, 0, none⟩), .pointer (some ⟨b, 0, none⟩)]] w fun e w' => e = .returned (.bool (l.all (wthn lo hi))) ∧ w' = w := by
  refine (all_l 52 (.inl rfl) _ _ bk l.length cap l (fun k w1 => w1 = w ∧ (l.take k).all (wthn lo hi) = true) (fun w1 => w1 = w ∧ l.all (wthn lo hi) = false) w rfl hn ⟨rfl, by simp⟩ ?_ ?_).mono ?_
  · rintro k x w1 ⟨rfl, _⟩ hx
    exact hr k x hx
  · rintro k x w1 hx ⟨rfl, hp⟩
    refine (in_any lo hi x a b w1 ha hb).mono ?_
    rintro e w' ⟨rfl, rfl⟩
    refine ⟨_, rfl, fun ht => ⟨rfl, ?_⟩, fun ht => ⟨rfl, ?_⟩⟩
    · rw [all_take_step _ l k x hx, hp, ht]; rfl
    · exact List.all_eq_false.2 ⟨x, List.mem_of_getElem? hx, by rw [ht]; simp⟩
  · rintro e w' ⟨t, rfl, h1, h2⟩
    cases t
    · obtain ⟨rfl, h⟩ := h2 rfl
      rw [h]; exact ⟨rfl, rfl⟩
    · obtain ⟨rfl, h⟩ := h1 rfl
      rw [List.take_length] at h
      rw [h]; exact ⟨rfl, rfl⟩
theorem rise_drop (l : List Int) (k : Nat) (x lo : Int) (hx : l[k]? = some x) : rise lo (l.drop k) = (wthn lo 7 x && rise (x + 1) (l.drop (k + 1))) := by
  obtain ⟨hk, rfl⟩ := List.getElem?_eq_some_iff.1 hx
  rw [List.drop_eq_getElem_cons hk]; rfl
/-- all, over rising. -/
theorem allRise_any (lo : Int) (a b bk cap B : Nat) (l : List Int) (w : World) (hn : l.length ≤ 1099511627776) (ha : w.heap[a]? = some (.cells #[.int .i64 lo] 3 (0, 0))) (hb : w.heap[b]? = some (.cells #[.int .i64 7] 3 (0, 0))) (hab : a ≠ b) (hba : bk ≠ a) (hBa : B ≤ a) (hB : B ≤ w.heap.size) (hlo : 1 ≤ lo)
    (hr : ∀ (k : Nat) (x : Int), l[k]? = some x → w.cell? ⟨bk, k, none⟩ = some (.int .i64 x)) (hbk : bk < w.heap.size) :
    Calls Tryd.prog 32 #[.slice (some ⟨bk, 0, none⟩) l.length cap, .func (.func 56) #[] #[.pointer (some ⟨a, 0, none⟩), .pointer (some ⟨b, 0, none⟩)]] w fun e w' => e = .returned (.bool (rise lo l)) ∧ w.grownBy w' (some a) := by
  have hal : a < w.heap.size := (Array.getElem?_eq_some_iff.1 ha).1
  have hbl : b < w.heap.size := (Array.getElem?_eq_some_iff.1 hb).1
  refine (all_l 56 (.inr rfl) _ _ bk l.length cap l (fun k w1 => w.grownBy w1 (some a) ∧ ∃ c, 1 ≤ c ∧ w1.heap[a]? = some (.cells #[.int .i64 c] 3 (0, 0)) ∧ rise lo l = rise c (l.drop k)) (fun w1 => w.grownBy w1 (some a) ∧ rise lo l = false) w rfl hn ⟨⟨rfl, rfl, rfl, Nat.le_refl _, fun _ _ _ => rfl⟩, lo, hlo, ha, rfl⟩ ?_ ?_).mono ?_
  · rintro k x w1 ⟨hg, _⟩ hx
    have h := hr k x hx
    have he := hg.block bk hbk (by simpa using hba)
    unfold World.cell? at h ⊢
    rw [he]; exact h
  · rintro k x w1 hx ⟨hg, c, hc1, hc, hri⟩
    have hb1 : w1.heap[b]? = some (.cells #[.int .i64 7] 3 (0, 0)) := (hg.block b hbl (by simpa using Ne.symm hab)).trans hb
    refine (rin_any c 7 x a b w1 hc (cell_of_row _ _ 0 _ _ _ hb1) hab).mono ?_
    rintro e w' ⟨rfl, h1, h2⟩
    have hg2 : w.grownBy w' (some a) := ⟨h2.os.trans hg.os, h2.tape.trans hg.tape, h2.output.trans hg.output, Nat.le_trans hg.size h2.size, fun k hk hne => (h2.block k (Nat.lt_of_lt_of_le hk hg.size) hne).trans (hg.block k hk hne)⟩
    refine ⟨_, rfl, fun ht => ⟨hg2, x + 1, ?_, ?_, ?_⟩, fun ht => ⟨hg2, ?_⟩⟩
    · have := wthn_iff.1 ht; omega
    · have := wthn_iff.1 ht
      rw [show wrap64 (x + 1) = x + 1 from by unfold wrap64; omega] at h1
      exact h1
    · rw [hri, rise_drop l k x c hx, ht]; rfl
    · rw [hri, rise_drop l k x c hx, ht]; rfl
  · rintro e w' ⟨t, rfl, h1, h2⟩
    cases t
    · obtain ⟨hg, h⟩ := h2 rfl
      rw [h]; exact ⟨rfl, hg⟩
    · obtain ⟨hg, c, _, _, h⟩ := h1 rfl
      rw [h, List.drop_length]; exact ⟨rfl, hg⟩
end Go.Proofs.YtmencfmjmbbfhaaDoor
