/-
  Configs of level as plain mathematics: what is right, what an entry makes of them.
  Conditions: named in each theorem.
-/
import Derived.WalkKit
namespace Go.Proofs.YtmencfmjmbbfhaaDoor
set_option linter.unusedVariables false
structure Cf where
  m : List Int
  h : List Int
  l : Int
  f : Bool
def wthn (lo hi n : Int) : Bool := decide (lo ≤ n) && decide (n ≤ hi)
def rise : Int → List Int → Bool
  | _, [] => true
  | lo, x :: xs => wthn lo 7 x && rise (x + 1) xs
def rightC (c : Cf) : Bool := decide (1 ≤ c.m.length) && rise 1 c.m && wthn 1 2 c.l && (c.l == 2 || !c.f) && c.h.length == c.m.length && c.h.all (wthn c.l 2)
theorem wthn_iff {lo hi n : Int} : wthn lo hi n = true ↔ lo ≤ n ∧ n ≤ hi := by unfold wthn; simp
structure RightC (c : Cf) : Prop where
  n : 1 ≤ c.m.length
  r : rise 1 c.m = true
  l1 : 1 ≤ c.l
  l2 : c.l ≤ 2
  f : c.f = true → c.l = 2
  hn : c.h.length = c.m.length
  ha : ∀ x ∈ c.h, c.l ≤ x ∧ x ≤ 2
theorem rightC_iff (c : Cf) : rightC c = true ↔ RightC c := by
  unfold rightC
  constructor
  · intro h
    simp only [Bool.and_eq_true, decide_eq_true_eq, wthn_iff, Bool.or_eq_true, beq_iff_eq, Bool.not_eq_true', List.all_eq_true] at h
    obtain ⟨⟨⟨⟨⟨h1, h2⟩, h3, h4⟩, h5⟩, h6⟩, h7⟩ := h
    exact ⟨h1, h2, h3, h4, fun hf => h5.resolve_right (by rw [hf]; simp), h6, fun x hx => h7 x hx⟩
  · intro h
    simp only [Bool.and_eq_true, decide_eq_true_eq, wthn_iff, Bool.or_eq_true, beq_iff_eq, Bool.not_eq_true', List.all_eq_true]
    refine ⟨⟨⟨⟨⟨h.n, h.r⟩, h.l1, h.l2⟩, ?_⟩, h.hn⟩, fun x hx => h.ha x hx⟩
    cases hf : c.f
    · exact .inr rfl
    · exact .inl (h.f hf)
theorem rise_cons {lo x : Int} {xs : List Int} : rise lo (x :: xs) = true ↔ (lo ≤ x ∧ x ≤ 7) ∧ rise (x + 1) xs = true := by
  simp only [rise, Bool.and_eq_true, wthn_iff]
theorem rise_mono {lo lo' : Int} (hl : lo' ≤ lo) : ∀ {xs : List Int}, rise lo xs = true → rise lo' xs = true
  | [], _ => rfl
  | x :: xs, h => by rw [rise_cons] at h ⊢; exact ⟨⟨by omega, h.1.2⟩, h.2⟩
theorem rise_mem {lo : Int} : ∀ {xs : List Int}, rise lo xs = true → ∀ y ∈ xs, lo ≤ y ∧ y ≤ 7
  | [], _, y, hy => by cases hy
  | x :: xs, h, y, hy => by
    rw [rise_cons] at h
    rcases List.mem_cons.1 hy with rfl | hy
    · exact h.1
    · have := rise_mem h.2 y hy; omega
theorem rise_len {lo : Int} : ∀ {xs : List Int}, rise lo xs = true → xs = [] ∨ (xs.length : Int) + lo ≤ 8
  | [], _ => .inl rfl
  | x :: xs, h => by
    rw [rise_cons] at h
    right
    rcases rise_len h.2 with rfl | h2
    · simp; omega
    · simp only [List.length_cons]; omega
theorem RightC.len {c : Cf} (h : RightC c) : c.m.length ≤ 7 := by
  rcases rise_len h.r with h0 | h0
  · rw [h0]; simp
  · omega
theorem rise_pair {lo : Int} : ∀ {xs : List Int}, rise lo xs = true → xs.Pairwise (· < ·)
  | [], _ => .nil
  | x :: xs, h => by
    rw [rise_cons] at h
    exact .cons (fun y hy => by have := rise_mem h.2 y hy; omega) (rise_pair h.2)
theorem rise_of {lo : Int} : ∀ {xs : List Int}, xs.Pairwise (· < ·) → (∀ y ∈ xs, lo ≤ y ∧ y ≤ 7) → rise lo xs = true
  | [], _, _ => rfl
  | x :: xs, hp, hm => by
    rw [rise_cons]
    have hp' := List.pairwise_cons.1 hp
    exact ⟨hm x (by simp), rise_of hp'.2 fun y hy => by have := hp'.1 y hy; have := hm y (by simp [hy]); omega⟩
/-- Where a node stands, or would. -/
def pos (m : List Int) (n : Int) : Nat := m.countP (· < n)
theorem pos_le (m : List Int) (n : Int) : pos m n ≤ m.length := List.countP_le_length
theorem pos_cons_lt {x n : Int} {xs : List Int} (h : x < n) : pos (x :: xs) n = pos xs n + 1 := by unfold pos; rw [List.countP_cons_of_pos]; simpa using h
theorem pos_zero {lo n : Int} {xs : List Int} (h : rise lo xs = true) (hn : n ≤ lo) : pos xs n = 0 := by
  unfold pos; rw [List.countP_eq_zero]; intro y hy; have := rise_mem h y hy; simp; omega
theorem pos_cons_ge {lo x n : Int} {xs : List Int} (hr : rise lo (x :: xs) = true) (h : n ≤ x) : pos (x :: xs) n = 0 := by
  rw [rise_cons] at hr
  exact pos_zero (lo := x) (by rw [rise_cons]; exact ⟨⟨Int.le_refl _, hr.1.2⟩, hr.2⟩) h
def insA (l : List Int) (k : Nat) (x : Int) : List Int := l.take k ++ x :: l.drop k
def delA (l : List Int) (k : Nat) : List Int := l.take k ++ l.drop (k + 1)
theorem insA_length (l : List Int) (k : Nat) (x : Int) (hk : k ≤ l.length) : (insA l k x).length = l.length + 1 := by unfold insA; simp; omega
theorem delA_length (l : List Int) (k : Nat) (hk : k < l.length) : (delA l k).length = l.length - 1 := by unfold delA; simp; omega
theorem del_ins (l : List Int) (k : Nat) (x : Int) (hk : k ≤ l.length) : delA (insA l k x) k = l := by
  unfold delA insA
  rw [List.take_append_of_le_length (by simp; omega), List.take_take, Nat.min_self, List.drop_append]
  have h1 : (List.take k l).length = k := by simp; omega
  rw [h1, List.drop_of_length_le (by omega), show k + 1 - k = 1 from by omega]
  simp
theorem ins_cons {x : Int} {l : List Int} {k : Nat} {y : Int} : insA (x :: l) (k + 1) y = x :: insA l k y := rfl
theorem ins_rise {n : Int} (h7 : n ≤ 7) : ∀ {lo : Int} {xs : List Int}, lo ≤ n → rise lo xs = true → n ∉ xs → rise lo (insA xs (pos xs n) n) = true
  | lo, [], hl, _, _ => by show rise lo [n] = true; rw [rise_cons]; exact ⟨⟨hl, h7⟩, rfl⟩
  | lo, x :: xs, hl, hr, hn => by
    have hne : n ≠ x := fun e => hn (by simp [e])
    by_cases h : x < n
    · rw [pos_cons_lt h, ins_cons]
      rw [rise_cons] at hr ⊢
      exact ⟨hr.1, ins_rise h7 (by omega) hr.2 fun e => hn (by simp [e])⟩
    · rw [pos_cons_ge hr (by omega)]
      show rise lo (n :: x :: xs) = true
      rw [rise_cons] at hr
      rw [rise_cons, rise_cons]
      exact ⟨⟨hl, h7⟩, ⟨by omega, hr.1.2⟩, hr.2⟩
theorem ins_pos {n : Int} : ∀ {lo : Int} {xs : List Int}, rise lo xs = true → n ∉ xs → pos (insA xs (pos xs n) n) n = pos xs n
  | lo, [], _, _ => by simp [pos, insA]
  | lo, x :: xs, hr, hn => by
    have hne : n ≠ x := fun e => hn (by simp [e])
    by_cases h : x < n
    · rw [pos_cons_lt h, ins_cons, pos_cons_lt h]
      rw [rise_cons] at hr
      rw [ins_pos hr.2 fun e => hn (by simp [e])]
    · rw [pos_cons_ge hr (by omega)]
      show pos (n :: x :: xs) n = 0
      unfold pos
      rw [List.countP_cons_of_neg (by simp)]
      exact pos_cons_ge hr (by omega)
theorem ins_mem {l : List Int} {k : Nat} {n : Int} : n ∈ insA l k n := by unfold insA; simp
theorem pos_lt {n : Int} : ∀ {lo : Int} {xs : List Int}, rise lo xs = true → n ∈ xs → pos xs n < xs.length ∧ xs[pos xs n]? = some n
  | lo, [], _, hn => by cases hn
  | lo, x :: xs, hr, hn => by
    by_cases h : x < n
    · rw [pos_cons_lt h]
      rw [rise_cons] at hr
      have := pos_lt hr.2 (by rcases List.mem_cons.1 hn with e | e; omega; exact e)
      simp only [List.length_cons, List.getElem?_cons_succ]
      exact ⟨by omega, this.2⟩
    · rw [pos_cons_ge hr (by omega)]
      have hx : n = x := by
        rcases List.mem_cons.1 hn with e | e
        · exact e
        · rw [rise_cons] at hr; have := rise_mem hr.2 n e; omega
      simp [hx]
theorem pos_at {lo : Int} : ∀ {xs : List Int}, rise lo xs = true → ∀ {i : Nat} {x : Int}, xs[i]? = some x → pos xs x = i
  | [], _, i, x, h => by cases h
  | y :: xs, hr, 0, x, h => by simp at h; subst h; exact pos_cons_ge hr (Int.le_refl _)
  | y :: xs, hr, i + 1, x, h => by
    have hr' := rise_cons.1 hr
    simp only [List.getElem?_cons_succ] at h
    have hm := rise_mem hr'.2 x (List.mem_of_getElem? h)
    rw [pos_cons_lt (by omega), pos_at hr'.2 h]
theorem del_mem {l : List Int} {k : Nat} {x : Int} (h : x ∈ delA l k) : x ∈ l := by
  unfold delA at h
  rcases List.mem_append.1 h with h | h
  · exact List.mem_of_mem_take h
  · exact List.mem_of_mem_drop h
theorem del_sub (l : List Int) (k : Nat) : (delA l k).Sublist l := by
  unfold delA
  conv => rhs; rw [← List.take_append_drop k l]
  exact List.Sublist.append (List.Sublist.refl _) (List.drop_sublist_drop_left l (by omega))
theorem del_rise {lo : Int} {xs : List Int} {k : Nat} (h : rise lo xs = true) : rise lo (delA xs k) = true :=
  rise_of ((rise_pair h).sublist (del_sub xs k)) fun y hy => rise_mem h y (del_mem hy)
theorem del_none {n : Int} : ∀ {lo : Int} {xs : List Int}, rise lo xs = true → n ∈ xs → n ∉ delA xs (pos xs n)
  | lo, [], _, hn => by cases hn
  | lo, x :: xs, hr, hn => by
    have hr' := rise_cons.1 hr
    by_cases h : x < n
    · rw [pos_cons_lt h]
      show n ∉ x :: delA xs (pos xs n)
      intro he
      rcases List.mem_cons.1 he with e | e
      · omega
      · exact del_none hr'.2 (by rcases List.mem_cons.1 hn with e | e; omega; exact e) e
    · rw [pos_cons_ge hr (by omega)]
      show n ∉ xs
      intro he
      have := rise_mem hr'.2 n he
      omega
/-! What an entry makes of a config; the answers are api's numbers. -/
theorem ins_all {l : List Int} {k : Nat} {n y : Int} (h : y ∈ insA l k n) : y = n ∨ y ∈ l := by
  unfold insA at h
  rcases List.mem_append.1 h with h | h
  · exact .inr (List.mem_of_mem_take h)
  · rcases List.mem_cons.1 h with h | h
    · exact .inl h
    · exact .inr (List.mem_of_mem_drop h)
def addC (c : Cf) (n : Int) : Cf × Int :=
  if c.m.contains n then (c, 10) else if c.l == 2 then (c, 8) else ({ c with m := insA c.m (pos c.m n) n, h := insA c.h (pos c.m n) 1 }, 0)
def remC (c : Cf) (n : Int) : Cf × Int :=
  if !c.m.contains n then (c, 6) else if c.m.length == 1 then (c, 10) else ({ c with m := delA c.m (pos c.m n), h := delA c.h (pos c.m n) }, 0)
def regC (c : Cf) (n v : Int) : Cf × Int :=
  if !c.m.contains n then (c, 6) else if decide (v < c.l) then (c, 8) else ({ c with h := c.h.set (pos c.m n) v }, 0)
def upC (c : Cf) : Cf × Int :=
  if c.l == 2 then (c, 10) else if c.h.contains 1 then (c, 8) else ({ c with l := 2 }, 0)
def lowC (c : Cf) : Cf × Int :=
  if c.l == 1 then (c, 10) else if c.f then (c, 8) else ({ c with l := 1 }, 0)
def finC (c : Cf) : Cf × Int :=
  if c.l == 1 then (c, 8) else if c.f then (c, 10) else ({ c with f := true }, 0)
/-- By the kind, the node, the level. -/
def byC (c : Cf) (k n v : Int) : Cf × Int :=
  if k = 5 then addC c n else if k = 6 then remC c n else if k = 7 then regC c n v else if k = 8 then upC c else if k = 9 then lowC c else if k = 10 then finC c else (c, 0)
def appC (c : Cf) (ok : Bool) (k n v : Int) : Cf × Int := if rightC c && ok then byC c k n v else (c, 1)
/-- What is kept: right; final stays; an error changes nothing. -/
structure Kp (c d : Cf) (z : Int) : Prop where
  r : RightC d
  f : c.f = true → d.f = true
  z : z ≠ 0 → d = c
theorem Kp.same {c : Cf} (h : RightC c) (z : Int) : Kp c c z := ⟨h, id, fun _ => rfl⟩
theorem by_keeps (c : Cf) (k n v : Int) (h : RightC c) (h5 : k = 5 → 1 ≤ n ∧ n ≤ 7) (h7 : k = 7 → 1 ≤ v ∧ v ≤ 2) : Kp c (byC c k n v).1 (byC c k n v).2 := by
  unfold byC
  split
  · next hk =>
    unfold addC
    split
    · exact .same h _
    · next hm =>
      split
      · exact .same h _
      · next hl =>
        have hl' : c.l ≠ 2 := by simpa using hl
        have hm' : n ∉ c.m := by simpa using hm
        have hp := pos_le c.m n
        have h1 := h.l1; have h2 := h.l2
        refine ⟨⟨?_, ins_rise (h5 hk).2 (h5 hk).1 h.r hm', h.l1, h.l2, h.f, ?_, ?_⟩, id, fun e => absurd rfl e⟩
        · show 1 ≤ (insA c.m _ n).length
          rw [insA_length _ _ _ hp]; omega
        · show (insA c.h _ 1).length = (insA c.m _ n).length
          rw [insA_length _ _ _ hp, insA_length _ _ _ (by rw [h.hn]; exact hp), h.hn]
        · intro x hx
          rcases ins_all hx with rfl | hx
          · show c.l ≤ 1 ∧ _
            omega
          · exact h.ha x hx
  split
  · next hk =>
    unfold remC
    split
    · exact .same h _
    · next hm =>
      split
      · exact .same h _
      · next hl =>
        have hl' : c.m.length ≠ 1 := by simpa using hl
        have hm' : n ∈ c.m := by simpa using hm
        have hp := (pos_lt h.r hm').1
        refine ⟨⟨?_, del_rise h.r, h.l1, h.l2, h.f, ?_, ?_⟩, id, fun e => absurd rfl e⟩
        · show 1 ≤ (delA c.m _).length
          rw [delA_length _ _ hp]; have := h.n; omega
        · show (delA c.h _).length = (delA c.m _).length
          rw [delA_length _ _ hp, delA_length _ _ (by rw [h.hn]; exact hp), h.hn]
        · intro x hx
          exact h.ha x (del_mem hx)
  split
  · next hk =>
    unfold regC
    split
    · exact .same h _
    · next hm =>
      split
      · exact .same h _
      · next hl =>
        have hl' : ¬ v < c.l := by simpa using hl
        refine ⟨⟨h.n, h.r, h.l1, h.l2, h.f, ?_, ?_⟩, id, fun e => absurd rfl e⟩
        · show (c.h.set _ v).length = _
          rw [List.length_set]; exact h.hn
        · intro x hx
          rcases List.mem_or_eq_of_mem_set hx with hx | rfl
          · exact h.ha x hx
          · exact ⟨by show c.l ≤ x; omega, (h7 hk).2⟩
  split
  · unfold upC
    split
    · exact .same h _
    · split
      · exact .same h _
      · next hl hc =>
        have hc' : (1 : Int) ∉ c.h := by simpa using hc
        have hl' : c.l ≠ 2 := by simpa using hl
        have h1 := h.l1; have h2 := h.l2
        refine ⟨⟨h.n, h.r, by show (1 : Int) ≤ 2; omega, by show (2 : Int) ≤ 2; omega, fun _ => rfl, h.hn, ?_⟩, id, fun e => absurd rfl e⟩
        intro x hx
        have hx' : x ∈ c.h := hx
        have h3 := h.ha x hx'
        have h4 : x ≠ 1 := fun e => hc' (e ▸ hx')
        exact ⟨by show (2 : Int) ≤ x; omega, h3.2⟩
  split
  · unfold lowC
    split
    · exact .same h _
    · split
      · exact .same h _
      · next hl hf =>
        have hl' : c.l ≠ 1 := by simpa using hl
        have hf' : c.f = false := by simpa using hf
        refine ⟨⟨h.n, h.r, by show (1 : Int) ≤ 1; omega, by show (1 : Int) ≤ 2; omega, fun e => ?_, h.hn, ?_⟩, id, fun e => absurd rfl e⟩
        · have e' : c.f = true := e
          rw [hf'] at e'; cases e'
        · intro x hx
          have h3 := h.ha x hx
          have h1 := h.l1
          exact ⟨by show (1 : Int) ≤ x; omega, h3.2⟩
  split
  · unfold finC
    split
    · exact .same h _
    · split
      · exact .same h _
      · next hl hf =>
        have hl' : c.l ≠ 1 := by simpa using hl
        have h1 := h.l1; have h2 := h.l2
        refine ⟨⟨h.n, h.r, h.l1, h.l2, fun _ => by show c.l = 2; omega, h.hn, h.ha⟩, fun _ => rfl, fun e => absurd rfl e⟩
  · exact .same h _
/-- The members, each once, rising. -/
def comp : List Int → List Int
  | [] => []
  | [x] => [x]
  | x :: y :: l => if x = y then comp (y :: l) else x :: comp (y :: l)
end Go.Proofs.YtmencfmjmbbfhaaDoor
