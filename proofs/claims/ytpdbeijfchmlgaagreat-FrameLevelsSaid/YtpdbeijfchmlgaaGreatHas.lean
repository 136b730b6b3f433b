/-
  Is a letter in a text; do all of a list hold; what a bounded number is asked.
  Conditions: named in each theorem.
-/
import Derived.Test.YtpdbeijfchmlgaaGreatBase
import Derived.BigQuiet
namespace Go.Proofs.YtpdbeijfchmlgaaGreat
open Go.RowKit
set_option linter.unusedVariables false

theorem ret_bool {a b : Bool} (h : a = b) : Ending.returned (.bool a) = .returned (.bool b) := by rw [h]
/-- Is the byte in the text? -/
def hasL (s : ByteArray) (c : Int) : Bool := s.data.toList.any fun x => (x.toNat : Int) == c

theorem indexByte_cons (b : UInt8) (l : List UInt8) (c : UInt8) : Lib.indexByte (b :: l) c = if b == c then 0 else if Lib.indexByte l c == -1 then -1 else Lib.indexByte l c + 1 := rfl
theorem indexByte_has : ∀ (l : List UInt8) (c : UInt8), (decide (0 ≤ Lib.indexByte l c)) = l.any fun x => x == c
  | [], c => rfl
  | b :: l, c => by
    have ih := indexByte_has l c
    have hge := Lib.indexByte_ge l c
    rw [List.any_cons, ← ih, indexByte_cons]
    cases hbc : b == c
    · rw [if_neg (by simp), Bool.false_or]
      by_cases h1 : Lib.indexByte l c = -1
      · rw [h1]; rfl
      · rw [if_neg (by simpa using h1), decide_eq_decide]
        omega
    · simp

theorem hasL_index (s : ByteArray) (c : Nat) (hc : c < 256) : decide (0 ≤ Lib.indexByte s.data.toList c.toUInt8) = hasL s c := by
  rw [indexByte_has]
  unfold hasL
  congr 1
  funext x
  rw [Bool.eq_iff_iff, beq_iff_eq, beq_iff_eq]
  have h1 : c.toUInt8.toNat = c := by simp [Nat.toUInt8, UInt8.toNat_ofNat']; omega
  constructor
  · rintro rfl; rw [h1]
  · intro h; rw [← UInt8.toNat_inj, h1]; omega

theorem any_take_step0 (l : List UInt8) (k : Nat) (p : UInt8 → Bool) (h : k < l.length) : (l.take (k + 1)).any p = ((l.take k).any p || p l[k]) := by
  rw [List.take_succ_eq_append_getElem h, List.any_append]
  simp

theorem any_take_step (s : ByteArray) (k : Nat) (p : UInt8 → Bool) (h : k < s.size) : (s.data.toList.take (k + 1)).any p = ((s.data.toList.take k).any p || p s[k]) :=
  any_take_step0 s.data.toList k p (by simpa using h)
theorem mem_ba (s : ByteArray) (k : Nat) (h : k < s.size) : s[k] ∈ s.data.toList := List.getElem_mem (l := s.data.toList) (n := k) (by simpa using h)

set_option maxRecDepth 100000 in
set_option maxHeartbeats 400000 in
theorem has_any (s : ByteArray) (c : Int) (w : World) (hs : s.size ≤ 140737488355328) :
    Calls Tryz.prog 127 #[.string s, .int .u8 c] w fun e w' => e = .returned (.bool (hasL s c)) ∧ w = w' := by
  go_enter Tryz.func127, Tryz.ntmps127
  go_wp2
  go_loop [5] (fun i => ∃ k : Nat, k ≤ s.size ∧ i = .int .i64 k ∧ Hid ((s.data.toList.take k).any (fun x => (x.toNat : Int) == c) = false)) (fun i => s.size - (intOf i).toNat)
  case atStart => exact ⟨0, Nat.zero_le _, rfl, rfl⟩
  case round =>
    obtain ⟨k, hk, rfl, hno⟩ := hrel
    by_cases hlt : k < s.size
    · have hst := Lib.hid (any_take_step s k (fun x => (x.toNat : Int) == c) hlt)
      have hmem := Lib.hid (mem_ba s k hlt)
      by_cases hc : ((s[k].toNat : Int) == c) = true
      · have H1 : Hid (hasL s c = true) := by
          unfold hasL
          show List.any s.data.toList _ = true
          rw [List.any_eq_true]
          exact ⟨s[k], hmem.out, hc⟩
        go_wp2
        go_ret
        exact ⟨ret_bool H1.out.symm, rfl⟩
      · have hc2 : ((s[k].toNat : Int) == c) = false := by simpa using hc
        clear hc
        go_wp2
        go_round
        case rel => exact ⟨k + 1, by omega, by go_num, by show _ = _; rw [hst.out, hno.out, Bool.false_or]; exact hc2⟩
        case measure => simp [intOf]; omega
    · have H1 : Hid (hasL s c = false) := by
        have h2 := hno.out
        rw [List.take_of_length_le (by simp; omega)] at h2
        exact h2
      go_wp2
      go_ret
      exact ⟨ret_bool H1.out.symm, rfl⟩

set_option maxRecDepth 100000 in
set_option maxHeartbeats 400000 in
/-- Do all of a list hold? -/
theorem all_any (l : List Bool) (n c : Nat) (b : Nat) (w : World) (hn : l.length = n) (hl : n ≤ 64) (hc : ∀ j x, l[j]? = some x → w.cell? ⟨b, j, none⟩ = some (.bool x)) :
    Calls Tryz.prog 52 #[.slice (some ⟨b, 0, none⟩) n c] w fun e w' => e = .returned (.bool (l.all id)) ∧ w = w' := by
  have HC := Lib.hid hc
  clear hc
  have HN := Lib.hid hn
  clear hn
  go_enter Tryz.func52, Tryz.ntmps52
  go_wp2
  go_loop [7] (fun i => ∃ k : Nat, k ≤ n ∧ i = .int .i64 k ∧ Hid ((l.take k).all id = true)) (fun i => n - (intOf i).toNat)
  case atStart => exact ⟨0, Nat.zero_le _, rfl, rfl⟩
  case round =>
    obtain ⟨k, hk, rfl, hall⟩ := hrel
    by_cases hlt : k < n
    · have hkl : k < l.length := by rw [HN.out]; exact hlt
      have hcell := HC.out k _ (List.getElem?_eq_getElem hkl)
      cases hx : l[k] with
      | true =>
        rw [hx] at hcell
        have H1 : Hid ((l.take (k + 1)).all id = true) := by
          show _ = true
          rw [List.take_succ_eq_append_getElem hkl, List.all_append, hall.out, hx]; rfl
        clear hx
        go_wp2
        go_round
        case rel => exact ⟨k + 1, by omega, by go_num, H1⟩
        case measure => simp [intOf]; omega
      | false =>
        rw [hx] at hcell
        have H1 : Hid (l.all id = false) := by
          show _ = false
          rw [List.all_eq_false]
          exact ⟨l[k], List.getElem_mem _, by rw [hx]; simp⟩
        clear hx
        go_wp2
        go_ret
        exact ⟨ret_bool H1.out.symm, rfl⟩
    · have H1 : Hid (l.all id = true) := by
        have h2 := hall.out
        rw [List.take_of_length_le (by rw [HN.out]; omega)] at h2
        exact h2
      go_wp2
      go_ret
      exact ⟨ret_bool H1.out.symm, rfl⟩

/-- What is asked of a number: 0, if its letter is none of these; else bounded. -/
def lim (s : ByteArray) (c n lo hi : Int) : Bool := if hasL s c then (decide (lo ≤ n) && decide (n ≤ hi)) else n == 0

set_option maxRecDepth 100000 in
set_option maxHeartbeats 400000 in
theorem limit_any (s : ByteArray) (c : Nat) (n lo hi : Int) (a : Addr) (w : World) (hc : c < 256) (ha : w.cell? a = some (.string s)) :
    Calls Tryz.prog 159 #[.int .u8 c, .int .u64 n, .int .u64 lo, .int .u64 hi, .pointer (some a)] w fun e w' => e = .returned (.bool (lim s c n lo hi)) ∧ w = w' := by
  have hq := hasL_index s c hc
  cases hb : hasL s c with
  | false =>
    have e1 : Hid (lim s c n lo hi = (n == 0)) := by show _ = _; unfold lim; rw [hb, if_neg (by simp)]
    rw [hb] at hq
    have hlt : decide (Lib.indexByte s.data.toList c.toUInt8 < 0) = true := by
      have := of_decide_eq_false hq
      simpa using this
    clear hb hq
    go_enter Tryz.func159, Tryz.ntmps159
    go_wp2_with (go_at_call 160; refine (Tryz.strings_IndexByte s c _).mono ?_; rintro e w' ⟨rfl, rfl⟩)
    all_goals go_ret
    all_goals exact ⟨ret_bool e1.out.symm, rfl⟩
  | true =>
    have e1 : Hid (lim s c n lo hi = (decide (lo ≤ n) && decide (n ≤ hi))) := by show _ = _; unfold lim; rw [hb, if_pos rfl]
    rw [hb] at hq
    have hlt : decide (Lib.indexByte s.data.toList c.toUInt8 < 0) = false := by
      have := of_decide_eq_true hq
      exact decide_eq_false (by omega)
    clear hb hq
    by_cases h1 : lo ≤ n
    · have h2 : decide (lo ≤ n) = true := decide_eq_true h1
      go_enter Tryz.func159, Tryz.ntmps159
      go_wp2_with (go_at_call 160; refine (Tryz.strings_IndexByte s c _).mono ?_; rintro e w' ⟨rfl, rfl⟩)
      all_goals go_ret
      all_goals exact ⟨ret_bool (by rw [e1.out, h2]; rfl), rfl⟩
    · have h2 : decide (lo ≤ n) = false := decide_eq_false h1
      go_enter Tryz.func159, Tryz.ntmps159
      go_wp2_with (go_at_call 160; refine (Tryz.strings_IndexByte s c _).mono ?_; rintro e w' ⟨rfl, rfl⟩)
      all_goals go_ret
      all_goals exact ⟨ret_bool (by rw [e1.out, h2]; rfl), rfl⟩
end Go.Proofs.YtpdbeijfchmlgaaGreat
