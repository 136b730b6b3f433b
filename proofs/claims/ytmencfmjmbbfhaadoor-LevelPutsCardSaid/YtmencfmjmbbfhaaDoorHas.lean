/-
  Is a letter in a text; do all of a list hold; what a bounded number is asked.
  Conditions: named in each theorem.
-/
import Derived.Test.YtmencfmjmbbfhaaDoorBase
import Derived.BigQuiet
namespace Go.Proofs.YtmencfmjmbbfhaaDoor
open Go.RowKit
set_option linter.unusedVariables false
theorem ret_bool {a b : Bool} (h : a = b) : Ending.returned (.bool a) = .returned (.bool b) := by rw [h]
def hasL (s : ByteArray) (c : Int) : Bool := s.data.toList.any fun x => (x.toNat : Int) == c
theorem indexByte_cons (b : UInt8) (l : List UInt8) (c : UInt8) : Lib.indexByte (b :: l) c = if b == c then 0 else if Lib.indexByte l c == -1 then -1 else Lib.indexByte l c + 1 := rfl
theorem indexByte_has : ∀ (l : List UInt8) (c : UInt8), (decide (0 ≤ Lib.indexByte l c)) = l.any fun x => x == c
  | [], c => rfl
  | b :: l, c => by
    have ih := indexByte_has l c
    have hge := Lib.indexByte_ge l c
    rw [List.any_cons, ← ih, indexByte_cons]
    cases hbc : b == c
    · rw [if_neg (by simp), Bool.false_or]
      by_cases h1 : Lib.indexByte l c = -1
      · rw [h1]; rfl
      · rw [if_neg (by simpa using h1), decide_eq_decide]
        omega
    · simp
theorem hasL_index (s : ByteArray) (c : Nat) (hc : c < 256) : decide (0 ≤ Lib.indexByte s.data.toList c.toUInt8) = hasL s c := by
  rw [indexByte_has]
  unfold hasL
  congr 1
  funext x
  rw [Bool.eq_iff_iff, beq_iff_eq, beq_iff_eq]
  have h1 : c.toUInt8.toNat = c := by simp [Nat.toUInt8, UInt8.toNat_ofNat']; omega
  constructor
  · rintro rfl; rw [h1]
  · intro h; rw [← UInt8.toNat_inj, h1]; omega
set_option maxRecDepth 100000 in
set_option maxHeartbeats 400000 in
theorem all_any (l : List Bool) (n c : Nat) (b : Nat) (w : World) (hn : l.length = n) (hl : n ≤ 64) (hc : ∀ j x, l[j]? = some x → w.cell? ⟨b, j, none⟩ = some (.bool x)) :
    Calls Tryd.prog 45 #[.slice (some ⟨b, 0, none⟩) n c] w fun e w' => e = .returned (.bool (l.all id)) ∧ w = w' := by
  have HC := Lib.hid hc
  clear hc
  have HN := Lib.hid hn
  clear hn
  go_enter Tryd.func45, Tryd.ntmps45
  go_wp2
  go_loop [7] (fun i => ∃ k : Nat, k ≤ n ∧ i = .int .i64 k ∧ Hid ((l.take k).all id = true)) (fun i => n - (intOf i).toNat)
  case atStart => exact ⟨0, Nat.zero_le _, rfl, rfl⟩
  case round =>
    obtain ⟨k, hk, rfl, hall⟩ := hrel
    by_cases hlt : k < n
    · have hkl : k < l.length := by rw [HN.out]; exact hlt
      have hcell := HC.out k _ (List.getElem?_eq_getElem hkl)
      cases hx : l[k] with
      | true =>
        rw [hx] at hcell
        have H1 : Hid ((l.take (k + 1)).all id = true) := by
          show _ = true
          rw [List.take_succ_eq_append_getElem hkl, List.all_append, hall.out, hx]; rfl
        clear hx
        go_wp2
        go_round
        case rel => exact ⟨k + 1, by omega, by go_num, H1⟩
        case measure => simp [intOf]; omega
      | false =>
        rw [hx] at hcell
        have H1 : Hid (l.all id = false) := by
          show _ = false
          rw [List.all_eq_false]
          exact ⟨l[k], List.getElem_mem _, by rw [hx]; simp⟩
        clear hx
        go_wp2
        go_ret
        exact ⟨ret_bool H1.out.symm, rfl⟩
    · have H1 : Hid (l.all id = true) := by
        have h2 := hall.out
        rw [List.take_of_length_le (by rw [HN.out]; omega)] at h2
        exact h2
      go_wp2
      go_ret
      exact ⟨ret_bool H1.out.symm, rfl⟩
def lim (s : ByteArray) (c n lo hi : Int) : Bool := if hasL s c then (decide (lo ≤ n) && decide (n ≤ hi)) else n == 0
set_option maxRecDepth 100000 in
set_option maxHeartbeats 400000 in
theorem limit_any (s : ByteArray) (c : Nat) (n lo hi : Int) (a : Addr) (w : World) (hc : c < 256) (ha : w.cell? a = some (.string s)) :
    Calls Tryd.prog 64 #[.int .u8 c, .int .u64 n, .int .u64 lo, .int .u64 hi, .pointer (some a)] w fun e w' => e = .returned (.bool (lim s c n lo hi)) ∧ w = w' := by
  have hq := hasL_index s c hc
  cases hb : hasL s c with
  | false =>
    have e1 : Hid (lim s c n lo hi = (n == 0)) := by show _ = _; unfold lim; rw [hb, if_neg (by simp)]
    rw [hb] at hq
    have hlt : decide (Lib.indexByte s.data.toList c.toUInt8 < 0) = true := by
      have := of_decide_eq_false hq
      simpa using this
    clear hb hq
    go_enter Tryd.func64, Tryd.ntmps64
    go_wp2_with (go_at_call 65; refine (Tryd.strings_IndexByte s c _).mono ?_; rintro e w' ⟨rfl, rfl⟩)
    all_goals go_ret
    all_goals exact ⟨ret_bool e1.out.symm, rfl⟩
  | true =>
    have e1 : Hid (lim s c n lo hi = (decide (lo ≤ n) && decide (n ≤ hi))) := by show _ = _; unfold lim; rw [hb, if_pos rfl]
    rw [hb] at hq
    have hlt : decide (Lib.indexByte s.data.toList c.toUInt8 < 0) = false := by
      have := of_decide_eq_true hq
      exact decide_eq_false (by omega)
    clear hb hq
    by_cases h1 : lo ≤ n
    · have h2 : decide (lo ≤ n) = true := decide_eq_true h1
      go_enter Tryd.func64, Tryd.ntmps64
      go_wp2_with (go_at_call 65; refine (Tryd.strings_IndexByte s c _).mono ?_; rintro e w' ⟨rfl, rfl⟩)
      all_goals go_ret
      all_goals exact ⟨ret_bool (by rw [e1.out, h2]; rfl), rfl⟩
    · have h2 : decide (lo ≤ n) = false := decide_eq_false h1
      go_enter Tryd.func64, Tryd.ntmps64
      go_wp2_with (go_at_call 65; refine (Tryd.strings_IndexByte s c _).mono ?_; rintro e w' ⟨rfl, rfl⟩)
      all_goals go_ret
      all_goals exact ⟨ret_bool (by rw [e1.out, h2]; rfl), rfl⟩
end Go.Proofs.YtmencfmjmbbfhaaDoor
