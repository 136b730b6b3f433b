/-
  The law's entry, right by its parts: what it keeps.
  Conditions: the numbers are those of their kinds, the texts' lengths below 2^47.
-/
import Derived.Test.YtpdbeijfchmlgaaGreatMade
import Derived.Test.YtpdbeijfchmlgaaGreatRFacts
namespace Go.Proofs.YtpdbeijfchmlgaaGreat
open Go.RowKit
set_option linter.unusedVariables false

/-- What is asked holds. -/
theorem right_lims {e : En} (h : rightB e = true) : fb e.kind = true ∧ 1 ≤ e.term ∧ 1 ≤ e.index ∧ lim (fl e.kind) 99 e.client 1 18446744073709551615 = true ∧ lim (fl e.kind) 99 e.seq 0 18446744073709551615 = true ∧ lim (fl e.kind) 98 e.block 0 4294967295 = true ∧ lim (fl e.kind) 109 e.many 0 4294967295 = true ∧
    lim (fl e.kind) 110 (IntKind.u64.wrap e.node) 1 7 = true ∧ lim (fl e.kind) 108 (IntKind.u64.wrap e.level) 1 2 = true ∧ lim (fl e.kind) 100 (IntKind.u64.wrap e.data.size) 0 64 = true ∧ lim (fl e.kind) 111 (IntKind.u64.wrap e.old.size) 0 64 = true := by
  unfold rightB asks at h
  simpa only [List.all_cons, List.all_nil, id, Bool.and_true, Bool.and_eq_true, decide_eq_true_eq] using h
theorem lim_no {L : ByteArray} {c n lo hi : Int} (hh : hasL L c = false) (h : lim L c n lo hi = true) : n = 0 := by
  unfold lim at h
  rw [if_neg (by rw [hh]; simp)] at h
  simpa using h
theorem size_no {s : ByteArray} (hs : s.size ≤ 140737488351232) (h : IntKind.u64.wrap s.size = 0) : s = ⟨#[]⟩ := by
  rw [IntKind.wrap_u64] at h
  have h0 : s.size = 0 := by omega
  apply ByteArray.ext
  exact Array.eq_empty_of_size_eq_zero h0
theorem cut64_size (s : ByteArray) (hs : s.size ≤ 140737488351232) : (cut64 s).size ≤ 64 := by
  unfold cut64
  rw [ByteArray.size_extract]
  omega
theorem lim_yes {L : ByteArray} {c n lo hi : Int} (hh : hasL L c = true) (h1 : lo ≤ n) (h2 : n ≤ hi) : lim L c n lo hi = true := by
  unfold lim
  rw [if_pos hh, decide_eq_true h1, decide_eq_true h2]; rfl
theorem lim_zero {L : ByteArray} {c n lo hi : Int} (hh : hasL L c = false) (h : n = 0) : lim L c n lo hi = true := by
  unfold lim
  rw [if_neg (by rw [hh]; simp), h]; rfl
theorem lim_if {L : ByteArray} {c lo hi : Int} {n : Int} (h1 : lo ≤ n) (h2 : n ≤ hi) : lim L c (if hasL L c then n else 0) lo hi = true := by
  cases hh : hasL L c with
  | true => rw [if_pos rfl]; exact lim_yes hh h1 h2
  | false => rw [if_neg (by simp)]; exact lim_zero hh rfl
theorem lim_ifw {L : ByteArray} {c lo hi : Int} {n : Int} (h0 : 0 ≤ n) (h9 : n ≤ 9) (h1 : lo ≤ n) (h2 : n ≤ hi) : lim L c (IntKind.u64.wrap (if hasL L c then n else 0)) lo hi = true := by
  cases hh : hasL L c with
  | true => rw [if_pos rfl, u64_id h0 (by omega)]; exact lim_yes hh h1 h2
  | false => rw [if_neg (by simp)]; exact lim_zero hh rfl
theorem lim_ifs {L : ByteArray} {c : Int} {x : ByteArray} (h : x.size ≤ 64) : lim L c (IntKind.u64.wrap (((if hasL L c then x else ⟨#[]⟩ : ByteArray).size : Nat) : Int)) 0 64 = true := by
  cases hh : hasL L c with
  | true => rw [if_pos rfl, u64_id (by omega) (by omega)]; exact lim_yes hh (by omega) (by omega)
  | false => rw [if_neg (by simp)]; exact lim_zero hh rfl
theorem hasT_L (L : ByteArray) (c : Int) : hasT L.data.toList c = hasL L c := rfl
theorem mk_right (e : En) (hd : e.data.size ≤ 140737488351232) (ho : e.old.size ≤ 140737488351232) : rightB (mk e) = true := by
  have r0 := Int.emod_nonneg e.kind (show (12:Int) ≠ 0 by omega)
  have r1 := Int.emod_lt_of_pos e.kind (show (0:Int) < 12 by omega)
  have k1 := cut64_size e.data hd
  have k2 := cut64_size e.old ho
  have hfb : fb (e.kind % 12) = true := decide_eq_true (by omega)
  have w1 : ∀ (n m : Int), 0 < m → m ≤ 7 → 1 ≤ IntKind.u64.wrap n % m + 1 ∧ IntKind.u64.wrap n % m + 1 ≤ m := fun n m h h' => by
    have h1 := Int.emod_nonneg (IntKind.u64.wrap n) (show m ≠ 0 by omega)
    have h2 := Int.emod_lt_of_pos (IntKind.u64.wrap n) h
    omega
  have wn := w1 e.node 7 (by omega) (by omega)
  have wl := w1 e.level 2 (by omega) (by omega)
  have nt : 1 ≤ e.term % 1000 + 1 := by have := Int.emod_nonneg e.term (show (1000:Int) ≠ 0 by omega); omega
  have ni : 1 ≤ e.index % 1000 + 1 := by have := Int.emod_nonneg e.index (show (1000:Int) ≠ 0 by omega); omega
  have c1 := Int.emod_nonneg e.client (show (5:Int) ≠ 0 by omega)
  have c2 := Int.emod_lt_of_pos e.client (show (0:Int) < 5 by omega)
  have q1 := Int.emod_nonneg e.seq (show (9:Int) ≠ 0 by omega)
  have q2 := Int.emod_lt_of_pos e.seq (show (0:Int) < 9 by omega)
  have b1 := Int.emod_nonneg e.block (show (9:Int) ≠ 0 by omega)
  have b2 := Int.emod_lt_of_pos e.block (show (0:Int) < 9 by omega)
  have m1 := Int.emod_nonneg e.many (show (9:Int) ≠ 0 by omega)
  have m2 := Int.emod_lt_of_pos e.many (show (0:Int) < 9 by omega)
  unfold rightB asks
  rw [List.all_eq_true]
  intro x hx
  simp only [List.mem_cons, List.not_mem_nil, or_false] at hx
  rcases hx with rfl | rfl | rfl | rfl | rfl | rfl | rfl | rfl | rfl | rfl | rfl
  · exact hfb
  · exact decide_eq_true nt
  · exact decide_eq_true ni
  · exact lim_if (L := fl (e.kind % 12)) (c := 99) (n := e.client % 5 + 1) (by omega) (by omega)
  · exact lim_if (L := fl (e.kind % 12)) (c := 99) (n := e.seq % 9) (by omega) (by omega)
  · exact lim_if (L := fl (e.kind % 12)) (c := 98) (n := e.block % 9) (by omega) (by omega)
  · exact lim_if (L := fl (e.kind % 12)) (c := 109) (n := e.many % 9) (by omega) (by omega)
  · exact lim_ifw (L := fl (e.kind % 12)) (c := 110) (n := IntKind.u64.wrap e.node % 7 + 1) (by omega) (by omega) wn.1 wn.2
  · exact lim_ifw (L := fl (e.kind % 12)) (c := 108) (n := IntKind.u64.wrap e.level % 2 + 1) (by omega) (by omega) wl.1 wl.2
  · exact lim_ifs (L := fl (e.kind % 12)) (c := 100) (x := cut64 e.data) k1
  · exact lim_ifs (L := fl (e.kind % 12)) (c := 111) (x := cut64 e.old) k2
theorem ite_bound {p : Prop} [Decidable p] {a : Int} (h : 0 ≤ a ∧ a ≤ 9) : 0 ≤ (if p then a else 0) ∧ (if p then a else 0) ≤ 9 := by
  split
  · exact h
  · omega
/-- What the law's made gives is right, and short. -/
theorem mk_facts (e : En) (ok : e.Ok) : (mk e).Ok ∧ rightB (mk e) = true ∧ (mk e).data.size ≤ 64 ∧ (mk e).old.size ≤ 64 ∧ 0 ≤ (mk e).node ∧ (mk e).node ≤ 9 := by
  have r0 := Int.emod_nonneg e.kind (show (12:Int) ≠ 0 by omega)
  have r1 := Int.emod_lt_of_pos e.kind (show (0:Int) < 12 by omega)
  have k1 := cut64_size e.data ok.d1
  have k2 := cut64_size e.old ok.o1
  have w1 : ∀ (n m : Int), 0 < m → 0 ≤ IntKind.u64.wrap n % m ∧ IntKind.u64.wrap n % m < m := fun n m h => ⟨Int.emod_nonneg _ (by omega), Int.emod_lt_of_pos _ h⟩
  have wn := w1 e.node 7 (by omega)
  have wl := w1 e.level 2 (by omega)
  have g1 := Int.emod_nonneg e.term (show (1000:Int) ≠ 0 by omega)
  have g2 := Int.emod_lt_of_pos e.term (show (0:Int) < 1000 by omega)
  have g3 := Int.emod_nonneg e.index (show (1000:Int) ≠ 0 by omega)
  have g4 := Int.emod_lt_of_pos e.index (show (0:Int) < 1000 by omega)
  have c1 := Int.emod_nonneg e.client (show (5:Int) ≠ 0 by omega)
  have c2 := Int.emod_lt_of_pos e.client (show (0:Int) < 5 by omega)
  have q1 := Int.emod_nonneg e.seq (show (9:Int) ≠ 0 by omega)
  have q2 := Int.emod_lt_of_pos e.seq (show (0:Int) < 9 by omega)
  have b1 := Int.emod_nonneg e.block (show (9:Int) ≠ 0 by omega)
  have b2 := Int.emod_lt_of_pos e.block (show (0:Int) < 9 by omega)
  have m1 := Int.emod_nonneg e.many (show (9:Int) ≠ 0 by omega)
  have m2 := Int.emod_lt_of_pos e.many (show (0:Int) < 9 by omega)
  have hdat : (mk e).data.size ≤ 64 := by show ((if _ then cut64 e.data else ⟨#[]⟩ : ByteArray)).size ≤ 64; split; exact k1; decide
  have hold : (mk e).old.size ≤ 64 := by show ((if _ then cut64 e.old else ⟨#[]⟩ : ByteArray)).size ≤ 64; split; exact k2; decide
  have hn2 : 0 ≤ IntKind.u64.wrap e.node % 7 + 1 ∧ IntKind.u64.wrap e.node % 7 + 1 ≤ 9 := by omega
  have hl2 : 0 ≤ IntKind.u64.wrap e.level % 2 + 1 ∧ IntKind.u64.wrap e.level % 2 + 1 ≤ 9 := by omega
  have hn : 0 ≤ (mk e).node ∧ (mk e).node ≤ 9 := ite_bound hn2
  have hl : 0 ≤ (mk e).level ∧ (mk e).level ≤ 9 := ite_bound hl2
  refine ⟨?_, mk_right e ok.d1 ok.o1, hdat, hold, hn.1, hn.2⟩
  constructor
  all_goals first
    | exact Int.le_trans (by omega) hn.1
    | exact Int.le_trans hn.2 (by omega)
    | exact Int.le_trans (by omega) hl.1
    | exact Int.le_trans hl.2 (by omega)
    | exact Nat.le_trans hdat (by omega)
    | exact Nat.le_trans hold (by omega)
    | (unfold mk part; dsimp only; omega)
    | (unfold mk part; dsimp only; split <;> omega)
theorem ba_ne {a b : ByteArray} (h : a ≠ b) : (a == b) = false := by
  cases hq : a == b with
  | false => rfl
  | true => exact absurd (ba_of_beq hq) h
theorem ba_ne2 {a b : ByteArray} (h : a ≠ b) : ¬ a.toList = b.toList := fun hq => by
  have h1 := beq_toListBytes a b
  rw [hq] at h1
  exact h (ba_of_beq (by simpa using h1))
end Go.Proofs.YtpdbeijfchmlgaaGreat
