/-
  Entries in memory: where a slice of them lies; a made entry is right.
  Conditions: named in each theorem.
-/
import Derived.Test.YtmencfmjmbbfhaaDoorRFacts
import Derived.Test.YtmencfmjmbbfhaaDoorMade
import Derived.Deep.AppendLies
import Derived.Lib.SmallJoins
import Derived.OneCell
namespace Go.Proofs.YtmencfmjmbbfhaaDoor
open Go.RowKit
set_option linter.unusedVariables false
theorem blk_of_add (a : Addr) (n : Nat) : (a.add n).block = a.block := by
  unfold Addr.add
  split <;> rfl
theorem u64_id {x : Int} (h0 : 0 ≤ x) (h1 : x ≤ 9223372036854775807) : IntKind.u64.wrap x = x := by rw [IntKind.wrap_u64]; omega
theorem cut64_size (s : ByteArray) (hs : s.size ≤ 140737488351232) : (cut64 s).size ≤ 64 := by
  unfold cut64
  rw [ByteArray.size_extract]
  omega
theorem lim_yes {L : ByteArray} {c n lo hi : Int} (hh : hasL L c = true) (h1 : lo ≤ n) (h2 : n ≤ hi) : lim L c n lo hi = true := by
  unfold lim
  rw [if_pos hh, decide_eq_true h1, decide_eq_true h2]; rfl
theorem lim_zero {L : ByteArray} {c n lo hi : Int} (hh : hasL L c = false) (h : n = 0) : lim L c n lo hi = true := by
  unfold lim
  rw [if_neg (by rw [hh]; simp), h]; rfl
theorem lim_if {L : ByteArray} {c lo hi : Int} {n : Int} (h1 : lo ≤ n) (h2 : n ≤ hi) : lim L c (if hasL L c then n else 0) lo hi = true := by
  cases hh : hasL L c with
  | true => rw [if_pos rfl]; exact lim_yes hh h1 h2
  | false => rw [if_neg (by simp)]; exact lim_zero hh rfl
theorem lim_ifw {L : ByteArray} {c lo hi : Int} {n : Int} (h0 : 0 ≤ n) (h9 : n ≤ 9) (h1 : lo ≤ n) (h2 : n ≤ hi) : lim L c (IntKind.u64.wrap (if hasL L c then n else 0)) lo hi = true := by
  cases hh : hasL L c with
  | true => rw [if_pos rfl, u64_id h0 (by omega)]; exact lim_yes hh h1 h2
  | false => rw [if_neg (by simp)]; exact lim_zero hh rfl
theorem lim_ifs {L : ByteArray} {c : Int} {x : ByteArray} (h : x.size ≤ 64) : lim L c (IntKind.u64.wrap (((if hasL L c then x else ⟨#[]⟩ : ByteArray).size : Nat) : Int)) 0 64 = true := by
  cases hh : hasL L c with
  | true => rw [if_pos rfl, u64_id (by omega) (by omega)]; exact lim_yes hh (by omega) (by omega)
  | false => rw [if_neg (by simp)]; exact lim_zero hh rfl
theorem mk_right (e : En) (hd : e.data.size ≤ 140737488351232) (ho : e.old.size ≤ 140737488351232) : rightB (mk e) = true := by
  have r0 := Int.emod_nonneg e.kind (show (12:Int) ≠ 0 by omega)
  have r1 := Int.emod_lt_of_pos e.kind (show (0:Int) < 12 by omega)
  have k1 := cut64_size e.data hd
  have k2 := cut64_size e.old ho
  have hfb : fb (e.kind % 12) = true := decide_eq_true (by omega)
  have w1 : ∀ (n m : Int), 0 < m → m ≤ 7 → 1 ≤ IntKind.u64.wrap n % m + 1 ∧ IntKind.u64.wrap n % m + 1 ≤ m := fun n m h h' => by
    have h1 := Int.emod_nonneg (IntKind.u64.wrap n) (show m ≠ 0 by omega)
    have h2 := Int.emod_lt_of_pos (IntKind.u64.wrap n) h
    omega
  have wn := w1 e.node 7 (by omega) (by omega)
  have wl := w1 e.level 2 (by omega) (by omega)
  have nt : 1 ≤ e.term % 1000 + 1 := by have := Int.emod_nonneg e.term (show (1000:Int) ≠ 0 by omega); omega
  have ni : 1 ≤ e.index % 1000 + 1 := by have := Int.emod_nonneg e.index (show (1000:Int) ≠ 0 by omega); omega
  have c1 := Int.emod_nonneg e.client (show (5:Int) ≠ 0 by omega)
  have c2 := Int.emod_lt_of_pos e.client (show (0:Int) < 5 by omega)
  have q1 := Int.emod_nonneg e.seq (show (9:Int) ≠ 0 by omega)
  have q2 := Int.emod_lt_of_pos e.seq (show (0:Int) < 9 by omega)
  have b1 := Int.emod_nonneg e.block (show (9:Int) ≠ 0 by omega)
  have b2 := Int.emod_lt_of_pos e.block (show (0:Int) < 9 by omega)
  have m1 := Int.emod_nonneg e.many (show (9:Int) ≠ 0 by omega)
  have m2 := Int.emod_lt_of_pos e.many (show (0:Int) < 9 by omega)
  unfold rightB asks
  rw [List.all_eq_true]
  intro x hx
  simp only [List.mem_cons, List.not_mem_nil, or_false] at hx
  rcases hx with rfl | rfl | rfl | rfl | rfl | rfl | rfl | rfl | rfl | rfl | rfl
  · exact hfb
  · exact decide_eq_true nt
  · exact decide_eq_true ni
  · exact lim_if (L := fl (e.kind % 12)) (c := 99) (n := e.client % 5 + 1) (by omega) (by omega)
  · exact lim_if (L := fl (e.kind % 12)) (c := 99) (n := e.seq % 9) (by omega) (by omega)
  · exact lim_if (L := fl (e.kind % 12)) (c := 98) (n := e.block % 9) (by omega) (by omega)
  · exact lim_if (L := fl (e.kind % 12)) (c := 109) (n := e.many % 9) (by omega) (by omega)
  · exact lim_ifw (L := fl (e.kind % 12)) (c := 110) (n := IntKind.u64.wrap e.node % 7 + 1) (by omega) (by omega) wn.1 wn.2
  · exact lim_ifw (L := fl (e.kind % 12)) (c := 108) (n := IntKind.u64.wrap e.level % 2 + 1) (by omega) (by omega) wl.1 wl.2
  · exact lim_ifs (L := fl (e.kind % 12)) (c := 100) (x := cut64 e.data) k1
  · exact lim_ifs (L := fl (e.kind % 12)) (c := 111) (x := cut64 e.old) k2
theorem ite_bound {p : Prop} [Decidable p] {a : Int} (h : 0 ≤ a ∧ a ≤ 9) : 0 ≤ (if p then a else 0) ∧ (if p then a else 0) ≤ 9 := by
  split
  · exact h
  · omega
theorem mk_facts (e : En) (ok : e.Ok) : (mk e).Ok ∧ rightB (mk e) = true ∧ (mk e).data.size ≤ 64 ∧ (mk e).old.size ≤ 64 ∧ 0 ≤ (mk e).node ∧ (mk e).node ≤ 9 := by
  have r0 := Int.emod_nonneg e.kind (show (12:Int) ≠ 0 by omega)
  have r1 := Int.emod_lt_of_pos e.kind (show (0:Int) < 12 by omega)
  have k1 := cut64_size e.data ok.d1
  have k2 := cut64_size e.old ok.o1
  have w1 : ∀ (n m : Int), 0 < m → 0 ≤ IntKind.u64.wrap n % m ∧ IntKind.u64.wrap n % m < m := fun n m h => ⟨Int.emod_nonneg _ (by omega), Int.emod_lt_of_pos _ h⟩
  have wn := w1 e.node 7 (by omega)
  have wl := w1 e.level 2 (by omega)
  have g1 := Int.emod_nonneg e.term (show (1000:Int) ≠ 0 by omega)
  have g2 := Int.emod_lt_of_pos e.term (show (0:Int) < 1000 by omega)
  have g3 := Int.emod_nonneg e.index (show (1000:Int) ≠ 0 by omega)
  have g4 := Int.emod_lt_of_pos e.index (show (0:Int) < 1000 by omega)
  have c1 := Int.emod_nonneg e.client (show (5:Int) ≠ 0 by omega)
  have c2 := Int.emod_lt_of_pos e.client (show (0:Int) < 5 by omega)
  have q1 := Int.emod_nonneg e.seq (show (9:Int) ≠ 0 by omega)
  have q2 := Int.emod_lt_of_pos e.seq (show (0:Int) < 9 by omega)
  have b1 := Int.emod_nonneg e.block (show (9:Int) ≠ 0 by omega)
  have b2 := Int.emod_lt_of_pos e.block (show (0:Int) < 9 by omega)
  have m1 := Int.emod_nonneg e.many (show (9:Int) ≠ 0 by omega)
  have m2 := Int.emod_lt_of_pos e.many (show (0:Int) < 9 by omega)
  have hdat : (mk e).data.size ≤ 64 := by show ((if _ then cut64 e.data else ⟨#[]⟩ : ByteArray)).size ≤ 64; split; exact k1; decide
  have hold : (mk e).old.size ≤ 64 := by show ((if _ then cut64 e.old else ⟨#[]⟩ : ByteArray)).size ≤ 64; split; exact k2; decide
  have hn2 : 0 ≤ IntKind.u64.wrap e.node % 7 + 1 ∧ IntKind.u64.wrap e.node % 7 + 1 ≤ 9 := by omega
  have hl2 : 0 ≤ IntKind.u64.wrap e.level % 2 + 1 ∧ IntKind.u64.wrap e.level % 2 + 1 ≤ 9 := by omega
  have hn : 0 ≤ (mk e).node ∧ (mk e).node ≤ 9 := ite_bound hn2
  have hl : 0 ≤ (mk e).level ∧ (mk e).level ≤ 9 := ite_bound hl2
  refine ⟨?_, mk_right e ok.d1 ok.o1, hdat, hold, hn.1, hn.2⟩
  constructor
  all_goals first
    | exact Int.le_trans (by omega) hn.1
    | exact Int.le_trans hn.2 (by omega)
    | exact Int.le_trans (by omega) hl.1
    | exact Int.le_trans hl.2 (by omega)
    | exact Nat.le_trans hdat (by omega)
    | exact Nat.le_trans hold (by omega)
    | (unfold mk part; dsimp only; omega)
    | (unfold mk part; dsimp only; split <;> omega)
structure Mades (B : Nat) (A : Option Addr) (n : Nat) (L : List (En × Bool)) (w : World) : Prop where
  len : L.length = n
  at_ : ∀ i p, L[i]? = some p → ∃ a, A = some a ∧ a.block < B ∧ ∀ j, j < 12 → w.cell? ((a.add (i * 12)).add j) = (mdc p.1 p.2)[j]?
end Go.Proofs.YtmencfmjmbbfhaaDoor
