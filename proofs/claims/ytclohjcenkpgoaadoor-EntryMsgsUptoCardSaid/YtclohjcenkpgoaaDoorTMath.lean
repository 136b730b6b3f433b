/-
  What is right, and differs in one field, has another text.
  Conditions: named in each theorem.
-/
import Derived.Test.YtclohjcenkpgoaaDoorSame
import Derived.Test.YtclohjcenkpgoaaDoorMade
namespace Go.Proofs.YtclohjcenkpgoaaDoor
open Go.RowKit
set_option linter.unusedVariables false

theorem app_left {a b c : ByteArray} (h : a ++ b = a ++ c) : b = c := by
  have h1 := congrArg (fun x : ByteArray => x.data.toList) h
  simp only [ByteArray.data_append, Array.toList_append] at h1
  exact ByteArray.ext (Array.toList_inj.1 (List.append_cancel_left h1))
theorem app_right {a b c : ByteArray} (h : a ++ c = b ++ c) : a = b := by
  have h1 := congrArg (fun x : ByteArray => x.data.toList) h
  simp only [ByteArray.data_append, Array.toList_append] at h1
  exact ByteArray.ext (Array.toList_inj.1 (List.append_cancel_right h1))
theorem str_inj {a b : List UInt8} (h : str a = str b) : a = b := List.toArray_inj (congrArg ByteArray.data h)
theorem body_eq (L : ByteArray) (e : En) : bodyL L e 7 = piece L e 99 ++ (piece L e 98 ++ (piece L e 109 ++ (piece L e 110 ++ (piece L e 108 ++ (piece L e 100 ++ piece L e 111))))) := by
  show List.flatMap (piece L e) [99, 98, 109, 110, 108, 100, 111] = _
  simp only [List.flatMap_cons, List.flatMap_nil, List.append_nil]
theorem piece_tell {L : ByteArray} {e f : En} {c : Int} (h : hasL L c = true) (hp : piece L e c = piece L f c) : tell c e = tell c f := by
  unfold piece at hp
  rw [if_pos h, if_pos h] at hp
  exact ByteArray.ext (Array.toList_inj.1 (List.append_cancel_left hp))
theorem ba_of_beq {a b : ByteArray} (h : (a == b) = true) : a = b := by
  cases a; cases b
  first
    | exact eq_of_beq h
    | exact congrArg ByteArray.mk (eq_of_beq h)
    | simpa using h
theorem sameB_iff (a b : En) : sameB a b = true ↔ a = b := by
  unfold sameB
  simp only [Bool.and_eq_true, decide_eq_true_eq]
  constructor
  · rintro ⟨h1, h2, h3, h4, h5, h6, h7, h8, h9, h10, h11⟩
    have e1 : a.data = b.data := by
      have := beq_toListBytes a.data b.data
      rw [h10] at this
      exact ba_of_beq (by simpa using this)
    have e2 : a.old = b.old := by
      have := beq_toListBytes a.old b.old
      rw [h11] at this
      exact ba_of_beq (by simpa using this)
    cases a; cases b
    simp_all
  · rintro rfl
    exact ⟨rfl, rfl, rfl, rfl, rfl, rfl, rfl, rfl, rfl, rfl, rfl⟩

/-- What is asked holds. -/
theorem right_lims {e : En} (h : rightB e = true) : fb e.kind = true ∧ 1 ≤ e.term ∧ 1 ≤ e.index ∧ lim (fl e.kind) 99 e.client 1 18446744073709551615 = true ∧ lim (fl e.kind) 99 e.seq 0 18446744073709551615 = true ∧ lim (fl e.kind) 98 e.block 0 4294967295 = true ∧ lim (fl e.kind) 109 e.many 0 4294967295 = true ∧
    lim (fl e.kind) 110 (IntKind.u64.wrap e.node) 1 7 = true ∧ lim (fl e.kind) 108 (IntKind.u64.wrap e.level) 1 2 = true ∧ lim (fl e.kind) 100 (IntKind.u64.wrap e.data.size) 0 64 = true ∧ lim (fl e.kind) 111 (IntKind.u64.wrap e.old.size) 0 64 = true := by
  unfold rightB asks at h
  simpa only [List.all_cons, List.all_nil, id, Bool.and_true, Bool.and_eq_true, decide_eq_true_eq] using h
theorem lim_no {L : ByteArray} {c n lo hi : Int} (hh : hasL L c = false) (h : lim L c n lo hi = true) : n = 0 := by
  unfold lim at h
  rw [if_neg (by rw [hh]; simp)] at h
  simpa using h
theorem size_no {s : ByteArray} (hs : s.size ≤ 140737488351232) (h : IntKind.u64.wrap s.size = 0) : s = ⟨#[]⟩ := by
  rw [IntKind.wrap_u64] at h
  have h0 : s.size = 0 := by omega
  apply ByteArray.ext
  exact Array.eq_empty_of_size_eq_zero h0
theorem u64_id {x : Int} (h0 : 0 ≤ x) (h1 : x ≤ 9223372036854775807) : IntKind.u64.wrap x = x := by rw [IntKind.wrap_u64]; omega
theorem cut64_size (s : ByteArray) (hs : s.size ≤ 140737488351232) : (cut64 s).size ≤ 64 := by
  unfold cut64
  rw [ByteArray.size_extract]
  omega
theorem lim_yes {L : ByteArray} {c n lo hi : Int} (hh : hasL L c = true) (h1 : lo ≤ n) (h2 : n ≤ hi) : lim L c n lo hi = true := by
  unfold lim
  rw [if_pos hh, decide_eq_true h1, decide_eq_true h2]; rfl
theorem lim_zero {L : ByteArray} {c n lo hi : Int} (hh : hasL L c = false) (h : n = 0) : lim L c n lo hi = true := by
  unfold lim
  rw [if_neg (by rw [hh]; simp), h]; rfl
theorem lim_if {L : ByteArray} {c lo hi : Int} {n : Int} (h1 : lo ≤ n) (h2 : n ≤ hi) : lim L c (if hasL L c then n else 0) lo hi = true := by
  cases hh : hasL L c with
  | true => rw [if_pos rfl]; exact lim_yes hh h1 h2
  | false => rw [if_neg (by simp)]; exact lim_zero hh rfl
theorem lim_ifw {L : ByteArray} {c lo hi : Int} {n : Int} (h0 : 0 ≤ n) (h9 : n ≤ 9) (h1 : lo ≤ n) (h2 : n ≤ hi) : lim L c (IntKind.u64.wrap (if hasL L c then n else 0)) lo hi = true := by
  cases hh : hasL L c with
  | true => rw [if_pos rfl, u64_id h0 (by omega)]; exact lim_yes hh h1 h2
  | false => rw [if_neg (by simp)]; exact lim_zero hh rfl
theorem lim_ifs {L : ByteArray} {c : Int} {x : ByteArray} (h : x.size ≤ 64) : lim L c (IntKind.u64.wrap (((if hasL L c then x else ⟨#[]⟩ : ByteArray).size : Nat) : Int)) 0 64 = true := by
  cases hh : hasL L c with
  | true => rw [if_pos rfl, u64_id (by omega) (by omega)]; exact lim_yes hh (by omega) (by omega)
  | false => rw [if_neg (by simp)]; exact lim_zero hh rfl
theorem hasT_L (L : ByteArray) (c : Int) : hasT L.data.toList c = hasL L c := rfl
theorem mk_right (e : En) (hd : e.data.size ≤ 140737488351232) (ho : e.old.size ≤ 140737488351232) : rightB (mk e) = true := by
  have r0 := Int.emod_nonneg e.kind (show (12:Int) ≠ 0 by omega)
  have r1 := Int.emod_lt_of_pos e.kind (show (0:Int) < 12 by omega)
  have k1 := cut64_size e.data hd
  have k2 := cut64_size e.old ho
  have hfb : fb (e.kind % 12) = true := decide_eq_true (by omega)
  have w1 : ∀ (n m : Int), 0 < m → m ≤ 7 → 1 ≤ IntKind.u64.wrap n % m + 1 ∧ IntKind.u64.wrap n % m + 1 ≤ m := fun n m h h' => by
    have h1 := Int.emod_nonneg (IntKind.u64.wrap n) (show m ≠ 0 by omega)
    have h2 := Int.emod_lt_of_pos (IntKind.u64.wrap n) h
    omega
  have wn := w1 e.node 7 (by omega) (by omega)
  have wl := w1 e.level 2 (by omega) (by omega)
  have nt : 1 ≤ e.term % 1000 + 1 := by have := Int.emod_nonneg e.term (show (1000:Int) ≠ 0 by omega); omega
  have ni : 1 ≤ e.index % 1000 + 1 := by have := Int.emod_nonneg e.index (show (1000:Int) ≠ 0 by omega); omega
  have c1 := Int.emod_nonneg e.client (show (5:Int) ≠ 0 by omega)
  have c2 := Int.emod_lt_of_pos e.client (show (0:Int) < 5 by omega)
  have q1 := Int.emod_nonneg e.seq (show (9:Int) ≠ 0 by omega)
  have q2 := Int.emod_lt_of_pos e.seq (show (0:Int) < 9 by omega)
  have b1 := Int.emod_nonneg e.block (show (9:Int) ≠ 0 by omega)
  have b2 := Int.emod_lt_of_pos e.block (show (0:Int) < 9 by omega)
  have m1 := Int.emod_nonneg e.many (show (9:Int) ≠ 0 by omega)
  have m2 := Int.emod_lt_of_pos e.many (show (0:Int) < 9 by omega)
  unfold rightB asks
  rw [List.all_eq_true]
  intro x hx
  simp only [List.mem_cons, List.not_mem_nil, or_false] at hx
  rcases hx with rfl | rfl | rfl | rfl | rfl | rfl | rfl | rfl | rfl | rfl | rfl
  · exact hfb
  · exact decide_eq_true nt
  · exact decide_eq_true ni
  · exact lim_if (L := fl (e.kind % 12)) (c := 99) (n := e.client % 5 + 1) (by omega) (by omega)
  · exact lim_if (L := fl (e.kind % 12)) (c := 99) (n := e.seq % 9) (by omega) (by omega)
  · exact lim_if (L := fl (e.kind % 12)) (c := 98) (n := e.block % 9) (by omega) (by omega)
  · exact lim_if (L := fl (e.kind % 12)) (c := 109) (n := e.many % 9) (by omega) (by omega)
  · exact lim_ifw (L := fl (e.kind % 12)) (c := 110) (n := IntKind.u64.wrap e.node % 7 + 1) (by omega) (by omega) wn.1 wn.2
  · exact lim_ifw (L := fl (e.kind % 12)) (c := 108) (n := IntKind.u64.wrap e.level % 2 + 1) (by omega) (by omega) wl.1 wl.2
  · exact lim_ifs (L := fl (e.kind % 12)) (c := 100) (x := cut64 e.data) k1
  · exact lim_ifs (L := fl (e.kind % 12)) (c := 111) (x := cut64 e.old) k2
end Go.Proofs.YtclohjcenkpgoaaDoor
