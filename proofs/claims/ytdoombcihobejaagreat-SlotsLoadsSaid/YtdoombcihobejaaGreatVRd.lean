/-
  Readers in memory, and the contracts of their small methods.
  Conditions: named in each theorem.
-/
import Derived.Test.YtdoombcihobejaaGreatVPut
import Derived.Deep.RegionHeld3
namespace Go.Proofs.YtdoombcihobejaaGreat
open Go.RowKit
set_option linter.unusedVariables false

/-- A reader of struct type T in block g: what is left, whether it failed. -/
def Rd (T g : Nat) (s : ByteArray) (bad : Bool) (w : World) : Prop := w.heap[g]? = some (.cells #[.string s, .bool bad] T (0, 0))
/-- A reader's address. -/
def rdp (g : Nat) : Value := .pointer (some ⟨g, 0, none⟩)
section
variable {T g : Nat} {s : ByteArray} {bad : Bool} {w w' : World}
theorem Rd.lt (h : Rd T g s bad w) : g < w.heap.size := by
  rcases Nat.lt_or_ge g w.heap.size with hlt | hge
  · exact hlt
  · unfold Rd at h; rw [Array.getElem?_eq_none hge] at h; cases h
theorem Rd.cell0 (h : Rd T g s bad w) : w.cell? ⟨g, 0, none⟩ = some (.string s) := cell_of_row w g 0 _ T (0, 0) h
theorem Rd.cell1 (h : Rd T g s bad w) : w.cell? ⟨g, 1, none⟩ = some (.bool bad) := cell_of_row w g 1 _ T (0, 0) h
theorem Rd.frozen (h : Rd T g s bad w) (i : Nat) : w.frozen? ⟨g, i, none⟩ = false := by
  unfold Rd at h
  simp [World.frozen?, h]
theorem Rd.new (w : World) (T : Nat) (s : ByteArray) (bad : Bool) : Rd T w.heap.size s bad (w.alloc (.cells #[.string s, .bool bad] T)) := heap_alloc_new w _
theorem Rd.set0 (h : Rd T g s bad w) (t : ByteArray) : Rd T g t bad (w.setCell ⟨g, 0, none⟩ (.string t)) := by
  unfold Rd at h ⊢
  simp [World.setCell, Array.getElem?_modify, h]
theorem Rd.set1 (h : Rd T g s bad w) (b : Bool) : Rd T g s b (w.setCell ⟨g, 1, none⟩ (.bool b)) := by
  unfold Rd at h ⊢
  simp [World.setCell, Array.getElem?_modify, h]
theorem Rd.grown {row : Option Nat} (h : Rd T g s bad w) (hb : w.grownBy w' row) (hg : some g ≠ row) : Rd T g s bad w' := (hb.block g h.lt hg).trans h
theorem Rd.below {B : Nat} (h : Rd T g s bad w) (hb : Below B w w') (hg : g < B) : Rd T g s bad w' := (hb.block g hg).trans h
theorem Rd.drew (h : Rd T g s bad w) : Rd T g s bad w.drew := h
theorem grownBy_set {i : Nat} (v : Value) : w.grownBy (w.setCell ⟨g, i, none⟩ v) (some g) :=
  ⟨rfl, rfl, rfl, by simp, fun k _ hk => heap_setCell_other w ⟨g, i, none⟩ k v (fun e => hk (by simp [e]))⟩
theorem grownBy_below (h : Below w.heap.size w w') (row : Option Nat) : w.grownBy w' row := ⟨h.os, h.tape, h.output, h.size, fun k hk _ => h.block k hk⟩
theorem below_grownBy {B : Nat} {a : World} (h : Below B a w) (hg : w.grownBy w' (some g)) (hB : B ≤ w.heap.size) (hr : B ≤ g) : Below B a w' :=
  h.grown hg hB (fun k hk => by injection hk with hk; omega)
end

namespace Vi
def tlB (s : ByteArray) : ByteArray := s.extract 1 s.size
def hdB (s : ByteArray) : Nat := (s.data.toList.getD 0 0).toNat
end Vi

theorem new_any (s : ByteArray) (w : World) : Calls Tryz.prog 55 #[.string s] w fun e w' => e = .returned (rdp w.heap.size) ∧ w' = w.alloc (.cells #[.string s, .bool false] 142) := by
  go_enter Tryz.func55, Tryz.ntmps55
  go_wp2
  go_ret
  exact ⟨rfl, rfl⟩
theorem rnew_any (s : ByteArray) (w : World) : Calls Tryz.prog 75 #[.string s] w fun e w' => e = .returned (rdp w.heap.size) ∧ w' = w.alloc (.cells #[.string s, .bool false] 156) := by
  go_enter Tryz.func75, Tryz.ntmps75
  go_wp2
  go_ret
  exact ⟨rfl, rfl⟩
theorem fail_any (g : Nat) (s : ByteArray) (bad : Bool) (w : World) (h : Rd 142 g s bad w) :
    Calls Tryz.prog 85 #[rdp g] w fun e w' => e = .returned (.tuple #[]) ∧ Rd 142 g ⟨#[]⟩ true w' ∧ w.grownBy w' (some g) := by
  have c0 := h.cell0
  have c1 := h.cell1
  have f0 := h.frozen 0
  have f1 := h.frozen 1
  unfold rdp
  go_enter Tryz.func85, Tryz.ntmps85
  go_wp2
  go_end0
  exact ⟨rfl, (h.set0 _).set1 _, (grownBy_set _).trans (grownBy_set _)⟩
theorem rfail_any (g : Nat) (s : ByteArray) (bad : Bool) (w : World) (h : Rd 156 g s bad w) :
    Calls Tryz.prog 98 #[rdp g] w fun e w' => e = .returned (.tuple #[]) ∧ Rd 156 g ⟨#[]⟩ true w' ∧ w.grownBy w' (some g) := by
  have c0 := h.cell0
  have c1 := h.cell1
  have f0 := h.frozen 0
  have f1 := h.frozen 1
  unfold rdp
  go_enter Tryz.func98, Tryz.ntmps98
  go_wp2
  go_end0
  exact ⟨rfl, (h.set1 _).set0 _, (grownBy_set _).trans (grownBy_set _)⟩
theorem left_any (g : Nat) (s : ByteArray) (bad : Bool) (w : World) (h : Rd 142 g s bad w) :
    Calls Tryz.prog 84 #[rdp g] w fun e w' => e = .returned (.int .i64 s.size) ∧ w = w' := by
  have c0 := h.cell0
  unfold rdp
  go_enter Tryz.func84, Tryz.ntmps84
  go_wp2
  go_ret
  exact ⟨rfl, rfl⟩
theorem next_none (g : Nat) (bad : Bool) (w : World) (h : Rd 142 g ⟨#[]⟩ bad w) :
    Calls Tryz.prog 86 #[rdp g] w fun e w' => e = .returned (.int .u8 0) ∧ Rd 142 g ⟨#[]⟩ true w' ∧ w.grownBy w' (some g) := by
  have c0 := h.cell0
  have hF := fail_any g _ bad w h
  have HF := Lib.hid hF
  clear hF
  unfold rdp at *
  go_enter Tryz.func86, Tryz.ntmps86
  go_wp2_with fail
  refine HF.out.mono ?_
  rintro e w1 ⟨rfl, h1, h2⟩
  go_wp2
  go_ret
  exact ⟨rfl, h1, h2⟩
theorem next_some (g : Nat) (s : ByteArray) (bad : Bool) (w : World) (h : Rd 142 g s bad w) (hs : 0 < s.size) (hm : s.size ≤ 281474976710656) :
    Calls Tryz.prog 86 #[rdp g] w fun e w' => e = .returned (.int .u8 (Vi.hdB s)) ∧ Rd 142 g (Vi.tlB s) bad w' ∧ w.grownBy w' (some g) := by
  have c0 := h.cell0
  have f0 := h.frozen 0
  have hne : s.toList.isEmpty = false := by
    rw [Lib.toList_data, List.isEmpty_eq_false_iff]
    intro hn
    have h2 : s.size = s.data.toList.length := by simp
    rw [hn, List.length_nil] at h2; omega
  have hs' : (0 : Int) < s.size := by omega
  unfold rdp
  go_enter Tryz.func86, Tryz.ntmps86
  go_wp2
  go_ret
  refine ⟨?_, h.set0 _, grownBy_set _⟩
  have e : Vi.hdB s = s[0].toNat := by
    unfold Vi.hdB
    rw [List.getD_eq_getElem?_getD, List.getElem?_eq_getElem (by simpa using hs)]; rfl
  rw [e]; rfl

set_option maxHeartbeats 400000 in
theorem clone_any (s : ByteArray) (w : World) (hs : s.size ≤ 281474976710656) :
    Calls Tryz.prog 108 #[.string s] w fun e w' => e = .returned (.string s) ∧ Below w.heap.size w w' := by
  go_enter Tryz.func108, Tryz.ntmps108
  go_wp2_with fail
  refine (Tryz.stringslite_Clone s w hs).mono ?_
  rintro e w1 ⟨rfl, hb⟩
  go_wp2
  go_ret
  exact ⟨rfl, hb⟩



namespace Vi
/-- Are there n bytes? -/
def hasB (s : ByteArray) (n : Int) : Bool := decide (0 ≤ n ∧ n ≤ s.size)
def bytV (s : ByteArray) (n : Int) : ByteArray := if hasB s n = true then s.extract 0 n.toNat else ⟨#[]⟩
def bytT (s : ByteArray) (n : Int) : ByteArray := if hasB s n = true then s.extract n.toNat s.size else ⟨#[]⟩
end Vi

set_option maxHeartbeats 400000 in
theorem bytes_no (g : Nat) (s : ByteArray) (bad : Bool) (n : Int) (w : World) (h : Rd 142 g s bad w) (hn : n < 0 ∨ s.size < n) :
    Calls Tryz.prog 102 #[rdp g, .int .i64 n] w fun e w' => e = .returned (.string ⟨#[]⟩) ∧ Rd 142 g ⟨#[]⟩ true w' ∧ w.grownBy w' (some g) := by
  have hL := Lib.hid (left_any g _ bad w h)
  have hF := Lib.hid (fail_any g _ bad w h)
  rcases hn with hn | hn
  · unfold rdp at *
    go_enter Tryz.func102, Tryz.ntmps102
    go_wp2_with fail
    refine hF.out.mono ?_
    rintro e w1 ⟨rfl, h1, h2⟩
    go_wp2
    go_ret
    exact ⟨rfl, h1, h2⟩
  · have hn0 : ¬ n < 0 := by omega
    have hd : decide (n < 0) = false := by simpa using hn0
    unfold rdp at *
    go_enter Tryz.func102, Tryz.ntmps102
    go_wp2_with fail
    refine hL.out.mono ?_
    rintro e w1 ⟨rfl, rfl⟩
    go_wp2_with fail
    refine hF.out.mono ?_
    rintro e w1 ⟨rfl, h1, h2⟩
    go_wp2
    go_ret
    exact ⟨rfl, h1, h2⟩
set_option maxHeartbeats 400000 in
theorem bytes_yes (g : Nat) (s : ByteArray) (bad : Bool) (n : Nat) (w : World) (h : Rd 142 g s bad w) (hm : s.size ≤ 281474976710656) (hn : n ≤ s.size) :
    Calls Tryz.prog 102 #[rdp g, .int .i64 n] w fun e w' => e = .returned (.string (s.extract 0 n)) ∧ Rd 142 g (s.extract n s.size) bad w' ∧ w.grownBy w' (some g) := by
  have hL := Lib.hid (left_any g _ bad w h)
  have c0 := h.cell0
  have f0 := h.frozen 0
  have hx : (s.extract 0 n).size ≤ 281474976710656 := by rw [ByteArray.size_extract]; omega
  have hn0 : ¬ ((n : Int) < 0) := by omega
  have hn1 : (n : Int) ≤ s.size := by omega
  unfold rdp at *
  go_enter Tryz.func102, Tryz.ntmps102
  go_wp2_with fail
  refine hL.out.mono ?_
  rintro e w1 ⟨rfl, rfl⟩
  go_wp2_with fail
  refine (clone_any _ _ hx).mono ?_
  rintro e w1 ⟨rfl, hb⟩
  go_wp2
  go_ret
  have hr := h.set0 (s.extract n s.size)
  exact ⟨rfl, hr.below hb hr.lt, (grownBy_set _).trans (grownBy_below hb _)⟩
theorem bytes_any (g : Nat) (s : ByteArray) (bad : Bool) (n : Int) (w : World) (h : Rd 142 g s bad w) (hm : s.size ≤ 281474976710656) :
    Calls Tryz.prog 102 #[rdp g, .int .i64 n] w fun e w' => e = .returned (.string (Vi.bytV s n)) ∧ Rd 142 g (Vi.bytT s n) (bad || !Vi.hasB s n) w' ∧ w.grownBy w' (some g) := by
  by_cases hn : 0 ≤ n ∧ n ≤ s.size
  · have e : Vi.hasB s n = true := decide_eq_true hn
    unfold Vi.bytV Vi.bytT
    rw [if_pos e, if_pos e, e, Bool.not_true, Bool.or_false]
    obtain ⟨k, rfl⟩ := Int.eq_ofNat_of_zero_le hn.1
    exact bytes_yes g s bad k w h hm (by omega)
  · have e : Vi.hasB s n = false := decide_eq_false hn
    unfold Vi.bytV Vi.bytT
    rw [e, if_neg (by decide), if_neg (by decide), Bool.not_false, Bool.or_true]
    exact bytes_no g s bad n w h (by omega)

set_option maxHeartbeats 400000 in
theorem rbytes_no (g : Nat) (s : ByteArray) (bad : Bool) (n : Int) (w : World) (h : Rd 156 g s bad w) (hn : bad = true ∨ n < 0 ∨ s.size < n) :
    Calls Tryz.prog 96 #[rdp g, .int .i64 n] w fun e w' => e = .returned (.string ⟨#[]⟩) ∧ Rd 156 g ⟨#[]⟩ true w' ∧ w.grownBy w' (some g) := by
  have c0 := h.cell0
  have c1 := h.cell1
  have hF := Lib.hid (rfail_any g _ bad w h)
  cases bad
  · rcases (show n < 0 ∨ (0 ≤ n ∧ s.size < n) by rcases hn with hn | hn | hn <;> first | (cases hn; done) | omega) with hn | ⟨hn0, hn⟩
    · unfold rdp at *
      go_enter Tryz.func96, Tryz.ntmps96
      go_wp2_with fail
      refine hF.out.mono ?_
      rintro e w1 ⟨rfl, h1, h2⟩
      go_wp2
      go_ret
      exact ⟨rfl, h1, h2⟩
    · have hn0' : ¬ n < 0 := by omega
      unfold rdp at *
      go_enter Tryz.func96, Tryz.ntmps96
      go_wp2_with fail
      refine hF.out.mono ?_
      rintro e w1 ⟨rfl, h1, h2⟩
      go_wp2
      go_ret
      exact ⟨rfl, h1, h2⟩
  · clear hn
    unfold rdp at *
    go_enter Tryz.func96, Tryz.ntmps96
    go_wp2_with fail
    refine hF.out.mono ?_
    rintro e w1 ⟨rfl, h1, h2⟩
    go_wp2
    go_ret
    exact ⟨rfl, h1, h2⟩
set_option maxHeartbeats 400000 in
theorem rbytes_yes (g : Nat) (s : ByteArray) (n : Nat) (w : World) (h : Rd 156 g s false w) (_hm : s.size ≤ 281474976710656) (hn : n ≤ s.size) :
    Calls Tryz.prog 96 #[rdp g, .int .i64 n] w fun e w' => e = .returned (.string (s.extract 0 n)) ∧ Rd 156 g (s.extract n s.size) false w' ∧ w.grownBy w' (some g) := by
  have c0 := h.cell0
  have c1 := h.cell1
  have f0 := h.frozen 0
  have hn0 : ¬ ((n : Int) < 0) := by omega
  have hn1 : (n : Int) ≤ s.size := by omega
  unfold rdp at *
  go_enter Tryz.func96, Tryz.ntmps96
  go_wp2
  go_ret
  exact ⟨rfl, h.set0 _, grownBy_set _⟩
/-- What has failed has nothing left. -/
def Vi.Sane (s : ByteArray) (bad : Bool) : Prop := bad = true → s = ⟨#[]⟩
theorem rbytes_any (g : Nat) (s : ByteArray) (bad : Bool) (n : Int) (w : World) (h : Rd 156 g s bad w) (hs : Vi.Sane s bad) (hm : s.size ≤ 281474976710656) :
    Calls Tryz.prog 96 #[rdp g, .int .i64 n] w fun e w' => e = .returned (.string (Vi.bytV s n)) ∧ Rd 156 g (Vi.bytT s n) (bad || !Vi.hasB s n) w' ∧ w.grownBy w' (some g) := by
  cases bad
  · by_cases hn : 0 ≤ n ∧ n ≤ s.size
    · have e : Vi.hasB s n = true := decide_eq_true hn
      unfold Vi.bytV Vi.bytT
      rw [if_pos e, if_pos e, e, Bool.not_true, Bool.or_false]
      obtain ⟨k, rfl⟩ := Int.eq_ofNat_of_zero_le hn.1
      exact rbytes_yes g s k w h hm (by omega)
    · have e : Vi.hasB s n = false := decide_eq_false hn
      unfold Vi.bytV Vi.bytT
      rw [e, if_neg (by decide), if_neg (by decide), Bool.not_false, Bool.or_true]
      exact rbytes_no g s false n w h (by omega)
  · obtain rfl := hs rfl
    have e1 : Vi.bytV ⟨#[]⟩ n = ⟨#[]⟩ := by
      unfold Vi.bytV; split
      · apply ByteArray.ext; simp
      · rfl
    have e2 : Vi.bytT ⟨#[]⟩ n = ⟨#[]⟩ := by
      unfold Vi.bytT; split
      · apply ByteArray.ext; simp
      · rfl
    rw [e1, e2, Bool.true_or]
    exact rbytes_no g _ true n w h (.inl rfl)
end Go.Proofs.YtdoombcihobejaaGreat
