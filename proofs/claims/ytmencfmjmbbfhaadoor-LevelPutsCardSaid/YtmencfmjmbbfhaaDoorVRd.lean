/-
  Readers in memory, and the contracts of their small methods.
  Conditions: named in each theorem.
-/
import Derived.Test.YtmencfmjmbbfhaaDoorVPut
import Derived.Deep.RegionHeld3
namespace Go.Proofs.YtmencfmjmbbfhaaDoor
open Go.RowKit
set_option linter.unusedVariables false
def Rd (T g : Nat) (s : ByteArray) (bad : Bool) (w : World) : Prop := w.heap[g]? = some (.cells #[.string s, .bool bad] T (0, 0))
def rdp (g : Nat) : Value := .pointer (some ⟨g, 0, none⟩)
section
variable {T g : Nat} {s : ByteArray} {bad : Bool} {w w' : World}
theorem Rd.lt (h : Rd T g s bad w) : g < w.heap.size := by
  rcases Nat.lt_or_ge g w.heap.size with hlt | hge
  · exact hlt
  · unfold Rd at h; rw [Array.getElem?_eq_none hge] at h; cases h
theorem Rd.cell0 (h : Rd T g s bad w) : w.cell? ⟨g, 0, none⟩ = some (.string s) := cell_of_row w g 0 _ T (0, 0) h
theorem Rd.cell1 (h : Rd T g s bad w) : w.cell? ⟨g, 1, none⟩ = some (.bool bad) := cell_of_row w g 1 _ T (0, 0) h
theorem Rd.frozen (h : Rd T g s bad w) (i : Nat) : w.frozen? ⟨g, i, none⟩ = false := by
  unfold Rd at h
  simp [World.frozen?, h]
theorem Rd.set0 (h : Rd T g s bad w) (t : ByteArray) : Rd T g t bad (w.setCell ⟨g, 0, none⟩ (.string t)) := by
  unfold Rd at h ⊢
  simp [World.setCell, Array.getElem?_modify, h]
theorem Rd.set1 (h : Rd T g s bad w) (b : Bool) : Rd T g s b (w.setCell ⟨g, 1, none⟩ (.bool b)) := by
  unfold Rd at h ⊢
  simp [World.setCell, Array.getElem?_modify, h]
theorem Rd.grown {row : Option Nat} (h : Rd T g s bad w) (hb : w.grownBy w' row) (hg : some g ≠ row) : Rd T g s bad w' := (hb.block g h.lt hg).trans h
theorem Rd.drew (h : Rd T g s bad w) : Rd T g s bad w.drew := h
theorem grownBy_set {i : Nat} (v : Value) : w.grownBy (w.setCell ⟨g, i, none⟩ v) (some g) :=
  ⟨rfl, rfl, rfl, by simp, fun k _ hk => heap_setCell_other w ⟨g, i, none⟩ k v (fun e => hk (by simp [e]))⟩
end
namespace Vi
def tlB (s : ByteArray) : ByteArray := s.extract 1 s.size
def hdB (s : ByteArray) : Nat := (s.data.toList.getD 0 0).toNat
end Vi
theorem new_any (s : ByteArray) (w : World) : Calls Tryd.prog 36 #[.string s] w fun e w' => e = .returned (rdp w.heap.size) ∧ w' = w.alloc (.cells #[.string s, .bool false] 94) := by
  go_enter Tryd.func36, Tryd.ntmps36
  go_wp2
  go_ret
  exact ⟨rfl, rfl⟩
theorem fail_any (g : Nat) (s : ByteArray) (bad : Bool) (w : World) (h : Rd 94 g s bad w) :
    Calls Tryd.prog 58 #[rdp g] w fun e w' => e = .returned (.tuple #[]) ∧ Rd 94 g ⟨#[]⟩ true w' ∧ w.grownBy w' (some g) := by
  have c0 := h.cell0
  have c1 := h.cell1
  have f0 := h.frozen 0
  have f1 := h.frozen 1
  unfold rdp
  go_enter Tryd.func58, Tryd.ntmps58
  go_wp2
  go_end0
  exact ⟨rfl, (h.set0 _).set1 _, (grownBy_set _).trans (grownBy_set _)⟩
theorem next_none (g : Nat) (bad : Bool) (w : World) (h : Rd 94 g ⟨#[]⟩ bad w) :
    Calls Tryd.prog 57 #[rdp g] w fun e w' => e = .returned (.int .u8 0) ∧ Rd 94 g ⟨#[]⟩ true w' ∧ w.grownBy w' (some g) := by
  have c0 := h.cell0
  have hF := fail_any g _ bad w h
  have HF := Lib.hid hF
  clear hF
  unfold rdp at *
  go_enter Tryd.func57, Tryd.ntmps57
  go_wp2_with fail
  refine HF.out.mono ?_
  rintro e w1 ⟨rfl, h1, h2⟩
  go_wp2
  go_ret
  exact ⟨rfl, h1, h2⟩
theorem next_some (g : Nat) (s : ByteArray) (bad : Bool) (w : World) (h : Rd 94 g s bad w) (hs : 0 < s.size) (hm : s.size ≤ 281474976710656) :
    Calls Tryd.prog 57 #[rdp g] w fun e w' => e = .returned (.int .u8 (Vi.hdB s)) ∧ Rd 94 g (Vi.tlB s) bad w' ∧ w.grownBy w' (some g) := by
  have c0 := h.cell0
  have f0 := h.frozen 0
  have hne : s.toList.isEmpty = false := by
    rw [Lib.toList_data, List.isEmpty_eq_false_iff]
    intro hn
    have h2 : s.size = s.data.toList.length := by simp
    rw [hn, List.length_nil] at h2; omega
  have hs' : (0 : Int) < s.size := by omega
  unfold rdp
  go_enter Tryd.func57, Tryd.ntmps57
  go_wp2
  go_ret
  refine ⟨?_, h.set0 _, grownBy_set _⟩
  have e : Vi.hdB s = s[0].toNat := by
    unfold Vi.hdB
    rw [List.getD_eq_getElem?_getD, List.getElem?_eq_getElem (by simpa using hs)]; rfl
  rw [e]; rfl
namespace Vi
end Vi
end Go.Proofs.YtmencfmjmbbfhaaDoor
