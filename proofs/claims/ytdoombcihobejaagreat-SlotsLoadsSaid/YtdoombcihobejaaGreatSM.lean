/-
  A sector of a pair, as plain mathematics: the sum, the gen, the length, the body, bytes 0; what is read of it.
  Conditions: named in each theorem.
-/
import Derived.Test.YtdoombcihobejaaGreatFM
import Derived.Test.YtdoombcihobejaaGreatMem
import Derived.Test.YtdoombcihobejaaGreatCM
namespace Go.Proofs.YtdoombcihobejaaGreat
open Go.RowKit Vi
namespace Sp
def zB (n : Nat) : ByteArray := ⟨(List.replicate n 0).toArray⟩
theorem zB_size (n : Nat) : (zB n).size = n := by show (List.replicate n (0 : UInt8)).toArray.size = n; simp
def rest (g : Nat) (b : ByteArray) : ByteArray := fxB g 8 ++ fxB b.size 1 ++ b ++ zB (51 - b.size)
def cell (g : Nat) (b : ByteArray) : ByteArray := Crc.putB (rest g b)
def cO (g : Nat) (b : ByteArray) : Bool := !(decide (g = 0) || decide (51 < b.size))
def cS (g : Nat) (b : ByteArray) : ByteArray := if cO g b then cell g b else ⟨#[]⟩
theorem cO_iff (g : Nat) (b : ByteArray) : cO g b = true ↔ g ≠ 0 ∧ b.size ≤ 51 := by
  unfold cO; simp only [Bool.not_eq_true', Bool.or_eq_false_iff, decide_eq_false_iff_not]; omega
theorem cS_yes {g : Nat} {b : ByteArray} (h : cO g b = true) : cS g b = cell g b := by unfold cS; rw [if_pos h]
theorem cS_no {g : Nat} {b : ByteArray} (h : cO g b = false) : cS g b = ⟨#[]⟩ := by unfold cS; rw [if_neg (by rw [h]; decide)]
theorem rest_size (g : Nat) (b : ByteArray) (hb : b.size ≤ 51) : (rest g b).size = 60 := by
  have h1 : (fxB g (8 : Int)).size = 8 := fxB_size g 8 (by omega)
  have h2 : (fxB b.size (1 : Int)).size = 1 := fxB_size b.size 1 (by omega)
  unfold rest
  rw [ByteArray.size_append, ByteArray.size_append, ByteArray.size_append, zB_size]
  omega
theorem cell_size (g : Nat) (b : ByteArray) (hb : b.size ≤ 51) : (cell g b).size = 64 := by
  unfold cell; rw [Crc.putB_size, rest_size g b hb]
theorem cS_size (g : Nat) (b : ByteArray) : (cS g b).size ≤ 64 := by
  unfold cS
  split
  · rename_i h; rw [cell_size g b ((cO_iff g b).1 h).2]; omega
  · exact Nat.zero_le _
/-- What a reader behind the sum finds. -/
def t4 (s : ByteArray) : ByteArray := bytT s 4
def gG (s : ByteArray) : Nat := fixV (t4 s) 8
def gN (s : ByteArray) : Nat := fixV (fixT (t4 s) 8) 1
def gR (s : ByteArray) : ByteArray := fixT (fixT (t4 s) 8) 1
def gB (s : ByteArray) : ByteArray := bytV (gR s) (gN s)
def gO (s : ByteArray) : Bool := cO (gG s) (gB s) && ((cS (gG s) (gB s)).toList == s.toList)
def getG (s : ByteArray) : Nat := if gO s then gG s else 0
def getB (s : ByteArray) : ByteArray := if gO s then gB s else ⟨#[]⟩
theorem beqL (a b : ByteArray) : (a.toList == b.toList) = true ↔ a = b := by
  constructor
  · intro h
    have h1 := eq_of_beq h
    rw [ByteArray.toList_eq, ByteArray.toList_eq] at h1
    exact ByteArray.ext (Array.toList_inj.1 h1)
  · rintro rfl; simp
theorem gN_lt (s : ByteArray) : gN s < 256 := fixV_lt1 _
theorem gG_lt (s : ByteArray) : gG s < 18446744073709551616 := by
  unfold gG fixV
  split
  · exact be_take_lt (nums (t4 s)) (nums_getD_lt _) 8
  · omega
theorem head4 (n : Nat) : (Crc.head n).size = 4 := Crc.head_size n
theorem cell_reads (g : Nat) (b : ByteArray) (hg : g < 18446744073709551616) (hb : b.size ≤ 51) : gG (cell g b) = g ∧ gN (cell g b) = b.size ∧ gB (cell g b) = b ∧ gR (cell g b) = b ++ zB (51 - b.size) := by
  have e4 : t4 (cell g b) = rest g b := by
    unfold t4 cell Crc.putB
    have := (byt_put (Crc.head (Crc.moreB 0 (rest g b))) (rest g b)).2.1
    rwa [head4] at this
  have er : rest g b = fxB g 8 ++ (fxB b.size 1 ++ (b ++ zB (51 - b.size))) := by
    unfold rest; rw [ByteArray.append_assoc, ByteArray.append_assoc]
  have fa : ∀ t : ByteArray, fixV (fxB g (8 : Int) ++ t) (8 : Int) = g % 256 ^ 8 ∧ fixT (fxB g (8 : Int) ++ t) (8 : Int) = t := fun t => ⟨(fix_put g 8 (by omega) t).1, (fix_put g 8 (by omega) t).2.1⟩
  have fb : ∀ t : ByteArray, fixV (fxB b.size (1 : Int) ++ t) (1 : Int) = b.size % 256 ^ 1 ∧ fixT (fxB b.size (1 : Int) ++ t) (1 : Int) = t := fun t => ⟨(fix_put b.size 1 (by omega) t).1, (fix_put b.size 1 (by omega) t).2.1⟩
  obtain ⟨a1, a2⟩ := fa (fxB b.size 1 ++ (b ++ zB (51 - b.size)))
  obtain ⟨b1, b2⟩ := fb (b ++ zB (51 - b.size))
  have c1 := (byt_put b (zB (51 - b.size))).1
  unfold gB gR gN gG
  rw [e4, er, a2, b2]
  have hn : fixV (fxB b.size 1 ++ (b ++ zB (51 - b.size))) 1 = b.size := by rw [b1]; omega
  rw [hn]
  exact ⟨by rw [a1]; exact Nat.mod_eq_of_lt hg, rfl, c1, rfl⟩
theorem gO_iff (s : ByteArray) : gO s = true ↔ cO (gG s) (gB s) = true ∧ s = cell (gG s) (gB s) := by
  unfold gO
  rw [Bool.and_eq_true, beqL]
  constructor
  · rintro ⟨h1, h2⟩; rw [cS_yes h1] at h2; exact ⟨h1, h2.symm⟩
  · rintro ⟨h1, h2⟩; rw [cS_yes h1]; exact ⟨h1, h2.symm⟩
theorem gO_cell (g : Nat) (b : ByteArray) (hg : g < 18446744073709551616) (h : cO g b = true) : gO (cell g b) = true := by
  obtain ⟨r1, r2, r3, _⟩ := cell_reads g b hg ((cO_iff g b).1 h).2
  rw [gO_iff, r1, r3]
  exact ⟨h, rfl⟩
theorem get_cell (g : Nat) (b : ByteArray) (hg : g < 18446744073709551616) (h : cO g b = true) : getG (cell g b) = g ∧ getB (cell g b) = b := by
  obtain ⟨r1, r2, r3, _⟩ := cell_reads g b hg ((cO_iff g b).1 h).2
  unfold getG getB
  rw [if_pos (gO_cell g b hg h), if_pos (gO_cell g b hg h), r1, r3]
  exact ⟨rfl, rfl⟩
theorem gO_size {s : ByteArray} (h : gO s = true) : s.size = 64 := by
  obtain ⟨h1, h2⟩ := (gO_iff s).1 h
  rw [h2, cell_size _ _ ((cO_iff _ _).1 h1).2]
theorem gO_pos {s : ByteArray} (h : gO s = true) : getG s ≠ 0 := by
  unfold getG
  rw [if_pos h]
  exact ((cO_iff _ _).1 ((gO_iff s).1 h).1).1
theorem getG_zero {s : ByteArray} : getG s = 0 ↔ gO s = false := by
  constructor
  · intro h
    cases e : gO s
    · rfl
    · exact absurd h (gO_pos e)
  · intro h; unfold getG; rw [if_neg (by rw [h]; decide)]
theorem getB_zero {s : ByteArray} (h : getG s = 0) : getB s = ⟨#[]⟩ := by
  unfold getB; rw [if_neg (by rw [getG_zero.1 h]; decide)]
theorem getG_lt (s : ByteArray) : getG s < 18446744073709551616 := by
  unfold getG; split
  · exact gG_lt s
  · omega
theorem getB_size (s : ByteArray) : (getB s).size ≤ 51 := by
  unfold getB; split
  · rename_i h; exact ((cO_iff _ _).1 ((gO_iff s).1 h).1).2
  · exact Nat.zero_le _
/-- The document's way: the length cut to 51. -/
def gB2 (s : ByteArray) : ByteArray := bytV (gR s) (if 51 < gN s then 51 else gN s)
def gO2 (s : ByteArray) : Bool := cO (gG s) (gB2 s) && ((cS (gG s) (gB2 s)).toList == s.toList)
theorem gO2_eq (s : ByteArray) : gO2 s = gO s ∧ (gO s = true → gB2 s = gB s) := by
  by_cases h : 51 < gN s
  · have n1 : gO s = false := by
      cases e : gO s
      · rfl
      · exfalso
        obtain ⟨h1, h2⟩ := (gO_iff s).1 e
        have := (cell_reads (gG s) (gB s) (gG_lt s) ((cO_iff _ _).1 h1).2).2.1
        rw [← h2] at this
        have := ((cO_iff _ _).1 h1).2
        omega
    refine ⟨?_, fun e => by rw [n1] at e; cases e⟩
    rw [n1]
    cases e : gO2 s
    · rfl
    · exfalso
      unfold gO2 at e
      rw [Bool.and_eq_true, beqL] at e
      obtain ⟨h1, h2⟩ := e
      rw [cS_yes h1] at h2
      have := (cell_reads (gG s) (gB2 s) (gG_lt s) ((cO_iff _ _).1 h1).2).2.1
      rw [h2] at this
      have := ((cO_iff _ _).1 h1).2
      omega
  · have e : gB2 s = gB s := by unfold gB2 gB; rw [if_neg h]
    unfold gO2
    rw [e]
    exact ⟨rfl, fun _ => rfl⟩
theorem gO_short {s : ByteArray} (h : s.size ≠ 64) : gO s = false := by
  cases e : gO s
  · rfl
  · exact absurd (gO_size e) h
end Sp
end Go.Proofs.YtdoombcihobejaaGreat
