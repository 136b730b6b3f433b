/-
  The contracts of the law's whole and examples.
  Conditions: named in each theorem.
-/
import Derived.Test.YtdoombcihobejaaGreatRd
import Derived.Test.YtdoombcihobejaaGreatVFix
namespace Go.Proofs.YtdoombcihobejaaGreat
open Go.RowKit Dk
set_option linter.unusedVariables false
/-- So many bytes 0. -/
def Dk.zeros (n : Nat) : List UInt8 := List.replicate n 0
theorem conv_made {w : World} {B n : Nat} {v : Value} (h : w.ownsRow B 5 1 v n (madeCells (Value.int .u8 0).cells (n * 1)).toList) (hn : 0 < n) : (convert 67 9 v).run Tryz.prog w = .ok (.string (txt (Dk.zeros n))) w := by
  obtain ⟨g, cap, rfl, _⟩ := h.form hn
  refine conv_sec (by simp [Dk.zeros]) (fun j u hu => ?_)
  have hj : j < n := by have := (List.getElem?_eq_some_iff.1 hu).1; simpa [Lib.byteCells_length, Dk.zeros] using this
  rw [Nat.zero_add, h.cellAt j (by omega), Array.getElem?_toList, madeCells_get _ _ _ (by omega)]
  unfold Dk.zeros Lib.byteCells at hu
  rw [List.map_replicate, List.getElem?_replicate, if_pos hj] at hu
  rw [← hu]
  have e : (Value.int IntKind.u8 0).cells = #[Value.int .u8 0] := rfl
  rw [e]
  simp [Nat.mod_one]
theorem txt_append (a b : List UInt8) : txt a ++ txt b = txt (a ++ b) := by
  apply ByteArray.ext; simp [txt, ByteArray.data_append]
theorem txt_extract (l : List UInt8) (i j : Nat) : (txt l).extract i j = txt ((l.take j).drop i) := by
  apply ByteArray.ext; simp [txt, ByteArray.data_extract, List.drop_take]
theorem refuses_yes_eq {d : St} {i : Int} (hd : d.dead = false) (h0 : 0 ≤ i) (h1 : i < d.n) : d.refuses i = 0 := by
  unfold St.refuses
  rw [hd, if_neg (by decide), if_neg (by omega)]
theorem refuses_no_eq {d : St} {i : Int} (hd : d.dead = false) (h0 : i < 0 ∨ (d.n : Int) ≤ i) : d.refuses i = 5 := by
  unfold St.refuses
  rw [hd, if_neg (by decide), if_pos h0]
theorem write_ok_eq {d : St} {i : Nat} {s : List UInt8} (hl : d.left < 0) (hd : d.dead = false) (hi : i < d.n) (hs : s.length ≤ 64) : d.write i s = (d.put i (pad s), 0) := by
  unfold St.write
  rw [if_neg (by rw [refuses_yes_eq hd (by omega) (by omega)]; simp), if_neg (by omega)]
  unfold St.try_
  rw [if_neg (by omega), hd, if_neg (by decide)]
  have e : d.step = d := by
    unfold St.step
    rw [if_neg (by omega)]
  rw [e]; rfl
theorem write_no_eq {d : St} {i : Int} {s : List UInt8} (hd : d.dead = false) (h0 : i < 0 ∨ (d.n : Int) ≤ i) : d.write i s = (d, 5) := by
  unfold St.write
  rw [if_pos (by rw [refuses_no_eq hd h0]; decide), refuses_no_eq hd h0]
theorem flush_ok_eq {d : St} (hl : d.left < 0) (hd : d.dead = false) : d.flush = (d.settle, 0) := by
  unfold St.flush St.try_
  rw [if_neg (by omega), hd, if_neg (by decide)]
  have e : d.step = d := by
    unfold St.step
    rw [if_neg (by omega)]
  rw [e]
theorem readS_eq {d : St} {i : Nat} (hd : d.dead = false) (hi : i < d.n) : d.readS i = d.now i := by
  unfold St.readS
  rw [if_pos (refuses_yes_eq hd (by omega) (by omega))]; rfl
end Go.Proofs.YtdoombcihobejaaGreat
