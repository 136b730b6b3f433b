/-
  What Read and Write come to on a device that does not crash: plain mathematics.
  Conditions: named in each theorem.
-/
import Derived.Test.YtdoombcihobejaaGreatSW
import Derived.Test.YtdoombcihobejaaGreatEx
namespace Go.Proofs.YtdoombcihobejaaGreat
open Go.RowKit Vi Sp Dk
set_option linter.unusedVariables false
theorem pad64 {l : List UInt8} (h : l.length = 64) : pad l = l := by unfold pad; rw [h]; simp
theorem txt_pad {c : ByteArray} (h : c.size = 64) : txt (pad c.data.toList) = c := by
  rw [pad64 (by simpa using h), txt_of]
theorem bytes_len (c : ByteArray) : c.data.toList.length = c.size := by simp
/-- A device that works, and goes on working. -/
structure Well (d : St) : Prop where
  dead : d.dead = false
  left : d.left < 0
theorem Well.put {d : St} (h : Well d) (i : Nat) (s : Sec) : Well (d.put i s) := ⟨h.dead, h.left⟩
theorem Well.settle {d : St} (h : Well d) : Well d.settle := ⟨h.dead, h.left⟩
theorem well_fresh (n : Nat) (F : Nat → Sec) : Well (St.fresh n F) := ⟨rfl, by show (-1 : Int) < 0; decide⟩
theorem bothE_ok {d : St} (hd : d.dead = false) {a : Nat} (ha : a + 1 < d.n) : bothE d a = 0 := by
  unfold bothE
  rw [refuses_yes_eq hd (by omega) (by omega), refuses_yes_eq hd (by omega) (by omega)]
  simp
theorem gAt_eq {d d' : St} {i : Int} (h : d'.now i.toNat = d.now i.toNat) : gAt d' i = gAt d i ∧ bAt d' i = bAt d i := by
  unfold gAt bAt secB; rw [h]; exact ⟨rfl, rfl⟩
theorem gAt_cell {d : St} {i : Nat} {g : Nat} {b : ByteArray} (hg : g < 18446744073709551616) (ho : cO g b = true) (h : d.now i = pad (cS g b).data.toList) : gAt d i = g ∧ bAt d i = b := by
  have e : secB d i = cell g b := by
    unfold secB
    rw [Int.toNat_natCast, h, txt_pad (by rw [cS_yes ho, cell_size g b ((cO_iff g b).1 ho).2]), cS_yes ho]
  unfold gAt bAt
  rw [e]
  exact get_cell g b hg ho
theorem gAt_z (d : St) (i : Int) (h : d.now i.toNat = zsec) : gAt d i = 0 ∧ bAt d i = ⟨#[]⟩ := by
  have e : getG (txt zsec) = 0 := by decide +kernel
  have e2 : getB (txt zsec) = ⟨#[]⟩ := getB_zero e
  unfold gAt bAt secB
  rw [h]
  exact ⟨e, e2⟩
/-- What is behind a Write that goes well. -/
def wrD (d : St) (a : Nat) (s : ByteArray) : St := (d.put (a + (wrO d a).toNat) (pad (cS (rdG d a + 1) s).data.toList)).settle
theorem wrO_cases {d : St} {a : Nat} : wrO d a = 0 ∨ wrO d a = 1 := by
  unfold wrO
  have := rdK_le d a
  split
  · exact .inl rfl
  · omega
theorem rdE_ok {d : St} (hd : d.dead = false) {a : Nat} (ha : a + 1 < d.n) : rdE d a = 0 ∨ rdE d a = 6 := by
  unfold rdE
  rw [if_neg (by rw [bothE_ok hd ha]; simp)]
  split
  · exact .inr rfl
  · exact .inl rfl
theorem wr_ok {d : St} (hw : Well d) {a : Nat} (ha : a + 1 < d.n) {s : ByteArray} (hs : s.size ≤ 51) (hg : rdG d a ≠ 18446744073709551615) : wr d a s = (wrD d a s, 0) := by
  unfold wr
  have hE := rdE_ok hw.dead ha
  rw [if_neg (by omega), if_neg (by omega), if_neg hg]
  unfold wrT
  have hsz := cS_size (rdG d a + 1) s
  have e : (a : Int) + wrO d a = ((a + (wrO d a).toNat : Nat) : Int) := by
    rcases wrO_cases (d := d) (a := a) with h | h <;> rw [h] <;> omega
  have hw1 : d.write (a + wrO d a) (cS (rdG d a + 1) s).data.toList = (d.put (a + (wrO d a).toNat) (pad (cS (rdG d a + 1) s).data.toList), 0) := by
    rw [e]
    refine write_ok_eq hw.left hw.dead ?_ (by rw [bytes_len]; exact hsz)
    rcases wrO_cases (d := d) (a := a) with h | h <;> rw [h] <;> simp <;> omega
  rw [hw1]
  simp only [ne_eq, not_true_eq_false, if_false]
  rw [flush_ok_eq (d := d.put _ _) hw.left hw.dead]
  rfl
theorem wr_full {d : St} (hd : d.dead = false) {a : Nat} (ha : a + 1 < d.n) {s : ByteArray} (hs : s.size ≤ 51) (hg : rdG d a = 18446744073709551615) : wr d a s = (d, 4) := by
  unfold wr
  have hE := rdE_ok hd ha
  rw [if_neg (by omega), if_neg (by omega), if_pos hg]
theorem wrD_well {d : St} (hw : Well d) (a : Nat) (s : ByteArray) : Well (wrD d a s) := (hw.put _ _).settle
theorem wrD_n (d : St) (a : Nat) (s : ByteArray) : (wrD d a s).n = d.n := rfl
theorem wrD_now (d : St) (a : Nat) (s : ByteArray) (j : Nat) : (wrD d a s).now j = if j = a + (wrO d a).toNat then pad (cS (rdG d a + 1) s).data.toList else d.now j := by
  show (if j = a + (wrO d a).toNat then some (pad (cS (rdG d a + 1) s).data.toList) else d.wt j).getD (d.fl j) = _
  split <;> rfl
/-- What is read behind a Write that went well. -/
theorem rd_after {d : St} (hw : Well d) {a : Nat} (ha : a + 1 < d.n) {s : ByteArray} (hs : s.size ≤ 51) (hg : rdG d a ≠ 18446744073709551615) :
    rdE (wrD d a s) a = 0 ∧ rdB (wrD d a s) a = s ∧ rdG (wrD d a s) a = rdG d a + 1 ∧ (rdK (wrD d a s) a : Int) = wrO d a := by
  have hlt := rdG_lt d a
  have hco : cO (rdG d a + 1) s = true := (cO_iff _ _).2 ⟨by omega, hs⟩
  have hb : bothE (wrD d a s) a = 0 := bothE_ok (wrD_well hw a s).dead ha
  have hb0 : bothE d a = 0 := bothE_ok hw.dead ha
  have hE := rdE_ok hw.dead ha
  have ha1 : ((a : Int) + 1) = ((a + 1 : Nat) : Int) := by push_cast; rfl
  rcases wrO_cases (d := d) (a := a) with h | h
  · -- the first
    have n0 : (wrD d a s).now a = pad (cS (rdG d a + 1) s).data.toList := by rw [wrD_now, h, if_pos (by simp)]
    have n1 : (wrD d a s).now (a + 1) = d.now (a + 1) := by rw [wrD_now, h, if_neg (by simp)]
    obtain ⟨g0, b0⟩ := gAt_cell (d := wrD d a s) (i := a) (by omega) hco n0
    obtain ⟨g1, b1⟩ := gAt_eq (d := d) (d' := wrD d a s) (i := (a : Int) + 1) (by rw [ha1, Int.toNat_natCast]; exact n1)
    have hle : gAt d ((a : Int) + 1) ≤ rdG d a := by
      unfold wrO at h
      split at h
      · rename_i h6
        unfold rdE at h6
        rw [if_neg (by rw [hb0]; simp)] at h6
        split at h6
        · rename_i hz; omega
        · omega
      · rename_i h6
        have e0 : rdE d a = 0 := by omega
        unfold rdG; rw [if_pos e0]; split <;> omega
    have hE' : rdE (wrD d a s) a = 0 := rdE_zero hb (.inl (by rw [g0]; omega))
    have hnl : ¬ gAt (wrD d a s) a < gAt (wrD d a s) ((a : Int) + 1) := by rw [g0, g1]; omega
    refine ⟨hE', ?_, ?_, ?_⟩
    · unfold rdB; rw [if_pos hE', if_neg hnl, b0]
    · unfold rdG; rw [if_pos hE', if_neg hnl]; rw [g0]; rfl
    · unfold rdK; rw [if_pos hE', if_neg hnl, h]; rfl
  · have n0 : (wrD d a s).now (a + 1) = pad (cS (rdG d a + 1) s).data.toList := by rw [wrD_now, h, if_pos (by simp)]
    have n1 : (wrD d a s).now a = d.now a := by rw [wrD_now, h, if_neg (by simp)]
    obtain ⟨g0, b0⟩ := gAt_cell (d := wrD d a s) (i := a + 1) (by omega) hco n0
    rw [← ha1] at g0 b0
    obtain ⟨g1, b1⟩ := gAt_eq (d := d) (d' := wrD d a s) (i := (a : Int)) (by rw [Int.toNat_natCast]; exact n1)
    have hle : gAt d a ≤ rdG d a := by
      unfold wrO at h
      split at h
      · omega
      · rename_i h6
        have e0 : rdE d a = 0 := by omega
        unfold rdG; rw [if_pos e0]; split <;> omega
    have hE' : rdE (wrD d a s) a = 0 := rdE_zero hb (.inr (by rw [g0]; omega))
    have hnl : gAt (wrD d a s) a < gAt (wrD d a s) ((a : Int) + 1) := by rw [g0, g1]; omega
    refine ⟨hE', ?_, ?_, ?_⟩
    · unfold rdB; rw [if_pos hE', if_pos hnl, b0]
    · unfold rdG; rw [if_pos hE', if_pos hnl]; rw [g0]; rfl
    · unfold rdK; rw [if_pos hE', if_pos hnl, h]; rfl
/-- A device on which nothing is. -/
theorem rd_fresh (n : Nat) (a : Nat) (ha : a + 1 < n) : rdE (St.fresh n fun _ => zsec) a = 6 ∧ rdG (St.fresh n fun _ => zsec) a = 0 ∧ rdK (St.fresh n fun _ => zsec) a = 0 ∧ rdB (St.fresh n fun _ => zsec) a = ⟨#[]⟩ := by
  have h0 := (gAt_z (St.fresh n fun _ => zsec) a rfl).1
  have h1 := (gAt_z (St.fresh n fun _ => zsec) (a + 1) rfl).1
  have hE : rdE (St.fresh n fun _ => zsec) a = 6 := by
    unfold rdE
    rw [if_neg (by rw [bothE_ok (d := St.fresh n fun _ => zsec) rfl (by exact ha)]; simp), if_pos ⟨h0, h1⟩]
  refine ⟨hE, ?_, ?_, ?_⟩
  · unfold rdG; rw [if_neg (by rw [hE]; decide)]
  · unfold rdK; rw [if_neg (by rw [hE]; decide)]
  · unfold rdB; rw [if_neg (by rw [hE]; decide)]
end Go.Proofs.YtdoombcihobejaaGreat
