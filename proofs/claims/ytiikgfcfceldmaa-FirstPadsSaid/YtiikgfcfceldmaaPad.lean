/-
  An entry's bytes, with one behind the data turned, or with more data told than there may be: no entry.
  Conditions: the entry may be put.
-/
import Derived.Test.YtiikgfcfceldmaaBack
import Derived.Test.YtiikgfcfceldmaaBend
namespace Go.Proofs.Ytiikgfcfceldmaa
open Go.RowKit
open Vi
set_option linter.unusedVariables false

theorem crc_str (l : List Nat) : strOfNums (Crc.nums l.length fun j => l.getD j 0) = Vi.str l := by
  unfold Crc.nums Vi.str
  congr 1
  apply List.ext_getElem
  · simp
  · intro i h1 h2
    have hi : i < l.length := by simpa using h1
    simp [List.getD_eq_getElem?_getD, List.getElem?_eq_getElem hi]
theorem prs_data (s : ByteArray) : (prs s).data = dat s := by
  unfold prs prd
  dsimp only
theorem nd_at (s : ByteArray) (h : 110 ≤ s.size) : nd s = (nums s).getD 43 0 := by
  obtain ⟨_, _, _, _, _, _, _, _, e9, _, _⟩ := t_all s (by omega)
  unfold nd
  rw [e9]
  have hf := (fix_yes (sk s 43) 1 (by omega) (by rw [sk_size]; omega)).1
  have hl : 43 < (nums s).length := by rw [nums_length]; omega
  have h1 : ((nums s).drop 43).take 1 = [(nums s).getD 43 0] := by
    rw [List.drop_eq_getElem_cons hl, List.take_succ_cons, List.take_zero, List.getD_eq_getElem?_getD, List.getElem?_eq_getElem hl]
    rfl
  rw [nums_sk, h1] at hf
  refine hf.trans ?_
  unfold be
  simp
theorem beh_at (s : ByteArray) (h : 110 ≤ s.size) (hn : nd s ≤ 66) (p : Nat) (hp : p < 66 - nd s) : (nums (beh s)).getD p 0 = (nums s).getD (44 + nd s + p) 0 := by
  rw [(t_rest s h hn).2.1, nums_extract, nums_sk, List.drop_zero, Nat.sub_zero]
  rw [List.getD_eq_getElem?_getD, List.getD_eq_getElem?_getD, List.getElem?_take, if_pos hp, List.getElem?_drop]
theorem zer_at {s : ByteArray} (ho : getO s = true) (p : Nat) (hp : p < 66 - nd s) : (nums s).getD (44 + nd s + p) 0 = 0 := by
  obtain ⟨h, hn⟩ := getO_size ho
  unfold getO at ho
  simp only [Bool.and_eq_true, decide_eq_true_eq] at ho
  have hb := ho.2.2
  rw [← beh_at s h hn p hp, hb, nums_zer, List.getD_eq_getElem?_getD, List.getElem?_replicate]
  split <;> rfl
section
variable {X : En} (ok : X.Ok) (h : mayB X = true) (p by_ v : Nat) (hp : p < 66 - X.data.size)
include ok h
theorem put_facts : getO (pb X) = true ∧ getE (pb X) = X ∧ nd (pb X) = X.data.size ∧ (nums (pb X)).length = 110 ∧ X.data.size ≤ 64 := by
  have fw := few_of ok (mayB_right h)
  have e := got_put ok h ⟨#[]⟩
  have e0 : pb X ++ ⟨#[]⟩ = pb X := by apply ByteArray.ext; simp
  rw [e0] at e
  have hps := pb_size fw
  refine ⟨e.1, e.2.1, ?_, by rw [nums_length, hps], fw.d⟩
  have hn := nd_at (pb X) (by omega)
  have hg := e.2.1
  unfold getE at hg
  rw [if_pos e.1] at hg
  have hd : (prs (pb X)).data.size = X.data.size := by rw [hg]
  rw [prs_data] at hd
  have hs := getO_size e.1
  have ht := (t_rest (pb X) hs.1 hs.2).1
  rw [ht, ByteArray.size_extract, sk_size] at hd
  omega
include hp
theorem pad_zero : (nums (pb X)).set (44 + X.data.size + p) 0 = nums (pb X) := by
  obtain ⟨f1, f2, f3, f4, f5⟩ := put_facts ok h
  have hz := zer_at f1 p (by rw [f3]; exact hp)
  rw [f3] at hz
  apply List.ext_getElem
  · simp
  · intro i h1 h2
    rw [List.getElem_set]
    split
    · rename_i he
      subst he
      rw [List.getD_eq_getElem?_getD, List.getElem?_eq_getElem h2] at hz
      exact hz.symm
    · rfl
theorem pads_one (hb : by_ < 256) : getO (Vi.str ((nums (pb X)).set (44 + X.data.size + p) by_)) = (by_ == 0) ∧ (by_ = 0 → getE (Vi.str ((nums (pb X)).set (44 + X.data.size + p) by_)) = X) := by
  obtain ⟨f1, f2, f3, f4, f5⟩ := put_facts ok h
  by_cases h0 : by_ = 0
  · subst h0
    rw [pad_zero ok h p hp]
    have e : Vi.str (nums (pb X)) = pb X := nums_inj (nums_str _ (nums_lt _))
    rw [e, f1]
    exact ⟨rfl, fun _ => f2⟩
  · have hbe : (by_ == 0) = false := by simpa using h0
    rw [hbe]
    refine ⟨?_, fun e => absurd e h0⟩
    have hlt : ∀ x ∈ (nums (pb X)).set (44 + X.data.size + p) by_, x < 256 := by
      intro x hx
      rcases List.mem_or_eq_of_mem_set hx with hx | hx
      · exact nums_lt _ x hx
      · omega
    have hU := nums_str _ hlt
    have hsz : (Vi.str ((nums (pb X)).set (44 + X.data.size + p) by_)).size = 110 := by rw [str_size, List.length_set, f4]
    cases ho : getO (Vi.str ((nums (pb X)).set (44 + X.data.size + p) by_)) with
    | false => rfl
    | true =>
      exfalso
      have hnd : nd (Vi.str ((nums (pb X)).set (44 + X.data.size + p) by_)) = X.data.size := by
        rw [nd_at _ (by omega), hU, List.getD_eq_getElem?_getD, List.getElem?_set_ne (by omega), ← List.getD_eq_getElem?_getD, ← nd_at _ (by rw [nums_length] at f4; omega), f3]
      have hz := zer_at ho p (by rw [hnd]; exact hp)
      rw [hnd, hU, List.getD_eq_getElem?_getD, List.getElem?_set_self (by omega)] at hz
      exact h0 hz
theorem pads_two (hv : 65 ≤ v) (hv2 : v < 256) : getO (Vi.str (((nums (pb X)).set (44 + X.data.size + p) 0).set 43 v)) = false := by
  obtain ⟨f1, f2, f3, f4, f5⟩ := put_facts ok h
  rw [pad_zero ok h p hp]
  have hlt : ∀ x ∈ (nums (pb X)).set 43 v, x < 256 := by
    intro x hx
    rcases List.mem_or_eq_of_mem_set hx with hx | hx
    · exact nums_lt _ x hx
    · omega
  have hU := nums_str _ hlt
  have hsz : (Vi.str ((nums (pb X)).set 43 v)).size = 110 := by rw [str_size, List.length_set, f4]
  cases ho : getO (Vi.str ((nums (pb X)).set 43 v)) with
  | false => rfl
  | true =>
    exfalso
    have hnd : nd (Vi.str ((nums (pb X)).set 43 v)) = v := by
      rw [nd_at _ (by omega), hU, List.getD_eq_getElem?_getD, List.getElem?_set_self (by omega)]
      rfl
    have hs := getO_size ho
    have hm : mayB (prs (Vi.str ((nums (pb X)).set 43 v))) = true := by
      unfold getO at ho
      simp only [Bool.and_eq_true] at ho
      exact ho.2.1
    have hd : (prs (Vi.str ((nums (pb X)).set 43 v))).data.size = v := by
      rw [prs_data, (t_rest _ hs.1 hs.2).1, ByteArray.size_extract, sk_size, hnd]
      omega
    have hR := mayB_right hm
    unfold rightB asks at hR
    simp only [List.all_cons, List.all_nil, id, Bool.and_true, Bool.and_eq_true, lim_facts] at hR
    have h9 := hR.2.2.2.2.2.2.2.2.2.1
    rw [hd, IntKind.wrap_u64] at h9
    have hs2 := hs.2
    rw [hnd] at hs2
    cases hb : hasL (fl (prs (Vi.str ((nums (pb X)).set 43 v))).kind) 100 with
    | true => have := (h9.1 hb).2; omega
    | false => have := h9.2 hb; omega
end
end Go.Proofs.Ytiikgfcfceldmaa
