/-
  The devices of WalLoses: what is read behind a crash.
  Conditions: named in each theorem.
-/
import Derived.Test.YtnobeoppffoomaaGreatWLo
import Derived.Test.YtnobeoppffoomaaGreatWBn
import Derived.Test.YtnobeoppffoomaaGreatG33
import Derived.Test.YtnobeoppffoomaaGreatG34
namespace Go.Proofs.YtnobeoppffoomaaGreat
open Go.RowKit
set_option linter.unusedVariables false
set_option linter.unusedSimpArgs false
open Dk Vi
theorem write_fl (d : St) (i : Int) (s : List UInt8) (j : Nat) : (d.write i s).1.fl j = d.fl j := by
  unfold St.write St.try_
  split
  · rfl
  · split
    · rfl
    · split
      · rfl
      · split <;> rfl
theorem wrL_fl (first : Nat) (l : List UInt8) : ∀ (r k : Nat) (d : St) (j : Nat), (wrL first l r k d).1.fl j = d.fl j
  | 0, k, d, j => rfl
  | r + 1, k, d, j => by
    rw [wrL]
    split
    · rw [wrL_fl first l r (k + 1), write_fl]
    · exact write_fl _ _ _ _
theorem addG_fl (d : St) (at_ m u : Nat) (v : Int) (es : List En) (j : Nat) : (addG d at_ m v u es).1.fl j = d.fl j := by
  unfold addG
  split
  · rfl
  · split
    · rfl
    · split
      · rfl
      · split
        · unfold wrS; exact wrL_fl _ _ _ _ _ _
        · unfold wrS; exact wrL_fl _ _ _ _ _ _
theorem flush_fl {d : St} {n : Nat} (h : Alv d n) (j : Nat) : d.flush.1.fl j = d.now j := by
  have e : d.flush = (d.step.settle, 0) := by
    unfold St.flush St.try_
    rw [if_neg (by rw [h.l]; decide), if_neg (by rw [h.x]; decide)]
  rw [e]
  rfl
theorem after_now (d : St) (lost : List Int) (j : Nat) : (d.after lost).now j = if (j : Int) ∈ lost then d.fl j else d.now j := by
  unfold St.after St.settle St.now
  dsimp only
  by_cases h : (j : Int) ∈ lost
  · simp [h]
  · simp [h]
theorem sx_get (T : List UInt8) (i r : Nat) (hr : r < 64) : (sx T i).getD r 0 = T.getD (i * 64 + r) 0 := by
  unfold sx pad
  rw [List.getD_eq_getElem?_getD, List.getD_eq_getElem?_getD, List.getElem?_append]
  by_cases h : r < ((T.drop (i * 64)).take 64).length
  · rw [if_pos h, List.getElem?_take, if_pos hr, List.getElem?_drop]
  · rw [if_neg h]
    rw [List.length_take, List.length_drop] at h
    rw [List.getElem?_eq_none (l := T) (by omega), List.getElem?_replicate]
    split <;> rfl
theorem sx_len (T : List UInt8) (i : Nat) : (sx T i).length = 64 := pad_length _ (by rw [List.length_take]; omega)
theorem catS_get (F : Nat → Sec) (hF : ∀ i, (F i).length = 64) : ∀ (m j : Nat), j < m * 64 → (catS F m)[j]? = (F (j / 64))[j % 64]?
  | 0, j, h => by omega
  | m + 1, j, h => by
    have hl := catS_length F hF m
    rw [catS, List.getElem?_append, hl]
    by_cases h1 : j < m * 64
    · rw [if_pos h1, catS_get F hF m j h1]
    · rw [if_neg h1]
      have e1 : j / 64 = m := by omega
      have e2 : j - m * 64 = j % 64 := by omega
      rw [e1, e2]
theorem getD_of (l : List UInt8) (i : Nat) (h : i < l.length) : l[i]? = some (l.getD i 0) := by
  rw [List.getD_eq_getElem?_getD, List.getElem?_eq_getElem h]; rfl
/-- What is read where each sector is that of one text or of another one that goes on behind it. -/
theorem lost_bytes {x : St} {TA TB : List UInt8} {lost : List Int} (hl : TA.length + TB.length ≤ 3840) (hx : ∀ i, i < 60 → x.now i = if (i : Int) ∈ lost then sx TA i else sx (TA ++ TB) i) :
    ∃ J : ByteArray, rdB x 0 60 = txt TA ++ J ∧ (rdB x 0 60).size = 3840 ∧ Bl TA.length (txt TB) (rdB x 0 60) := by
  obtain ⟨F, hF⟩ : ∃ F : Nat → Sec, F = fun (i : Nat) => if (i : Int) ∈ lost then sx TA i else sx (TA ++ TB) i := ⟨_, rfl⟩
  have hF64 : ∀ i, (F i).length = 64 := fun i => by rw [hF]; dsimp only; split <;> exact sx_len _ _
  have hcat : catS (fun i => x.now (0 + i)) 60 = catS F 60 := by
    have key : ∀ m, m ≤ 60 → catS (fun i => x.now (0 + i)) m = catS F m := by
      intro m
      induction m with
      | zero => intro _; rfl
      | succ m ih =>
        intro hm
        rw [catS, catS, ih (by omega), Nat.zero_add, hx m (by omega), hF]
    exact key 60 (Nat.le_refl _)
  obtain ⟨l, hlD⟩ : ∃ l, l = catS F 60 := ⟨_, rfl⟩
  have hll : l.length = 3840 := by rw [hlD, catS_length F hF64]
  have hS : rdB x 0 60 = txt l := by unfold rdB; rw [hcat, hlD]
  have hget : ∀ j, j < 3840 → l.getD j 0 = if ((j / 64 : Nat) : Int) ∈ lost then TA.getD j 0 else (TA ++ TB).getD j 0 := fun j hj => by
    have h1 : l[j]? = (F (j / 64))[j % 64]? := by rw [hlD]; exact catS_get F hF64 60 j (by omega)
    have hr : j % 64 < 64 := Nat.mod_lt _ (by omega)
    rw [List.getD_eq_getElem?_getD, h1, ← List.getD_eq_getElem?_getD, hF]
    dsimp only
    have e : j / 64 * 64 + j % 64 = j := by omega
    split
    · rw [sx_get _ _ _ hr, e]
    · rw [sx_get _ _ _ hr, e]
  have hout : ∀ (T : List UInt8) j, T.length ≤ j → T.getD j 0 = 0 := fun T j h => by
    rw [List.getD_eq_getElem?_getD, List.getElem?_eq_none h]; rfl
  have hbt : ∀ (T : List UInt8) j, bt (txt T) j = (T.getD j 0).toNat := fun T j => by unfold bt; rw [txt_list]
  refine ⟨txt (l.drop TA.length), ?_, by rw [hS, txt_size, hll], fun i => ?_⟩
  · rw [hS]
    apply ByteArray.ext
    apply Array.toList_inj.1
    rw [ByteArray.data_append, Array.toList_append, txt_list, txt_list, txt_list]
    have : l.take TA.length = TA := by
      apply List.ext_getElem?
      intro j
      by_cases hj : j < TA.length
      · rw [List.getElem?_take, if_pos hj, getD_of l j (by omega), getD_of TA j hj, hget j (by omega)]
        split
        · rfl
        · rw [List.getD_eq_getElem?_getD (l := TA ++ TB), List.getElem?_append, if_pos hj, ← List.getD_eq_getElem?_getD]
      · rw [List.getElem?_eq_none (by rw [List.length_take]; omega), List.getElem?_eq_none (by omega)]
    conv => lhs; rw [← List.take_append_drop TA.length l, this]
  · by_cases hi : (i : Int) ∈ lost
    · refine .inr fun j hj1 hj2 => ?_
      rw [hS, hbt]
      by_cases hj : j < 3840
      · rw [hget j hj, hj1, if_pos hi, hout TA j hj2]; rfl
      · rw [hout l j (by omega)]; rfl
    · refine .inl fun j hj1 hj2 => ?_
      rw [hS, hbt, hbt]
      by_cases hj : j < 3840
      · rw [hget j hj, hj1, if_neg hi, List.getD_eq_getElem?_getD, List.getElem?_append, if_neg (by omega), ← List.getD_eq_getElem?_getD]
      · rw [hout l j (by omega), hout TB _ (by omega)]
/-- The devices of WalLoses. -/
theorem lose_math {v : Int} {a b : List En} (hv : v = 1 ∨ v = 2) (ga : ∀ e ∈ a, Good v e) (gb : ∀ e ∈ b, Good v e) (hn : v = 2 → ∀ e ∈ b, (D.ePv v e).size < 16384) (sa : (rcA v (pS v) a).size ≤ 1115) (sb : (rcA v (pS v) b).size ≤ 1115) (la : a.length ≤ 5) :
    ∃ (d1 d2 d3 : St) (U N : Nat), addG (St.fresh 60 fun _ => zsec) 0 60 v 0 a = (d1, ((U : Nat) : Int), 0) ∧ Alv d1 60 ∧ d1.flush = (d2, 0) ∧ Alv d2 60 ∧ U ≤ 1115 ∧ bgn v U = U ∧ addG d2 0 60 v U b = (d3, ((N : Nat) : Int), 0) ∧
      ∀ lost : List Int, rdZ (d3.after lost) 0 60 v = 0 ∧ ∃ p, rdE (d3.after lost) 0 60 v = p ∧ a.length ≤ p.length ∧ p.length ≤ a.length + b.length ∧ p.take a.length = a ∧ (lost = [] → p = a ++ b) := by
  obtain ⟨TA, hTA⟩ : ∃ TA, TA = (rcA v (pS v) a).data.toList := ⟨_, rfl⟩
  have hTAl : TA.length = (rcA v (pS v) a).size := by rw [hTA, Array.length_toList]; rfl
  obtain ⟨TB, hTB⟩ : ∃ TB, TB = (rcA v (pS v) b).data.toList := ⟨_, rfl⟩
  have hTBl : TB.length = (rcA v (pS v) b).size := by rw [hTB, Array.length_toList]; rfl
  have hta : txt TA = rcA v (pS v) a := by rw [hTA]; apply ByteArray.ext; simp [txt]
  have htb : txt TB = rcA v (pS v) b := by rw [hTB]; apply ByteArray.ext; simp [txt]
  have okf : (St.fresh 60 fun _ => zsec).Ok := St.fresh_ok (by omega) (by omega) (fun _ => zsec_length)
  obtain ⟨d1, e1, al1, ho1, _⟩ := add_holds (T := []) (es := a) (v := v) (at_ := 0) (m := 60) (Alv.fresh 60 fun _ => zsec) okf hv ga (by show 0 + _ ≤ _; omega) (by omega) (holds_nil (fun i _ => rfl))
  rw [List.nil_append, ← hTA] at ho1
  have e1' : addG (St.fresh 60 fun _ => zsec) 0 60 v 0 a = (d1, ((TA.length : Nat) : Int), 0) := by
    have h0 : addG (St.fresh 60 fun _ => zsec) 0 60 v 0 a = (d1, ((0 + (rcA v (pS v) a).size : Nat) : Int), 0) := e1
    rw [h0, Nat.zero_add, hTAl]
  have ok1 : d1.Ok := by
    have : d1 = (addG (St.fresh 60 fun _ => zsec) 0 60 v 0 a).1 := by rw [e1']
    rw [this]
    unfold addG
    have hw : ∀ (first : Nat) (l : List UInt8) (r k : Nat) (d : St), d.Ok → (wrL first l r k d).1.Ok := by
      intro first l r
      induction r with
      | zero => intro k d h; exact h
      | succ r ih =>
        intro k d h
        rw [wrL]
        split
        · exact ih _ _ (h.write _ _)
        · exact h.write _ _
    split
    · exact okf
    · split
      · exact okf
      · split
        · exact okf
        · split
          · unfold wrS; exact hw _ _ _ _ _ okf
          · unfold wrS; exact hw _ _ _ _ _ okf
  obtain ⟨f1, al2, now2⟩ := flush_now al1
  have fl2 := flush_fl al1
  have ok2 : d1.flush.1.Ok := by
    have e : d1.flush = (d1.step.settle, 0) := by
      unfold St.flush St.try_
      rw [if_neg (by rw [al1.l]; decide), if_neg (by rw [al1.x]; decide)]
    rw [e]
    exact ok1.step.settle
  obtain ⟨d2, hd2⟩ : ∃ d2, d2 = d1.flush.1 := ⟨_, rfl⟩
  rw [← hd2] at al2 now2 fl2 ok2
  have hbg : bgn v TA.length = TA.length := by
    unfold bgn
    split
    · rename_i h1
      have := rcA1_mod a
      rw [h1] at hTAl
      omega
    · rfl
  obtain ⟨d3, e3, al3, ho3, _⟩ := add_holds (T := TA) (es := b) (v := v) (at_ := 0) (m := 60) al2 ok2 hv gb (by omega) (by omega) (fun i hi => by rw [now2]; exact ho1 i hi)
  rw [← hTB] at ho3
  refine ⟨d1, d2, d3, TA.length, _, e1', al1, Prod.ext hd2.symm f1, al2, by omega, hbg, e3, fun lost => ?_⟩
  have fl3 : ∀ j, d3.fl j = d1.now j := fun j => by
    have : d3 = (addG d2 0 60 v TA.length b).1 := by rw [e3]
    rw [this, addG_fl, fl2]
  have hx : ∀ i, i < 60 → (d3.after lost).now i = if (i : Int) ∈ lost then sx TA i else sx (TA ++ TB) i := fun i hi => by
    rw [after_now]
    have h1 := ho1 i hi
    have h3 := ho3 i hi
    rw [Nat.zero_add] at h1 h3
    split
    · rw [fl3, h1]
    · rw [h3]
  obtain ⟨J, hJ, hsz, hbl⟩ := lost_bytes (by omega) hx
  have hon : onB (d3.after lost).n 0 60 v = true := by
    have : (d3.after lost).n = 60 := al3.n
    unfold onB knB
    rw [this, decide_eq_true hv]; rfl
  have hdead : (d3.after lost).dead = false := rfl
  have hE : rdE (d3.after lost) 0 60 v = parE qX D.aO v (rdB (d3.after lost) 0 60) := by unfold rdE; rw [hon, hdead]; rfl
  refine ⟨by unfold rdZ; rw [hon, hdead]; rfl, _, rfl, ?_⟩
  rw [hE]
  rw [hta] at hJ
  rw [htb] at hbl
  have hpl : parL qX D.aO v (rdB (d3.after lost) 0 60) = endsP v (pS v) [] a ++ pl qX D.aO v (rdB (d3.after lost) 0 60) (3841 - a.length) (rcA v (pS v) a).size := by
    unfold parL
    rw [hsz, hJ]
    have e0 : (rcA v (pS v) []).size = 0 := rfl
    have := pl_rc2 (J := J) ga a [] 3841 rfl (by omega)
    rw [e0] at this
    exact this
  have hlt := pl_lost (p0 := TA.length) (S := rdB (d3.after lost) 0 60) hv gb hn (fun h => by rw [hTAl, h]; exact rcA1_mod a) (by rw [hsz]; omega) hbl b [] (3841 - a.length) rfl
  have e0 : (rcA v (pS v) []).size = 0 := rfl
  rw [e0, Nat.add_zero, hTAl] at hlt
  have hp : parE qX D.aO v (rdB (d3.after lost) 0 60) = a ++ (pl qX D.aO v (rdB (d3.after lost) 0 60) (3841 - a.length) (rcA v (pS v) a).size).map Prod.fst := by
    unfold parE
    rw [hpl, List.map_append, endsP_fst]
  refine ⟨by rw [hp, List.length_append]; omega, by rw [hp, List.length_append, List.length_map]; omega, by rw [hp]; exact List.take_left, fun hl => ?_⟩
  subst hl
  have hx0 : Holds (d3.after []) 0 60 (TA ++ TB) := fun i hi => by
    have := hx i hi
    simp at this
    rw [Nat.zero_add]
    exact this
  have hcat : txt (TA ++ TB) = rcA v (pS v) (a ++ b) := by
    have h2 : txt (TA ++ TB) = txt TA ++ txt TB := by
      apply ByteArray.ext
      apply Array.toList_inj.1
      rw [ByteArray.data_append, Array.toList_append, txt_list, txt_list, txt_list]
    rw [h2, hta, htb]
    exact (rcA_app a b (by
      rcases hv with h | h
      · right; rw [h]; exact rcA1_mod a
      · left; rw [h]; decide)).symm
  have hrd : rdB (d3.after []) 0 60 = rcA v (pS v) (a ++ b) ++ zz (60 * 64 - (TA ++ TB).length) := by
    rw [rdB_holds (by rw [List.length_append]; omega) hx0, hcat]
  rw [hrd]
  exact (par_rc (fun x hx => (List.mem_append.1 hx).elim (ga x) (gb x)) (frB_no (nOk_zz _))).1
end Go.Proofs.YtnobeoppffoomaaGreat
