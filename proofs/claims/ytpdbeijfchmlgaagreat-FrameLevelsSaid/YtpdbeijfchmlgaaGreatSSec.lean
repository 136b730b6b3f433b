/-
  An entry's fields by their tags: the plain mathematics of it.
  Conditions: named in each theorem.
-/
import Derived.Test.YtpdbeijfchmlgaaGreatSGen
import Derived.Test.YtpdbeijfchmlgaaGreatRFacts
namespace Go.Proofs.YtpdbeijfchmlgaaGreat
open Go.RowKit
open Vi
set_option linter.unusedVariables false
set_option linter.unusedSimpArgs false

/-- What holds of an entry that may be. -/
structure Few_b (e : En) : Prop where
  k0 : 0 ≤ e.kind
  k1 : e.kind ≤ 11
  n0 : 0 ≤ e.node
  n1 : e.node ≤ 7
  l0 : 0 ≤ e.level
  l1 : e.level ≤ 2
  d : e.data.size ≤ 64
  o : e.old.size ≤ 64
  b : e.block ≤ 4294967295
  m : e.many ≤ 4294967295
theorem few_of_b {e : En} (ok : e.Ok) (h : rightB e = true) : Few_b e := by
  have A := (asked_iff e ok).1 h
  have f : 0 ≤ e.kind ∧ e.kind ≤ 11 := of_decide_eq_true A.f
  have hd := A.d1
  have ho := A.o1
  refine ⟨f.1, f.2, ?_, ?_, ?_, ?_, by omega, by omega, A.b1, A.m1⟩
  · exact both (fun h => by have := A.n1 h; omega) (fun h => by have := A.n0 h; omega)
  · exact both (fun h => by have := A.n1 h; omega) (fun h => by have := A.n0 h; omega)
  · exact both (fun h => by have := A.l1 h; omega) (fun h => by have := A.l0 h; omega)
  · exact both (fun h => by have := A.l1 h; omega) (fun h => by have := A.l0 h; omega)
/-- A number's, and a text's bytes; nothing, if it is 0, or empty. -/
def nb (v : Int) : ByteArray := if v = 0 then ⟨#[]⟩ else putB v.toNat
def tb (d : ByteArray) : ByteArray := if d.size = 0 then ⟨#[]⟩ else putB d.size ++ d
theorem nb_size0 (v : Int) : (nb v).size = 0 ↔ v = 0 := by
  unfold nb
  by_cases h : v = 0
  · rw [if_pos h]; exact ⟨fun _ => h, fun _ => rfl⟩
  · rw [if_neg h]
    have := putB_pos_b v.toNat
    exact ⟨fun e => by omega, fun e => absurd e h⟩
theorem size0 (d : ByteArray) : d.size = 0 ↔ d = ⟨#[]⟩ := by
  constructor
  · intro h
    exact ByteArray.ext (Array.eq_empty_of_size_eq_zero h)
  · rintro rfl; rfl
theorem tb_size0 (d : ByteArray) : (tb d).size = 0 ↔ d = ⟨#[]⟩ := by
  unfold tb
  by_cases h : d.size = 0
  · rw [if_pos h]; exact ⟨fun _ => (size0 d).1 h, fun _ => rfl⟩
  · rw [if_neg h, ByteArray.size_append]
    have := putB_pos_b d.size
    exact ⟨fun e => by omega, fun e => absurd ((size0 d).2 e) h⟩
theorem nb_emp (v : Int) : nb v = ByteArray.empty ↔ v = 0 := by rw [← nb_size0]; exact (size0 _).symm
theorem tb_emp (d : ByteArray) : tb d = ByteArray.empty ↔ d = ⟨#[]⟩ := by rw [← tb_size0]; exact (size0 _).symm
def fP : Nat → En → ByteArray
  | 1, X => nb X.kind
  | 2, X => nb X.term
  | 3, X => nb X.index
  | 4, X => nb X.client
  | 5, X => nb X.seq
  | 6, X => nb X.block
  | 7, X => nb X.many
  | 8, X => nb X.node
  | 9, X => nb X.level
  | 10, X => tb X.data
  | 11, X => tb X.old
  | _, _ => ⟨#[]⟩
def setN : Nat → En → Nat → En
  | 1, E, v => { E with kind := IntKind.i64.wrap v }
  | 2, E, v => { E with term := v }
  | 3, E, v => { E with index := v }
  | 4, E, v => { E with client := v }
  | 5, E, v => { E with seq := v }
  | 6, E, v => { E with block := v }
  | 7, E, v => { E with many := v }
  | 8, E, v => { E with node := IntKind.i64.wrap v }
  | 9, E, v => { E with level := IntKind.i64.wrap v }
  | _, E, _ => E
def setR : Nat → En → Nat → En
  | 1, E, v => { E with kind := ((v % 1000 : Nat) : Int) }
  | 8, E, v => { E with node := ((v % 1000 : Nat) : Int) }
  | 9, E, v => { E with level := ((v % 1000 : Nat) : Int) }
  | t, E, v => setN t E v
def setT : Nat → En → ByteArray → En
  | 10, E, d => { E with data := d }
  | 11, E, d => { E with old := d }
  | _, E, _ => E
def cutE (X : En) (k : Nat) : En :=
  { term := if 2 ≤ k then X.term else 0, index := if 3 ≤ k then X.index else 0, kind := if 1 ≤ k then X.kind else 0, client := if 4 ≤ k then X.client else 0, seq := if 5 ≤ k then X.seq else 0, block := if 6 ≤ k then X.block else 0, many := if 7 ≤ k then X.many else 0, node := if 8 ≤ k then X.node else 0, level := if 9 ≤ k then X.level else 0, data := if 10 ≤ k then X.data else ⟨#[]⟩, old := if 11 ≤ k then X.old else ⟨#[]⟩ }
/-- The package's, and the document's own way to take a field. -/
def fS (t : Nat) (E : En) (T : ByteArray) : En × ByteArray × Bool :=
  if t ≤ 9 then (setN t E (varV T), if varV T = 0 then ⟨#[]⟩ else varT T, varO T && decide (varV T ≠ 0))
  else (setT t E (texV T), if (texV T).size = 0 then ⟨#[]⟩ else texT T, texO T && decide ((texV T).size ≠ 0))
def fR (t : Nat) (E : En) (T : ByteArray) : En × ByteArray × Bool :=
  if t = 10 ∨ t = 11 then (setT t E (texV T), texT T, texO T)
  else if t ≤ 9 then (setR t E (varV T), varT T, varO T)
  else (E, ⟨#[]⟩, false)
abbrev eF : Fmt En := { P := fP, S := fS, cut := cutE, ok := fun X => X.Ok ∧ Few_b X }
theorem tag_cases {t : Nat} (h1 : 1 ≤ t) (h2 : t ≤ 11) : t = 1 ∨ t = 2 ∨ t = 3 ∨ t = 4 ∨ t = 5 ∨ t = 6 ∨ t = 7 ∨ t = 8 ∨ t = 9 ∨ t = 10 ∨ t = 11 := by omega
theorem e_cuts : eF.Cuts where
  c11 X := by
    show cutE X 11 = X
    unfold cutE
    simp
  cc X a b h := by
    show cutE (cutE X a) b = cutE X a
    unfold cutE
    simp only [En.mk.injEq]
    refine ⟨?_, ?_, ?_, ?_, ?_, ?_, ?_, ?_, ?_, ?_, ?_⟩ <;> (repeat' split) <;> first | rfl | omega
  cc' X a b h := by
    show cutE (cutE X a) b = cutE X b
    unfold cutE
    simp only [En.mk.injEq]
    refine ⟨?_, ?_, ?_, ?_, ?_, ?_, ?_, ?_, ?_, ?_, ?_⟩ <;> (repeat' split) <;> first | rfl | omega
  skip X t ok h1 h2 := by
    show (fP t X).size = 0 ↔ cutE X t = cutE X (t - 1)
    rcases tag_cases h1 h2 with rfl | rfl | rfl | rfl | rfl | rfl | rfl | rfl | rfl | rfl | rfl <;> simp [fP, cutE, nb_emp, tb_emp]
theorem S_num {t : Nat} (ht : t ≤ 9) (E : En) (v : Int) (h0 : v ≠ 0) (h1 : 0 ≤ v) (h2 : v ≤ 18446744073709551615) (T : ByteArray) : fS t E (nb v ++ T) = (setN t E v.toNat, T, true) := by
  obtain ⟨v1, v2, v3⟩ := var_put_b v.toNat (by omega) T
  have hne : v.toNat ≠ 0 := by omega
  unfold fS nb
  rw [if_pos ht, if_neg h0, v1, v2, v3, if_neg hne, decide_eq_true hne]
  rfl
theorem R_num {t : Nat} (ht : t ≤ 9) (E : En) (v : Int) (h0 : v ≠ 0) (h1 : 0 ≤ v) (h2 : v ≤ 18446744073709551615) (T : ByteArray) : fR t E (nb v ++ T) = (setR t E v.toNat, T, true) := by
  obtain ⟨v1, v2, v3⟩ := var_put_b v.toNat (by omega) T
  unfold fR nb
  rw [if_neg (by omega), if_pos ht, if_neg h0, v1, v2, v3]
theorem S_tex {t : Nat} (ht : 9 < t) (E : En) (d : ByteArray) (h0 : d.size ≠ 0) (h2 : d.size ≤ 281474976710656) (T : ByteArray) : fS t E (tb d ++ T) = (setT t E d, T, true) := by
  obtain ⟨v1, v2, v3⟩ := tex_put d T (by omega)
  unfold fS tb
  rw [if_neg (by omega), if_neg h0, append_assoc3, v1, v2, v3, if_neg h0, decide_eq_true h0]
  rfl
theorem R_tex {t : Nat} (ht : t = 10 ∨ t = 11) (E : En) (d : ByteArray) (h0 : d.size ≠ 0) (h2 : d.size ≤ 281474976710656) (T : ByteArray) : fR t E (tb d ++ T) = (setT t E d, T, true) := by
  obtain ⟨v1, v2, v3⟩ := tex_put d T (by omega)
  unfold fR tb
  rw [if_pos ht, if_neg h0, append_assoc3, v1, v2, v3]
theorem w64 {v : Int} (h0 : 0 ≤ v) (h1 : v ≤ 1000) : IntKind.i64.wrap (max v 0) = v := by
  rw [show max v 0 = v by omega]
  exact IntWalk.i64_in _ (by omega)
/-- The numbers' bounds, by their tags. -/
theorem e_bounds {X : En} (ok : X.Ok) (fw : Few_b X) : (0 ≤ X.kind ∧ X.kind ≤ 1000) ∧ (0 ≤ X.term ∧ X.term ≤ 18446744073709551615) ∧ (0 ≤ X.index ∧ X.index ≤ 18446744073709551615) ∧ (0 ≤ X.client ∧ X.client ≤ 18446744073709551615) ∧ (0 ≤ X.seq ∧ X.seq ≤ 18446744073709551615) ∧ (0 ≤ X.block ∧ X.block ≤ 18446744073709551615) ∧ (0 ≤ X.many ∧ X.many ≤ 18446744073709551615) ∧ (0 ≤ X.node ∧ X.node ≤ 1000) ∧ (0 ≤ X.level ∧ X.level ≤ 1000) ∧ X.data.size ≤ 64 ∧ X.old.size ≤ 64 := by
  have k1 := fw.k1
  have n1 := fw.n1
  have l1 := fw.l1
  have b1 := fw.b
  have m1 := fw.m
  exact ⟨⟨fw.k0, by omega⟩, ⟨ok.t0, ok.t1⟩, ⟨ok.i0, ok.i1⟩, ⟨ok.c0, ok.c1⟩, ⟨ok.s0, ok.s1⟩, ⟨ok.b0, by omega⟩, ⟨ok.m0, by omega⟩, ⟨fw.n0, by omega⟩, ⟨fw.l0, by omega⟩, fw.d, fw.o⟩
theorem nb_ne {v : Int} (h : (nb v).size ≠ 0) : v ≠ 0 := fun e => h ((nb_size0 v).2 e)
theorem tb_ne {d : ByteArray} (h : (tb d).size ≠ 0) : d.size ≠ 0 := fun e => h ((tb_size0 d).2 ((size0 d).1 e))
theorem e_put : eF.Put fS := by
  intro X t T ⟨ok, fw⟩ h1 h2 hz
  show fS t (cutE X (t - 1)) (fP t X ++ T) = (cutE X t, T, true)
  have hz : (fP t X).size ≠ 0 := hz
  obtain ⟨a1, a2, a3, a4, a5, a6, a7, a8, a9, a10, a11⟩ := e_bounds ok fw
  rcases tag_cases h1 h2 with rfl | rfl | rfl | rfl | rfl | rfl | rfl | rfl | rfl | rfl | rfl
  · refine (S_num (by omega) _ X.kind (nb_ne hz) a1.1 (by omega) T).trans ?_
    simp [setN, cutE, w64 a1.1 a1.2]
  · refine (S_num (by omega) _ X.term (nb_ne hz) a2.1 a2.2 T).trans ?_
    simp [setN, cutE]; omega
  · refine (S_num (by omega) _ X.index (nb_ne hz) a3.1 a3.2 T).trans ?_
    simp [setN, cutE]; omega
  · refine (S_num (by omega) _ X.client (nb_ne hz) a4.1 a4.2 T).trans ?_
    simp [setN, cutE]; omega
  · refine (S_num (by omega) _ X.seq (nb_ne hz) a5.1 a5.2 T).trans ?_
    simp [setN, cutE]; omega
  · refine (S_num (by omega) _ X.block (nb_ne hz) a6.1 a6.2 T).trans ?_
    simp [setN, cutE]; omega
  · refine (S_num (by omega) _ X.many (nb_ne hz) a7.1 a7.2 T).trans ?_
    simp [setN, cutE]; omega
  · refine (S_num (by omega) _ X.node (nb_ne hz) a8.1 (by omega) T).trans ?_
    simp [setN, cutE, w64 a8.1 a8.2]
  · refine (S_num (by omega) _ X.level (nb_ne hz) a9.1 (by omega) T).trans ?_
    simp [setN, cutE, w64 a9.1 a9.2]
  · refine (S_tex (by omega) _ X.data (tb_ne hz) (by omega) T).trans ?_
    simp [setT, cutE]
  · refine (S_tex (by omega) _ X.old (tb_ne hz) (by omega) T).trans ?_
    simp [setT, cutE]
theorem m1000 {v : Int} (h0 : 0 ≤ v) (h1 : v ≤ 999) : ((v.toNat % 1000 : Nat) : Int) = v := by omega
theorem e_rput : eF.Put fR := by
  intro X t T ⟨ok, fw⟩ h1 h2 hz
  show fR t (cutE X (t - 1)) (fP t X ++ T) = (cutE X t, T, true)
  have hz : (fP t X).size ≠ 0 := hz
  have k1 := fw.k1
  have n1 := fw.n1
  have l1 := fw.l1
  obtain ⟨a1, a2, a3, a4, a5, a6, a7, a8, a9, a10, a11⟩ := e_bounds ok fw
  rcases tag_cases h1 h2 with rfl | rfl | rfl | rfl | rfl | rfl | rfl | rfl | rfl | rfl | rfl
  · refine (R_num (by omega) _ X.kind (nb_ne hz) a1.1 (by omega) T).trans ?_
    simp [setR, setN, cutE]; omega
  · refine (R_num (by omega) _ X.term (nb_ne hz) a2.1 a2.2 T).trans ?_
    simp [setR, setN, cutE]; omega
  · refine (R_num (by omega) _ X.index (nb_ne hz) a3.1 a3.2 T).trans ?_
    simp [setR, setN, cutE]; omega
  · refine (R_num (by omega) _ X.client (nb_ne hz) a4.1 a4.2 T).trans ?_
    simp [setR, setN, cutE]; omega
  · refine (R_num (by omega) _ X.seq (nb_ne hz) a5.1 a5.2 T).trans ?_
    simp [setR, setN, cutE]; omega
  · refine (R_num (by omega) _ X.block (nb_ne hz) a6.1 a6.2 T).trans ?_
    simp [setR, setN, cutE]; omega
  · refine (R_num (by omega) _ X.many (nb_ne hz) a7.1 a7.2 T).trans ?_
    simp [setR, setN, cutE]; omega
  · refine (R_num (by omega) _ X.node (nb_ne hz) a8.1 (by omega) T).trans ?_
    simp [setR, setN, cutE]; omega
  · refine (R_num (by omega) _ X.level (nb_ne hz) a9.1 (by omega) T).trans ?_
    simp [setR, setN, cutE]; omega
  · refine (R_tex (.inl rfl) _ X.data (tb_ne hz) (by omega) T).trans ?_
    simp [setT, cutE]
  · refine (R_tex (.inr rfl) _ X.old (tb_ne hz) (by omega) T).trans ?_
    simp [setT, cutE]
theorem cut_setN {t : Nat} (h1 : 1 ≤ t) (h2 : t ≤ 9) (E : En) (v : Nat) : cutE (setN t E v) t = setN t (cutE E (t - 1)) v ∧ cutE (setN t E v) (t - 1) = cutE E (t - 1) := by
  rcases tag_cases h1 (by omega) with rfl | rfl | rfl | rfl | rfl | rfl | rfl | rfl | rfl | rfl | rfl <;> first | omega | simp [setN, cutE]
theorem cut_setT {t : Nat} (h1 : t = 10 ∨ t = 11) (E : En) (d : ByteArray) : cutE (setT t E d) t = setT t (cutE E (t - 1)) d ∧ cutE (setT t E d) (t - 1) = cutE E (t - 1) := by
  rcases h1 with rfl | rfl <;> simp [setT, cutE]
theorem e_stay : eF.Stay := by
  intro t E T h1 h2 hE
  show cutE (fS t E T).1 t = (fS t E T).1
  have hE : cutE E (t - 1) = E := hE
  unfold fS
  by_cases ht : t ≤ 9
  · rw [if_pos ht]
    show cutE (setN t E (varV T)) t = setN t E (varV T)
    rw [(cut_setN h1 ht E _).1, hE]
  · rw [if_neg ht]
    show cutE (setT t E (texV T)) t = setT t E (texV T)
    rw [(cut_setT (by omega) E _).1, hE]
theorem wrap_back {n : Nat} {v : Int} (hn : n < 18446744073709551616) (h : IntKind.i64.wrap (n : Int) = v) (h0 : 0 ≤ v) : (n : Int) = v := by
  rw [IntKind.wrap_i64] at h
  omega
theorem val_of {t : Nat} (h1 : 1 ≤ t) (h2 : t ≤ 9) {X E : En} {n : Nat} (ok : X.Ok) (fw : Few_b X) (hn : n < 18446744073709551616) (h0 : n ≠ 0) (h : setN t E n = cutE X t) : fP t X = putB n := by
  obtain ⟨a1, a2, a3, a4, a5, a6, a7, a8, a9, a10, a11⟩ := e_bounds ok fw
  have fin : ∀ v : Int, (n : Int) = v → nb v = putB n := by
    intro v hv
    unfold nb
    rw [if_neg (by omega), ← hv, Int.toNat_natCast]
  rcases tag_cases h1 (by omega) with rfl | rfl | rfl | rfl | rfl | rfl | rfl | rfl | rfl | rfl | rfl
  · have e := congrArg En.kind h
    simp [setN, cutE] at e
    exact fin _ (wrap_back hn e a1.1)
  · have e := congrArg En.term h
    simp [setN, cutE] at e
    exact fin _ e
  · have e := congrArg En.index h
    simp [setN, cutE] at e
    exact fin _ e
  · have e := congrArg En.client h
    simp [setN, cutE] at e
    exact fin _ e
  · have e := congrArg En.seq h
    simp [setN, cutE] at e
    exact fin _ e
  · have e := congrArg En.block h
    simp [setN, cutE] at e
    exact fin _ e
  · have e := congrArg En.many h
    simp [setN, cutE] at e
    exact fin _ e
  · have e := congrArg En.node h
    simp [setN, cutE] at e
    exact fin _ (wrap_back hn e a8.1)
  · have e := congrArg En.level h
    simp [setN, cutE] at e
    exact fin _ (wrap_back hn e a9.1)
  · omega
  · omega
theorem e_sound : eF.Sound := by
  intro X t E T T2 ⟨ok, fw⟩ h1 h2 h hE
  have hE : cutE E (t - 1) = E := hE
  have h : fS t E T = (cutE X t, T2, true) := h
  show T = fP t X ++ T2 ∧ (fP t X).size ≠ 0 ∧ cutE X (t - 1) = E
  unfold fS at h
  have hback : ∀ Y : En, Y = cutE X t → cutE Y (t - 1) = cutE E (t - 1) → cutE X (t - 1) = E := by
    intro Y hY hYE
    have h4 := e_cuts.cc' X t (t - 1) (by omega)
    have h4 : cutE (cutE X t) (t - 1) = cutE X (t - 1) := h4
    rw [← h4, ← hY, hYE, hE]
  by_cases ht : t ≤ 9
  · rw [if_pos ht] at h
    have e1 : setN t E (varV T) = cutE X t := congrArg (·.1) h
    have e2 : (if varV T = 0 then (⟨#[]⟩ : ByteArray) else varT T) = T2 := congrArg (·.2.1) h
    have e3 : (varO T && decide (varV T ≠ 0)) = true := congrArg (·.2.2) h
    rw [Bool.and_eq_true, decide_eq_true_eq] at e3
    rw [if_neg e3.2] at e2
    have hv := val_of h1 ht ok fw (varV_lt T) e3.2 e1
    have hs := var_sound_b T e3.1
    rw [e2] at hs
    refine ⟨by rw [hv]; exact hs.symm, ?_, hback _ e1 (cut_setN h1 ht E _).2⟩
    rw [hv]
    have := putB_pos_b (varV T)
    omega
  · rw [if_neg ht] at h
    have e1 : setT t E (texV T) = cutE X t := congrArg (·.1) h
    have e2 : (if (texV T).size = 0 then (⟨#[]⟩ : ByteArray) else texT T) = T2 := congrArg (·.2.1) h
    have e3 : (texO T && decide ((texV T).size ≠ 0)) = true := congrArg (·.2.2) h
    rw [Bool.and_eq_true, decide_eq_true_eq] at e3
    rw [if_neg e3.2] at e2
    have htt : t = 10 ∨ t = 11 := by omega
    have hv : fP t X = tb (texV T) := by
      rcases htt with rfl | rfl
      · have e := congrArg En.data e1
        simp [setT, cutE] at e
        show tb X.data = _
        rw [← e]
      · have e := congrArg En.old e1
        simp [setT, cutE] at e
        show tb X.old = _
        rw [← e]
    have hs := tex_sound T e3.1
    rw [e2] at hs
    have htb : tb (texV T) = putB (texV T).size ++ texV T := by unfold tb; rw [if_neg e3.2]
    refine ⟨by rw [hv, htb, append_assoc3]; exact hs.symm, ?_, hback _ e1 (cut_setT htt E _).2⟩
    rw [hv, htb, ByteArray.size_append]
    have := putB_pos_b (texV T).size
    omega
/-- What is read of a text: the entry, what is left, is there none? -/
abbrev ezz0 : En := ⟨0, 0, 0, 0, 0, 0, 0, 0, 0, ⟨#[]⟩, ⟨#[]⟩⟩
def eR (s : ByteArray) (b : Bool) : En × ByteArray × Bool := pk eF 12 0 ezz0 s b
def eRr (s : ByteArray) (b : Bool) : En × ByteArray × Bool := rk fR 12 ezz0 s b
def sbE (X : En) : ByteArray := secB eF X
theorem cut_zero (X : En) : cutE X 0 = ezz0 := by unfold cutE; simp
theorem eR_put {X : En} (ok : X.Ok) (fw : Few_b X) (r : ByteArray) : eR (sbE X ++ r) false = (X, r, false) ∧ eRr (sbE X ++ r) false = (X, r, false) := by
  have h1 := pk_put e_cuts e_put (X := X) ⟨ok, fw⟩ r 11 12 0 (by omega) (by omega) (by omega)
  have h2 := rk_put e_cuts e_rput (X := X) ⟨ok, fw⟩ r 11 12 (by omega) (by omega)
  rw [show 11 - 11 = 0 from rfl] at h1 h2
  have hz : eF.cut X 0 = ezz0 := cut_zero X
  rw [hz] at h1 h2
  unfold eR eRr sbE
  rw [secB_enc]
  exact ⟨h1, h2⟩
theorem eR_sound {X : En} (ok : X.Ok) (fw : Few_b X) {s r : ByteArray} {b : Bool} (h : eR s b = (X, r, false)) : b = false ∧ s = sbE X ++ r := by
  have h1 := pk_sound e_cuts e_stay e_sound (X := X) ⟨ok, fw⟩ (T' := r) 12 0 ezz0 s b (by omega) (by omega) (cut_zero _) h
  unfold sbE
  rw [secB_enc]
  exact ⟨h1.1, h1.2.2⟩
end Go.Proofs.YtpdbeijfchmlgaaGreat
