/-
  Texts of the layer below and of this one: WFm.
  Conditions: named in each theorem.
-/
import Derived.Test.YtnobeoppffoomaaGreatG35
import Derived.Test.YtnobeoppffoomaaGreatG33
namespace Go.Proofs.YtnobeoppffoomaaGreat
open Go.RowKit
set_option linter.unusedVariables false
set_option linter.unusedSimpArgs false
open Dk
/-- A device that neither crashes nor has. -/
structure Alv (d : St) (n : Nat) : Prop where
  n : d.n = n
  l : d.left = -1
  x : d.dead = false
theorem Alv.fresh (n : Nat) (F : Nat → Sec) : Alv (St.fresh n F) n := ⟨rfl, rfl, rfl⟩
theorem Alv.refuses {d : St} {n : Nat} (h : Alv d n) {i : Nat} (hi : i < n) : d.refuses (i : Int) = 0 := by
  unfold St.refuses
  rw [h.x, h.n]
  simp
  omega
theorem Alv.write {d : St} {n : Nat} (h : Alv d n) {i : Nat} (hi : i < n) (s : List UInt8) (hs : s.length ≤ 64) : d.write (i : Int) s = (d.step.put i (pad s), 0) ∧ Alv (d.step.put i (pad s)) n := by
  have hl : d.step.left = -1 := by show (if 0 < d.left then d.left - 1 else d.left) = -1; rw [h.l]; rfl
  refine ⟨?_, ⟨h.n, hl, h.x⟩⟩
  unfold St.write St.try_
  rw [h.refuses hi, if_neg (by simp), if_neg (by omega), if_neg (by rw [h.l]; decide), if_neg (by rw [h.x]; decide), Int.toNat_natCast]
theorem wrL_ok (first : Nat) (l : List UInt8) (n : Nat) : ∀ (r k : Nat) (d : St), Alv d n → first + k + r ≤ n → (wrL first l r k d).2 = 0 ∧ Alv (wrL first l r k d).1 n
  | 0, k, d, h, _ => ⟨rfl, h⟩
  | r + 1, k, d, h, hk => by
    obtain ⟨h1, h2⟩ := h.write (i := first + k) (by omega) ((l.drop (k * 64)).take 64) (by rw [List.length_take]; omega)
    have ih := wrL_ok first l n r (k + 1) _ h2 (by omega)
    have e : wrL first l (r + 1) k d = wrL first l r (k + 1) (d.step.put (first + k) (pad ((l.drop (k * 64)).take 64))) := by
      rw [wrL, h1, if_pos rfl]
    rw [e]
    exact ih
theorem wrS_ok {d : St} {n : Nat} (h : Alv d n) (first : Nat) (l : List UInt8) (hf : first + (l.length + 63) / 64 ≤ n) : (wrS d first l).2 = 0 ∧ Alv (wrS d first l).1 n := wrL_ok first l n _ 0 d h (by omega)
theorem rgS_fit {v : Int} {m u : Nat} {es : List En} (hv : v = 1 ∨ v = 2) (hg : ∀ e ∈ es, Good v e) (hf : u + (rcA v (pS v) es).size ≤ m * 64) : rgS v m u es = rcA v (pS v) es ∧ rgE v m u es = 0 := by
  obtain ⟨h1, h2⟩ := rcS_good hv hg
  have hd : ((rcA v (pS v) es).size : Int) ≤ ((m * 64 : Nat) : Int) - u := by omega
  unfold rgS rgE
  rw [h1, h2, decide_eq_true hd, if_pos rfl, if_pos hd]
  exact ⟨if_pos rfl, rfl⟩
theorem rgE_full {v : Int} {m u : Nat} {es : List En} (hv : v = 1 ∨ v = 2) (hg : ∀ e ∈ es, Good v e) (hf : ¬ u + (rcA v (pS v) es).size ≤ m * 64) : rgE v m u es = 4 := by
  obtain ⟨h1, h2⟩ := rcS_good hv hg
  unfold rgE
  rw [h1, h2, if_pos rfl, if_neg (by omega)]
theorem ahL_size {d : St} {n at_ u : Nat} (h : Alv d n) (ok : d.Ok) (hu : u % 64 ≠ 0 → at_ + u / 64 < n) : (ahL d at_ u).length = u % 64 ∧ ahZ d at_ u = 0 := by
  unfold ahL ahZ
  by_cases h0 : u % 64 = 0
  · rw [if_pos h0, if_pos h0]; exact ⟨h0.symm, rfl⟩
  · rw [if_neg h0, if_neg h0, h.refuses (hu h0), if_pos rfl, List.length_take, ok.now]
    exact ⟨by omega, rfl⟩
theorem add_fit {d : St} {n at_ m u : Nat} {v : Int} {es : List En} (h : Alv d n) (ok : d.Ok) (hv : v = 1 ∨ v = 2) (hg : ∀ e ∈ es, Good v e) (hz : 0 < (rcA v (pS v) es).size) (hf : u + (rcA v (pS v) es).size ≤ m * 64) (hn : at_ + m ≤ n) :
    ∃ d', addG d at_ m v u es = (d', ((u + (rcA v (pS v) es).size : Nat) : Int), 0) ∧ Alv d' n := by
  obtain ⟨r1, r2⟩ := rgS_fit (m := m) (u := u) hv hg hf
  obtain ⟨a1, a2⟩ := ahL_size (at_ := at_) (u := u) h ok (fun _ => by omega)
  have hne : rcA v (pS v) es ≠ ⟨#[]⟩ := fun e => by rw [e] at hz; exact absurd hz (by decide)
  have hlen : (ahL d at_ u ++ (rcA v (pS v) es).data.toList).length = u % 64 + (rcA v (pS v) es).size := by
    rw [List.length_append, a1, Array.length_toList]; rfl
  obtain ⟨w1, w2⟩ := wrS_ok h (at_ + (u - u % 64) / 64) (ahL d at_ u ++ (rcA v (pS v) es).data.toList) (by rw [hlen]; omega)
  refine ⟨(wrS d (at_ + (u - u % 64) / 64) (ahL d at_ u ++ (rcA v (pS v) es).data.toList)).1, ?_, w2⟩
  unfold addG
  rw [r1, r2, a1, a2, if_neg (by simp), if_neg hne, if_neg (by simp), if_neg (by rw [w1]; simp)]
theorem add_full {d : St} {at_ m u : Nat} {v : Int} {es : List En} (hv : v = 1 ∨ v = 2) (hg : ∀ e ∈ es, Good v e) (hf : ¬ u + (rcA v (pS v) es).size ≤ m * 64) : addG d at_ m v u es = (d, 0, 4) := by
  unfold addG
  rw [rgE_full hv hg hf, if_pos (by decide)]
end Go.Proofs.YtnobeoppffoomaaGreat
