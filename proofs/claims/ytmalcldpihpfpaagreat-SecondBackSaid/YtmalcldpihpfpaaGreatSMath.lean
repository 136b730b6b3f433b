/-
  The sizes of an entry's bytes, and that they tell it.
  Conditions: named in each theorem.
-/
import Derived.Test.YtmalcldpihpfpaaGreatSRef
import Derived.Test.YtmalcldpihpfpaaGreatMkFacts
namespace Go.Proofs.YtmalcldpihpfpaaGreat
open Go.RowKit
open Vi
set_option linter.unusedVariables false
set_option linter.unusedSimpArgs false

theorem putB_len (n : Nat) : (putB n).size = (put n).length := by unfold putB; rw [str_size]
theorem putB_mono {a b : Nat} (h : a ≤ b) : (putB a).size ≤ (putB b).size := by rw [putB_len, putB_len]; exact put_length_mono a b h
theorem putB_1 {n : Nat} (h : n < 128) : (putB n).size = 1 := by rw [putB_len, put_small n h]; rfl
theorem putB_2 {n : Nat} (h : n < 16384) : (putB n).size ≤ 2 := by rw [putB_len]; exact put_length_le n 1 h
theorem nb_mono {a b : Int} (h0 : 0 ≤ a) (h : a ≤ b) : (nb a).size ≤ (nb b).size := by
  unfold nb
  split
  · exact Nat.zero_le _
  · rw [if_neg (by omega)]
    exact putB_mono (by omega)
theorem nb_1 {a : Int} (h0 : 0 ≤ a) (h : a < 128) : (nb a).size ≤ 1 := by
  unfold nb
  split
  · exact Nat.zero_le _
  · rw [putB_1 (by omega)]; exact Nat.le_refl _
theorem nb_2 {a : Int} (h0 : 0 ≤ a) (h : a < 16384) : (nb a).size ≤ 2 := by
  unfold nb
  split
  · exact Nat.zero_le _
  · exact putB_2 (by omega)
theorem rdn_size (t : Nat) (ht : t < 128) (P : ByteArray) : (rdn t P).size = if P.size = 0 then 0 else 1 + P.size := by
  unfold rdn
  split
  · rfl
  · rw [ByteArray.size_append, putB_1 ht]
theorem rdn_s1 (t : Nat) (ht : t < 128) (P : ByteArray) (k : Nat) (h : P.size ≤ k) (hk : 1 ≤ k) : (rdn t P).size ≤ k + 1 := by
  rw [rdn_size t ht]
  split <;> omega
theorem rdn_mono (t : Nat) (ht : t < 128) (P Q : ByteArray) (h : P.size ≤ Q.size) : (rdn t P).size ≤ (rdn t Q).size := by
  rw [rdn_size t ht, rdn_size t ht]
  repeat' split
  all_goals omega
theorem rdn_tb (t : Nat) (ht : t < 128) (d : ByteArray) (hd : d.size ≤ 64) : (rdn t (tb d)).size = if d.size = 0 then 0 else 2 + d.size := by
  rw [rdn_size t ht]
  unfold tb
  by_cases h : d.size = 0
  · rw [if_pos h, if_pos h]; rfl
  · rw [if_neg h, if_neg h, ByteArray.size_append, putB_1 (by omega), if_neg (by omega)]; omega
/-- How long an entry's bytes are, but for its term and its texts. -/
def rest9 (e : En) : Nat := (rdn 1 (nb e.kind)).size + (rdn 3 (nb e.index)).size + (rdn 4 (nb e.client)).size + (rdn 5 (nb e.seq)).size + (rdn 6 (nb e.block)).size + (rdn 7 (nb e.many)).size + (rdn 8 (nb e.node)).size + (rdn 9 (nb e.level)).size + 1
theorem sbE_size (e : En) : (sbE e).size = rest9 e + (rdn 2 (nb e.term)).size + (rdn 10 (tb e.data)).size + (rdn 11 (tb e.old)).size := by
  rw [sbE_eq]
  simp only [ByteArray.size_append]
  have h1 : ∀ x : ByteArray, x = ⟨#[0]⟩ → x.size = 1 := fun x h => by rw [h]; rfl
  unfold rest9
  try rw [h1 _ rfl]
  omega
/-- What is asked of an entry's term only is that it is not 0. -/
theorem right_term {e : En} (ok : e.Ok) (h : rightB e = true) (t : Int) (h1 : 1 ≤ t) (h2 : t ≤ 18446744073709551615) : ({ e with term := t } : En).Ok ∧ rightB { e with term := t } = true := by
  have k : ({ e with term := t } : En).Ok := by
    obtain ⟨a1, a2, a3, a4, a5, a6, a7, a8, a9, a10, a11, a12, a13, a14, a15, a16, a17, a18, a19, a20⟩ := ok
    constructor <;> (try dsimp only) <;> first | assumption | omega
  refine ⟨k, (asked_iff _ k).2 ?_⟩
  obtain ⟨a1, a2, a3, a4, a5, a6, a7, a8, a9, a10, a11, a12, a13, a14, a15, a16, a17, a18⟩ := (asked_iff e ok).1 h
  constructor <;> (try dsimp only) <;> assumption
theorem right_bare {e : En} (ok : e.Ok) (h : rightB e = true) : ({ e with data := ⟨#[]⟩, old := ⟨#[]⟩ } : En).Ok ∧ rightB { e with data := ⟨#[]⟩, old := ⟨#[]⟩ } = true := by
  have k : ({ e with data := ⟨#[]⟩, old := ⟨#[]⟩ } : En).Ok := by
    obtain ⟨a1, a2, a3, a4, a5, a6, a7, a8, a9, a10, a11, a12, a13, a14, a15, a16, a17, a18, a19, a20⟩ := ok
    constructor <;> (try dsimp only) <;> first | assumption | exact Nat.zero_le _
  refine ⟨k, (asked_iff _ k).2 ?_⟩
  have z : ((⟨#[]⟩ : ByteArray).size : Int) = 0 := rfl
  obtain ⟨a1, a2, a3, a4, a5, a6, a7, a8, a9, a10, a11, a12, a13, a14, a15, a16, a17, a18⟩ := (asked_iff e ok).1 h
  constructor <;> (try dsimp only) <;> first | assumption | (rw [z]; omega) | (intro _; exact z)
/-- The small numbers of an entry that is made right. -/
theorem mk_small (e : En) (ok : e.Ok) : (1 ≤ (mk e).term ∧ (mk e).term ≤ 1000) ∧ (1 ≤ (mk e).index ∧ (mk e).index ≤ 1000) ∧ (0 ≤ (mk e).kind ∧ (mk e).kind ≤ 11) ∧ (0 ≤ (mk e).client ∧ (mk e).client ≤ 9) ∧ (0 ≤ (mk e).seq ∧ (mk e).seq ≤ 9) ∧ (0 ≤ (mk e).block ∧ (mk e).block ≤ 9) ∧ (0 ≤ (mk e).many ∧ (mk e).many ≤ 9) ∧ (0 ≤ (mk e).node ∧ (mk e).node ≤ 9) ∧ (0 ≤ (mk e).level ∧ (mk e).level ≤ 9) := by
  have c0 := ok.c0
  have s0 := ok.s0
  have b0 := ok.b0
  have m0 := ok.m0
  have u1 : 0 ≤ IntKind.u64.wrap e.node := by rw [IntKind.wrap_u64]; omega
  have u2 : 0 ≤ IntKind.u64.wrap e.level := by rw [IntKind.wrap_u64]; omega
  refine ⟨⟨?_, ?_⟩, ⟨?_, ?_⟩, ⟨?_, ?_⟩, ?_, ?_, ?_, ?_, ?_, ?_⟩
  · show 1 ≤ e.term % 1000 + 1; omega
  · show e.term % 1000 + 1 ≤ 1000; omega
  · show 1 ≤ e.index % 1000 + 1; omega
  · show e.index % 1000 + 1 ≤ 1000; omega
  · show 0 ≤ e.kind % 12; omega
  · show e.kind % 12 ≤ 11; omega
  · exact ite_bound (by omega)
  · exact ite_bound (by omega)
  · exact ite_bound (by omega)
  · exact ite_bound (by omega)
  · exact ite_bound (by omega)
  · exact ite_bound (by omega)
theorem rest_le (e : En) (ok : e.Ok) : rest9 (mk e) ≤ 18 := by
  obtain ⟨_, h2, h3, h4, h5, h6, h7, h8, h9⟩ := mk_small e ok
  have a1 := rdn_s1 1 (by omega) _ 1 (nb_1 h3.1 (by omega)) (by omega)
  have a2 := rdn_s1 3 (by omega) _ 2 (nb_2 (show 0 ≤ (mk e).index by omega) (by omega)) (by omega)
  have a3 := rdn_s1 4 (by omega) _ 1 (nb_1 h4.1 (by omega)) (by omega)
  have a4 := rdn_s1 5 (by omega) _ 1 (nb_1 h5.1 (by omega)) (by omega)
  have a5 := rdn_s1 6 (by omega) _ 1 (nb_1 h6.1 (by omega)) (by omega)
  have a6 := rdn_s1 7 (by omega) _ 1 (nb_1 h7.1 (by omega)) (by omega)
  have a7 := rdn_s1 8 (by omega) _ 1 (nb_1 h8.1 (by omega)) (by omega)
  have a8 := rdn_s1 9 (by omega) _ 1 (nb_1 h9.1 (by omega)) (by omega)
  unfold rest9
  omega
/-- What the law asks of three texts' sizes. -/
theorem short_sizes (e : En) (ok : e.Ok) (d : Nat) (hd : d < 65536) :
    (putS (mk e)).size ≤ (putS { mk e with term := (mk e).term + d }).size ∧
    (putS (mk e)).size = (putS { mk e with data := ⟨#[]⟩, old := ⟨#[]⟩ }).size + (if (mk e).data.size = 0 then 0 else 2 + (mk e).data.size) + (if (mk e).old.size = 0 then 0 else 2 + (mk e).old.size) ∧
    (putS { mk e with data := ⟨#[]⟩, old := ⟨#[]⟩ }).size ≤ 21 := by
  obtain ⟨k1, k2, k3, k4, _⟩ := mk_facts e ok
  have sm := (mk_small e ok).1
  have r1 := (right_term k1 k2 ((mk e).term + d) (by omega) (by omega)).2
  have r2 := (right_bare k1 k2).2
  have p : ∀ x : En, rightB x = true → putS x = sbE x := fun x h => by unfold putS; rw [if_pos h]
  rw [p _ k2, p _ r1, p _ r2, sbE_size, sbE_size, sbE_size]
  have e1 : rest9 { mk e with term := (mk e).term + d } = rest9 (mk e) := rfl
  have e2 : rest9 { mk e with data := ⟨#[]⟩, old := ⟨#[]⟩ } = rest9 (mk e) := rfl
  rw [e1, e2, rdn_tb 10 (by omega) _ k3, rdn_tb 11 (by omega) _ k4]
  have hr := rest_le e ok
  have ht := rdn_s1 2 (by omega) _ 2 (nb_2 (show 0 ≤ (mk e).term by omega) (by omega)) (by omega)
  have hm := rdn_mono 2 (by omega) (nb (mk e).term) (nb ((mk e).term + d)) (nb_mono (by omega) (by omega))
  have z10 : (rdn 10 (tb ⟨#[]⟩)).size = 0 := rfl
  have z11 : (rdn 11 (tb ⟨#[]⟩)).size = 0 := rfl
  refine ⟨?_, ?_, ?_⟩
  · dsimp only
    omega
  · show _ = rest9 (mk e) + (rdn 2 (nb (mk e).term)).size + (rdn 10 (tb ⟨#[]⟩)).size + (rdn 11 (tb ⟨#[]⟩)).size + _ + _
    rw [z10, z11]
    omega
  · show rest9 (mk e) + (rdn 2 (nb (mk e).term)).size + (rdn 10 (tb ⟨#[]⟩)).size + (rdn 11 (tb ⟨#[]⟩)).size ≤ 21
    rw [z10, z11]
    omega
/-- Two entries' bytes: equal only of equal ones, and never one the other's beginning. -/
theorem once {X Y : En} (okX : X.Ok) (okY : Y.Ok) (hX : rightB X = true) (hY : rightB Y = true) {r : ByteArray} (h : putS Y = putS X ++ r) : X = Y ∧ r = ⟨#[]⟩ := by
  have p : ∀ x : En, rightB x = true → putS x = sbE x := fun x h => by unfold putS; rw [if_pos h]
  rw [p _ hX, p _ hY] at h
  have h1 := (eR_put okX (few_of okX hX) r).1
  have h2 := (eR_put okY (few_of okY hY) ⟨#[]⟩).1
  have h3 : sbE Y ++ (⟨#[]⟩ : ByteArray) = sbE Y := by apply ByteArray.ext; simp
  rw [h3, h, h1] at h2
  injection h2 with h4 h5
  injection h5 with h5 _
  exact ⟨h4, h5⟩
end Go.Proofs.YtmalcldpihpfpaaGreat
