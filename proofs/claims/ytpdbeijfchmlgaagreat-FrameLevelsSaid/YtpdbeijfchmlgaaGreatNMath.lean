/-
  A message by its parts, as plain mathematics: what the law's note is to return, and that it is right.
  Conditions: named in each theorem.
-/
import Derived.Test.YtpdbeijfchmlgaaGreatMkFacts
import Derived.Test.YtpdbeijfchmlgaaGreatMRB11
import Derived.Test.YtpdbeijfchmlgaaGreatSmall
namespace Go.Proofs.YtpdbeijfchmlgaaGreat
open Go.RowKit
set_option linter.unusedVariables false

def cut200 (s : ByteArray) : ByteArray := s.extract 0 (min (s.size : Int) 200).toNat
theorem cut200_size (s : ByteArray) (hs : s.size ≤ 140737488351232) : (cut200 s).size ≤ 200 := by
  unfold cut200
  rw [ByteArray.size_extract]
  omega
/-- The entries that it takes. -/
def mks (L : List (En × Bool)) : List En := (L.take 10).map fun p => mk p.1
/-- What stands there when the letters l have been gone through; what it has of entries is told beside. -/
def npart (m : Ms) (r : Int) (l : List UInt8) (A : Option Addr) (n c : Nat) (es : List En) : Ms :=
  ⟨r, IntKind.u64.wrap m.frm % 7 + 1, IntKind.u64.wrap m.dst % 7 + 1, m.term, if hasT l 105 then m.index else 0, if hasT l 112 then m.prev else 0, if hasT l 116 then m.commit else 0, if hasT l 107 then m.mark else 0, if hasT l 121 then m.ok else false, A, n, c, es, if hasT l 115 then cut200 m.snap else ⟨#[]⟩⟩
theorem npart_105 (m : Ms) (r : Int) (l : List UInt8) (x : UInt8) (A : Option Addr) (n c : Nat) (es : List En) (hx : (x.toNat : Int) = 105) : mc (npart m r (l ++ [x]) A n c es) = (mc (npart m r l A n c es)).setIfInBounds 4 (.int .u64 m.index) := by
  simp [npart, hasT_snoc, hx]
theorem npart_112 (m : Ms) (r : Int) (l : List UInt8) (x : UInt8) (A : Option Addr) (n c : Nat) (es : List En) (hx : (x.toNat : Int) = 112) : mc (npart m r (l ++ [x]) A n c es) = (mc (npart m r l A n c es)).setIfInBounds 5 (.int .u64 m.prev) := by
  simp [npart, hasT_snoc, hx]
theorem npart_116 (m : Ms) (r : Int) (l : List UInt8) (x : UInt8) (A : Option Addr) (n c : Nat) (es : List En) (hx : (x.toNat : Int) = 116) : mc (npart m r (l ++ [x]) A n c es) = (mc (npart m r l A n c es)).setIfInBounds 6 (.int .u64 m.commit) := by
  simp [npart, hasT_snoc, hx]
theorem npart_107 (m : Ms) (r : Int) (l : List UInt8) (x : UInt8) (A : Option Addr) (n c : Nat) (es : List En) (hx : (x.toNat : Int) = 107) : mc (npart m r (l ++ [x]) A n c es) = (mc (npart m r l A n c es)).setIfInBounds 7 (.int .u64 m.mark) := by
  simp [npart, hasT_snoc, hx]
theorem npart_121 (m : Ms) (r : Int) (l : List UInt8) (x : UInt8) (A : Option Addr) (n c : Nat) (es : List En) (hx : (x.toNat : Int) = 121) : mc (npart m r (l ++ [x]) A n c es) = (mc (npart m r l A n c es)).setIfInBounds 8 (.bool m.ok) := by
  simp [npart, hasT_snoc, hx]
theorem npart_115 (m : Ms) (r : Int) (l : List UInt8) (x : UInt8) (A : Option Addr) (n c : Nat) (es : List En) (hx : (x.toNat : Int) = 115) : mc (npart m r (l ++ [x]) A n c es) = (mc (npart m r l A n c es)).setIfInBounds 10 (.string (cut200 m.snap)) := by
  simp [npart, hasT_snoc, hx]
theorem npart_101 (m : Ms) (r : Int) (l : List UInt8) (x : UInt8) (A : Option Addr) (n c : Nat) (es : List En) (hx : (x.toNat : Int) = 101) : mc (npart m r (l ++ [x]) A n c es) = mc (npart m r l A n c es) := by
  simp [npart, hasT_snoc, hx]
theorem npart_other (m : Ms) (r : Int) (l : List UInt8) (x : UInt8) (A : Option Addr) (n c : Nat) (es : List En) (h : ∀ k ∈ ([105, 112, 116, 107, 121, 115] : List Int), (x.toNat : Int) ≠ k) : mc (npart m r (l ++ [x]) A n c es) = mc (npart m r l A n c es) := by
  have hh : ∀ k ∈ ([105, 112, 116, 107, 121, 115] : List Int), hasT (l ++ [x]) k = hasT l k := fun k hk => by rw [hasT_snoc, beqF (h k hk), Bool.or_false]
  simp only [npart, mc, hh 105 (by simp), hh 112 (by simp), hh 116 (by simp), hh 107 (by simp), hh 121 (by simp), hh 115 (by simp)]
/-- What stands there of entries. -/
theorem npart_put (m : Ms) (r : Int) (l : List UInt8) (A A' : Option Addr) (n n' c c' : Nat) (es es' : List En) : mc (npart m r l A' n' c' es') = (mc (npart m r l A n c es)).setIfInBounds 9 (.slice A' n' c') := by
  simp [npart]
/-- The message. -/
def nm (m : Ms) (L : List (En × Bool)) (A : Option Addr) (n c : Nat) : Ms :=
  npart m (m.kind % 10 + 1) (mfl (m.kind % 10 + 1)).data.toList A n c (if hasL (mfl (m.kind % 10 + 1)) 101 then mks L else [])

theorem mks_length (L : List (En × Bool)) : (mks L).length ≤ 10 := by
  unfold mks
  rw [List.length_map, List.length_take]
  omega
theorem mks_mem {L : List (En × Bool)} (hL : ∀ p ∈ L, p.1.Ok) {e : En} (he : e ∈ mks L) : e.Ok ∧ rightB e = true ∧ e.data.size ≤ 64 ∧ e.old.size ≤ 64 := by
  unfold mks at he
  obtain ⟨p, hp, rfl⟩ := List.mem_map.1 he
  have h := mk_facts p.1 (hL p (List.mem_of_mem_take hp))
  exact ⟨h.1, h.2.1, h.2.2.1, h.2.2.2.1⟩
theorem nes_mem {m : Ms} {L : List (En × Bool)} {A : Option Addr} {n c : Nat} (hL : ∀ p ∈ L, p.1.Ok) {e : En} (he : e ∈ (nm m L A n c).es) : e.Ok ∧ rightB e = true ∧ e.data.size ≤ 64 ∧ e.old.size ≤ 64 := by
  change e ∈ (if hasL (mfl (m.kind % 10 + 1)) 101 then mks L else []) at he
  split at he
  · exact mks_mem hL he
  · cases he
theorem nes_length (m : Ms) (L : List (En × Bool)) (A : Option Addr) (n c : Nat) : (nm m L A n c).es.length ≤ 10 := by
  show (if hasL (mfl (m.kind % 10 + 1)) 101 then mks L else []).length ≤ 10
  split
  · exact mks_length L
  · simp
theorem nfrom (x : Int) : 1 ≤ IntKind.u64.wrap x % 7 + 1 ∧ IntKind.u64.wrap x % 7 + 1 ≤ 7 := by
  have h1 := Int.emod_nonneg (IntKind.u64.wrap x) (show (7 : Int) ≠ 0 by omega)
  have h2 := Int.emod_lt_of_pos (IntKind.u64.wrap x) (show (0 : Int) < 7 by omega)
  omega
theorem nkind (x : Int) : 1 ≤ x % 10 + 1 ∧ x % 10 + 1 ≤ 10 := by omega
theorem lim_bit (L : ByteArray) (b : Bool) : lim L 121 (bitI (if hasL L 121 then b else false)) 0 1 = true := by
  cases h : hasL L 121
  · exact lim_zero h rfl
  · refine lim_yes h ?_ ?_ <;> cases b <;> decide
theorem lim_iff0 {L : ByteArray} {c lo hi : Int} {n : Int} (h1 : lo ≤ n) (h2 : n ≤ hi) : lim L c (if hasL L c then n else 0) lo hi = true := lim_if h1 h2
theorem lim_n {L : ByteArray} {c : Int} {n : Nat} (h : n ≤ 64) (h2 : hasL L c = false → n = 0) : lim L c (IntKind.u64.wrap (n : Int)) 0 64 = true := by
  rw [u64_id (by omega) (by omega)]
  cases hh : hasL L c
  · exact lim_zero hh (by rw [h2 hh]; rfl)
  · exact lim_yes hh (by omega) (by omega)
theorem lim_snap {L : ByteArray} {c : Int} {x : ByteArray} (h : x.size ≤ 200) : lim L c (IntKind.u64.wrap (((if hasL L c then x else ⟨#[]⟩ : ByteArray).size : Nat) : Int)) 0 16384 = true := by
  cases hh : hasL L c
  · rw [if_neg (by simp)]
    exact lim_zero hh (by decide)
  · rw [if_pos rfl, u64_id (by omega) (by omega)]
    exact lim_yes hh (by omega) (by omega)
/-- The message is right. -/
theorem nm_right (m : Ms) (L : List (En × Bool)) (A : Option Addr) (n c : Nat) (hL : ∀ p ∈ L, p.1.Ok) (hn : (nm m L A n c).es.length = n)
    (i0 : 0 ≤ m.index) (i1 : m.index ≤ 18446744073709551615) (p0 : 0 ≤ m.prev) (p1 : m.prev ≤ 18446744073709551615) (c0 : 0 ≤ m.commit) (c1 : m.commit ≤ 18446744073709551615) (m0 : 0 ≤ m.mark) (m1 : m.mark ≤ 18446744073709551615)
    (hs : m.snap.size ≤ 140737488351232) : mrightB (nm m L A n c) = true := by
  have hw : hasWrong (nm m L A n c).es = false := by
    unfold hasWrong
    rw [List.any_eq_false]
    intro e he
    rw [(nes_mem hL he).2.1]
    simp
  have hk := nkind m.kind
  have hnl := nes_length m L A n c
  rw [hn] at hnl
  have hn0 : hasL (mfl (m.kind % 10 + 1)) 101 = false → n = 0 := fun h => by
    have : (nm m L A n c).es = [] := by
      show (if hasL (mfl (m.kind % 10 + 1)) 101 then mks L else []) = []
      rw [h, if_neg (by simp)]
    rw [this] at hn
    exact hn.symm
  have hm : masksB (nm m L A n c) = true := by
    unfold masksB masks
    simp only [List.all_cons, List.all_nil, id, Bool.and_true, Bool.and_eq_true]
    refine ⟨decide_eq_true hk, ⟨decide_eq_true (nfrom m.frm).1, decide_eq_true (nfrom m.frm).2⟩, ⟨decide_eq_true (nfrom m.dst).1, decide_eq_true (nfrom m.dst).2⟩, lim_if i0 i1, lim_if p0 p1, lim_if c0 c1, lim_if m0 m1, lim_bit _ _, lim_n (n := n) (by omega) hn0, lim_snap (cut200_size _ hs)⟩
  unfold mrightB
  rw [hm, hw]
  rfl
/-- Of what level a message is. -/
def mlvl (m : Ms) : Int := if (m.kind == 9 || m.kind == 10 || m.es.any fun e => e.kind == 11) then 2 else 1
theorem mlvl_bounds (m : Ms) : 1 ≤ mlvl m ∧ mlvl m ≤ 2 := by
  unfold mlvl
  split <;> omega
theorem mlvl_two (m : Ms) : (mlvl m == 2) = (m.kind == 9 || m.kind == 10 || m.es.any fun e => e.kind == 11) := by
  unfold mlvl
  cases (m.kind == 9 || m.kind == 10 || m.es.any fun e => e.kind == 11) <;> rfl
theorem lvl_two (k : Int) : (lvl k == 2) = (k == 11) := by
  unfold lvl
  by_cases h : k = 11
  · rw [if_pos h, h]; rfl
  · rw [if_neg h, beqF h]; rfl
end Go.Proofs.YtpdbeijfchmlgaaGreat
