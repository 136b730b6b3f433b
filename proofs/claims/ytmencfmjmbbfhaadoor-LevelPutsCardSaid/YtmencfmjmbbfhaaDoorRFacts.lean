/-
  What is asked of an entry, told in numbers.
  Conditions: the numbers are those of their kinds.
-/
import Derived.Test.YtmencfmjmbbfhaaDoorRight
namespace Go.Proofs.YtmencfmjmbbfhaaDoor
open Go.RowKit
set_option linter.unusedVariables false
theorem lim_facts {L : ByteArray} {c n lo hi : Int} : lim L c n lo hi = true ↔ ((hasL L c = true → lo ≤ n ∧ n ≤ hi) ∧ (hasL L c = false → n = 0)) := by
  unfold lim
  cases hasL L c <;> simp
structure Asked (e : En) : Prop where
  f : fb e.kind = true
  t : 1 ≤ e.term
  i : 1 ≤ e.index
  c1 : hasL (fl e.kind) 99 = true → 1 ≤ e.client
  c0 : hasL (fl e.kind) 99 = false → e.client = 0
  s0 : hasL (fl e.kind) 99 = false → e.seq = 0
  b1 : e.block ≤ 4294967295
  b0 : hasL (fl e.kind) 98 = false → e.block = 0
  m1 : e.many ≤ 4294967295
  m0 : hasL (fl e.kind) 109 = false → e.many = 0
  n1 : hasL (fl e.kind) 110 = true → 1 ≤ e.node ∧ e.node ≤ 7
  n0 : hasL (fl e.kind) 110 = false → e.node = 0
  l1 : hasL (fl e.kind) 108 = true → 1 ≤ e.level ∧ e.level ≤ 2
  l0 : hasL (fl e.kind) 108 = false → e.level = 0
  d1 : (e.data.size : Int) ≤ 64
  d0 : hasL (fl e.kind) 100 = false → (e.data.size : Int) = 0
  o1 : (e.old.size : Int) ≤ 64
  o0 : hasL (fl e.kind) 111 = false → (e.old.size : Int) = 0
theorem both {b : Bool} {P : Prop} (h1 : b = true → P) (h2 : b = false → P) : P := by cases b; exact h2 rfl; exact h1 rfl
theorem asked_iff (e : En) (ok : e.Ok) : rightB e = true ↔ Asked e := by
  obtain ⟨t0, t1, i0, i1, k0, k1, c0, c1, s0, s1, b0, b1, m0, m1, n0, n1, l0, l1, d1, o1⟩ := ok
  unfold rightB asks
  simp only [List.all_cons, List.all_nil, id, Bool.and_true, Bool.and_eq_true, decide_eq_true_eq, lim_facts, IntKind.wrap_u64]
  constructor
  · rintro ⟨a0, a1, a2, a3, a4, a5, a6, a7, a8, a9, a10⟩
    constructor
    · exact a0
    · exact a1
    · exact a2
    · exact fun h => (a3.1 h).1
    · exact a3.2
    · exact a4.2
    · exact both (fun h => (a5.1 h).2) (fun h => by have := a5.2 h; omega)
    · exact a5.2
    · exact both (fun h => (a6.1 h).2) (fun h => by have := a6.2 h; omega)
    · exact a6.2
    · exact fun h => by have := a7.1 h; omega
    · exact fun h => by have := a7.2 h; omega
    · exact fun h => by have := a8.1 h; omega
    · exact fun h => by have := a8.2 h; omega
    · exact both (fun h => by have := a9.1 h; omega) (fun h => by have := a9.2 h; omega)
    · exact fun h => by have := a9.2 h; omega
    · exact both (fun h => by have := a10.1 h; omega) (fun h => by have := a10.2 h; omega)
    · exact fun h => by have := a10.2 h; omega
  · intro A
    have A1 := A.d1
    have A2 := A.o1
    have A3 := A.b1
    have A4 := A.m1
    refine ⟨A.f, A.t, A.i, ⟨fun h => ⟨A.c1 h, c1⟩, A.c0⟩, ⟨fun h => ⟨s0, s1⟩, A.s0⟩, ⟨fun h => ⟨b0, A.b1⟩, A.b0⟩, ⟨fun h => ⟨m0, A.m1⟩, A.m0⟩, ⟨fun h => by have := A.n1 h; omega, fun h => by have := A.n0 h; omega⟩, ⟨fun h => by have := A.l1 h; omega, fun h => by have := A.l0 h; omega⟩, ⟨fun h => by omega, fun h => by have := A.d0 h; omega⟩, ⟨fun h => by omega, fun h => by have := A.o0 h; omega⟩⟩
end Go.Proofs.YtmencfmjmbbfhaaDoor
