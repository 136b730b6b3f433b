/-
  A row of ints beside a device.
  Conditions: named in each theorem.
-/
import Derived.Test.YtdoombcihobejaaGreatRd
namespace Go.Proofs.YtdoombcihobejaaGreat
open Go.RowKit Dk
set_option linter.unusedVariables false
theorem Tryz.info3 : (Tryz.prog.info? 3).map (fun i => (i.zero, i.size, i.bytes)) = some (some (.int .i64 0), 1, 8) := by kernel_rfl
/-- A row of ints lies in none of a device's blocks. -/
theorem row_apart {w : World} {B n : Nat} {v : Value} {xs : List Value} {g : Nat} {L : List Nat} {d : St} (h : w.ownsRow B 3 1 v n xs) (hD : Dv w g L d) : ∀ k ∈ L, v.ownBlock ≠ some k := by
  obtain ⟨_, fb, mb, cap, rfl, hA⟩ := hD
  intro k hk he
  rcases h.2 with ⟨rfl, _⟩ | ⟨gb, c, cur, rfl, _, hh, _⟩
  · simp [Value.ownBlock] at he
  · have e : gb = k := by simpa [Value.ownBlock] using he
    subst e
    simp at hk
    rcases hk with rfl | rfl | rfl
    · have := hh.symm.trans hA.blk; simp at this
    · obtain ⟨cur', h1, _⟩ := hA.row
      have := hh.symm.trans h1; simp at this
    · obtain ⟨D, ⟨es, clock, hb, _⟩, _⟩ := hA.map
      have := hh.symm.trans hb; simp at this
theorem row_keep {w w' : World} {B n : Nat} {v : Value} {xs : List Value} {L : List Nat} {e s : Nat} (h : w.ownsRow B e s v n xs) (hk : Keep L w w') (ha : ∀ k ∈ L, v.ownBlock ≠ some k) : w'.ownsRow B e s v n xs := by
  obtain ⟨hl, h⟩ := h
  refine ⟨hl, ?_⟩
  rcases h with h | ⟨gb, c, cur, rfl, hb, hh, r⟩
  · exact .inl h
  · exact .inr ⟨gb, c, cur, rfl, hb, (hk.block gb (lt_of_heap hh) (fun hm => ha gb hm (by simp [Value.ownBlock]))).trans hh, r⟩
theorem dv_grown {w w' : World} {g : Nat} {L : List Nat} {d : St} {row : Option Nat} (h : Dv w g L d) (hg : w.grownBy w' row) (ha : ∀ k ∈ L, row ≠ some k) : Dv w' g L d :=
  h.of_heap (fun k hk => hg.block k (h.lt k hk) (fun e => ha k hk e.symm))
end Go.Proofs.YtdoombcihobejaaGreat
