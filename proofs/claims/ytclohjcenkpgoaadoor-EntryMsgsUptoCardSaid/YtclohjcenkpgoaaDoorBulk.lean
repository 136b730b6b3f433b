/-
  How much a reading holds: what a made entry's texts are bounded by.
  Conditions: named in each theorem.
-/
import Derived.Test.YtclohjcenkpgoaaDoorOpen
namespace Go.Proofs.YtclohjcenkpgoaaDoor
open Go.ChangeShapes Go.WideShapes Go.ChangeAt Go.RowKit
set_option linter.unusedVariables false
theorem bulk_le_all {H : Type} : ∀ {ds : List (DataW H)} {d : DataW H}, d ∈ ds → Rows.uptoBulk d ≤ Rows.uptoBulkAll ds
  | x :: ds, d, h => by
    rw [Rows.uptoBulkAll]
    rcases List.mem_cons.1 h with rfl | h
    · omega
    · have := bulk_le_all h
      omega
theorem bulk_agg {H : Type} {ds : List (DataW H)} {d : DataW H} (h : d ∈ ds) : Rows.uptoBulk d ≤ Rows.uptoBulk (.agg ds) := by
  rw [show Rows.uptoBulk (.agg ds) = Rows.uptoBulkAll ds + 1 by rw [Rows.uptoBulk]]
  have := bulk_le_all h
  omega
theorem bulk_small {H : Type} {ds : List (DataW H)} {d : DataW H} (h : Rows.uptoSmall H ds = true) (hd : d ∈ ds) : Rows.uptoBulk d ≤ 1048576 :=
  Nat.le_trans (bulk_le_all hd) (of_decide_eq_true h)
theorem bulk_string {H : Type} (l : List UInt8) : Rows.uptoBulk (H := H) (.lit (.string l)) = l.length + 1 := by rw [Rows.uptoBulk]
set_option maxHeartbeats 2000000 in
set_option maxRecDepth 100000 in
theorem bulk_entry {H : Type} {enc : TypeId × Value → H} {w : World} {base fuel : Nat} {sp : Nat → Bool} {held : Bool} {x : DataW H × List MemPlace} {e : En}
    (h : DataW.trod enc Tryd.prog w base sp held fuel 24 (ec e).toList = some x) : e.data.size ≤ Rows.uptoBulk x.1 ∧ e.old.size ≤ Rows.uptoBulk x.1 := by
  obtain ⟨xs, n, _, rfl, hl, hlen, hf⟩ := DataW.trod_struct Tryd.underlying24 h
  match xs, hlen with
  | [y0, y1, y2, y3, y4, y5, y6, y7, y8, y9, y10], _ =>
    have t9 := hf 9 _ rfl
    have t10 := hf 10 _ rfl
    simp [cells9] at t9 t10
    obtain ⟨u9, h9, d9, _⟩ := DataW.trod_string Tryd.underlying9 t9
    obtain ⟨u10, h10, d10, _⟩ := DataW.trod_string Tryd.underlying9 t10
    simp at h9 h10
    have b9 : Rows.uptoBulk y9.1 = u9.data.toList.length + 1 := by rw [d9, bulk_string]
    have b10 : Rows.uptoBulk y10.1 = u10.data.toList.length + 1 := by rw [d10, bulk_string]
    rw [Array.length_toList] at b9 b10
    have m9 : Rows.uptoBulk y9.1 ≤ Rows.uptoBulk (.agg ([y0, y1, y2, y3, y4, y5, y6, y7, y8, y9, y10].map (·.1))) := bulk_agg (by simp)
    have m10 : Rows.uptoBulk y10.1 ≤ Rows.uptoBulk (.agg ([y0, y1, y2, y3, y4, y5, y6, y7, y8, y9, y10].map (·.1))) := bulk_agg (by simp)
    rw [h9, h10]
    have g9 : u9.size = u9.data.size := rfl
    have g10 : u10.size = u10.data.size := rfl
    exact ⟨Nat.le_trans (by omega) m9, Nat.le_trans (by omega) m10⟩
set_option maxHeartbeats 2000000 in
set_option maxRecDepth 100000 in
theorem bulk_made {H : Type} {enc : TypeId × Value → H} {w : World} {base : Nat} {sp : Nat → Bool} {held : Bool} {d : DataW H} {p : List MemPlace} {e : En} {o : Bool}
    (h : DataW.Trod enc Tryd.prog w base sp held 26 (mdv e o) d p) : e.data.size ≤ Rows.uptoBulk d ∧ e.old.size ≤ Rows.uptoBulk d := by
  obtain ⟨fuel, hf⟩ := h
  obtain ⟨y0, y1, m, hx, _, hy0, hy1⟩ := trod_struct2 Tryd.underlying26 hf
  simp [Value.cells, cells24, cells4] at hy0 hy1
  simp only [Prod.mk.injEq] at hx
  obtain ⟨rfl, _⟩ := hx
  have hb := bulk_entry (e := e) hy0
  have hm : Rows.uptoBulk y0.1 ≤ Rows.uptoBulk (.agg [y0.1, y1.1]) := bulk_agg (by simp)
  exact ⟨Nat.le_trans hb.1 hm, Nat.le_trans hb.2 hm⟩
end Go.Proofs.YtclohjcenkpgoaaDoor
