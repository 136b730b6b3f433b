/-
  How much a reading holds: what a message by its parts is bounded by.
  Conditions: named in each theorem.
-/
import Derived.Test.YtclohjcenkpgoaaDoorBulk
import Derived.Test.YtclohjcenkpgoaaDoorOpenN
namespace Go.Proofs.YtclohjcenkpgoaaDoor
open Go.ChangeShapes Go.WideShapes Go.ChangeAt Go.RowKit
set_option linter.unusedVariables false
theorem bulk_pos {H : Type} (d : DataW H) : 1 ≤ Rows.uptoBulk d := by
  cases d with
  | lit l => cases l <;> simp [Rows.uptoBulk]
  | _ => simp [Rows.uptoBulk]
theorem bulk_len {H : Type} : ∀ (ds : List (DataW H)), ds.length ≤ Rows.uptoBulkAll ds
  | [] => by simp [Rows.uptoBulkAll]
  | d :: r => by
    have h1 := bulk_pos d
    have h2 := bulk_len r
    rw [Rows.uptoBulkAll, List.length_cons]
    omega
theorem bulk_slice {H : Type} {elems spare : List (DataW H)} {d : DataW H} (h : d ∈ elems) : Rows.uptoBulk d ≤ Rows.uptoBulk (.slice elems spare) := by
  rw [show Rows.uptoBulk (.slice elems spare) = Rows.uptoBulkAll elems + Rows.uptoBulkAll spare + 1 by rw [Rows.uptoBulk]]
  have := bulk_le_all h
  omega
theorem bulk_slice_len {H : Type} {elems spare : List (DataW H)} : elems.length ≤ Rows.uptoBulk (.slice elems spare) := by
  rw [show Rows.uptoBulk (.slice elems spare) = Rows.uptoBulkAll elems + Rows.uptoBulkAll spare + 1 by rw [Rows.uptoBulk]]
  have := bulk_len elems
  omega
/-- What is asked of a message's sizes. -/
structure Ms.Short (m : Ms) : Prop where
  s : m.snap.size ≤ 1048576
  n : m.n ≤ 1048576
  d : ∀ e ∈ m.es, e.data.size ≤ 1048576
  o : ∀ e ∈ m.es, e.old.size ≤ 1048576
set_option maxHeartbeats 2000000 in
set_option maxRecDepth 100000 in
theorem bulk_ents {H : Type} {enc : TypeId × Value → H} {w : World} {base fuel : Nat} {A : Option Addr} {len cap : Nat} {held : Bool} {x : DataW H × List MemPlace} {es : List En}
    (h : DataW.trod enc Tryd.prog w base (fun _ => true) held fuel 36 [.slice A len cap] = some x) (hE : Ents w.heap.size A len es w) :
    len ≤ Rows.uptoBulk x.1 ∧ (∀ e ∈ es, e.data.size ≤ Rows.uptoBulk x.1) ∧ (∀ e ∈ es, e.old.size ≤ Rows.uptoBulk x.1) := by
  rcases Deep.open_slice Tryd.underlying36 h with ⟨hcs, _⟩ | ⟨a, len', cap', m, n, D, Pl, hcs, _, hl, hm, hmm, hxx, hx⟩
  · simp at hcs
    obtain ⟨rfl, rfl, rfl⟩ := hcs
    have : es = [] := List.eq_nil_of_length_eq_zero hE.len
    subst this
    exact ⟨Nat.zero_le _, fun e he => (by cases he), fun e he => (by cases he)⟩
  · simp at hcs
    obtain ⟨rfl, rfl, rfl⟩ := hcs
    simp only [if_true] at hmm
    have hx1 : x.1 = .slice ((List.range len).map D) ((List.range (m - len)).map fun j => D (len + j)) := by rw [hxx]
    have each : ∀ e ∈ es, ∃ i, i < len ∧ e.data.size ≤ Rows.uptoBulk (D i) ∧ e.old.size ≤ Rows.uptoBulk (D i) := by
      intro e he
      obtain ⟨i, hi⟩ := List.getElem?_of_mem he
      have hil : i < len := by have := (List.getElem?_eq_some_iff.1 hi).1; rw [hE.len] at this; exact this
      obtain ⟨a', hA', _, hc⟩ := hE.at_ i e hi
      have haa : a = a' := Option.some.inj hA'
      subst haa
      obtain ⟨cs', g1, g2⟩ := hx i (by omega)
      rw [cells24] at g1
      obtain ⟨_, hlen, hcell⟩ := World.cells?_some g1
      have hcs : cs' = (ec e).toList := by
        apply List.ext_getElem?
        intro j
        by_cases hj : j < 11
        · rw [← hcell j hj, hc j hj, Array.getElem?_toList]
        · rw [List.getElem?_eq_none (by omega), List.getElem?_eq_none (by show 11 ≤ j; omega)]
      rw [hcs] at g2
      exact ⟨i, hil, bulk_entry g2⟩
    rw [hx1]
    refine ⟨?_, fun e he => ?_, fun e he => ?_⟩
    · have h1 := bulk_slice_len (elems := (List.range len).map D) (spare := (List.range (m - len)).map fun j => D (len + j))
      simpa using h1
    · obtain ⟨i, hi, h1, h2⟩ := each e he
      exact Nat.le_trans h1 (bulk_slice (List.mem_map.2 ⟨i, List.mem_range.2 hi, rfl⟩))
    · obtain ⟨i, hi, h1, h2⟩ := each e he
      exact Nat.le_trans h2 (bulk_slice (List.mem_map.2 ⟨i, List.mem_range.2 hi, rfl⟩))
set_option maxHeartbeats 2000000 in
set_option maxRecDepth 100000 in
theorem bulk_note {H : Type} {enc : TypeId × Value → H} {w : World} {base : Nat} {held : Bool} {d : DataW H} {p : List MemPlace} {m : Ms} {o : Bool} {LA : Option Addr} {ln lc : Nat} {L : List (En × Bool)}
    (h : DataW.Trod enc Tryd.prog w base (fun _ => true) held 41 (nvv m o LA ln lc) d p) (hN : NoteIn w m LA ln L) (hd : Rows.uptoBulk d ≤ 1048576) : m.Short := by
  obtain ⟨fuel, hf⟩ := h
  obtain ⟨xs, n, _, hxx, hl, hlen, hff⟩ := DataW.trod_struct Tryd.underlying41 hf
  match xs, hlen with
  | [y0, y1, y2], _ =>
    have t0 := hff 0 _ rfl
    simp [Value.cells, cells38] at t0
    simp only [Prod.mk.injEq] at hxx
    obtain ⟨rfl, _⟩ := hxx
    have hb0 : Rows.uptoBulk y0.1 ≤ 1048576 := Nat.le_trans (bulk_agg (by simp)) hd
    obtain ⟨xs2, n2, _, hx2, _, hlen2, hf2⟩ := DataW.trod_struct Tryd.underlying38 t0
    match xs2, hlen2 with
    | [z0, z1, z2, z3, z4, z5, z6, z7, z8, z9, z10], _ =>
      have t9 := hf2 9 _ rfl
      have t10 := hf2 10 _ rfl
      simp [cells36, cells9] at t9 t10
      have h0 : y0.1 = .agg ([z0, z1, z2, z3, z4, z5, z6, z7, z8, z9, z10].map (·.1)) := by rw [hx2]
      rw [h0] at hb0
      have hb9 : Rows.uptoBulk z9.1 ≤ 1048576 := Nat.le_trans (bulk_agg (by simp)) hb0
      have hb10 : Rows.uptoBulk z10.1 ≤ 1048576 := Nat.le_trans (bulk_agg (by simp)) hb0
      obtain ⟨u10, h10, d10, _⟩ := DataW.trod_string Tryd.underlying9 t10
      simp at h10
      have b10 : Rows.uptoBulk z10.1 = u10.data.toList.length + 1 := by rw [d10, bulk_string]
      rw [Array.length_toList] at b10
      have hE := bulk_ents t9 hN.en
      refine ⟨?_, Nat.le_trans hE.1 hb9, fun e he => Nat.le_trans (hE.2.1 e he) hb9, fun e he => Nat.le_trans (hE.2.2 e he) hb9⟩
      rw [h10]
      show u10.data.size ≤ _
      omega
end Go.Proofs.YtclohjcenkpgoaaDoor
