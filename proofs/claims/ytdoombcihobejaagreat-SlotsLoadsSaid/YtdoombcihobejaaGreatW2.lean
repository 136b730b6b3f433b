/-
  What is put: the writer's String, number, zeros.
  Conditions: named in each theorem.
-/
import Derived.Test.YtdoombcihobejaaGreatW
import Derived.Test.YtdoombcihobejaaGreatShelfR
namespace Go.Proofs.YtdoombcihobejaaGreat
open Go.RowKit
set_option linter.unusedVariables false

theorem strCells_bytes (x : ByteArray) : Lib.strCells x = Lib.byteCells x.data.toList := by
  unfold Lib.strCells Lib.byteCells
  simp

set_option maxHeartbeats 1000000 in
set_option maxRecDepth 100000 in
theorem wstring (B b : Nat) (x : ByteArray) (w : World) (h : Wt B b x w) (hx : 0 < x.size) :
    Calls Tryz.prog 49 #[.pointer (some ⟨b, 0, none⟩)] w fun e w' => e = .returned (.string x) ∧ Below B w w' := by
  obtain ⟨p, hB, v, hbk, hown, hne⟩ : ∃ p, Lib.BuilderAt 108 5 B b p (Lib.byteCells x.data.toList) w := by
    unfold Wt at h
    rw [strCells_bytes] at h
    rcases h with h | h
    · exact ⟨_, h⟩
    · exact ⟨_, h⟩
  obtain ⟨l, hl⟩ : ∃ l, l = x.data.toList := ⟨_, rfl⟩
  have hxe : x = ⟨l.toArray⟩ := by rw [hl]
  have hl0 : l.length ≠ 0 := by rw [hl]; simp; intro e; rw [e] at hx; exact absurd hx (by decide)
  have hne0 : l ≠ [] := fun e => hl0 (by rw [e]; rfl)
  rw [← hl] at hown
  rw [hxe]
  clear hxe hl hx h
  rw [Lib.byteCells_length] at hown
  obtain ⟨g, cap, cur, rfl, hbg, hg, hnc, hcm, hcs, htake⟩ : ∃ g cap cur, v = .slice (some ⟨g, 0, none⟩) l.length cap ∧ B ≤ g ∧ w.heap[g]? = some (.cells cur 5 (0, 0)) ∧ l.length ≤ cap ∧ cap ≤ maxLen ∧ cur.size = cap * 1 ∧ cur.toList.take (l.length * 1) = Lib.byteCells l := by
    rcases hown.2 with ⟨_, hz⟩ | ⟨g, cap, cur, hv, r⟩
    · exact absurd hz hl0
    · exact ⟨g, cap, cur, hv, r⟩
  have c1 : w.drew.cell? ⟨b, 1, none⟩ = some (.slice (some ⟨g, 0, none⟩) l.length cap) := by
    have : w.drew.heap[b]? = some (.cells #[p, .slice (some ⟨g, 0, none⟩) l.length cap] 108 (0, 0)) := hbk
    rw [Lib.cell_of_heap this]; rfl
  have hSD : (Builtin.unsafeSliceData_ #[67] 139 #[.slice (some ⟨g, 0, none⟩) l.length cap]).run Tryz.prog w.drew = .ok (.pointer (some ⟨g, 0, none⟩)) w.drew :=
    Lib.run_unsafeSliceData_row _ _ _ _ _ _ (by omega)
  have hUS : (Builtin.unsafeString_ #[139, 3] 9 #[.pointer (some ⟨g, 0, none⟩), .int .i64 l.length]).run Tryz.prog w.drew = .ok (.string ⟨l.toArray⟩) (w.drew.freeze ⟨g, 0, none⟩ l.length) := by
    refine Lib.run_unsafeString_row w.drew 139 3 9 5 Tryz.underlying139 wcells5 g cur.size (by have hg' : w.drew.heap[g]? = some (.cells cur 5 (0, 0)) := hg; simp [World.shape?, hg']) l hne0 (by omega) (by unfold maxLen at hcm; omega) ?_
    intro j x hx
    have := hown.cells (g := g) rfl j (.int .u8 x.toNat) (by simp [Lib.byteCells, hx])
    exact this
  have mixed : Tryz.prog.follows Departure.mixedOrders = true := by kernel_rfl
  go_enter Tryz.func49, Tryz.ntmps49
  go_wp2
  go_region_o
  all_goals (go_wp2; go_ret; exact ⟨rfl, Lib.below_freeze (Below.drew (Below.refl B w)) (p := ⟨g, 0, none⟩) hbg _⟩)

/-- So many bytes 0. -/
def zer (n : Nat) : ByteArray := ⟨(List.replicate n (0 : UInt8)).toArray⟩
theorem zer_size (n : Nat) : (zer n).size = n := by
  show (List.replicate n (0 : UInt8)).toArray.size = n
  simp
theorem zer_rep (n : Nat) : (⟨(Lib.repeatL (⟨#[0]⟩ : ByteArray).data.toList n).toArray⟩ : ByteArray) = zer n := by
  unfold zer
  congr 2
  induction n with
  | zero => rfl
  | succ n ih =>
    rw [List.replicate_succ, ← ih]
    rfl
/-- What stands of a writer ahead of a call. -/
structure Ws (w0 : World) (B b : Nat) (x : ByteArray) (w : World) : Prop where
  t : Wt B b x w
  be : Below B w0 w
  ok : Lib.OthersKept 5 (some b) w0 w
  sz : B ≤ w.heap.size
  sw : w0.heap.size ≤ w.heap.size
theorem Wt.below {B b : Nat} {x : ByteArray} {w w1 : World} (h : Wt B b x w) (hb : Below w.heap.size w w1) : Wt B b x w1 := by
  have key : ∀ p, Lib.BuilderAt 108 5 B b p (Lib.strCells x) w → Lib.BuilderAt 108 5 B b p (Lib.strCells x) w1 := by
    rintro p ⟨hB, v, hbk, hown, hne⟩
    refine ⟨hB, v, (hb.block b (Array.getElem?_eq_some_iff.1 hbk).1).trans hbk, ?_, hne⟩
    exact hown.kept (row := none) ⟨hb.os, hb.tape, hb.output, hb.size, fun k hk _ => hb.block k hk⟩ (by
      cases hv : v.ownBlock with
      | none => exact .inl rfl
      | some k => exact .inr (by simp))
  rcases h with h | h
  · exact .inl (key _ h)
  · exact .inr (key _ h)
theorem OthersKept.of_below {w w1 : World} {b : Option Nat} (hb : Below w.heap.size w w1) : Lib.OthersKept 5 b w w1 := fun i o hi h1 h2 => (hb.block i (Array.getElem?_eq_some_iff.1 hi).1).trans hi
theorem Ws.below {w0 : World} {B b : Nat} {x : ByteArray} {w w1 : World} (h : Ws w0 B b x w) (hb : Below w.heap.size w w1) : Ws w0 B b x w1 :=
  ⟨h.t.below hb, h.be.trans (hb.mono h.sz), h.ok.trans (OthersKept.of_below hb), Nat.le_trans h.sz hb.size, Nat.le_trans h.sw hb.size⟩
theorem Ws.drew {w0 : World} {B b : Nat} {x : ByteArray} {w : World} (h : Ws w0 B b x w) : Ws w0 B b x w.drew := ⟨h.t, h.be.drew, h.ok, h.sz, h.sw⟩
theorem Ws.start {B b : Nat} {x : ByteArray} {w : World} (h : Wt B b x w) (hB : B ≤ w.heap.size) : Ws w B b x w := ⟨h, Below.refl _ _, Lib.OthersKept.refl _ _ _, hB, Nat.le_refl _⟩

set_option maxHeartbeats 1000000 in
set_option maxRecDepth 100000 in
theorem number_any (B b n : Nat) (k : Nat) (x : ByteArray) (w : World) (h : Wt B b x w) (hlen : x.size ≤ 140737488000000) (hB : B ≤ w.heap.size) (hk : k ≤ 8) :
    Calls Tryz.prog 54 #[.pointer (some ⟨b, 0, none⟩), .int .u64 n, .int .i64 k] w fun e w' => e = .returned (.tuple #[]) ∧ Ws w B b (x ++ Vi.fxB n k) w' := by
  have hfs : (Vi.fxB n k).size ≤ 8 := by rw [Vi.fxB_size n k hk]; exact hk
  obtain ⟨s, hs⟩ : ∃ s, s = Vi.fxB n k := ⟨_, rfl⟩
  have K1 : Hid (∀ W, Ws w B b x W → Calls Tryz.prog 63 #[.int .u64 n, .int .i64 k] W fun e w' => e = .returned (.string s) ∧ Ws w B b x w') := fun W hW => (fixed_any n k W).mono fun e w' ⟨h1, h2⟩ => ⟨by rw [h1, hs], hW.below h2⟩
  have K2 : Hid (∀ W, Ws w B b x W → Calls Tryz.prog 82 #[.pointer (some ⟨b, 0, none⟩), .string s] W fun e w' => e = .returned (.tuple #[.int .i64 s.size, .nilIface]) ∧ Ws w B b (x ++ s) w') := fun W hW => (wwrite B b x s W hW.t (by rw [hs]; omega) hW.sz).mono fun e w' ⟨h1, h2, h3, h4⟩ => ⟨h1, h2, hW.be.trans h3, hW.ok.trans h4, Nat.le_trans hW.sz h3.size, Nat.le_trans hW.sw h3.size⟩
  have S0 : Ws w B b x w := Ws.start h hB
  have S1 := S0.drew
  rw [← hs]
  clear h hlen hB hk hfs hs
  go_enter Tryz.func54, Tryz.ntmps54
  go_region_held3 (fun _ => True) (trivial) (first
    | (go_at_call 63; (with_reducible refine (K1.out _ (by assumption)).mono ?_); rintro r w6 ⟨rfl, s5⟩)
    | (go_at_call 82; (with_reducible refine (K2.out _ (by assumption)).mono ?_); rintro r w7 ⟨rfl, s6⟩))
  all_goals
    go_wp2
    go_end0
    exact ⟨rfl, s6⟩
end Go.Proofs.YtdoombcihobejaaGreat
