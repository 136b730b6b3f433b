/-
  What each letter tells of an entry.
  Conditions: the table of powers of ten lies as its initialiser lays it; the entry's numbers are those of their kinds, its texts of at most 2^46 bytes.
-/
import Derived.Test.YtclohjcenkpgoaaDoorTells
import Derived.Test.YtclohjcenkpgoaaDoorRight
import Derived.Deep.RegionHeld3
import Derived.IntWalk
namespace Go.Proofs.YtclohjcenkpgoaaDoor
open Go.RowKit
set_option linter.unusedVariables false

/-- What a letter tells. -/
def tell (c : Int) (e : En) : ByteArray :=
  if c = 99 then dec e.client ++ str [47] ++ dec e.seq else if c = 98 then dec e.block else if c = 109 then dec e.many
  else if c = 110 then num e.node else if c = 108 then num e.level else if c = 100 then hex e.data else if c = 111 then hex e.old else ⟨#[]⟩

set_option maxRecDepth 100000 in
set_option maxHeartbeats 1000000 in
theorem tblock_any (e : En) (w : World) (h0 : 0 ≤ e.block) (h1 : e.block ≤ 18446744073709551615) (ht : Tab w) :
    Calls Tryd.prog 52 #[ev e] w fun r w' => r = .returned (.string (tell 98 e)) ∧ Below w.heap.size w w' := by
  have hb0 : Below w.heap.size w (w.alloc (Obj.cells (ec e) 78)) := (Below.refl _ _).alloc (Nat.le_refl _) _
  have hc := digits_any e.block (w.alloc (Obj.cells (ec e) 78)) h0 h1 (ht.below hb0)
  have HC := Lib.hid hc
  have HB := Lib.hid hb0
  have hT : Hid (tell 98 e = dec e.block) := by show _ = _; simp [tell]
  clear hc hb0 ht
  go_enter Tryd.func52, Tryd.ntmps52
  go_wp2_with (go_at_call 44; (with_reducible refine HC.out.mono ?_); rintro r w1 ⟨rfl, hb1⟩)
  go_ret
  exact ⟨ret_str hT.out.symm, HB.out.trans (hb1.mono (by simp))⟩

set_option maxRecDepth 100000 in
set_option maxHeartbeats 1000000 in
theorem tmany_any (e : En) (w : World) (h0 : 0 ≤ e.many) (h1 : e.many ≤ 18446744073709551615) (ht : Tab w) :
    Calls Tryd.prog 53 #[ev e] w fun r w' => r = .returned (.string (tell 109 e)) ∧ Below w.heap.size w w' := by
  have hb0 : Below w.heap.size w (w.alloc (Obj.cells (ec e) 78)) := (Below.refl _ _).alloc (Nat.le_refl _) _
  have hc := digits_any e.many (w.alloc (Obj.cells (ec e) 78)) h0 h1 (ht.below hb0)
  have HC := Lib.hid hc
  have HB := Lib.hid hb0
  have hT : Hid (tell 109 e = dec e.many) := by show _ = _; simp [tell]
  clear hc hb0 ht
  go_enter Tryd.func53, Tryd.ntmps53
  go_wp2_with (go_at_call 44; (with_reducible refine HC.out.mono ?_); rintro r w1 ⟨rfl, hb1⟩)
  go_ret
  exact ⟨ret_str hT.out.symm, HB.out.trans (hb1.mono (by simp))⟩

set_option maxRecDepth 100000 in
set_option maxHeartbeats 1000000 in
theorem tnode_any (e : En) (w : World) (h0 : -9223372036854775808 ≤ e.node) (h1 : e.node ≤ 9223372036854775807) (ht : Tab w) :
    Calls Tryd.prog 54 #[ev e] w fun r w' => r = .returned (.string (tell 110 e)) ∧ Below w.heap.size w w' := by
  have hb0 : Below w.heap.size w (w.alloc (Obj.cells (ec e) 78)) := (Below.refl _ _).alloc (Nat.le_refl _) _
  have hc := itoa_any e.node (w.alloc (Obj.cells (ec e) 78)) h0 h1 (ht.below hb0)
  have HC := Lib.hid hc
  have HB := Lib.hid hb0
  have hT : Hid (tell 110 e = num e.node) := by show _ = _; simp [tell]
  clear hc hb0 ht
  go_enter Tryd.func54, Tryd.ntmps54
  go_wp2_with (go_at_call 43; (with_reducible refine HC.out.mono ?_); rintro r w1 ⟨rfl, hb1⟩)
  go_ret
  exact ⟨ret_str hT.out.symm, HB.out.trans (hb1.mono (by simp))⟩

set_option maxRecDepth 100000 in
set_option maxHeartbeats 1000000 in
theorem tlevel_any (e : En) (w : World) (h0 : -9223372036854775808 ≤ e.level) (h1 : e.level ≤ 9223372036854775807) (ht : Tab w) :
    Calls Tryd.prog 55 #[ev e] w fun r w' => r = .returned (.string (tell 108 e)) ∧ Below w.heap.size w w' := by
  have hb0 : Below w.heap.size w (w.alloc (Obj.cells (ec e) 78)) := (Below.refl _ _).alloc (Nat.le_refl _) _
  have hc := itoa_any e.level (w.alloc (Obj.cells (ec e) 78)) h0 h1 (ht.below hb0)
  have HC := Lib.hid hc
  have HB := Lib.hid hb0
  have hT : Hid (tell 108 e = num e.level) := by show _ = _; simp [tell]
  clear hc hb0 ht
  go_enter Tryd.func55, Tryd.ntmps55
  go_wp2_with (go_at_call 43; (with_reducible refine HC.out.mono ?_); rintro r w1 ⟨rfl, hb1⟩)
  go_ret
  exact ⟨ret_str hT.out.symm, HB.out.trans (hb1.mono (by simp))⟩

set_option maxRecDepth 100000 in
set_option maxHeartbeats 1000000 in
theorem tdata_any (e : En) (w : World) (hs : e.data.size ≤ 70368744177664) (ht : Tab w) :
    Calls Tryd.prog 56 #[ev e] w fun r w' => r = .returned (.string (tell 100 e)) ∧ Below w.heap.size w w' := by
  have hb0 : Below w.heap.size w (w.alloc (Obj.cells (ec e) 78)) := (Below.refl _ _).alloc (Nat.le_refl _) _
  have hc := six_any e.data (w.alloc (Obj.cells (ec e) 78)) hs
  have HC := Lib.hid hc
  have HB := Lib.hid hb0
  have hT : Hid (tell 100 e = hex e.data) := by show _ = _; simp [tell]
  clear hc hb0 ht
  go_enter Tryd.func56, Tryd.ntmps56
  go_wp2_with (go_at_call 72; (with_reducible refine HC.out.mono ?_); rintro r w1 ⟨rfl, hb1⟩)
  go_ret
  exact ⟨ret_str hT.out.symm, HB.out.trans (hb1.mono (by simp))⟩

set_option maxRecDepth 100000 in
set_option maxHeartbeats 1000000 in
theorem told_any (e : En) (w : World) (hs : e.old.size ≤ 70368744177664) (ht : Tab w) :
    Calls Tryd.prog 57 #[ev e] w fun r w' => r = .returned (.string (tell 111 e)) ∧ Below w.heap.size w w' := by
  have hb0 : Below w.heap.size w (w.alloc (Obj.cells (ec e) 78)) := (Below.refl _ _).alloc (Nat.le_refl _) _
  have hc := six_any e.old (w.alloc (Obj.cells (ec e) 78)) hs
  have HC := Lib.hid hc
  have HB := Lib.hid hb0
  have hT : Hid (tell 111 e = hex e.old) := by show _ = _; simp [tell]
  clear hc hb0 ht
  go_enter Tryd.func57, Tryd.ntmps57
  go_wp2_with (go_at_call 72; (with_reducible refine HC.out.mono ?_); rintro r w1 ⟨rfl, hb1⟩)
  go_ret
  exact ⟨ret_str hT.out.symm, HB.out.trans (hb1.mono (by simp))⟩

set_option maxRecDepth 100000 in
set_option maxHeartbeats 1000000 in
theorem tclient_any (e : En) (w : World) (h0 : 0 ≤ e.client) (h1 : e.client ≤ 18446744073709551615) (h2 : 0 ≤ e.seq) (h3 : e.seq ≤ 18446744073709551615) (ht : Tab w) :
    Calls Tryd.prog 51 #[ev e] w fun r w' => r = .returned (.string (tell 99 e)) ∧ Below w.heap.size w w' := by
  have hb0 : Below w.heap.size w (w.alloc (Obj.cells (ec e) 78)) := (Below.refl _ _).alloc (Nat.le_refl _) _
  obtain ⟨wr, hW⟩ : ∃ wr, wr = w.alloc (Obj.cells (ec e) 78) := ⟨_, rfl⟩
  have c3 : wr.cell? ⟨w.heap.size, 3, none⟩ = some (.int .u64 e.client) := by rw [hW, World.cell?_alloc_new]; rfl
  have c4 : wr.cell? ⟨w.heap.size, 4, none⟩ = some (.int .u64 e.seq) := by rw [hW, World.cell?_alloc_new]; rfl
  rw [← hW] at hb0
  have hb0d : Below w.heap.size w wr.drew := ⟨hb0.os, hb0.tape, hb0.output, hb0.size, hb0.block⟩
  have htr : Tab wr.drew := ht.below hb0d
  have hsz : w.heap.size < wr.heap.size := by rw [hW]; simp
  have hd : ∀ (n : Int) (W : World), 0 ≤ n → n ≤ 18446744073709551615 → Tab W → Below w.heap.size w W → w.heap.size < W.heap.size → W.cell? ⟨w.heap.size, 3, none⟩ = some (.int .u64 e.client) → W.cell? ⟨w.heap.size, 4, none⟩ = some (.int .u64 e.seq) →
      Calls Tryd.prog 44 #[.int .u64 n] W fun r w' => r = .returned (.string (dec n)) ∧ Tab w' ∧ Below w.heap.size w w' ∧ w.heap.size < w'.heap.size ∧ w'.cell? ⟨w.heap.size, 3, none⟩ = some (.int .u64 e.client) ∧ w'.cell? ⟨w.heap.size, 4, none⟩ = some (.int .u64 e.seq) := by
    intro n W g0 g1 gt gb gs g3 g4
    refine (digits_any n W g0 g1 gt).mono ?_
    rintro r w1 ⟨hr, hb1⟩
    exact ⟨hr, gt.below hb1, gb.trans (hb1.mono gb.size), Nat.lt_of_lt_of_le gs hb1.size, (hb1.cell (p := ⟨w.heap.size, 3, none⟩) gs).trans g3, (hb1.cell (p := ⟨w.heap.size, 4, none⟩) gs).trans g4⟩
  have HD := Lib.hid hd
  clear hd
  have hs1 := dec_size e.client h1
  have hs2 := dec_size e.seq h3
  have hT : Hid (tell 99 e = dec e.client ++ str [47] ++ dec e.seq) := by show _ = _; simp [tell]
  have hq1 : ¬ 9223372036854775807 < (dec e.client).size + 1 := by omega
  have hq2 : ¬ 9223372036854775807 < (dec e.client).size + 1 + (dec e.seq).size := by omega
  have HW := Lib.hid hW
  clear ht
  go_enter Tryd.func51, Tryd.ntmps51
  go_wp2
  rw [← hW]
  clear hW
  go_region_held3 (fun w' => Tab w' ∧ Below w.heap.size w w' ∧ w.heap.size < w'.heap.size ∧ w'.cell? ⟨w.heap.size, 3, none⟩ = some (.int .u64 e.client) ∧ w'.cell? ⟨w.heap.size, 4, none⟩ = some (.int .u64 e.seq))
    (first | exact ⟨htr, hb0d, hsz, c3, c4⟩ | exact ⟨by assumption, by assumption, by assumption, by assumption, by assumption⟩)
    (first
      | (go_at_call 44; (with_reducible refine (HD.out e.client _ h0 h1 ?_ ?_ ?_ ?_ ?_).mono ?_); (assumption); (assumption); (assumption); (assumption); (assumption); rintro r w1 ⟨rfl, k1, k2, k3, k4, k5⟩)
      | (go_at_call 44; (with_reducible refine (HD.out e.seq _ h2 h3 ?_ ?_ ?_ ?_ ?_).mono ?_); (assumption); (assumption); (assumption); (assumption); (assumption); rintro r w1 ⟨rfl, k1, k2, k3, k4, k5⟩))
  all_goals
    rename_i hk
    go_wp2
    go_ret
    exact ⟨ret_str hT.out.symm, hk.2.1⟩
end Go.Proofs.YtclohjcenkpgoaaDoor
