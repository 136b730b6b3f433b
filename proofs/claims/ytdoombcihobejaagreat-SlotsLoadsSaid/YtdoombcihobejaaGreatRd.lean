/-
  The contract of the device's Read.
  Conditions: named in each theorem.
-/
import Derived.Test.YtdoombcihobejaaGreatNw
import Derived.Laws.IdiomStrings
namespace Go.Proofs.YtdoombcihobejaaGreat
open Go.RowKit Dk
set_option linter.unusedVariables false
theorem conv_sec {w : World} {z o n cap : Nat} {l : List UInt8} (hl : l.length = n) (h : w.rangeAt z o (Lib.byteCells l)) : (convert 67 9 (.slice (some ⟨z, o, none⟩) n cap)).run Tryz.prog w = .ok (.string (txt l)) w := by
  subst hl
  exact run_convert_bytes_back w 67 9 5 ⟨z, o, none⟩ cap l Tryz.underlying67 Tryz.underlying5 Tryz.underlying9 (fun j hj => by rw [Addr.add_mid]; exact h j _ (by simp [Lib.byteCells, List.getElem?_eq_getElem hj]))
set_option maxHeartbeats 1000000 in
set_option maxRecDepth 100000 in
theorem read_no (g : Nat) (L : List Nat) (d : St) (at_ : Int) (w : World) (h : Dv w g L d) (hr : d.refuses at_ ≠ 0) :
    Calls Tryz.prog 89 #[ptr g, .int .i64 at_] w fun e w' => e = .returned (.tuple #[.string ⟨#[]⟩, .int .i64 (d.refuses at_)]) ∧ w = w' := by
  have HC := Lib.hid (refuses_any g L d at_ w h)
  have hne : (d.refuses at_ != 0) = true := by simpa using hr
  generalize d.refuses at_ = r at *
  clear h
  unfold ptr at *
  go_enter Tryz.func89, Tryz.ntmps89
  go_wp2_with fail
  refine HC.out.mono ?_
  rintro e w1 ⟨rfl, rfl⟩
  go_wp2
  go_ret2
  exact ⟨rfl, rfl⟩
set_option maxHeartbeats 1000000 in
set_option maxRecDepth 100000 in
theorem read_yes (g : Nat) (L : List Nat) (d : St) (i : Nat) (w : World) (h : Dv w g L d) (hr : d.refuses i = 0) :
    Calls Tryz.prog 89 #[ptr g, .int .i64 i] w fun e w' => e = .returned (.tuple #[.string (txt (d.now i)), .int .i64 0]) ∧ Below w.heap.size w w' := by
  have hin : i < d.n := by
    unfold St.refuses at hr
    split at hr
    · cases hr
    · split at hr
      · cases hr
      · omega
  have HC := Lib.hid (refuses_any g L d i w h)
  rw [hr] at HC
  have HN := Lib.hid (now_any g L d i w h hin)
  have hl := h.1.now i
  generalize d.now i = l at *
  clear h hr
  unfold ptr at *
  go_enter Tryz.func89, Tryz.ntmps89
  go_wp2_with fail
  refine HC.out.mono ?_
  rintro e w1 ⟨rfl, rfl⟩
  go_wp2_with fail
  refine HN.out.mono ?_
  rintro e w1 ⟨rfl, hb1⟩
  have hcv : (convert 67 9 (.slice (some ⟨w1.heap.size, 0, none⟩) 64 64)).run Tryz.prog (w1.alloc (.cells (Lib.byteCells l).toArray 98)) = .ok (.string (txt l)) (w1.alloc (.cells (Lib.byteCells l).toArray 98)) := conv_sec hl (range_of_heap (heap_alloc_new w1 _))
  go_wp2_with (refine wpList_store_newsec rfl _ _ rfl _ _ l hl rfl rfl rfl ?_)
  go_ret2
  exact ⟨rfl, hb1.trans ((Below.refl _ _).alloc hb1.size _)⟩
namespace Dk
def St.readS (d : St) (at_ : Int) : List UInt8 := if d.refuses at_ = 0 then d.now at_.toNat else []
end Dk
theorem refuses_nonneg {d : St} {at_ : Int} (hr : d.refuses at_ = 0) : 0 ≤ at_ ∧ at_ < d.n ∧ d.dead = false := by
  unfold St.refuses at hr
  cases hd : d.dead
  · rw [hd, if_neg (by decide)] at hr
    split at hr
    · cases hr
    · exact ⟨by omega, by omega, rfl⟩
  · rw [hd, if_pos rfl] at hr; cases hr
theorem read_any (g : Nat) (L : List Nat) (d : St) (at_ : Int) (w : World) (h : Dv w g L d) :
    Calls Tryz.prog 89 #[ptr g, .int .i64 at_] w fun e w' => e = .returned (.tuple #[.string (txt (d.readS at_)), .int .i64 (d.refuses at_)]) ∧ Below w.heap.size w w' := by
  unfold St.readS
  by_cases hr : d.refuses at_ = 0
  · obtain ⟨i, rfl⟩ := Int.eq_ofNat_of_zero_le (refuses_nonneg hr).1
    rw [if_pos hr, hr]
    exact read_yes g L d i w h hr
  · rw [if_neg hr]
    exact (read_no g L d at_ w h hr).mono fun e w' ⟨he, hw⟩ => ⟨he, by subst hw; exact Below.refl _ _⟩
end Go.Proofs.YtdoombcihobejaaGreat
