/-
  Configs loaded and stored whole.
  Conditions: named in each theorem.
-/
import Derived.Test.YtmencfmjmbbfhaaDoorLS1
import Derived.Laws.ResultCell
import Derived.Deep.CutRange
namespace Go.Proofs.YtmencfmjmbbfhaaDoor
open Go.RowKit
set_option linter.unusedVariables false
set_option linter.unusedSimpArgs false
theorem wp_at {P : Program} {c : Code} {Q : Exit → Act → World → Prop} {a : Act} {w w1 : World} (h : w1 = w) (hc : c.wp P Q a w) : c.wp P Q a w1 := by subst h; exact hc
theorem cf25 : (Tryd.prog.info? 25).map (·.size) = some 4 := by kernel_rfl
theorem wpList_store_cf {ops : Array Oper} {rest : List Oper} {op : Oper} {a : Act} {Q : Exit → Act → World → Prop} (hgd : op.guard = none) (x y : Operand) (ho : op.op = .store 25 x y)
    (w : World) (z : Nat) (s t : Array Value) (hs : s.size = 4) (h1 : (s.all fun x => x.oneCell') = true) (hx : a.eval x = .pointer (some ⟨z, 0, none⟩)) (hy : a.eval y = .agg s) (hz : w.heap[z]? = some (.cells t 25 (0, 0))) (ht : t.size = 4)
    (h : wpList Tryd.prog ops Q rest (a.put op.dst undef) (w.setRow z s)) : wpList Tryd.prog ops Q (op :: rest) a w :=
  wpList_store_row hgd 25 x y ho z _ hx hy 25 _ hz (by rw [hs]; exact cf25) (by rw [hs, ht]) h1 h
theorem wpList_load_cf {ops : Array Oper} {rest : List Oper} {op : Oper} {a : Act} {Q : Exit → Act → World → Prop} (hgd : op.guard = none) (x : Operand) (ho : op.op = .load 25 x)
    (w : World) (z : Nat) (s : Array Value) (hs : s.size = 4) (hx : a.eval x = .pointer (some ⟨z, 0, none⟩)) (hz : w.heap[z]? = some (.cells s 25 (0, 0)))
    (h : wpList Tryd.prog ops Q rest (a.put op.dst (.agg s)) w) : wpList Tryd.prog ops Q (op :: rest) a w :=
  wpList_load_row hgd 25 x ho z hx 25 _ (0, 0) _ hz Tryd.underlying25 rfl (by rw [hs]; exact cf25) h
abbrev zc : Array Value := #[.slice none 0 0, .slice none 0 0, .int .i64 0, .bool false]
end Go.Proofs.YtmencfmjmbbfhaaDoor
