/-
  Short names of laws of the library.
  Conditions: none.
-/
import Derived.Test.YtidndekacnmihaaGreatRows
import Derived.Test.YtidndekacnmihaaGreatProg
import Derived.Lib.BufferWrite
import Derived.Lib.UnsafeStr
import Derived.Maps.AppendAt
import Derived.Maps.RangeWalk
import Derived.Lib.SlMapMerge
import Derived.Deep.AppendLies
import Derived.Deep.MidRow
import Derived.Deep.WholeRow
import Derived.Lib.SlKeysI
import Derived.StillTailTactics
import Derived.Laws.IdiomStrings
import Derived.Shelf.Strings.Builder1
import Derived.Shelf.Small.Strs
import Derived.Shelf.LaysM
import Derived.Shelf.Strconv.Clone
import Derived.Shelf.Strings.Search1
import Derived.Laws.BitsAllLaws
import Derived.RowKit
import Derived.Laws.BytesArg
import Derived.Deep.RegionLaw
import Derived.Deep.CutRange
import Derived.IntWalk
import Derived.Shelf.Strings.Builder2
import Derived.Shelf.SlicesE.Clone
import Derived.Shelf.Strings.Repeat
import Derived.Below
import Derived.BigQuiet
import Derived.Lib.SmallJoins
import Derived.OneCell
import Derived.Lib.OthersKept
import Derived.Lib.Builder
import Derived.Lib.AppendStr
import Derived.Laws.Externs
import Derived.Shelf.RegionOpenPlain
import Derived.MapKept
import Derived.Laws.EntriesVeiled
import Derived.Deep.QuietTactic
import Derived.Laws.ResultCell
import Derived.Carry
import Derived.ProofKit
import Derived.Lib.ItoaMem
import Derived.RangeFuncNested
import Derived.RangeFuncBound
import Derived.RangeFuncCalls
import Derived.RangeFuncLeaves
import Derived.Shelf.Abstract
import Derived.Shelf.RegionOpen
import Derived.OwnWalkIn
import Derived.TacticsInMore
import Derived.LoopNIn
import Derived.LoopIn
import Derived.WalkKit
import Derived.WalkSpells
import Derived.WalkLawsBesides
import Derived.Lib.Hide
import Derived.Deep.RegionHeld3
namespace Go.Proofs.YtidndekacnmihaaGreat
open Go.RowKit
abbrev zcr := @cell_of_row
abbrev zh := @Lib.hid
abbrev zA := @List.setIfInBounds_toArray
abbrev zB := @List.set_cons_zero
abbrev zC := @List.set_cons_succ
theorem zba {w : World} {o : Obj} : Below w.heap.size w (w.alloc o) := (Below.refl _ _).alloc (Nat.le_refl _) _
theorem zmL : ∀ (fn : Fn) (first cap : Array Value) (w : World), (Instr.makeFunc fn first cap).run Tryz.prog w = .ok (.func fn first cap) w := fun _ _ _ _ => rfl
theorem ztk {P : Program} {ops : Array Oper} {Q : Exit → Act → World → Prop} {md : Region.Mode} {S : World → Prop} {i : Nat} {oi : Oper} {v : Value} {fuel : Nat} {listed : Array Bool} {a : Act} {w : World} (hi : ops[i]? = some oi)
    (hy : ∀ w, S w → (execOp a.eval oi).run P w = .ok (.value v) w) (h : wpAnyH P md ops Q S fuel (listed.setIfInBounds i true) (a.put oi.dst v) w)
    (hs : Region.noSelect ops = true := by kernel_rfl) (hf : Region.free md ops listed i = true := by kernel_rfl) (hr : (Region.ready md ops listed).contains i = true := by kernel_rfl)
    (hQ : ∀ c a w, Q (.panic c) (a.put oi.dst v) w → Q (.panic c) a w := by exact fun _ _ _ h => h) (hw : Region.wanted oi (yielded ops a.tmps) = true := by kernel_rfl) (hS : S w := by assumption) : wpAnyH P md ops Q S (fuel + 1) listed a w :=
  wpAnyH_take hi hs hf hr hQ (Or.inl ⟨hw, hy⟩) hS h
theorem zr1 {P : Program} {ops : Array Oper} {Q : Exit → Act → World → Prop} {md : Region.Mode} {S : World → Prop} {i : Nat} {o : Oper} {fuel : Nat} {listed : Array Bool} {a : Act} {w : World} (ho : ops[i]? = some o)
    (h : ∀ K' : Act → World → Prop, Shut (∀ a w, S w → (S w → wpAnyH P md ops Q S fuel (listed.setIfInBounds i true) a w) → K' a w) → if Region.wanted o (yielded ops a.tmps) = true then Oper.wp P o a w K' Q else K' (a.put o.dst undef) w)
    (hr : Region.ready md ops listed = [i] := by kernel_rfl) : wpAnyH P md ops Q S (fuel + 1) listed a w :=
  wpAnyH_ready hr (by simp) (AllReadyH.cons ho h AllReadyH.nil)
abbrev zsy := @Nat.le_refl
abbrev zsz := @heap_alloc_new
abbrev zsA := @List.mem_cons_of_mem
abbrev zsB := @Nat.le_trans
abbrev zsC := @decide_eq_false
abbrev zsD := @decide_eq_true
abbrev zsE := @Nat.zero_le
abbrev zsF := @bodyPost_ret
abbrev zsG := @Lib.alloc_old
abbrev zsH := @ByteArray.size_append
abbrev zsI := @World.size_alloc
abbrev zsJ := @List.mem_append_right
abbrev zsK := @Int.toNat_natCast
abbrev zsL := @List.mem_cons
abbrev zsM := @Int.eq_ofNat_of_zero_le
abbrev zsN := @Nat.ne_of_lt
abbrev zsO := @List.mem_cons_self
abbrev zsP := @List.mem_append
abbrev zsQ := @Below.heap_setCell
abbrev zsR := @Bool.and_eq_true
abbrev zsS := @List.length_append
abbrev zsT := @IntKind.wrap_u64
abbrev zsU := @List.length_take
abbrev zsV := @Lib.frozen_of_heap
abbrev zsW := @List.getElem?_eq_getElem
abbrev zsX := @List.take_of_length_le
abbrev zsY := @Bool.true_and
abbrev zsZ := @List.append_assoc
abbrev zs0 := @Nat.zero_add
abbrev zs1 := @Lib.byteCells_length
abbrev zs2 := @List.length_cons
abbrev zs3 := @Nat.mod_eq_of_lt
abbrev zs4 := @List.length_drop
abbrev zs5 := @ByteArray.size_extract
abbrev zs6 := @List.mem_append_left
abbrev zs7 := @List.mem_singleton
abbrev zs8 := @Nat.lt_of_lt_of_le
abbrev zs9 := @Lib.cell_of_heap
abbrev zta := @Array.length_toList
abbrev ztb := @ByteArray.data_append
abbrev ztc := @List.getD_eq_getElem?_getD
abbrev ztd := @Bool.false_and
abbrev zte := @Nat.lt_or_ge
abbrev ztf := @Lib.toList_data
abbrev ztg := @Bool.or_true
abbrev zth := @List.append_nil
abbrev zti := @List.drop_eq_nil_of_le
abbrev ztj := @List.length_replicate
abbrev ztl := @Bool.not_false
abbrev ztm := @ByteArray.data_extract
abbrev ztn := @Array.toList_append
abbrev zto := @Array.getElem?_toList
abbrev ztp := @World.cell?_of_block
abbrev ztq := @World.ownsRow_nil
abbrev ztr := @Nat.mul_le_mul_right
abbrev zts := @Array.toList_extract
abbrev ztt := @List.nil_append
abbrev ztu := @Bool.or_eq_true
abbrev ztv := @List.mem_of_getElem?
abbrev ztw := @List.getElem?_toArray
abbrev ztx := @Lib.strCells_length
abbrev zty := @Below.heap_alloc
abbrev ztz := @List.extract_eq_take_drop
abbrev ztA := @List.getElem?_take
abbrev ztB := @List.getElem?_cons_zero
abbrev ztC := @List.getElem?_cons_succ
abbrev ztD := @List.takeWhile_cons
abbrev ztE := @List.getElem?_eq_none
abbrev ztF := @Array.getElem?_push
abbrev ztG := @List.getElem?_append_left
abbrev ztH := @World.block_lt_of_cell?
abbrev ztI := @List.take_append_of_le_length
abbrev ztJ := @List.take_succ_eq_append_getElem
abbrev ztK := @List.eq_nil_of_length_eq_zero
theorem zgx {α : Type} {xs : Array α} {i : Nat} {a : α} (h : xs[i]? = some a) : i < xs.size := (Array.getElem?_eq_some_iff.1 h).1
end Go.Proofs.YtidndekacnmihaaGreat
