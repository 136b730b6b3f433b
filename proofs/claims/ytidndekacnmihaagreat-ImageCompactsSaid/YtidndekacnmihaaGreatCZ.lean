/-
  Short names of laws of the library.
  Conditions: none.
-/
import Derived.Test.YtidndekacnmihaaGreatProg
import Derived.Lib.BufferWrite
import Derived.Lib.UnsafeStr
import Derived.Maps.AppendAt
import Derived.Maps.RangeWalk
import Derived.Lib.SlMapMerge
import Derived.Deep.AppendLies
import Derived.Deep.MidRow
import Derived.Deep.WholeRow
import Derived.Lib.SlKeysI
import Derived.StillTailTactics
import Derived.Laws.IdiomStrings
import Derived.Shelf.Strings.Builder1
import Derived.Shelf.Small.Strs
import Derived.Shelf.LaysM
import Derived.Shelf.Strconv.Clone
import Derived.Shelf.Strings.Search1
import Derived.Laws.BitsAllLaws
import Derived.RowKit
import Derived.Laws.BytesArg
import Derived.Deep.RegionLaw
import Derived.Deep.CutRange
import Derived.IntWalk
import Derived.Shelf.Strings.Builder2
import Derived.Shelf.SlicesE.Clone
import Derived.Shelf.Strings.Repeat
import Derived.Below
import Derived.BigQuiet
import Derived.Lib.SmallJoins
import Derived.OneCell
import Derived.Lib.OthersKept
import Derived.Lib.Builder
import Derived.Lib.AppendStr
import Derived.Laws.Externs
import Derived.Shelf.RegionOpenPlain
import Derived.MapKept
import Derived.Laws.EntriesVeiled
import Derived.Deep.QuietTactic
import Derived.Laws.ResultCell
import Derived.Carry
import Derived.ProofKit
import Derived.Lib.ItoaMem
import Derived.RangeFuncNested
import Derived.RangeFuncBound
import Derived.RangeFuncCalls
import Derived.RangeFuncLeaves
import Derived.Shelf.Abstract
import Derived.Shelf.RegionOpen
import Derived.OwnWalkIn
import Derived.TacticsInMore
import Derived.LoopNIn
import Derived.LoopIn
import Derived.DataElems
import Derived.OpenShut
import Derived.SizedLaws
import Derived.ChangeSame
import Derived.Deep.Slices
import Derived.WideShapes
import Derived.ChangeOld
import Derived.WalkKit
import Derived.WalkSpells
import Derived.WalkLawsBesides
import Derived.Lib.Hide
import Derived.Deep.RegionHeld3
namespace Go.Proofs.YtidndekacnmihaaGreat
open Go.RowKit
abbrev zcr := @cell_of_row
abbrev zh := @Lib.hid
abbrev zA := @List.setIfInBounds_toArray
abbrev zB := @List.set_cons_zero
abbrev zC := @List.set_cons_succ
theorem zba {w : World} {o : Obj} : Below w.heap.size w (w.alloc o) := (Below.refl _ _).alloc (Nat.le_refl _) _
theorem zmL : ∀ (fn : Fn) (first cap : Array Value) (w : World), (Instr.makeFunc fn first cap).run Tryz.prog w = .ok (.func fn first cap) w := fun _ _ _ _ => rfl
theorem ztk {P : Program} {ops : Array Oper} {Q : Exit → Act → World → Prop} {md : Region.Mode} {S : World → Prop} {i : Nat} {oi : Oper} {v : Value} {fuel : Nat} {listed : Array Bool} {a : Act} {w : World} (hi : ops[i]? = some oi)
    (hy : ∀ w, S w → (execOp a.eval oi).run P w = .ok (.value v) w) (h : wpAnyH P md ops Q S fuel (listed.setIfInBounds i true) (a.put oi.dst v) w)
    (hs : Region.noSelect ops = true := by kernel_rfl) (hf : Region.free md ops listed i = true := by kernel_rfl) (hr : (Region.ready md ops listed).contains i = true := by kernel_rfl)
    (hQ : ∀ c a w, Q (.panic c) (a.put oi.dst v) w → Q (.panic c) a w := by exact fun _ _ _ h => h) (hw : Region.wanted oi (yielded ops a.tmps) = true := by kernel_rfl) (hS : S w := by assumption) : wpAnyH P md ops Q S (fuel + 1) listed a w :=
  wpAnyH_take hi hs hf hr hQ (Or.inl ⟨hw, hy⟩) hS h
theorem zr1 {P : Program} {ops : Array Oper} {Q : Exit → Act → World → Prop} {md : Region.Mode} {S : World → Prop} {i : Nat} {o : Oper} {fuel : Nat} {listed : Array Bool} {a : Act} {w : World} (ho : ops[i]? = some o)
    (h : ∀ K' : Act → World → Prop, Shut (∀ a w, S w → (S w → wpAnyH P md ops Q S fuel (listed.setIfInBounds i true) a w) → K' a w) → if Region.wanted o (yielded ops a.tmps) = true then Oper.wp P o a w K' Q else K' (a.put o.dst undef) w)
    (hr : Region.ready md ops listed = [i] := by kernel_rfl) : wpAnyH P md ops Q S (fuel + 1) listed a w :=
  wpAnyH_ready hr (by simp) (AllReadyH.cons ho h AllReadyH.nil)
abbrev ztI := @Nat.le_refl
abbrev ztJ := @heap_alloc_new
abbrev ztK := @List.mem_cons_of_mem
abbrev ztL := @Nat.le_trans
abbrev ztM := @decide_eq_false
abbrev ztN := @decide_eq_true
abbrev ztO := @Nat.zero_le
abbrev ztP := @bodyPost_ret
abbrev ztQ := @Lib.alloc_old
abbrev ztR := @World.size_alloc
abbrev ztS := @ByteArray.size_append
abbrev ztT := @List.mem_cons
abbrev ztU := @List.mem_append_right
abbrev ztV := @Int.toNat_natCast
abbrev ztW := @Int.eq_ofNat_of_zero_le
abbrev ztX := @Below.heap_setCell
abbrev ztY := @Nat.ne_of_lt
abbrev ztZ := @Bool.and_eq_true
abbrev zt0 := @List.mem_cons_self
abbrev zt1 := @List.mem_append
abbrev zt2 := @List.getElem?_eq_getElem
abbrev zt3 := @IntKind.wrap_u64
abbrev zt4 := @List.length_append
abbrev zt5 := @List.length_take
abbrev zt6 := @Lib.frozen_of_heap
abbrev zt7 := @Int.emod_nonneg
abbrev zt8 := @Bool.true_and
abbrev zt9 := @List.take_of_length_le
abbrev zua := @Int.emod_lt_of_pos
abbrev zub := @Nat.zero_add
abbrev zuc := @List.append_assoc
abbrev zud := @List.length_cons
abbrev zue := @ByteArray.size_extract
abbrev zuf := @Lib.byteCells_length
abbrev zug := @Array.length_toList
abbrev zuh := @List.length_drop
abbrev zui := @List.mem_append_left
abbrev zuj := @Nat.mod_eq_of_lt
abbrev zuk := @Nat.lt_of_lt_of_le
abbrev zul := @List.mem_singleton
abbrev zum := @Nat.lt_or_ge
abbrev zun := @Bool.false_and
abbrev zuo := @Lib.cell_of_heap
abbrev zup := @ByteArray.data_append
abbrev zuq := @List.getD_eq_getElem?_getD
abbrev zur := @Lib.toList_data
abbrev zus := @Bool.or_true
abbrev zut := @List.drop_eq_nil_of_le
abbrev zuu := @List.length_replicate
abbrev zuv := @Array.getElem?_toList
abbrev zuw := @List.getElem?_toArray
abbrev zux := @Bool.not_false
abbrev zuy := @List.mem_of_getElem?
abbrev zuz := @List.getElem?_cons_zero
abbrev zuA := @List.getElem?_cons_succ
abbrev zuB := @ByteArray.data_extract
abbrev zuC := @Array.toList_append
abbrev zuD := @Bool.or_eq_true
abbrev zuE := @World.cell?_of_block
abbrev zuF := @World.ownsRow_nil
abbrev zuG := @List.append_nil
abbrev zuH := @Bool.or_false
abbrev zuI := @Nat.mul_le_mul_right
abbrev zuJ := @Array.toList_extract
abbrev zuK := @List.nil_append
abbrev zuL := @Lib.strCells_length
abbrev zuM := @List.getElem?_map
abbrev zuN := @Below.heap_alloc
abbrev zuO := @List.extract_eq_take_drop
abbrev zuP := @List.getElem?_take
abbrev zuQ := @List.getElem?_eq_none
abbrev zuR := @List.getElem?_append_left
abbrev zuS := @List.takeWhile_cons
abbrev zuT := @Array.getElem?_push
abbrev zuU := @List.take_succ_eq_append_getElem
abbrev zuV := @World.block_lt_of_cell?
abbrev zuW := @List.take_append_of_le_length
abbrev zuX := @List.eq_nil_of_length_eq_zero
theorem zgx {α : Type} {xs : Array α} {i : Nat} {a : α} (h : xs[i]? = some a) : i < xs.size := (Array.getElem?_eq_some_iff.1 h).1
end Go.Proofs.YtidndekacnmihaaGreat
