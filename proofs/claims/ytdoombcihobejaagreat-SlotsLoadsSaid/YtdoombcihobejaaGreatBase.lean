/-
  The device as plain mathematics: sectors, what was flushed, what waits, after how many calls it crashes.
  Conditions: named in each theorem.
-/
import Derived.Test.YtdoombcihobejaaGreatRows
import Derived.WalkKit
import Derived.WalkSpells
import Derived.WalkLawsBesides
import Derived.Lib.Hide
import Derived.Lib.BufferWrite
import Derived.Lib.UnsafeStr
import Derived.Maps.AppendAt
import Derived.Maps.RangeWalk
import Derived.Lib.SlMapMerge
import Derived.Deep.AppendLies
import Derived.Deep.MidRow
import Derived.Deep.WholeRow
import Derived.Deep.RegionHeld3
namespace Go.Proofs.YtdoombcihobejaaGreat
open Go.RowKit
namespace Dk
/-- A sector's bytes: 64 of them. -/
abbrev Sec := List UInt8
def zsec : Sec := List.replicate 64 0
/-- A text with bytes 0 behind it. -/
def pad (l : List UInt8) : Sec := l ++ List.replicate (64 - l.length) 0
theorem zsec_length : zsec.length = 64 := by simp [zsec]
theorem pad_length (l : List UInt8) (h : l.length ≤ 64) : (pad l).length = 64 := by simp [pad]; omega
/-- Bytes as a text. -/
def txt (l : List UInt8) : ByteArray := ⟨l.toArray⟩
theorem txt_size (l : List UInt8) : (txt l).size = l.length := by show l.toArray.size = _; simp
theorem txt_list (l : List UInt8) : (txt l).data.toList = l := by simp [txt]
theorem txt_of (s : ByteArray) : txt s.data.toList = s := by apply ByteArray.ext; simp [txt]

/-- A device: how many sectors, what each had when it was flushed last, what waits, how many calls go well ahead, whether it has crashed. -/
structure St where
  n : Nat
  fl : Nat → Sec
  wt : Nat → Option Sec
  left : Int
  dead : Bool
structure St.Ok (d : St) : Prop where
  n1 : 1 ≤ d.n
  n2 : d.n ≤ 4096
  flen : ∀ i, (d.fl i).length = 64
  wlen : ∀ i s, d.wt i = some s → i < d.n ∧ s.length = 64
  l1 : -9223372036854775808 ≤ d.left
  l2 : d.left ≤ 9223372036854775807

/-- What is read. -/
def St.now (d : St) (i : Nat) : Sec := (d.wt i).getD (d.fl i)
/-- Which error, if any, asks for that sector. -/
def St.refuses (d : St) (at_ : Int) : Int := if d.dead then 7 else if at_ < 0 ∨ (d.n : Int) ≤ at_ then 5 else 0
def St.fresh (n : Nat) (F : Nat → Sec) : St := ⟨n, F, fun _ => none, -1, false⟩
def St.put (d : St) (i : Nat) (s : Sec) : St := { d with wt := fun j => if j = i then some s else d.wt j }
def St.settle (d : St) : St := { d with fl := d.now, wt := fun _ => none }
def St.step (d : St) : St := { d with left := if 0 < d.left then d.left - 1 else d.left }
def St.arm (d : St) (a : Int) : St := { d with left := a }
def St.die (d : St) : St := { d with dead := true }
/-- What may crash: what it is behind, and its error. -/
def St.try_ (d : St) (f : St → St) : St × Int :=
  if d.left = 0 then (d.die, 7) else if d.dead then (d, 7) else (f d.step, 0)
def St.write (d : St) (at_ : Int) (s : List UInt8) : St × Int :=
  if d.refuses at_ ≠ 0 then (d, d.refuses at_) else if 64 < s.length then (d, 3) else d.try_ (fun x => x.put at_.toNat (pad s))
def St.flush (d : St) : St × Int := d.try_ St.settle
/-- The device as it comes back. -/
def St.after (d : St) (lost : List Int) : St := (St.mk d.n d.fl (fun i => if (i : Int) ∈ lost then none else d.wt i) (-1) false).settle
/-- The sectors that wait. -/
def St.waits (d : St) : List Nat := (List.range d.n).filter fun i => (d.wt i).isSome
/-- All sectors' bytes. -/
def catS (F : Nat → Sec) : Nat → List UInt8
  | 0 => []
  | k + 1 => catS F k ++ F k
def St.image (d : St) : List UInt8 := catS d.now d.n
theorem catS_length (F : Nat → Sec) (h : ∀ i, (F i).length = 64) : ∀ k, (catS F k).length = k * 64
  | 0 => by simp [catS]
  | k + 1 => by rw [catS, List.length_append, catS_length F h k, h]; omega

theorem St.Ok.now {d : St} (h : d.Ok) (i : Nat) : (d.now i).length = 64 := by
  unfold St.now
  cases e : d.wt i with
  | none => exact h.flen i
  | some s => exact (h.wlen i s e).2
theorem St.fresh_ok {n : Nat} {F : Nat → Sec} (h1 : 1 ≤ n) (h2 : n ≤ 4096) (hF : ∀ i, (F i).length = 64) : (St.fresh n F).Ok :=
  ⟨h1, h2, hF, (fun _ _ h => by cases h), (by show (-9223372036854775808 : Int) ≤ -1; decide), (by show (-1 : Int) ≤ _; decide)⟩
theorem St.Ok.put {d : St} (h : d.Ok) {i : Nat} {s : Sec} (hi : i < d.n) (hs : s.length = 64) : (d.put i s).Ok :=
  ⟨h.n1, h.n2, h.flen, (fun j t e => by
    change (if j = i then some s else d.wt j) = some t at e
    split at e
    · cases e; subst j; exact ⟨hi, hs⟩
    · exact h.wlen j t e), h.l1, h.l2⟩
theorem St.Ok.settle {d : St} (h : d.Ok) : d.settle.Ok := ⟨h.n1, h.n2, h.now, (fun _ _ e => by cases e), h.l1, h.l2⟩
theorem St.Ok.step {d : St} (h : d.Ok) : d.step.Ok := by
  have a := h.l1
  have b := h.l2
  refine ⟨h.n1, h.n2, h.flen, h.wlen, ?_, ?_⟩
  · show _ ≤ (if 0 < d.left then d.left - 1 else d.left); split <;> omega
  · show (if 0 < d.left then d.left - 1 else d.left) ≤ _; split <;> omega
theorem St.Ok.die {d : St} (h : d.Ok) : d.die.Ok := ⟨h.n1, h.n2, h.flen, h.wlen, h.l1, h.l2⟩
theorem St.Ok.arm {d : St} (h : d.Ok) {a : Int} (h1 : -9223372036854775808 ≤ a) (h2 : a ≤ 9223372036854775807) : (d.arm a).Ok := ⟨h.n1, h.n2, h.flen, h.wlen, h1, h2⟩
theorem St.Ok.after {d : St} (h : d.Ok) (lost : List Int) : (d.after lost).Ok :=
  St.Ok.settle ⟨h.n1, h.n2, h.flen, (fun i s e => by
    change (if (i : Int) ∈ lost then none else d.wt i) = some s at e
    split at e
    · cases e
    · exact h.wlen i s e), (by show (-9223372036854775808 : Int) ≤ -1; decide), (by show (-1 : Int) ≤ _; decide)⟩
theorem St.Ok.write {d : St} (h : d.Ok) (at_ : Int) (s : List UInt8) : (d.write at_ s).1.Ok := by
  unfold St.write
  split
  · exact h
  · rename_i hr
    split
    · exact h
    · rename_i hl
      unfold St.try_
      split
      · exact h.die
      · split
        · exact h
        · refine h.step.put ?_ (pad_length s (by omega))
          show at_.toNat < d.n
          unfold St.refuses at hr
          split at hr
          · simp at hr
          · split at hr
            · simp at hr
            · omega
theorem St.Ok.flush {d : St} (h : d.Ok) : d.flush.1.Ok := by
  unfold St.flush St.try_
  split
  · exact h.die
  · split
    · exact h
    · exact h.step.settle
end Dk
end Go.Proofs.YtdoombcihobejaaGreat
