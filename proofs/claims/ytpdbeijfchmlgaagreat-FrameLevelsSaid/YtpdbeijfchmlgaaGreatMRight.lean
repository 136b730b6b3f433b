/-
  Is a message right: the package's way; its entries first.
  Conditions: the numbers are those of their kinds; the entries' texts are of a length below 2^47.
-/
import Derived.Test.YtpdbeijfchmlgaaGreatSmall
import Derived.Deep.RegionHeld3
namespace Go.Proofs.YtpdbeijfchmlgaaGreat
open Go.RowKit
set_option linter.unusedVariables false

/-- Where the first entry stands that is not right; -1, if there is none. -/
def idxW : List En → Int → Int
  | [], _ => -1
  | e :: es, i => if rightB e then idxW es (i + 1) else i
def hasWrong (es : List En) : Bool := es.any fun e => !rightB e
theorem idxW_any : ∀ (es : List En) (i : Int), 0 ≤ i → decide (0 ≤ idxW es i) = hasWrong es
  | [], i, h => rfl
  | e :: es, i, h => by
    unfold idxW hasWrong
    rw [List.any_cons]
    cases rightB e with
    | true => rw [if_pos rfl]; exact (idxW_any es (i + 1) (by omega)).trans (by simp [hasWrong])
    | false => rw [if_neg (by simp)]; simpa using h

set_option maxRecDepth 100000 in
set_option maxHeartbeats 1000000 in
theorem wrong_any (e : En) (w : World) (ok : e.Ok) : Calls Tryz.prog 101 #[ev e] w fun r w' => r = .returned (.bool (!rightB e)) ∧ Below w.heap.size w w' := by
  have hb0 : Below w.heap.size w (w.alloc (Obj.cells (ec e) 24)) := (Below.refl _ _).alloc (Nat.le_refl _) _
  have HC := Lib.hid (right_any e (w.alloc (Obj.cells (ec e) 24)) ok)
  have HB := Lib.hid hb0
  clear hb0 ok
  go_enter Tryz.func101, Tryz.ntmps101
  go_wp2_with (go_at_call 62; (with_reducible refine HC.out.mono ?_); rintro r w1 ⟨rfl, hb1⟩)
  go_ret
  exact ⟨rfl, HB.out.trans (hb1.mono (by simp))⟩

set_option maxRecDepth 100000 in
set_option maxHeartbeats 2000000 in
theorem idx_any (A : Option Addr) (n c : Nat) (es : List En) (w : World) (hE : Ents w.heap.size A n es w) (hn : (n : Int) ≤ 9223372036854775807) (hok : ∀ e ∈ es, e.Ok) :
    Calls Tryz.prog 161 #[.slice A n c, .func (.func 101) #[] #[]] w fun r w' => r = .returned (.int .i64 (idxW es 0)) ∧ Below w.heap.size w w' := by
  have HE := Lib.hid hE
  have HO := Lib.hid hok
  clear hE hok
  go_enter Tryz.func161, Tryz.ntmps161
  go_wp2
  go_loopw [8] (fun i wr => ∃ k : Nat, k ≤ n ∧ i = .int .i64 k ∧ Hid (idxW es 0 = idxW (es.drop k) k) ∧ Below w.heap.size w wr) (fun i _ => n - (intOf i).toNat)
  case atStart => exact ⟨0, Nat.zero_le _, rfl, rfl, Below.refl _ _⟩
  case round =>
    obtain ⟨k, hk, rfl, HI, hb⟩ := hrel
    by_cases hlt : k < n
    · obtain ⟨e, he⟩ : ∃ e, es[k]? = some e := ⟨_, List.getElem?_eq_getElem (by rw [HE.out.len]; exact hlt)⟩
      obtain ⟨a, hA, hB, hc⟩ := (HE.out.below hb).at_ k e he
      have hmem := List.mem_of_getElem? he
      have hkl : k < es.length := by rw [HE.out.len]; exact hlt
      have hek : es[k] = e := by rw [List.getElem?_eq_getElem hkl] at he; exact Option.some.inj he
      have hdrop : Hid (es.drop k = e :: es.drop (k + 1)) := by show _ = _; rw [List.drop_eq_getElem_cons hkl, hek]
      have d0 : wr.cell? (a.add (k * 11)) = some (.int .u64 e.term) := hc 0 (by omega)
      have d1 : wr.cell? ⟨(a.add (k * 11)).block, (a.add (k * 11)).off + 1, none⟩ = some (.int .u64 e.index) := hc 1 (by omega)
      have d2 : wr.cell? ⟨(a.add (k * 11)).block, (a.add (k * 11)).off + 2, none⟩ = some (.int .i64 e.kind) := hc 2 (by omega)
      have d3 : wr.cell? ⟨(a.add (k * 11)).block, (a.add (k * 11)).off + 3, none⟩ = some (.int .u64 e.client) := hc 3 (by omega)
      have d4 : wr.cell? ⟨(a.add (k * 11)).block, (a.add (k * 11)).off + 4, none⟩ = some (.int .u64 e.seq) := hc 4 (by omega)
      have d5 : wr.cell? ⟨(a.add (k * 11)).block, (a.add (k * 11)).off + 5, none⟩ = some (.int .u64 e.block) := hc 5 (by omega)
      have d6 : wr.cell? ⟨(a.add (k * 11)).block, (a.add (k * 11)).off + 6, none⟩ = some (.int .u64 e.many) := hc 6 (by omega)
      have d7 : wr.cell? ⟨(a.add (k * 11)).block, (a.add (k * 11)).off + 7, none⟩ = some (.int .i64 e.node) := hc 7 (by omega)
      have d8 : wr.cell? ⟨(a.add (k * 11)).block, (a.add (k * 11)).off + 8, none⟩ = some (.int .i64 e.level) := hc 8 (by omega)
      have d9 : wr.cell? ⟨(a.add (k * 11)).block, (a.add (k * 11)).off + 9, none⟩ = some (.string e.data) := hc 9 (by omega)
      have d10 : wr.cell? ⟨(a.add (k * 11)).block, (a.add (k * 11)).off + 10, none⟩ = some (.string e.old) := hc 10 (by omega)
      have K := Lib.hid (wrong_any e wr (HO.out e hmem))
      have HB := Lib.hid hb
      clear hb hc he hek hmem
      rw [hA]
      clear hA
      cases hr : rightB e with
      | true =>
        have HI2 : Hid (idxW es 0 = idxW (es.drop (k + 1)) ((k + 1 : Nat) : Int)) := by
          show _ = _
          rw [HI.out, hdrop.out, idxW, if_pos hr]
          rfl
        have K2 : Calls Tryz.prog 101 #[ev e] wr fun r w' => r = .returned (.bool false) ∧ Below wr.heap.size wr w' := K.out.mono fun r w' ⟨h1, h2⟩ => ⟨by rw [h1, hr]; rfl, h2⟩
        have K3 := Lib.hid K2
        clear K2 hr
        go_wp2_with (go_at_call 101; (with_reducible refine K3.out.mono ?_); rintro r w1 ⟨rfl, hb1⟩)
        go_roundw
        case rel => exact ⟨k + 1, by omega, by go_num, HI2, HB.out.trans (hb1.mono HB.out.size)⟩
        case measure => simp [intOf]; omega
      | false =>
        have HI2 : Hid (idxW es 0 = k) := by
          show _ = _
          rw [HI.out, hdrop.out, idxW, if_neg (by rw [hr]; simp)]
        have K2 : Calls Tryz.prog 101 #[ev e] wr fun r w' => r = .returned (.bool true) ∧ Below wr.heap.size wr w' := K.out.mono fun r w' ⟨h1, h2⟩ => ⟨by rw [h1, hr]; rfl, h2⟩
        have K3 := Lib.hid K2
        clear K2 hr
        go_wp2_with (go_at_call 101; (with_reducible refine K3.out.mono ?_); rintro r w1 ⟨rfl, hb1⟩)
        go_ret
        exact ⟨by rw [HI2.out]; rfl, HB.out.trans (hb1.mono HB.out.size)⟩
    · have HI2 : Hid (idxW es 0 = -1) := by
        show _ = _
        rw [HI.out, List.drop_of_length_le (by rw [HE.out.len]; omega)]
        rfl
      go_wp2
      go_ret
      exact ⟨by rw [HI2.out]; rfl, hb⟩

set_option maxRecDepth 100000 in
set_option maxHeartbeats 1000000 in
theorem contains_any (A : Option Addr) (n c : Nat) (es : List En) (w : World) (hE : Ents w.heap.size A n es w) (hn : (n : Int) ≤ 9223372036854775807) (hok : ∀ e ∈ es, e.Ok) :
    Calls Tryz.prog 102 #[.slice A n c, .func (.func 101) #[] #[]] w fun r w' => r = .returned (.bool (hasWrong es)) ∧ Below w.heap.size w w' := by
  have HC := Lib.hid (idx_any A n c es w hE hn hok)
  have HW := Lib.hid (idxW_any es 0 (by omega))
  clear hE hok
  go_enter Tryz.func102, Tryz.ntmps102
  go_wp2_with (go_at_call 161; (with_reducible refine HC.out.mono ?_); rintro r w1 ⟨rfl, hb1⟩)
  go_ret
  exact ⟨ret_bool HW.out, hb1⟩
end Go.Proofs.YtpdbeijfchmlgaaGreat
