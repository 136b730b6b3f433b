/-
  Is a message right: the package's way.
  Conditions: the numbers are those of their kinds; the entries' texts are of a length below 2^47.
-/
import Derived.Test.YtpdbeijfchmlgaaGreatMRight
namespace Go.Proofs.YtpdbeijfchmlgaaGreat
open Go.RowKit
set_option linter.unusedVariables false

def masks (m : Ms) : List Bool :=
  [mfb m.kind, decide (1 ≤ m.frm) && decide (m.frm ≤ 7), decide (1 ≤ m.dst) && decide (m.dst ≤ 7), lim (mfl m.kind) 105 m.index 0 18446744073709551615, lim (mfl m.kind) 112 m.prev 0 18446744073709551615, lim (mfl m.kind) 116 m.commit 0 18446744073709551615, lim (mfl m.kind) 107 m.mark 0 18446744073709551615, lim (mfl m.kind) 121 (bitI m.ok) 0 1, lim (mfl m.kind) 101 (IntKind.u64.wrap m.n) 0 64, lim (mfl m.kind) 115 (IntKind.u64.wrap m.snap.size) 0 16384]
def masksB (m : Ms) : Bool := (masks m).all id
def mrightB (m : Ms) : Bool := masksB m && !hasWrong m.es
theorem all10 (b0 b1 b2 b3 b4 b5 b6 b7 b8 b9 : Bool) (W : World) :
    Calls Tryz.prog 52 #[.slice (some ⟨W.heap.size, 0, none⟩) 10 10] (W.alloc (.cells #[.bool b0, .bool b1, .bool b2, .bool b3, .bool b4, .bool b5, .bool b6, .bool b7, .bool b8, .bool b9] 4)).drew fun e w' => e = .returned (.bool ([b0, b1, b2, b3, b4, b5, b6, b7, b8, b9].all id)) ∧ (W.alloc (.cells #[.bool b0, .bool b1, .bool b2, .bool b3, .bool b4, .bool b5, .bool b6, .bool b7, .bool b8, .bool b9] 4)).drew = w' :=
  all_any [b0, b1, b2, b3, b4, b5, b6, b7, b8, b9] 10 10 W.heap.size _ rfl (by omega) (fun j x h => cells_bools [b0, b1, b2, b3, b4, b5, b6, b7, b8, b9] W j x h)
theorem limit_any2 (s : ByteArray) (c n lo hi : Int) (a : Addr) (w : World) (hc0 : 0 ≤ c) (hc : c < 256) (ha : w.cell? a = some (.string s)) :
    Calls Tryz.prog 159 #[.int .u8 c, .int .u64 n, .int .u64 lo, .int .u64 hi, .pointer (some a)] w fun e w' => e = .returned (.bool (lim s c n lo hi)) ∧ w = w' := limit_rw s c n lo hi a w hc0 hc ha

set_option maxRecDepth 100000 in
set_option maxHeartbeats 16000000 in
theorem mright_11 (m : Ms) (w : World) (hE : Ents w.heap.size m.A m.n m.es w) (hn : (m.n : Int) ≤ 9223372036854775807) (hok : ∀ e ∈ m.es, e.Ok) (h1 : 1 ≤ m.frm) (h2 : 1 ≤ m.dst) :
    Calls Tryz.prog 50 #[mv m] w fun r w' => r = .returned (.bool (mrightB m)) ∧ Below w.heap.size w w' := by
  have g1 : decide (1 ≤ m.frm) = true := decide_eq_true h1
  have g2 : decide (1 ≤ m.dst) = true := decide_eq_true h2
  have hR : Hid (masksB m = (mfb m.kind && (decide (m.frm ≤ 7) && (decide (m.dst ≤ 7) && (lim (mfl m.kind) 105 m.index 0 18446744073709551615 && (lim (mfl m.kind) 112 m.prev 0 18446744073709551615 && (lim (mfl m.kind) 116 m.commit 0 18446744073709551615 && (lim (mfl m.kind) 107 m.mark 0 18446744073709551615 && (lim (mfl m.kind) 121 (bitI m.ok) 0 1 && (lim (mfl m.kind) 101 (IntKind.u64.wrap m.n) 0 64 && (lim (mfl m.kind) 115 (IntKind.u64.wrap m.snap.size) 0 16384))))))))))) := by
    show _ = _
    unfold masksB masks
    rw [g1, g2]
    simp only [List.all_cons, List.all_nil, id, Bool.and_true, Bool.true_and]
  obtain ⟨wr, hW⟩ : ∃ wr, wr = (w.alloc (Obj.cells (mc m) 29)).alloc (Obj.cells #[Value.string (mfl m.kind)] 9) := ⟨_, rfl⟩
  have hb : Below w.heap.size w wr := by rw [hW]; exact ((Below.refl _ _).alloc (Nat.le_refl _) _).alloc (by simp) _
  have hwl : w.heap.size < wr.heap.size := by rw [hW]; simp; omega
  have hrow : ∀ i, i < 11 → wr.cell? ⟨w.heap.size, i, none⟩ = (mc m)[i]? := fun i hi => by
    rw [hW, World.cell?_alloc_lt _ _ _ (by simp), World.cell?_alloc_new]
  have c1 : wr.cell? ⟨w.heap.size, 1, none⟩ = some (.int .i64 m.frm) := hrow 1 (by omega)
  have c2 : wr.cell? ⟨w.heap.size, 2, none⟩ = some (.int .i64 m.dst) := hrow 2 (by omega)
  have c4 : wr.cell? ⟨w.heap.size, 4, none⟩ = some (.int .u64 m.index) := hrow 4 (by omega)
  have c5 : wr.cell? ⟨w.heap.size, 5, none⟩ = some (.int .u64 m.prev) := hrow 5 (by omega)
  have c6 : wr.cell? ⟨w.heap.size, 6, none⟩ = some (.int .u64 m.commit) := hrow 6 (by omega)
  have c7 : wr.cell? ⟨w.heap.size, 7, none⟩ = some (.int .u64 m.mark) := hrow 7 (by omega)
  have c8 : wr.cell? ⟨w.heap.size, 8, none⟩ = some (.bool m.ok) := hrow 8 (by omega)
  have c9 : wr.cell? ⟨w.heap.size, 9, none⟩ = some (.slice m.A m.n m.c) := hrow 9 (by omega)
  have c10 : wr.cell? ⟨w.heap.size, 10, none⟩ = some (.string m.snap) := hrow 10 (by omega)
  have cL : wr.cell? ⟨w.heap.size + 1, 0, none⟩ = some (.string (mfl m.kind)) := by
    have h := World.cell?_alloc_new (w.alloc (Obj.cells (mc m) 29)) #[Value.string (mfl m.kind)] 9 0
    rw [show (w.alloc (Obj.cells (mc m) 29)).heap.size = w.heap.size + 1 by simp] at h
    rw [hW, h]
    rfl
  have KC := Lib.hid (fun (W : World) (hbW : Below w.heap.size w W) => contains_any m.A m.n m.c m.es W ((hE.below hbW).mr hbW.size) hn hok)
  have HW := Lib.hid hW
  clear hrow hE hok
  go_enter Tryz.func50, Tryz.ntmps50
  go_wp2_with (first
    | (go_at_call 98; (with_reducible refine (mfields_any m.kind _).mono ?_); rintro r w' ⟨rfl, rfl⟩)
    | (go_at_call 99; (with_reducible refine (limits_any (mfl m.kind) _).mono ?_); rintro r w' ⟨rfl, rfl⟩))
  rw [← hW]
  clear hW
  have cLd : wr.drew.cell? ⟨w.heap.size + 1, 0, none⟩ = some (.string (mfl m.kind)) := cL
  go_region_held3 (fun w' => w'.cell? ⟨w.heap.size, 1, none⟩ = some (.int .i64 m.frm) ∧ w'.cell? ⟨w.heap.size, 2, none⟩ = some (.int .i64 m.dst) ∧ w'.cell? ⟨w.heap.size, 4, none⟩ = some (.int .u64 m.index) ∧ w'.cell? ⟨w.heap.size, 5, none⟩ = some (.int .u64 m.prev) ∧ w'.cell? ⟨w.heap.size, 6, none⟩ = some (.int .u64 m.commit) ∧ w'.cell? ⟨w.heap.size, 7, none⟩ = some (.int .u64 m.mark) ∧ w'.cell? ⟨w.heap.size, 8, none⟩ = some (.bool m.ok) ∧ w'.cell? ⟨w.heap.size, 9, none⟩ = some (.slice m.A m.n m.c) ∧ w'.cell? ⟨w.heap.size, 10, none⟩ = some (.string m.snap) ∧ w'.cell? ⟨w.heap.size + 1, 0, none⟩ = some (.string (mfl m.kind)))
    (first | exact ⟨c1, c2, c4, c5, c6, c7, c8, c9, c10, cL⟩ | go_keep)
    (first
      | (go_at_call 100; (with_reducible refine (bit_any m.ok _).mono ?_); rintro r w' ⟨rfl, rfl⟩)
      | (go_at_call 159; (with_reducible refine (limit_rw (mfl m.kind) _ _ _ _ _ _ (by omega) (by omega) cLd).mono ?_); rintro r w' ⟨rfl, rfl⟩)
      | (go_at_call 52; (with_reducible refine (all10 _ _ _ _ _ _ _ _ _ _ _).mono ?_); rintro r w' ⟨rfl, rfl⟩))
  all_goals
    rw [← hR.out]
    obtain ⟨w5, h5⟩ : ∃ w5, w5 = (wr.alloc (Obj.cells #[.bool (mfb m.kind), .bool (decide (m.frm ≤ 7)), .bool (decide (m.dst ≤ 7)), .bool (lim (mfl m.kind) 105 m.index 0 18446744073709551615), .bool (lim (mfl m.kind) 112 m.prev 0 18446744073709551615), .bool (lim (mfl m.kind) 116 m.commit 0 18446744073709551615), .bool (lim (mfl m.kind) 107 m.mark 0 18446744073709551615), .bool (lim (mfl m.kind) 121 (bitI m.ok) 0 1), .bool (lim (mfl m.kind) 101 (IntKind.u64.wrap m.n) 0 64), .bool (lim (mfl m.kind) 115 (IntKind.u64.wrap m.snap.size) 0 16384)] 4)).drew := ⟨_, rfl⟩
    have hb5 : Below w.heap.size w w5 := by
      rw [h5]
      exact (hb.alloc hb.size _).drew
    have d9 : w5.cell? ⟨w.heap.size, 9, none⟩ = some (.slice m.A m.n m.c) := by
      rw [h5]
      exact (World.cell?_alloc_lt wr _ ⟨w.heap.size, 9, none⟩ hwl).trans c9
    rw [← h5]
    have HB5 := Lib.hid hb5
    have K := KC.out w5 hb5
    have HK := Lib.hid K
    clear K h5 hb5 c9 cL cLd
    have HM : Hid (mrightB m = (masksB m && !hasWrong m.es)) := rfl
    cases hp : masksB m with
    | false =>
      have HM2 : Hid (mrightB m = false) := by show _ = _; rw [HM.out, hp]; rfl
      clear hp
      go_wp2
      go_ret
      exact ⟨ret_bool HM2.out.symm, HB5.out⟩
    | true =>
      have HM2 : Hid (mrightB m = !hasWrong m.es) := by show _ = _; rw [HM.out, hp]; rfl
      clear hp
      go_wp2_with (go_at_call 102; (with_reducible refine HK.out.mono ?_); rintro r w6 ⟨rfl, hb6⟩)
      go_ret
      exact ⟨ret_bool HM2.out.symm, HB5.out.trans (hb6.mono HB5.out.size)⟩
end Go.Proofs.YtpdbeijfchmlgaaGreat
