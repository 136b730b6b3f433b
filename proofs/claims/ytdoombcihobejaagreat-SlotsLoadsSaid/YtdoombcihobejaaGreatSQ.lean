/-
  The contract of the document's own Put: a sector that holds a body.
  Conditions: texts within the lengths that each theorem names.
-/
import Derived.Test.YtdoombcihobejaaGreatSP
import Derived.Test.YtdoombcihobejaaGreatRd
import Derived.Deep.RegionHeld3
namespace Go.Proofs.YtdoombcihobejaaGreat
open Go.RowKit Vi Sp
set_option linter.unusedVariables false
theorem bl_step {w W W' : World} (h : Below w.heap.size w W) (h' : Below W.heap.size W W') : Below w.heap.size w W' := h.trans (h'.mono h.size)
theorem bl_alloc {w W : World} {o : Obj} (h : Below w.heap.size w W) : Below w.heap.size w (W.alloc o) := h.alloc h.size _
theorem bl_drew {w W : World} (h : Below w.heap.size w W) : Below w.heap.size w W.drew := h.drew
theorem sz_made (m : Nat) (W : World) (hm : m ≤ 51) : (Instr.makeSlice 67 (.int .i64 m) (.int .i64 m)).run Tryz.prog W = .ok (.slice (some ⟨W.heap.size, 0, none⟩) m m) (W.alloc (.cells (Lib.byteCells (List.replicate m 0)).toArray 5)) := by
  obtain ⟨i0, hi0, hz0, hz1, hz2⟩ := info_parts Tryz.info5
  have h1 := run_make (P := Tryz.prog) W 67 5 i0 (.int .u8 0) Tryz.underlying67 hi0 hz0 .i64 .i64 m m (by omega) (by omega) (by rw [hz2]; omega) (by omega)
  have e : madeCells (Value.int .u8 0).cells ((m : Int).toNat * i0.size) = (Lib.byteCells (List.replicate m 0)).toArray := by
    rw [hz1]
    apply Array.ext'
    have h2 := toList_madeCells_one (Value.int .u8 0) m
    have h3 : ((m : Int).toNat * 1) = m := by omega
    rw [h3]
    show (madeCells #[Value.int IntKind.u8 0] m).toList = _
    rw [h2]
    simp [Lib.byteCells]
  rw [e] at h1
  exact h1
theorem sz_conv (m g : Nat) (W : World) (h : W.heap[g]? = some (.cells (Lib.byteCells (List.replicate m 0)).toArray 5 (0, 0))) : (convert 67 9 (.slice (some ⟨g, 0, none⟩) m m)).run Tryz.prog W = .ok (.string (zB m)) W :=
  conv_sec (l := List.replicate m 0) (by simp) (fun j u hu => by
    rw [cell_of_row _ _ _ _ 5 (0, 0) h, Nat.zero_add]
    simpa using hu)
/-- What a call keeps of a row of bytes 0. -/
def Pz (M : Array Value) (z : ByteArray) (m : Nat) (W W' : World) : Prop := ∀ p, W.heap[p]? = some (Obj.cells M 5 (0, 0)) → W'.heap[p]? = some (Obj.cells M 5 (0, 0)) ∧ (convert 67 9 (.slice (some ⟨p, 0, none⟩) m m)).run Tryz.prog W' = .ok (.string z) W'
set_option maxHeartbeats 4000000 in
set_option maxRecDepth 100000 in
theorem rsput_any (g : Nat) (b : ByteArray) (w : World) (hg : g < 18446744073709551616) (hb : b.size ≤ 281474976710656) :
    Calls Tryz.prog 37 #[.int .u64 g, .string b] w fun e w' => e = .returned (.tuple #[.string (cS g b), .bool (cO g b)]) ∧ Below w.heap.size w w' := by
  by_cases h0 : g = 0
  · subst h0
    have ho : Hid (cO 0 b = false) := by show _ = _; unfold cO; simp
    have hs : Hid (cS 0 b = ⟨#[]⟩) := cS_no ho.out
    go_enter Tryz.func37, Tryz.ntmps37
    go_wp2
    go_ret2
    exact ⟨by rw [ho.out, hs.out]; rfl, Below.refl _ _⟩
  · have hz : decide (g = 0) = false := decide_eq_false h0
    have hz' : ((g : Int) == 0) = false := by simpa using h0
    by_cases h51 : 51 < b.size
    · have ho : Hid (cO g b = false) := by
        show _ = _
        cases e : cO g b
        · rfl
        · have := (cO_iff g b).1 e; omega
      have hs : Hid (cS g b = ⟨#[]⟩) := cS_no ho.out
      have h51' : (51 : Int) < b.size := by omega
      go_enter Tryz.func37, Tryz.ntmps37
      go_wp2
      go_ret2
      exact ⟨by rw [ho.out, hs.out]; rfl, Below.refl _ _⟩
    · have ho : Hid (cO g b = true) := (cO_iff g b).2 ⟨h0, by omega⟩
      have hs : Hid (cS g b = cell g b) := cS_yes ho.out
      have h51' : ¬ (51 : Int) < b.size := by omega
      have hbb : (b.size : Int) ≤ 51 := by omega
      obtain ⟨m, hm⟩ : ∃ m, m = 51 - b.size := ⟨_, rfl⟩
      have hmi : IntKind.i64.wrap ((51 : Int) - b.size) = (m : Int) := (IntWalk.i64_in _ (by omega)).trans (by omega)
      have hmi' : (51 : Int) - b.size = (m : Int) := by omega
      have hwm : IntKind.i64.wrap (m : Int) = (m : Int) := IntWalk.i64_in _ (by omega)
      have hwb : IntKind.u64.wrap (b.size : Int) = (b.size : Int) := IntWalk.u64_in _ (by omega)
      obtain ⟨M, hM⟩ : ∃ M, M = (Lib.byteCells (List.replicate m 0)).toArray := ⟨_, rfl⟩
      have hmk := fun W => sz_made m W (by omega)
      have hcv : ∀ (W : World) (p : Nat), W.heap[p]? = some (.cells M 5 (0, 0)) → (convert 67 9 (.slice (some ⟨p, 0, none⟩) m m)).run Tryz.prog W = .ok (.string (zB m)) W := fun W p hp => sz_conv m p W (by rw [hp, hM])
      rw [← hM] at hmk
      have hc1 : ∀ W : World, (convert 67 9 (.slice (some ⟨W.heap.size, 0, none⟩) m m)).run Tryz.prog (W.alloc (.cells M 5)) = .ok (.string (zB m)) (W.alloc (.cells M 5)) := fun W => hcv _ _ (heap_alloc_new W _)
      have hc2 : ∀ W : World, (convert 67 9 (.slice (some ⟨W.heap.size, 0, none⟩) m m)).run Tryz.prog (W.alloc (.cells M 5)).drew = .ok (.string (zB m)) (W.alloc (.cells M 5)).drew := fun W => hcv _ _ (heap_alloc_new W _)
      have hpz : ∀ W W' : World, Below W.heap.size W W' → Pz M (zB m) m W W' := fun W W' h p hp => by
        have h1 : W'.heap[p]? = some (Obj.cells M 5 (0, 0)) := (h.block p (Array.getElem?_eq_some_iff.1 hp).1).trans hp
        exact ⟨h1, hcv W' p h1⟩
      have F8 : Hid (∀ W : World, Calls Tryz.prog 30 #[.int .u64 g, .int .i64 8] W fun e w' => e = .returned (.string (fxB g 8)) ∧ Below W.heap.size W w' ∧ Pz M (zB m) m W w') := fun W => (rfixed_any g 8 W (by omega)).mono (fun e w' ⟨h1, h2⟩ => ⟨h1, h2, hpz _ _ h2⟩)
      have F1 : Hid (∀ W : World, Calls Tryz.prog 30 #[.int .u64 b.size, .int .i64 1] W fun e w' => e = .returned (.string (fxB b.size 1)) ∧ Below W.heap.size W w' ∧ Pz M (zB m) m W w') := fun W => (rfixed_any b.size 1 W (by omega)).mono (fun e w' ⟨h1, h2⟩ => ⟨h1, h2, hpz _ _ h2⟩)
      have s8 : (fxB g (8 : Int)).size = 8 := fxB_size g 8 (by omega)
      have s1 : (fxB b.size (1 : Int)).size = 1 := fxB_size b.size 1 (by omega)
      have szm : (zB m).size = m := zB_size m
      have HRe : Hid (rest g b = fxB g 8 ++ fxB b.size 1 ++ b ++ zB m) := by show _ = _; rw [hm]; rfl
      have HC := Lib.hid (fun W => rcput_any (rest g b) W (by rw [rest_size g b (by omega)]; omega))
      rw [HRe.out] at HC
      have HF : Hid (Crc.putB (fxB g 8 ++ fxB b.size 1 ++ b ++ zB m) = cell g b) := by show _ = _; unfold cell; rw [HRe.out]
      clear hM hm h0
      generalize fxB g (8 : Int) = x8 at *
      generalize fxB b.size (1 : Int) = x1 at *
      generalize zB m = z at *
      have q1 : ¬ 9223372036854775807 < x8.size + x1.size := by omega
      have q2 : ¬ 9223372036854775807 < x8.size + x1.size + b.size := by omega
      have q3 : ¬ 9223372036854775807 < x8.size + x1.size + b.size + z.size := by omega
      clear hcv hpz
      go_enter Tryz.func37, Tryz.ntmps37
      go_wp2_with fail
      go_region_with (first
        | (go_at_call 30; (first | ((with_reducible refine (F8.out _).mono ?_); rintro e w1 ⟨rfl, hb1, hp1⟩; (first | (obtain ⟨r1, k1⟩ := hp1 _ (heap_alloc_new _ _)) | skip)) | ((with_reducible refine (F1.out _).mono ?_); rintro e w2 ⟨rfl, hb2, hp2⟩; (first | (have h2 := hp2 _ (heap_alloc_new _ _); obtain ⟨r2, k2⟩ := h2) | (have h2 := hp2 _ (by assumption); obtain ⟨r2, k2⟩ := h2) | skip))))
        | (go_at_call 72; refine (HC.out _).mono ?_; rintro e w4 ⟨rfl, hb4⟩))
      all_goals
        go_wp2
        go_ret2
        refine ⟨by rw [HF.out, hs.out, ho.out]; rfl, ?_⟩
        repeat (first
          | exact Below.refl _ _
          | refine bl_step ?_ (by assumption)
          | refine bl_alloc ?_
          | refine bl_drew ?_)
end Go.Proofs.YtdoombcihobejaaGreat
