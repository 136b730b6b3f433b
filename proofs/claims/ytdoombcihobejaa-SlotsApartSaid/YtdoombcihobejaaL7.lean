/-
  The examples that each law asks first come out so; a super whose fields are near to what may be; the walk of the law SlotsRight.
  Conditions: none.
-/
import Derived.Test.YtdoombcihobejaaL6
namespace Go.Proofs.Ytdoombcihobejaa
open Go.RowKit Vi Sl
set_option linter.unusedVariables false
set_option linter.unusedSimpArgs false
theorem Try.hd3' : True := trivial
set_option maxHeartbeats 800000 in
set_option maxRecDepth 100000 in
theorem examples_any (w : World) : Calls Try.prog 8 #[] w fun e w' => e = .returned (.bool true) ∧ Below w.heap.size w w' := by
  obtain ⟨x, hx⟩ : ∃ x : ByteArray, x = ⟨#[1, 0, 2, 0, 3, 0, 0, 0, 0]⟩ := ⟨_, rfl⟩
  obtain ⟨h, hh⟩ : ∃ x : ByteArray, x = ⟨#[18, 5, 3, 4]⟩ := ⟨_, rfl⟩
  have r1 : rgt ⟨1, 2, 3, 0, 0, 0, 0⟩ = true := by decide +kernel
  have s1 : supB ⟨1, 2, 3, 0, 0, 0, 0⟩ = x := by rw [hx]; decide +kernel
  have r2 : hO 2 ⟨5, 3, 4⟩ = true := by decide +kernel
  have s2 : hB 2 ⟨5, 3, 4⟩ = h := by rw [hh]; decide +kernel
  have K1 := Lib.hid (fun (W : World) => putSuper_any ⟨1, 2, 3, 0, 0, 0, 0⟩ W)
  have ss1 : supS ⟨1, 2, 3, 0, 0, 0, 0⟩ = x := by unfold supS; rw [r1, if_pos rfl, s1]
  rw [r1, ss1] at K1
  have g1 := gS_sup r1
  have g2 := gO_sup r1
  rw [s1] at g1 g2
  have K2 := Lib.hid (fun (W : World) => getSuper_any x W (by rw [hx]; decide))
  rw [g1, g2] at K2
  have ho : Hd.Ok ⟨5, 3, 4⟩ := ⟨by decide, by decide, by decide, by decide⟩
  have j1 := jH_hard r2 ho
  have j2 := jO_hard r2 ho
  rw [s2] at j1 j2
  have K3 := Lib.hid (fun (W : World) => getHard_any h W (by rw [hh]; decide))
  rw [j1.1, j1.2, j2] at K3
  have K4 := Lib.hid (fun (W : World) => getSuper_any ⟨#[]⟩ W (by decide))
  have ge : gS ⟨#[]⟩ = su0 := by unfold gS; rw [gO_empty]; rfl
  rw [ge, gO_empty] at K4
  have K5 := Lib.hid (fun (W : World) => sectors_any ⟨1, 2, 3, 0, 0, 0, 0⟩ W)
  rw [show sec ⟨1, 2, 3, 0, 0, 0, 0⟩ = 14 by decide +kernel] at K5
  have hxl : x.toList = [1, 0, 2, 0, 3, 0, 0, 0, 0] := by rw [hx]; decide +kernel
  have HH := Lib.hid hh
  clear hx hh r1 s1 r2 s2 ss1 g1 g2 ho j1 j2 ge
  unfold Su.val Hd.val at *
  unfold su0 Su.c Hd.c at *
  dsimp only at *
  go_enter Try.func8, Try.ntmps8
  go_wp2_with fail
  refine (K1.out _).mono ?_
  rintro e w1 ⟨rfl, b1⟩
  go_wp2_with fail
  refine (K2.out _).mono ?_
  rintro e w2 ⟨rfl, b2⟩
  have b02 := b1.trans (b2.mono b1.size)
  obtain ⟨W2, hW2⟩ : ∃ W2, W2 = w2.alloc (.cells #[.int .i64 1, .int .i64 2, .int .i64 3, .int .i64 0, .int .i64 0, .int .i64 0, .int .i64 0] 23) := ⟨_, rfl⟩
  have B2 : Hid (Below w.heap.size w W2) := by rw [hW2]; exact b02.alloc b02.size _
  have C2 : Hid (W2.heap[w2.heap.size]? = some (.cells (Su.c ⟨1, 2, 3, 0, 0, 0, 0⟩) 23 (0, 0))) := by show _ = _; rw [hW2]; exact heap_alloc_new w2 _
  have HW2 := Lib.hid hW2
  clear b1 b2 b02 hW2 K1 K2
  go_wp2_with fail
  rw [← HW2.out, ← HH.out]
  refine (K3.out _).mono ?_
  rintro e w3 ⟨rfl, b3⟩
  have C3 : Hid (w3.heap[w2.heap.size]? = some (.cells (Su.c ⟨1, 2, 3, 0, 0, 0, 0⟩) 23 (0, 0))) := (b3.block _ (Array.getElem?_eq_some_iff.1 C2.out).1).trans C2.out
  have b03 := B2.out.trans (b3.mono B2.out.size)
  obtain ⟨W3, hW3⟩ : ∃ W3, W3 = w3.alloc (.cells #[.int .u64 5, .int .i64 3, .int .u64 4] 26) := ⟨_, rfl⟩
  have B3 : Hid (Below w.heap.size w W3) := by rw [hW3]; exact b03.alloc b03.size _
  have CC3 : Hid (W3.heap[w2.heap.size]? = some (.cells (Su.c ⟨1, 2, 3, 0, 0, 0, 0⟩) 23 (0, 0))) := by show _ = _; rw [hW3]; exact (Lib.alloc_old _ _ _ (Array.getElem?_eq_some_iff.1 C3.out).1).trans C3.out
  have D3 : Hid (W3.heap[w3.heap.size]? = some (.cells (Hd.c ⟨5, 3, 4⟩) 26 (0, 0))) := by show _ = _; rw [hW3]; exact heap_alloc_new w3 _
  have HW3 := Lib.hid hW3
  clear b3 b03 hW3 K3 HW2 B2 C2 C3
  go_wp2_with fail
  rw [← HW3.out]
  refine (K4.out _).mono ?_
  rintro e w4 ⟨rfl, b4⟩
  have C4 : Hid (w4.heap[w2.heap.size]? = some (.cells (Su.c ⟨1, 2, 3, 0, 0, 0, 0⟩) 23 (0, 0))) := (b4.block _ (Array.getElem?_eq_some_iff.1 CC3.out).1).trans CC3.out
  have D4 : Hid (w4.heap[w3.heap.size]? = some (.cells (Hd.c ⟨5, 3, 4⟩) 26 (0, 0))) := (b4.block _ (Array.getElem?_eq_some_iff.1 D3.out).1).trans D3.out
  have b04 := B3.out.trans (b4.mono B3.out.size)
  obtain ⟨W4, hW4⟩ : ∃ W4, W4 = w4.alloc (.cells #[.int .i64 0, .int .i64 0, .int .i64 0, .int .i64 0, .int .i64 0, .int .i64 0, .int .i64 0] 23) := ⟨_, rfl⟩
  have B4 : Hid (Below w.heap.size w W4) := by rw [hW4]; exact b04.alloc b04.size _
  have CC4 : (w4.alloc (.cells #[.int .i64 0, .int .i64 0, .int .i64 0, .int .i64 0, .int .i64 0, .int .i64 0, .int .i64 0] 23)).heap[w2.heap.size]? = some (.cells (Su.c ⟨1, 2, 3, 0, 0, 0, 0⟩) 23 (0, 0)) := (Lib.alloc_old _ _ _ (Array.getElem?_eq_some_iff.1 C4.out).1).trans C4.out
  have DD4 : (w4.alloc (.cells #[.int .i64 0, .int .i64 0, .int .i64 0, .int .i64 0, .int .i64 0, .int .i64 0, .int .i64 0] 23)).heap[w3.heap.size]? = some (.cells (Hd.c ⟨5, 3, 4⟩) 26 (0, 0)) := (Lib.alloc_old _ _ _ (Array.getElem?_eq_some_iff.1 D4.out).1).trans D4.out
  obtain ⟨x0, x1, x2, x3, x4, x5, x6⟩ := su_cells CC4
  obtain ⟨y0, y1, y2⟩ := hd_cells DD4
  dsimp only at x0 x1 x2 x3 x4 x5 x6 y0 y1 y2
  have HW4 := Lib.hid hW4
  clear b4 b04 hW4 K4 HW3 B3 CC3 D3 C4 D4 CC4 DD4
  go_wp2_with fail
  rw [← HW4.out]
  refine (K5.out _).mono ?_
  rintro e w5 ⟨rfl, b5⟩
  have B5 := Lib.hid (B4.out.trans (b5.mono B4.out.size))
  clear x0 x1 x2 x3 x4 x5 x6 y0 y1 y2 B4 HW4 b5 K5
  go_wp2
  go_ret
  exact ⟨rfl, B5.out⟩
def smS (s : Su) : Su := ⟨s.v.tmod 4, s.sn.tmod 1003, s.lg.tmod 1003, s.ar.tmod 3, s.hf.tmod 3, s.gl.tmod 4, s.sp.tmod 11⟩
end Go.Proofs.Ytdoombcihobejaa