/-
  New: the numbers sorted, once each, that speak version 1.
  Conditions: named in each theorem.
-/
import Derived.Test.YtmencfmjmbbfhaaDoorLNw
namespace Go.Proofs.YtmencfmjmbbfhaaDoor
open Go.RowKit
set_option linter.unusedVariables false
set_option linter.unusedSimpArgs false
theorem setRow_box {w : World} {g : Nat} {s t : Array Value} (hg : w.heap[g]? = some (.cells t 25 (0, 0))) : (w.setRow g s).heap[g]? = some (.cells s 25 (0, 0)) ∧ w.grownBy (w.setRow g s) (some g) := by
  refine ⟨setRow_heap w g _ _ 25 _ hg, rfl, rfl, rfl, by simp [World.setRow], fun k hk hn => setRow_other w g k s (fun e => hn (by rw [e]))⟩
abbrev ag (mm b1 c1 b2 : Nat) : Array Value := #[.slice (some ⟨b1, 0, none⟩) mm c1, .slice (some ⟨b2, 0, none⟩) mm mm, .int .i64 1, .bool false]
section
variable {b cap : Nat} {zs : List Int} {w : World}
set_option maxHeartbeats 2000000 in
set_option maxRecDepth 100000 in
theorem new_yes (hr : Rw w b cap zs) (hz : zs.length ≤ 1048576) (hne : zs ≠ []) (hR : RightC (newC zs)) :
    Calls Tryd.prog 8 #[.slice (some ⟨b, 0, none⟩) zs.length cap] w fun r w' => ∃ b1 c1 b2 c2, r = .returned (.tuple #[cvl b1 c1 b2 c2 (newC zs), .bool true]) ∧ Rw w' b1 c1 (newC zs).m ∧ Rw w' b2 c2 (newC zs).h ∧ w.heap.size ≤ b1 ∧ w.heap.size ≤ b2 ∧ b1 ≠ b2 ∧ Below w.heap.size w w' := by
  obtain ⟨W0, hW0⟩ : ∃ W0, W0 = w.alloc (.cells zc 25) := ⟨_, rfl⟩
  have A0 := Nw.new w
  rw [← hW0] at A0
  have hs0 : W0.heap.size = w.heap.size + 1 := by rw [hW0]; simp
  have hr0 : Rw W0 b cap zs := hr.below A0.be hr.lt
  obtain ⟨mm, hmm⟩ : ∃ mm, mm = (cmp zs).length := ⟨_, rfl⟩
  have hml : mm ≤ 1048576 := by rw [hmm]; have := compact_le (srt zs); rw [srt_length] at this; exact Nat.le_trans this hz
  have hag : ∀ b1 c1 b2, Value.agg (ag mm b1 c1 b2) = cvl b1 c1 b2 mm (newC zs) := fun b1 c1 b2 => by
    unfold cvl newC
    simp [hmm]
  have K21 : Hid (Calls Tryd.prog 21 #[.slice (some ⟨b, 0, none⟩) zs.length cap] W0 fun r W' => r = .returned (.func (.func 41) #[] #[.pointer (some ⟨w.heap.size + 1, 0, none⟩)]) ∧ Hid (Nw w W' ∧ W'.heap[w.heap.size + 1]? = some (.cells #[.slice (some ⟨b, 0, none⟩) zs.length cap] 23 (0, 0)) ∧ Rw W' b cap zs)) := by
    refine (values_any (.slice (some ⟨b, 0, none⟩) zs.length cap) rfl (some ⟨b, 0, none⟩) zs.length cap W0).mono ?_
    rintro r W' ⟨rfl, rfl⟩
    have hbb : Below W0.heap.size W0 (W0.alloc (.cells #[.slice (some ⟨b, 0, none⟩) zs.length cap] 23)) := (Below.refl _ W0).alloc (Nat.le_refl _) _
    refine ⟨by rw [hs0], A0.below hbb, ?_, hr0.belowS hbb⟩
    have h := heap_alloc_new W0 (.cells #[.slice (some ⟨b, 0, none⟩) zs.length cap] 23)
    rwa [hs0] at h
  have K20 : Hid (∀ W, Hid (Nw w W ∧ W.heap[w.heap.size + 1]? = some (.cells #[.slice (some ⟨b, 0, none⟩) zs.length cap] 23 (0, 0)) ∧ Rw W b cap zs) → Calls Tryd.prog 20 #[.func (.func 41) #[] #[.pointer (some ⟨w.heap.size + 1, 0, none⟩)]] W fun r W' => ∃ b1 c1, r = .returned (.slice (some ⟨b1, 0, none⟩) (srt zs).length c1) ∧ Hid (Nw w W' ∧ Rw W' b1 c1 (srt zs) ∧ w.heap.size < b1)) := by
    rintro W ⟨h1, h2, h3⟩
    refine (sorted_any (some ⟨b, 0, none⟩) cap (w.heap.size + 1) zs hz W h2 (fun _ => ⟨b, rfl, h3⟩)).mono ?_
    rintro r W' ⟨v, rfl, _, h4, h5⟩
    obtain ⟨b1, c1, rfl, h6, h7⟩ := h4 hne
    have := h1.lt
    exact ⟨b1, c1, by rw [srt_length], h1.below h5, h7, by omega⟩
  have K19 : Hid (∀ W b1 c1, Hid (Nw w W ∧ Rw W b1 c1 (srt zs) ∧ w.heap.size < b1) → Calls Tryd.prog 19 #[.slice (some ⟨b1, 0, none⟩) (srt zs).length c1] W fun r W' => r = .returned (.slice (some ⟨b1, 0, none⟩) mm c1) ∧ Hid (Nw w W' ∧ Rw W' b1 c1 (cmp zs) ∧ w.heap.size < b1)) := by
    rintro W b1 c1 ⟨h1, h2, h3⟩
    refine (compact_any b1 c1 (srt zs) W h2 (by rw [srt_length]; exact hz)).mono ?_
    rintro r W' ⟨rfl, h4, h5⟩
    exact ⟨by rw [hmm]; rfl, h1.grown h5 h3, h4, h3⟩
  have K22 : Hid (∀ W b1 c1, Hid (Nw w W ∧ Rw W b1 c1 (cmp zs) ∧ w.heap.size < b1) → Calls Tryd.prog 22 #[.slice (some ⟨W.heap.size, 0, none⟩) 1 1, .int .i64 mm] (W.alloc (.cells #[.int .i64 1] 3)) fun r W' => ∃ b2, r = .returned (.slice (some ⟨b2, 0, none⟩) mm mm) ∧ Hid (Nw w W' ∧ Rw W' b1 c1 (newC zs).m ∧ Rw W' b2 mm (newC zs).h ∧ w.heap.size < b1 ∧ b1 < b2)) := by
    rintro W b1 c1 ⟨h1, h2, h3⟩
    have hbb : Below W.heap.size W (W.alloc (.cells #[.int .i64 1] 3)) := (Below.refl _ W).alloc (Nat.le_refl _) _
    have hx : Rw (W.alloc (.cells #[.int .i64 1] 3)) W.heap.size 1 [1] := ⟨⟨_, heap_alloc_new W _, rfl, fun j x hj => by
      have : j = 0 := by have := (List.getElem?_eq_some_iff.1 hj).1; simp at this; omega
      subst this; cases hj; rfl⟩, by simp, by unfold maxLen; omega⟩
    refine (repeat_any W.heap.size 1 mm _ hx hml).mono ?_
    rintro r W' ⟨b2, rfl, h4, h5, h6⟩
    have h7 := (h2.belowS hbb).belowS h6
    refine ⟨b2, rfl, (h1.below hbb).below h6, h7, by rw [show (newC zs).h = List.replicate mm 1 from by rw [hmm]; rfl]; exact h5, h3, ?_⟩
    have := h2.lt
    simp at h4
    omega
  have K16 : Hid (∀ (W : World) (q b1 c1 b2 : Nat), Hid (W.heap[q]? = some (.cells (ag mm b1 c1 b2) 25 (0, 0)) ∧ Nw w W ∧ Rw W b1 c1 (newC zs).m ∧ Rw W b2 mm (newC zs).h ∧ w.heap.size < b1 ∧ b1 < b2) → Calls Tryd.prog 16 #[.agg (ag mm b1 c1 b2)] W fun r W' => r = .returned (.bool true) ∧ Hid (W'.heap[q]? = some (.cells (ag mm b1 c1 b2) 25 (0, 0)) ∧ Nw w W' ∧ Rw W' b1 c1 (newC zs).m ∧ Rw W' b2 mm (newC zs).h ∧ w.heap.size < b1 ∧ b1 < b2)) := by
    rintro W q b1 c1 b2 ⟨h0, h1, h2, h3, h4, h5⟩
    have hl := hR.len
    have hn := hR.hn
    rw [hag]
    refine (lright_any b1 c1 b2 mm (newC zs) W h2 h3 (by omega) (by omega)).mono ?_
    rintro r W' ⟨rfl, hb⟩
    exact ⟨by rw [(rightC_iff _).2 hR], (hb.block _ (Array.getElem?_eq_some_iff.1 h0).1).trans h0, h1.below hb, h2.belowS hb, h3.belowS hb, h4, h5⟩
  have HW := Lib.hid hW0
  have HM := Lib.hid hmm
  have HAG := Lib.hid hag
  clear hag hr A0 hs0 hr0 hmm hml hR hz hW0 hne
  go_enter Tryd.func8, Tryd.ntmps8
  go_upto_region 1 with fail
  refine wp_at (w := W0) HW.out.symm ?_
  go_upto_region 2 with (first
    | (go_at_call 21; refine K21.out.mono ?_; rintro r w1 ⟨rfl, H1⟩)
    | (go_at_call 20; refine (K20.out _ H1).mono ?_; rintro r w2 ⟨b1, c1, rfl, H2⟩)
    | (go_at_call 19; refine (K19.out _ _ _ H2).mono ?_; rintro r w3 ⟨rfl, H3⟩))
  clear K21 K20 K19 H1 H2
  go_upto_region 3 with (first
    | (go_at_call 22; refine (K22.out w3 b1 c1 H3).mono ?_; rintro r w4 ⟨b2, rfl, H4⟩; have hnew := heap_alloc_new w4 (.cells zc 25))
    | (refine wpList_store_cf rfl _ _ rfl _ w4.heap.size (ag mm b1 c1 b2) zc rfl (by simp [Value.oneCell']) rfl rfl hnew rfl ?_))
  obtain ⟨w5, hw5⟩ : ∃ w5, w5 = (w4.alloc (.cells zc 25)).setRow w4.heap.size (ag mm b1 c1 b2) := ⟨_, rfl⟩
  have H5 : Hid (w5.heap[w4.heap.size]? = some (.cells (ag mm b1 c1 b2) 25 (0, 0)) ∧ Nw w w5 ∧ Rw w5 b1 c1 (newC zs).m ∧ Rw w5 b2 mm (newC zs).h ∧ w.heap.size < b1 ∧ b1 < b2) := by
    obtain ⟨h1, h2, h3, h4, h5⟩ := H4
    have hbb : Below w4.heap.size w4 (w4.alloc (.cells zc 25)) := (Below.refl _ w4).alloc (Nat.le_refl _) _
    obtain ⟨q1, q2⟩ := setRow_box (s := ag mm b1 c1 b2) hnew
    rw [← hw5] at q1 q2
    have l1 := h2.lt
    have l2 := h3.lt
    exact ⟨q1, (h1.below hbb).grown q2 h1.lt, (h2.belowS hbb).grown q2 (by simp; omega), (h3.belowS hbb).grown q2 (by simp; omega), h4, h5⟩
  have HW5 := Lib.hid hw5
  clear hw5 hnew H4 H3 K22
  refine wp_at (w := w5) HW5.out.symm ?_
  have hb5 := H5.1
  go_upto_region 5 with (first
    | (go_at_call 16; refine (K16.out _ _ _ _ _ H5).mono ?_; rintro r w6 ⟨rfl, H6⟩; have hb6 := H6.1; have hr6 := H6.2.1.r)
    | (refine wpList_load_cf rfl _ rfl _ w4.heap.size (ag mm b1 c1 b2) rfl rfl hb5 ?_))
  go_wp2_with (first
    | (refine wpList_load_cf rfl _ rfl _ w4.heap.size (ag mm b1 c1 b2) rfl rfl hb6 ?_)
    | (refine wpList_store_cf rfl _ _ rfl _ w.heap.size (ag mm b1 c1 b2) zc rfl (by simp [Value.oneCell']) rfl rfl hr6 rfl ?_))
  obtain ⟨h0, h1, h2, h3, h4, h5⟩ := H6
  obtain ⟨q1, q2⟩ := setRow_box (s := ag mm b1 c1 b2) h1.r
  refine bodyPost_ret (v := .tuple #[.agg (ag mm b1 c1 b2), .bool true]) (res8 _ _ w.heap.size _ rfl q1 rfl) rfl ⟨b1, c1, b2, mm, by rw [HAG.out], h2.grown q2 (by simp; omega), h3.grown q2 (by simp; omega), by omega, by omega, by omega, h1.be.grown q2 h1.be.size (fun j e => by cases e; exact Nat.le_refl _)⟩
end
set_option maxHeartbeats 4000000 in
set_option maxRecDepth 100000 in
theorem lright_nilh (p : Option Addr) (n c : Nat) (l : Int) (f : Bool) (w : World) :
    Calls Tryd.prog 16 #[.agg #[.slice none 0 0, .slice p n c, .int .i64 l, .bool f]] w fun e w' => e = .returned (.bool false) ∧ Below w.heap.size w w' := by
  obtain ⟨W0, hW0⟩ : ∃ W0, W0 = w.alloc (.cells #[.slice none 0 0, .slice p n c, .int .i64 l, .bool f] 25) := ⟨_, rfl⟩
  have hb : Below w.heap.size w W0 := by rw [hW0]; exact (Below.refl _ w).alloc (Nat.le_refl _) _
  have hh : W0.heap[w.heap.size]? = some (.cells #[.slice none 0 0, .slice p n c, .int .i64 l, .bool f] 25 (0, 0)) := by rw [hW0]; exact heap_alloc_new w _
  have a0 : W0.cell? ⟨w.heap.size, 0, none⟩ = some (.slice none 0 0) := cell_of_row W0 _ 0 _ 25 (0, 0) hh
  have HB := Lib.hid hb
  have HH := Lib.hid hW0
  go_enter Tryd.func16, Tryd.ntmps16
  go_upto_region 1 with fail
  rw [← hW0]
  clear hb hh hW0
  go_quiet (fail)
  go_wp2
  go_ret
  exact ⟨rfl, ⟨HB.out.os, HB.out.tape, HB.out.output, HB.out.size, HB.out.block⟩⟩
set_option maxHeartbeats 2000000 in
set_option maxRecDepth 100000 in
theorem new_nil (w : World) :
    Calls Tryd.prog 8 #[.slice none 0 0] w fun r w' => r = .returned (.tuple #[.agg zc, .bool false]) ∧ Below w.heap.size w w' := by
  obtain ⟨W0, hW0⟩ : ∃ W0, W0 = w.alloc (.cells zc 25) := ⟨_, rfl⟩
  have A0 := Nw.new w
  rw [← hW0] at A0
  have hs0 : W0.heap.size = w.heap.size + 1 := by rw [hW0]; simp
  have K21 : Hid (Calls Tryd.prog 21 #[.slice none 0 0] W0 fun r W' => r = .returned (.func (.func 41) #[] #[.pointer (some ⟨w.heap.size + 1, 0, none⟩)]) ∧ Hid (Nw w W' ∧ W'.heap[w.heap.size + 1]? = some (.cells #[.slice none 0 0] 23 (0, 0)))) := by
    refine (values_any (.slice none 0 0) rfl none 0 0 W0).mono ?_
    rintro r W' ⟨rfl, rfl⟩
    have hbb : Below W0.heap.size W0 (W0.alloc (.cells #[.slice none 0 0] 23)) := (Below.refl _ W0).alloc (Nat.le_refl _) _
    refine ⟨by rw [hs0], A0.below hbb, ?_⟩
    have h := heap_alloc_new W0 (.cells #[.slice none 0 0] 23)
    rwa [hs0] at h
  have K20 : Hid (∀ W, Hid (Nw w W ∧ W.heap[w.heap.size + 1]? = some (.cells #[.slice none 0 0] 23 (0, 0))) → Calls Tryd.prog 20 #[.func (.func 41) #[] #[.pointer (some ⟨w.heap.size + 1, 0, none⟩)]] W fun r W' => r = .returned (.slice none 0 0) ∧ Hid (Nw w W')) := by
    rintro W ⟨h1, h2⟩
    refine (sorted_any none 0 (w.heap.size + 1) [] (by simp) W h2 (fun h => absurd rfl h)).mono ?_
    rintro r W' ⟨v, rfl, h3, _, h5⟩
    obtain rfl := h3 rfl
    exact ⟨rfl, h1.below h5⟩
  have K19 : Hid (∀ W, Hid (Nw w W) → Calls Tryd.prog 19 #[.slice none 0 0] W fun r W' => r = .returned (.slice none 0 0) ∧ Hid (Nw w W')) := by
    rintro W h1
    refine (Tryd.slices_Compact_int_empty none 0 W).mono ?_
    rintro r W' ⟨rfl, rfl⟩
    exact ⟨rfl, h1⟩
  have K22 : Hid (∀ W, Hid (Nw w W) → Calls Tryd.prog 22 #[.slice (some ⟨W.heap.size, 0, none⟩) 1 1, .int .i64 0] (W.alloc (.cells #[.int .i64 1] 3)) fun r W' => ∃ b2, r = .returned (.slice (some ⟨b2, 0, none⟩) 0 0) ∧ Hid (Nw w W')) := by
    rintro W h1
    have hbb : Below W.heap.size W (W.alloc (.cells #[.int .i64 1] 3)) := (Below.refl _ W).alloc (Nat.le_refl _) _
    have hx : Rw (W.alloc (.cells #[.int .i64 1] 3)) W.heap.size 1 [1] := ⟨⟨_, heap_alloc_new W _, rfl, fun j x hj => by
      have : j = 0 := by have := (List.getElem?_eq_some_iff.1 hj).1; simp at this; omega
      subst this; cases hj; rfl⟩, by simp, by unfold maxLen; omega⟩
    refine (repeat_any W.heap.size 1 0 _ hx (by omega)).mono ?_
    rintro r W' ⟨b2, rfl, h4, h5, h6⟩
    exact ⟨b2, rfl, (h1.below hbb).below h6⟩
  have K16 : Hid (∀ (W : World) (b2 : Nat), Hid (Nw w W) → Calls Tryd.prog 16 #[.agg #[.slice none 0 0, .slice (some ⟨b2, 0, none⟩) 0 0, .int .i64 1, .bool false]] W fun r W' => r = .returned (.bool false) ∧ Hid (Nw w W')) := by
    rintro W b2 h1
    refine (lright_nilh _ 0 0 1 false W).mono ?_
    rintro r W' ⟨rfl, hb⟩
    exact ⟨rfl, h1.below hb⟩
  have HW := Lib.hid hW0
  clear A0 hs0 hW0
  go_enter Tryd.func8, Tryd.ntmps8
  go_upto_region 1 with fail
  refine wp_at (w := W0) HW.out.symm ?_
  go_upto_region 2 with (first
    | (go_at_call 21; refine K21.out.mono ?_; rintro r w1 ⟨rfl, H1⟩)
    | (go_at_call 20; refine (K20.out _ H1).mono ?_; rintro r w2 ⟨rfl, H2⟩)
    | (go_at_call 19; refine (K19.out _ H2).mono ?_; rintro r w3 ⟨rfl, H3⟩))
  clear K21 K20 K19 H1 H2
  go_upto_region 3 with (first
    | (go_at_call 22; refine (K22.out w3 H3).mono ?_; rintro r w4 ⟨b2, rfl, H4⟩; have hnew := heap_alloc_new w4 (.cells zc 25))
    | (refine wpList_store_cf rfl _ _ rfl _ w4.heap.size #[.slice none 0 0, .slice (some ⟨b2, 0, none⟩) 0 0, .int .i64 1, .bool false] zc rfl (by simp [Value.oneCell']) rfl rfl hnew rfl ?_))
  obtain ⟨w5, hw5⟩ : ∃ w5, w5 = (w4.alloc (.cells zc 25)).setRow w4.heap.size #[.slice none 0 0, .slice (some ⟨b2, 0, none⟩) 0 0, .int .i64 1, .bool false] := ⟨_, rfl⟩
  have H5 : Hid (Nw w w5) ∧ w5.heap[w4.heap.size]? = some (.cells #[.slice none 0 0, .slice (some ⟨b2, 0, none⟩) 0 0, .int .i64 1, .bool false] 25 (0, 0)) := by
    have hbb : Below w4.heap.size w4 (w4.alloc (.cells zc 25)) := (Below.refl _ w4).alloc (Nat.le_refl _) _
    obtain ⟨q1, q2⟩ := setRow_box (s := #[.slice none 0 0, .slice (some ⟨b2, 0, none⟩) 0 0, .int .i64 1, .bool false]) hnew
    rw [← hw5] at q1 q2
    exact ⟨(H4.out.below hbb).grown q2 H4.out.lt, q1⟩
  obtain ⟨H5, hb5⟩ := H5
  have HW5 := Lib.hid hw5
  clear hw5 hnew H4 H3 K22
  refine wp_at (w := w5) HW5.out.symm ?_
  go_upto_region 4 with (first
    | (go_at_call 16; refine (K16.out _ _ H5).mono ?_; rintro r w6 ⟨rfl, H6⟩; have hr6 := H6.out.r)
    | (refine wpList_load_cf rfl _ rfl _ w4.heap.size #[.slice none 0 0, .slice (some ⟨b2, 0, none⟩) 0 0, .int .i64 1, .bool false] rfl rfl hb5 ?_))
  go_wp2_with (refine wpList_store_cf rfl _ _ rfl _ w.heap.size zc zc rfl (by simp [Value.oneCell']) rfl rfl hr6 rfl ?_)
  obtain ⟨q1, q2⟩ := setRow_box (s := zc) H6.out.r
  refine bodyPost_ret (v := .tuple #[.agg zc, .bool false]) (res8 _ _ w.heap.size _ rfl q1 rfl) rfl ⟨rfl, H6.out.be.grown q2 H6.out.be.size (fun j e => by cases e; exact Nat.le_refl _)⟩
end Go.Proofs.YtmencfmjmbbfhaaDoor
