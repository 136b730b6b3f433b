/-
  Messages of version 2: read, put, by the package and by the document.
  Conditions: named in each theorem.
-/
import Derived.Test.YtmalcldpihpfpaaGreatMTf
import Derived.Test.YtmalcldpihpfpaaGreatGetM0
import Derived.Deep.CutRange
import Derived.Test.YtmalcldpihpfpaaGreatSGet
import Derived.Test.YtmalcldpihpfpaaGreatNote
import Derived.Test.YtmalcldpihpfpaaGreatRMRight
import Derived.Test.YtmalcldpihpfpaaGreatMPf2
import Derived.Test.YtmalcldpihpfpaaGreatMRB01
import Derived.Test.YtmalcldpihpfpaaGreatMRB10
import Derived.Test.YtmalcldpihpfpaaGreatMRB00
import Derived.Test.YtmalcldpihpfpaaGreatMSRef
import Derived.Test.YtmalcldpihpfpaaGreatRMSame
import Derived.Test.YtmalcldpihpfpaaGreatBend
import Derived.Test.YtmalcldpihpfpaaGreatMkFacts
import Derived.Test.YtmalcldpihpfpaaGreatEx6
namespace Go.Proofs.YtmalcldpihpfpaaGreat
open Go.RowKit
open Vi
set_option linter.unusedVariables false
set_option linter.unusedSimpArgs false

theorem set_mid (a b c : List Value) (j : Nat) (v : Value) (hj : j < b.length) : (a ++ (b ++ c)).set (a.length + j) v = a ++ (b.set j v ++ c) := by
  rw [List.set_append_right _ _ (by omega), show a.length + j - a.length = j by omega, List.set_append_left _ _ hj]
theorem flat_mid (l1 l2 : List En) (e : En) : flat (l1 ++ e :: l2) = flat l1 ++ ((ec e).toList ++ flat l2) := by
  unfold flat
  rw [List.flatMap_append, List.flatMap_cons]
/-- The world behind an entry's being stored in a row. -/
abbrev wst (w : World) (g o : Nat) (E : En) : World := (((((((((((w.setCell ⟨g, o, none⟩ (.int .u64 E.term)).setCell ⟨g, o + 1, none⟩ (.int .u64 E.index)).setCell ⟨g, o + 2, none⟩ (.int .i64 E.kind)).setCell ⟨g, o + 3, none⟩ (.int .u64 E.client)).setCell ⟨g, o + 4, none⟩ (.int .u64 E.seq)).setCell ⟨g, o + 5, none⟩ (.int .u64 E.block)).setCell ⟨g, o + 6, none⟩ (.int .u64 E.many)).setCell ⟨g, o + 7, none⟩ (.int .i64 E.node)).setCell ⟨g, o + 8, none⟩ (.int .i64 E.level)).setCell ⟨g, o + 9, none⟩ (.string E.data)).setCell ⟨g, o + 10, none⟩ (.string E.old))
theorem heap_wst (w : World) (g o k : Nat) (E : En) (h : k ≠ g) : (wst w g o E).heap[k]? = w.heap[k]? := by
  have hs : ∀ (w : World) (i : Nat) (u : Value), (w.setCell ⟨g, i, none⟩ u).heap[k]? = w.heap[k]? := fun w i u => Below.heap_setCell w _ _ k (by simp; omega)
  unfold wst
  rw [hs, hs, hs, hs, hs, hs, hs, hs, hs, hs, hs]
theorem set_row {w : World} {g : Nat} {X : List Value} (h : w.heap[g]? = some (.cells X.toArray 24 (0, 0))) (i : Nat) (v : Value) : (w.setCell ⟨g, i, none⟩ v).heap[g]? = some (.cells (X.set i v).toArray 24 (0, 0)) := by
  have h2 := set_blk h i v
  rw [List.setIfInBounds_toArray] at h2
  exact h2
theorem row_wst {w : World} {g k : Nat} {l1 l2 : List En} {e0 : En} (E : En) (h : w.heap[g]? = some (.cells (flat (l1 ++ e0 :: l2)).toArray 24 (0, 0))) (hk : l1.length = k) : (wst w g (k * 11) E).heap[g]? = some (.cells (flat (l1 ++ E :: l2)).toArray 24 (0, 0)) := by
  have hl : (flat l1).length = k * 11 := by rw [flat_length, hk]
  rw [flat_mid] at h ⊢
  have key : ∀ (X : List Value), X.length = 11 → ∀ (w : World), w.heap[g]? = some (.cells (flat l1 ++ (X ++ flat l2)).toArray 24 (0, 0)) → ∀ j, j < 11 → ∀ v, (w.setCell ⟨g, k * 11 + j, none⟩ v).heap[g]? = some (.cells (flat l1 ++ (X.set j v ++ flat l2)).toArray 24 (0, 0)) := by
    intro X hX w h j hj v
    have h2 := set_row h (k * 11 + j) v
    rw [← hl, set_mid _ _ _ _ _ (by omega), hl] at h2
    exact h2
  have h0 := key _ (by rfl) _ h 0 (by omega) (.int .u64 E.term)
  have h1 := key _ (by simp) _ h0 1 (by omega) (.int .u64 E.index)
  have h2 := key _ (by simp) _ h1 2 (by omega) (.int .i64 E.kind)
  have h3 := key _ (by simp) _ h2 3 (by omega) (.int .u64 E.client)
  have h4 := key _ (by simp) _ h3 4 (by omega) (.int .u64 E.seq)
  have h5 := key _ (by simp) _ h4 5 (by omega) (.int .u64 E.block)
  have h6 := key _ (by simp) _ h5 6 (by omega) (.int .u64 E.many)
  have h7 := key _ (by simp) _ h6 7 (by omega) (.int .i64 E.node)
  have h8 := key _ (by simp) _ h7 8 (by omega) (.int .i64 E.level)
  have h9 := key _ (by simp) _ h8 9 (by omega) (.string E.data)
  have h10 := key _ (by simp) _ h9 10 (by omega) (.string E.old)
  exact h10
theorem rep_snoc (n k : Nat) (h : k < n) (e : En) : List.replicate (n - k) e = e :: List.replicate (n - (k + 1)) e := by
  rw [show n - k = (n - (k + 1)) + 1 by omega, List.replicate_succ]
theorem emk (m : Nat) (W : World) (hm : m ≤ 64) : (Instr.makeSlice 42 (.int .u64 m) (.int .u64 m)).run Tryz.prog W = .ok (.slice (some ⟨W.heap.size, 0, none⟩) m m) (W.alloc (.cells (flat (List.replicate m ezz)).toArray 24)) := by
  obtain ⟨i0, hi0, hz0, hz1, hz2⟩ := info_parts (show (Tryz.prog.info? 24).map (fun i => (i.zero, i.size, i.bytes)) = some (some (ev ezz), 11, 104) by kernel_rfl)
  have h1 := run_make (P := Tryz.prog) W 42 24 i0 (ev ezz) Tryz.underlying42 hi0 hz0 .u64 .u64 m m (by omega) (by omega) (by rw [hz2]; omega) (by omega)
  have e : madeCells (ev ezz).cells ((m : Int).toNat * i0.size) = (flat (List.replicate m ezz)).toArray := by
    rw [hz1, Int.toNat_natCast]
    have hz : (ev ezz).cells = ec ezz := rfl
    rw [hz]
    apply Array.ext_getElem?
    intro i
    by_cases hi : i < m * 11
    · obtain ⟨q, r, hr, rfl⟩ : ∃ q r, r < 11 ∧ i = q * 11 + r := ⟨i / 11, i % 11, Nat.mod_lt _ (by omega), by omega⟩
      have hq : q < m := by omega
      have h2 := flat_get (List.replicate m ezz) q ezz (by rw [List.getElem?_replicate, if_pos hq]) r hr
      have h3 : (flat (List.replicate m ezz)).toArray[q * 11 + r]? = (ec ezz)[r]? := by rw [List.getElem?_toArray]; exact h2
      rw [h3]
      unfold madeCells
      rw [Array.getElem?_map, Array.getElem?_range, if_pos hi]
      show some ((ec ezz)[(q * 11 + r) % 11]!) = (ec ezz)[r]?
      rw [show (q * 11 + r) % 11 = r by omega]
      have h11 : r = 0 ∨ r = 1 ∨ r = 2 ∨ r = 3 ∨ r = 4 ∨ r = 5 ∨ r = 6 ∨ r = 7 ∨ r = 8 ∨ r = 9 ∨ r = 10 := by omega
      rcases h11 with rfl | rfl | rfl | rfl | rfl | rfl | rfl | rfl | rfl | rfl | rfl <;> rfl
    · have h3 : (flat (List.replicate m ezz)).toArray[i]? = none := by rw [List.getElem?_toArray]; exact List.getElem?_eq_none (by rw [flat_length, List.length_replicate]; omega)
      rw [h3]
      exact Array.getElem?_eq_none (by rw [size_madeCells]; omega)
  rw [e] at h1
  exact h1
/-- In the midst of a message's entries being read. -/
structure Te (w0 : World) (g fb B : Nat) (L : List En) (T : ByteArray) (b : Bool) (w : World) : Prop where
  hr : Rd 74 g T b w
  row : w.heap[B]? = some (.cells (flat L).toArray 24 (0, 0))
  fr : w0.grownBy w (some g)
  fl : Flds fb w
  lg : g < w0.heap.size
  lb : w0.heap.size ≤ B
  sz : T.size ≤ 140737488351232
  sn : Vi.Sane T b
section
variable {w0 w w1 : World} {g fb B : Nat} {L L' : List En} {T T' : ByteArray} {b b' : Bool}
theorem Te.lt (h : Te w0 g fb B L T b w) : B < w.heap.size := (Array.getElem?_eq_some_iff.1 h.row).1
theorem Te.step (h : Te w0 g fb B L T b w) (hx : Rd 74 g T' b' w1) (hf : w.grownBy w1 (some g)) (hs : Stab w w1) (hT : T'.size ≤ T.size) (hn : Vi.Sane T' b') : Te w0 g fb B L T' b' w1 := by
  have h1 := h.lg
  have h2 := h.lb
  exact ⟨hx, (hf.block _ h.lt (by simp; omega)).trans h.row, h.fr.trans hf, h.fl.on hs, h1, h2, Nat.le_trans hT h.sz, hn⟩
theorem Te.cell (h : Te w0 g fb B L T b w) (i : Nat) : w.cell? ⟨B, i, none⟩ = (flat L)[i]? := by
  rw [cell_of_row w B i _ 24 (0, 0) h.row, List.getElem?_toArray]
theorem Te.fz (h : Te w0 g fb B L T b w) (i : Nat) : w.frozen? ⟨B, i, none⟩ = false := Lib.frozen_of_heap h.row i
theorem stab_wst {w : World} {g o : Nat} (E : En) (hk : ∃ cs, w.heap[g]? = some (.cells cs 24 (0, 0))) : Stab w (wst w g o E) := by
  intro k cs T h1 h2 h3 h4
  obtain ⟨cs', hc⟩ := hk
  rw [heap_wst w g o k E (fun e => by
    subst e
    rw [hc] at h1
    injection h1 with h1
    injection h1 with _ h5
    exact tyno (T := 24) (.inl (by decide)) h2 h3 h4 h5)]
  exact h1
theorem gb_wst {o r : Nat} (E : En) (h : w0.grownBy w (some g)) (hr : w0.heap.size ≤ r) : w0.grownBy (wst w r o E) (some g) :=
  gb_set (gb_set (gb_set (gb_set (gb_set (gb_set (gb_set (gb_set (gb_set (gb_set (gb_set h hr) hr) hr) hr) hr) hr) hr) hr) hr) hr) hr
theorem Te.store {l1 l2 : List En} {e0 : En} {k : Nat} (h : Te w0 g fb B (l1 ++ e0 :: l2) T b w) (E : En) (hk : l1.length = k) : Te w0 g fb B (l1 ++ E :: l2) T b (wst w B (k * 11) E) := by
  have h1 := h.lg
  have h2 := h.lb
  exact ⟨(heap_wst w B _ g E (by omega)).trans h.hr, row_wst E h.row hk, gb_wst E h.fr h2, h.fl.on (stab_wst E ⟨_, h.row⟩), h1, h2, h.sz, h.sn⟩
end
theorem ents_row {w : World} {B n : Nat} {L : List En} (h : w.heap[B]? = some (.cells (flat L).toArray 24 (0, 0))) (hl : L.length = n) : Ents w.heap.size (some ⟨B, 0, none⟩) n L w :=
  ⟨hl, fun i e he => ⟨⟨B, 0, none⟩, rfl, (Array.getElem?_eq_some_iff.1 h).1, fun j hj => by
    have e2 : (Addr.add (Addr.add ⟨B, 0, none⟩ (i * 11)) j) = ⟨B, i * 11 + j, none⟩ := by
      simp only [Addr.add]
      by_cases h1 : i * 11 = 0 <;> by_cases h2 : j = 0 <;> simp [h1, h2]
    rw [e2, cell_of_row w B _ _ 24 (0, 0) h, List.getElem?_toArray]
    exact flat_get L i e he j hj⟩⟩
theorem lst_next (n k : Nat) (s : ByteArray) (hk : k < n) : lE k s ++ List.replicate (n - k) ezz = lE k s ++ ezz :: List.replicate (n - (k + 1)) ezz ∧ lE k s ++ gE (lT k s) false :: List.replicate (n - (k + 1)) ezz = lE (k + 1) s ++ List.replicate (n - (k + 1)) ezz := by
  refine ⟨by rw [rep_snoc n k hk], ?_⟩
  rw [lE_snoc, List.append_assoc]
  rfl
set_option maxHeartbeats 4000000 in
set_option maxRecDepth 100000 in
theorem readE_any (g : Nat) (T : ByteArray) (r : Nat) (w : World) (hr : w.cell? ⟨r, 0, none⟩ = some (.pointer (some ⟨g, 0, none⟩))) (hrg : r ≠ g) (h : Rd 74 g T false w) (hm : T.size ≤ 140737488351232) :
    Calls Tryz.prog 125 #[.pointer (some ⟨r, 0, none⟩)] w (RdE g T w) := by
  have hrl : r < w.heap.size := by
    rcases Nat.lt_or_ge r w.heap.size with h2 | h2
    · exact h2
    · rw [World.cell?, Array.getElem?_eq_none h2] at hr
      cases hr
  have HC : Hid (∀ W, w.grownBy W (some g) → W.cell? ⟨r, 0, none⟩ = some (.pointer (some ⟨g, 0, none⟩))) := fun W hW => (cell_blk (a := ⟨r, 0, none⟩) (hW.block r hrl (by simp; omega))).trans hr
  have K98 : Hid (Calls Tryz.prog 98 #[.pointer (some ⟨g, 0, none⟩)] w fun e w' => e = .returned (.int .u64 (varV T)) ∧ Rd 74 g (varT T) (!varO T) w' ∧ w.grownBy w' (some g)) := by
    have h2 := var_any g T false w h (by omega)
    unfold rdp at h2
    rw [Bool.false_or] at h2
    exact h2
  have hsn := Vi.sane_var T false (fun e => by cases e)
  rw [Bool.false_or] at hsn
  have hsz := varT_size T
  have hlt := h.lt
  have HD : Hid ((64 < varV T → rdE T = [] ∧ rdT T = ⟨#[]⟩ ∧ rdO T = false) ∧ (¬ 64 < varV T → rdE T = lE (varV T) (varT T) ∧ rdT T = lT (varV T) (varT T) ∧ rdO T = (varO T && lO (varV T) (varT T)))) := by
    unfold rdE rdT rdO
    exact ⟨fun h => ⟨if_pos h, if_pos h, if_pos h⟩, fun h => ⟨if_neg h, if_neg h, if_neg h⟩⟩
  unfold RdE
  obtain ⟨RE, hRE⟩ : ∃ RE, RE = rdE T := ⟨_, rfl⟩
  obtain ⟨RT, hRT⟩ : ∃ RT, RT = rdT T := ⟨_, rfl⟩
  obtain ⟨RO, hRO⟩ : ∃ RO, RO = rdO T := ⟨_, rfl⟩
  obtain ⟨n, hn⟩ : ∃ n, n = varV T := ⟨_, rfl⟩
  obtain ⟨s1, hs1⟩ : ∃ s1, s1 = varT T := ⟨_, rfl⟩
  obtain ⟨o, ho⟩ : ∃ o, o = varO T := ⟨_, rfl⟩
  rw [← hRE, ← hRT, ← hRO] at HD ⊢
  rw [← hn, ← hs1, ← ho] at HD K98
  rw [← hs1, ← ho] at hsn
  rw [← hs1] at hsz
  have HSN := Lib.hid hsn
  have HSZ : Hid (s1.size ≤ 140737488351232) := by show _ ≤ _; omega
  have HRL := Lib.hid hrl
  have HLT := Lib.hid hlt
  clear hr hrg h hm hsn hsz hlt hRE hRT hRO hn hs1 ho
  have hc0 := HC.out w (World.grownBy.refl w _)
  by_cases h64 : 64 < n
  · obtain ⟨d1, d2, d3⟩ := HD.out.1 h64
    clear HD
    go_enter Tryz.func125, Tryz.ntmps125
    go_wp2_with fail
    refine K98.out.mono ?_
    rintro e w1 ⟨rfl, R1, g1⟩
    have hc1 := HC.out w1 g1
    have HR1 := Lib.hid R1
    have HG1 := Lib.hid g1
    clear R1 g1
    go_wp2_with fail
    refine (fail_any g s1 (!o) w1 HR1.out).mono ?_
    rintro e w2 ⟨rfl, R2, g2⟩
    go_wp2
    go_ret
    exact ⟨none, 0, by rw [d1]; rfl, by rw [d1]; exact ⟨rfl, fun i e he => (by cases he)⟩, fun a ha => (by cases ha), by rw [d2, d3]; exact R2, HG1.out.trans g2⟩
  · obtain ⟨d1, d2, d3⟩ := HD.out.2 h64
    have hn64 : n ≤ 64 := by omega
    have HEQ := Lib.hid (And.intro d1 (And.intro d2 d3))
    have hmk := fun W => emk n W hn64
    clear HD d1 d2 d3
    have K32 := Lib.hid (fun (W : World) => fields_any2 W)
    go_enter Tryz.func125, Tryz.ntmps125
    go_wp2_with fail
    refine K98.out.mono ?_
    rintro e w1 ⟨rfl, R1, g1⟩
    have HR1 := Lib.hid R1
    have HG1 := Lib.hid g1
    clear R1 g1 hc0
    go_wp2_with fail
    refine (K32.out _).mono ?_
    rintro e w2 ⟨fb, rfl, F2, b2⟩
    obtain ⟨W3, hW3⟩ : ∃ W3, W3 = w2.alloc (.cells (flat (List.replicate n ezz)).toArray 24) := ⟨_, rfl⟩
    have b3 : Below w2.heap.size w2 W3 := by rw [hW3]; exact (Below.refl _ _).alloc (Nat.le_refl _) _
    have k3 : W3.heap[w2.heap.size]? = some (.cells (flat (List.replicate n ezz)).toArray 24 (0, 0)) := by rw [hW3]; exact heap_alloc_new w2 _
    have b13 : Below w1.heap.size w1 W3 := b2.trans (b3.mono b2.size)
    have T3 : Te w g fb w2.heap.size (lE 0 s1 ++ List.replicate (n - 0) ezz) (lT 0 s1) (!(o && lO 0 s1)) W3 := by
      refine ⟨?_, k3, gb_below HG1.out b13, F2.on (Stab.below b3), HLT.out, Nat.le_trans HG1.out.size b2.size, HSZ.out, ?_⟩
      · have h2 := HR1.out.below b13 HR1.out.lt
        rw [show lO 0 s1 = true from rfl, Bool.and_true]
        exact h2
      · rw [show lO 0 s1 = true from rfl, Bool.and_true]
        exact HSN.out
    obtain ⟨B, hB⟩ : ∃ B, B = w2.heap.size := ⟨_, rfl⟩
    rw [← hB] at T3
    have HB : Hid (w.heap.size ≤ B) := by show _ ≤ _; rw [hB]; exact Nat.le_trans HG1.out.size b2.size
    have HT3 := Lib.hid T3
    have HW3 := Lib.hid hW3
    have HBB := Lib.hid hB
    clear b3 k3 b13 T3 F2 b2 hW3 hB
    go_wp2_with fail
    rw [← HW3.out]
    try rw [← HBB.out]
    clear HW3 hmk
    go_loopw [17] (fun i wr => ∃ k : Nat, k ≤ n ∧ i = .int .i64 k ∧ Te w g fb B (lE k s1 ++ List.replicate (n - k) ezz) (lT k s1) (!(o && lO k s1)) wr) (fun i _ => n - (intOf i).toNat)
    case atStart => exact ⟨0, Nat.zero_le _, rfl, HT3.out⟩
    case round =>
      obtain ⟨k, hk, rfl, hr⟩ := hrel
      clear HT3
      have hcr := HC.out wr hr.fr
      by_cases hlt : k < n
      · have K37 : Hid (Calls Tryz.prog 37 #[.slice (some ⟨fb, 0, none⟩) 12 12, .pointer (some ⟨g, 0, none⟩)] wr fun e w' => e = .returned (ev (gE (lT k s1) false)) ∧ Te w g fb B (lE k s1 ++ List.replicate (n - k) ezz) (lT (k + 1) s1) (!(o && lO (k + 1) s1)) w') := by
          have hz := hr.sz
          refine (getEntry_any fb g (lT k s1) _ wr hr.fl hr.hr (by omega)).mono ?_
          rintro e w' ⟨h1, h2, h3, h4, _, _⟩
          obtain ⟨q1, q2, q3⟩ := gE_any (lT k s1) _ hr.sn
          rw [q1] at h1
          rw [q2, q3, Bool.not_not, ← lT_snoc, Bool.and_assoc, ← lO_snoc] at h2
          refine ⟨h1, hr.step h2 h3 h4 (by rw [lT_snoc]; exact gT_le _ _) ?_⟩
          intro hb
          rw [Bool.not_eq_true'] at hb
          have hb2 := hb
          cases ho : o with
          | true => rw [ho, Bool.true_and] at hb2; exact lT_no _ _ hb2
          | false =>
            have e1 : s1 = ⟨#[]⟩ := HSN.out (by rw [ho]; rfl)
            have hz2 := lT_le (k + 1) s1
            rw [e1] at hz2 ⊢
            exact (size0 _).1 (Nat.le_zero.1 hz2)
        obtain ⟨L1, L2⟩ := lst_next n k s1 hlt
        obtain ⟨E, hE⟩ : ∃ E, E = gE (lT k s1) false := ⟨_, rfl⟩
        rw [← hE] at K37 L2
        rw [L1] at K37
        have HL2 := Lib.hid L2
        clear hr hE L1 L2
        go_wp2_with fail
        refine K37.out.mono ?_
        rintro e w3 ⟨rfl, h3⟩
        have HS : Hid (Te w g fb B (lE (k + 1) s1 ++ List.replicate (n - (k + 1)) ezz) (lT (k + 1) s1) (!(o && lO (k + 1) s1)) (wst w3 B (k * 11) E)) := by
          show Te _ _ _ _ _ _ _ _
          rw [← HL2.out]
          exact h3.store E (lE_length k s1)
        have hrow : ∀ j, j < 11 → w3.cell? ⟨B, k * 11 + j, none⟩ = (ec ezz)[j]? := fun j hj => by
          rw [h3.cell]
          exact flat_get _ k ezz (by rw [List.getElem?_append_right (by rw [lE_length]; omega), lE_length, Nat.sub_self]; rfl) j hj
        have c0 : w3.cell? ⟨B, k * 11, none⟩ = some (.int .u64 0) := hrow 0 (by omega)
        have c1 : w3.cell? ⟨B, k * 11 + 1, none⟩ = some (.int .u64 0) := hrow 1 (by omega)
        have c2 : w3.cell? ⟨B, k * 11 + 2, none⟩ = some (.int .i64 0) := hrow 2 (by omega)
        have c3 : w3.cell? ⟨B, k * 11 + 3, none⟩ = some (.int .u64 0) := hrow 3 (by omega)
        have c4 : w3.cell? ⟨B, k * 11 + 4, none⟩ = some (.int .u64 0) := hrow 4 (by omega)
        have c5 : w3.cell? ⟨B, k * 11 + 5, none⟩ = some (.int .u64 0) := hrow 5 (by omega)
        have c6 : w3.cell? ⟨B, k * 11 + 6, none⟩ = some (.int .u64 0) := hrow 6 (by omega)
        have c7 : w3.cell? ⟨B, k * 11 + 7, none⟩ = some (.int .i64 0) := hrow 7 (by omega)
        have c8 : w3.cell? ⟨B, k * 11 + 8, none⟩ = some (.int .i64 0) := hrow 8 (by omega)
        have c9 : w3.cell? ⟨B, k * 11 + 9, none⟩ = some (.string ⟨#[]⟩) := hrow 9 (by omega)
        have c10 : w3.cell? ⟨B, k * 11 + 10, none⟩ = some (.string ⟨#[]⟩) := hrow 10 (by omega)
        have fz : ∀ i, w3.frozen? ⟨B, i, none⟩ = false := fun i => h3.fz i
        clear hrow h3 K37 HL2
        go_wp2
        go_roundw
        case rel => exact ⟨k + 1, by omega, by go_num, HS.out⟩
        case measure => simp [intOf]; omega
      · have hkn : k = n := by omega
        subst hkn
        rw [Nat.sub_self, List.replicate_zero, List.append_nil] at hr
        obtain ⟨q1, q2, q3⟩ := HEQ.out
        go_wp2
        go_ret
        exact ⟨some ⟨B, 0, none⟩, k, by rw [q1, lE_length]; rfl, by rw [q1, lE_length]; exact ents_row hr.row (lE_length _ _), fun a ha => (by cases ha; exact HB.out), by rw [q2, q3]; exact hr.hr, hr.fr⟩
end Go.Proofs.YtmalcldpihpfpaaGreat
namespace Go.Proofs.YtmalcldpihpfpaaGreat
open Go.RowKit
open Vi
set_option linter.unusedVariables false
set_option linter.unusedSimpArgs false

section
set_option maxRecDepth 100000
set_option maxHeartbeats 1000000
variable (w0 : World) (g q : Nat) (E : Mp) (A : Option Addr) (c : Nat) (T : ByteArray) (b : Bool) (w : World)
theorem mtake11_any (r n a : Nat) (h : Ty w0 g q E A c T false w) (hr0 : w0.heap[r]? = some (.cells #[.func (.func 97) #[] #[]] 133 (0, 0))) (hn0 : w0.heap[n]? = some (.cells #[.func (.func 95) #[] #[]] 131 (0, 0))) (ha0 : w0.heap[a]? = some (.cells #[.func (.func 94) #[] #[]] 130 (0, 0))) :
    Calls Tryz.prog 124 #[.pointer (some ⟨q, 0, none⟩), .pointer (some ⟨g, 0, none⟩), .pointer (some ⟨r, 0, none⟩), .pointer (some ⟨n, 0, none⟩), .pointer (some ⟨a, 0, none⟩)] w fun e w' => e = .returned (.tuple #[]) ∧ ∃ A' c', Ty w0 g q (mS 11 E T).1 A' c' (mS 11 E T).2.1 (!(mS 11 E T).2.2) w' := by
  have HAT := Lib.hid (mat11_any q)
  have HN := Lib.hid hn0
  have HA := Lib.hid ha0
  have cr : w.cell? ⟨r, 0, none⟩ = some (.func (.func 97) #[] #[]) := h.at_ hr0 (by decide)
  have HH := Lib.hid h
  obtain ⟨es, hes⟩ : ∃ es, es = rdE T := ⟨_, rfl⟩
  have KR : Hid (∀ W r', W.cell? ⟨r', 0, none⟩ = some (.pointer (some ⟨g, 0, none⟩)) → r' ≠ g → w.heap.size ≤ W.heap.size → Ty w0 g q E A c T false W → Calls Tryz.prog 125 #[.pointer (some ⟨r', 0, none⟩)] W fun e w' => ∃ A' c', e = .returned (.slice A' es.length c') ∧ Ty w0 g q E A c (rdT T) (!rdO T) w' ∧ Ents w'.heap.size A' es.length es w' ∧ (∀ a, A' = some a → w0.heap.size ≤ a.block ∧ a.block ≠ q)) := by
    intro W r' hc hrg hsz hW
    refine (readE_any g T r' W hc hrg hW.hr hW.sz).mono ?_
    rintro e w' ⟨A', c', h1, h2, h3, h4, h5⟩
    have hq := (Array.getElem?_eq_some_iff.1 HH.out.al).1
    have hfs := HH.out.fr.size
    rw [hes]
    exact ⟨A', c', h1, hW.step h4 h5 (rdT_le T) (rdT_sane T), h2, fun a ha => ⟨by have := h3 a ha; omega, by have := h3 a ha; omega⟩⟩
  have HMK := Lib.hid (mkE_any g)
  have HC := Lib.hid (mS11 E T)
  rw [← hes] at HC
  have HRG : Hid (w.heap.size ≠ g) := by
    show _ ≠ _
    have := h.hr.lt
    omega
  clear hr0 hn0 ha0 h hes
  by_cases h0 : es.length = 0
  · rw [HC.out.1 h0]
    have hnil := List.eq_nil_of_length_eq_zero h0
    clear HC h0
    subst hnil
    go_enter Tryz.func124, Tryz.ntmps124
    go_wp2_with fail
    refine (HMK.out _).mono ?_
    rintro e w1 ⟨rfl, rfl⟩
    go_wp2_with fail
    refine (KR.out _ _ (cell_of_row _ _ 0 _ 32 (0, 0) (heap_alloc_new w _)) HRG.out (by simp) (HH.out.call ((Below.refl _ _).alloc (Nat.le_refl _) _))).mono ?_
    rintro e w2 ⟨A', c', rfl, h2, hE2, hp2⟩
    have cn : w2.cell? ⟨n, 0, none⟩ = some (.func (.func 95) #[] #[]) := h2.at_ HN.out (by decide)
    have H2 := Lib.hid h2
    clear h2 hE2
    go_wp2_with fail
    refine (noE_yes A' c' _).mono ?_
    rintro e w2' ⟨rfl, rfl⟩
    go_wp2_with fail
    refine (ty_fail w0 g q E A c _ _ w2 H2.out).mono ?_
    rintro e w3 ⟨rfl, h3⟩
    have H3 := Lib.hid h3
    clear h3
    have ca : w3.cell? ⟨a, 0, none⟩ = some (.func (.func 94) #[] #[]) := H3.out.at_ HA.out (by decide)
    have cq : w3.cell? ⟨q, 9, none⟩ = some (.slice A E.es.length c) := H3.out.cell 9
    have fq := H3.out.fz 9
    go_wp2_with fail
    refine (HAT.out _).mono ?_
    rintro e w4 ⟨rfl, rfl⟩
    go_wp2
    go_end0
    refine ⟨rfl, A', c', ?_⟩
    rw [Bool.not_false]
    exact H3.out.ents (es := []) ⟨rfl, fun i e he => by cases he⟩ hp2
  · rw [HC.out.2 h0]
    have KZ := Lib.hid (fun A' c' W => noE_no A' es.length c' W h0)
    clear HC h0
    go_enter Tryz.func124, Tryz.ntmps124
    go_wp2_with fail
    refine (HMK.out _).mono ?_
    rintro e w1 ⟨rfl, rfl⟩
    go_wp2_with fail
    refine (KR.out _ _ (cell_of_row _ _ 0 _ 32 (0, 0) (heap_alloc_new w _)) HRG.out (by simp) (HH.out.call ((Below.refl _ _).alloc (Nat.le_refl _) _))).mono ?_
    rintro e w2 ⟨A', c', rfl, h2, hE2, hp2⟩
    have cn : w2.cell? ⟨n, 0, none⟩ = some (.func (.func 95) #[] #[]) := h2.at_ HN.out (by decide)
    have H2 := Lib.hid h2
    have HE2 := Lib.hid hE2
    clear h2 hE2
    go_wp2_with fail
    refine (KZ.out A' c' _).mono ?_
    rintro e w2' ⟨rfl, rfl⟩
    have ca : w2.cell? ⟨a, 0, none⟩ = some (.func (.func 94) #[] #[]) := H2.out.at_ HA.out (by decide)
    have cq : w2.cell? ⟨q, 9, none⟩ = some (.slice A E.es.length c) := H2.out.cell 9
    have fq := H2.out.fz 9
    go_wp2_with fail
    refine (HAT.out _).mono ?_
    rintro e w4 ⟨rfl, rfl⟩
    go_wp2
    go_end0
    exact ⟨rfl, A', c', H2.out.ents HE2.out hp2⟩
end
theorem setM_wide {t : Nat} {E : Mp} {v : Nat} (h : E.Wide) (hv : v < 18446744073709551616) : (setM t E v).Wide := by
  have hw : -9223372036854775808 ≤ IntKind.i64.wrap (v : Int) ∧ IntKind.i64.wrap (v : Int) ≤ 9223372036854775807 := by rw [IntKind.wrap_i64]; omega
  obtain ⟨h1, h2⟩ := hw
  obtain ⟨a1, a2, a3, a4, a5, a6, a7, a8, a9, a10, a11, a12, a13, a14, a15, a16, a17, a18⟩ := h
  unfold setM
  split <;> (constructor <;> (try dsimp only) <;> first | assumption | omega)
theorem setM_es (t : Nat) (E : Mp) (v : Nat) : (setM t E v).es = E.es := by
  unfold setM
  split <;> rfl
theorem mS_wide {t : Nat} {E : Mp} {T : ByteArray} (h : E.Wide) (hl : E.es.length ≤ 64) (hT : T.size ≤ 140737488351232) : (mS t E T).1.Wide ∧ (mS t E T).1.es.length ≤ 64 := by
  have h1 := varT_size T
  have h2 := texV_le T
  unfold mS
  by_cases h8 : t ≤ 8
  · rw [if_pos h8]
    exact ⟨setM_wide h (varV_lt T), by show (setM t E (varV T)).es.length ≤ 64; rw [setM_es]; exact hl⟩
  · rw [if_neg h8]
    obtain ⟨a1, a2, a3, a4, a5, a6, a7, a8, a9, a10, a11, a12, a13, a14, a15, a16, a17, a18⟩ := h
    by_cases h9 : t = 9
    · rw [if_pos h9]
      exact ⟨⟨a1, a2, a3, a4, a5, a6, a7, a8, a9, a10, a11, a12, a13, a14, a15, a16, a17, a18⟩, hl⟩
    · rw [if_neg h9]
      by_cases h10 : t = 10
      · rw [if_pos h10]
        exact ⟨⟨a1, a2, a3, a4, a5, a6, a7, a8, a9, a10, a11, a12, a13, a14, a15, a16, Nat.le_trans h2 hT, a18⟩, hl⟩
      · rw [if_neg h10]
        by_cases h64 : 64 < varV T
        · rw [if_pos h64]
          exact ⟨⟨a1, a2, a3, a4, a5, a6, a7, a8, a9, a10, a11, a12, a13, a14, a15, a16, a17, fun e he => by cases he⟩, Nat.zero_le _⟩
        · rw [if_neg h64]
          exact ⟨⟨a1, a2, a3, a4, a5, a6, a7, a8, a9, a10, a11, a12, a13, a14, a15, a16, a17, lE_ok _ _ (by omega)⟩, by show (lE _ _).length ≤ 64; rw [lE_length]; omega⟩
theorem mz0_wide : mz0.Wide := by constructor <;> first | decide | (intro e he; cases he)
/-- What takeFields returns. -/
def TakM (g : Nat) (s : ByteArray) (w : World) (e : Ending) (w' : World) : Prop :=
  ∃ A c, e = .returned (mv ((mRd s false).1.at_ A c)) ∧ Ents w'.heap.size A (mRd s false).1.es.length (mRd s false).1.es w' ∧ Rd 74 g (mRd s false).2.1 (mRd s false).2.2 w' ∧ w.grownBy w' (some g) ∧ (mRd s false).1.Wide ∧ (mRd s false).1.es.length ≤ 64 ∧ (∀ a, A = some a → w.heap.size ≤ a.block)

set_option maxHeartbeats 16000000 in
set_option maxRecDepth 100000 in
theorem takeM_any (fb g : Nat) (s : ByteArray) (w : World) (hF : MFlds fb w) (h : Rd 74 g s false w) (hm : s.size ≤ 140737488351232) :
    Calls Tryz.prog 45 #[.slice (some ⟨fb, 0, none⟩) 12 12, .pointer (some ⟨g, 0, none⟩)] w (TakM g s w) := by
  have hlt := h.lt
  obtain ⟨W1, hW1⟩ : ∃ W1, W1 = w.alloc (Obj.cells (mc mzz) 44) := ⟨_, rfl⟩
  have b1 : Below w.heap.size w W1 := by rw [hW1]; exact (Below.refl _ _).alloc (Nat.le_refl _) _
  have z1 : W1.heap.size = w.heap.size + 1 := by rw [hW1]; simp
  have r1 : W1.heap[w.heap.size]? = some (.cells (mc mzz) 44 (0, 0)) := by rw [hW1]; exact heap_alloc_new w _
  obtain ⟨W2, hW2⟩ : ∃ W2, W2 = W1.alloc (Obj.cells (mc mzz) 44) := ⟨_, rfl⟩
  have b2 : Below W1.heap.size W1 W2 := by rw [hW2]; exact (Below.refl _ _).alloc (Nat.le_refl _) _
  have T0 : Ty W1 g W1.heap.size mz0 none 0 s false W2 :=
    ⟨(h.below b1 hlt).below b2 (by omega), by rw [hW2]; exact heap_alloc_new W1 _, ⟨b2.os, b2.tape, b2.output, b2.size, fun i hi _ => b2.block i hi⟩, Stab.below b2, by omega, Nat.le_refl _, hm, fun e => (by cases e), ⟨rfl, fun i e he => by cases he⟩, fun a ha => by cases ha⟩
  have F1 : MFlds fb W1 := hF.on (Stab.below b1)
  unfold TakM
  obtain ⟨R, hR⟩ : ∃ R, R = mRd s false := ⟨_, rfl⟩
  rw [← hR]
  have HR0 : Hid (pk mF 12 0 mz0 s false = R) := hR.symm
  have HW : Hid (W2 = (w.alloc (Obj.cells (mc mzz) 44)).alloc (Obj.cells (mc mzz) 44)) := by show _ = _; rw [hW2, hW1]
  have HZ := Lib.hid z1
  have HB1 := Lib.hid b1
  have HR1 := Lib.hid r1
  have HF1 := Lib.hid F1
  have HT0 := Lib.hid T0
  have HLT := Lib.hid hlt
  clear hF h hm hW1 b1 z1 r1 hW2 b2 T0 F1 hR hlt
  have hend : Hid (∀ (E : Mp) (A : Option Addr) (c : Nat) (T : ByteArray) (b : Bool) (W : World), Ty W1 g W1.heap.size E A c T b W → E.Wide → E.es.length ≤ 64 → (E, T, b) = R → (∀ i, W.cell? ⟨W1.heap.size, i, none⟩ = (mc (E.at_ A c))[i]?) ∧ W.heap[w.heap.size]? = some (.cells (mc mzz) 44 (0, 0)) ∧ (∃ A' c', mv (E.at_ A c) = mv (R.1.at_ A' c') ∧ Ents (wrm W w.heap.size (E.at_ A c)).heap.size A' R.1.es.length R.1.es (wrm W w.heap.size (E.at_ A c)) ∧ Rd 74 g R.2.1 R.2.2 (wrm W w.heap.size (E.at_ A c)) ∧ w.grownBy (wrm W w.heap.size (E.at_ A c)) (some g) ∧ R.1.Wide ∧ R.1.es.length ≤ 64 ∧ (∀ a, A' = some a → w.heap.size ≤ a.block))) := by
    intro E A c T b W hT hE hE2 hR
    have hz := HZ.out
    have hlt := HLT.out
    have hres : W.heap[w.heap.size]? = some (.cells (mc mzz) 44 (0, 0)) := (hT.fr.block _ (by omega) (by simp; omega)).trans HR1.out
    have hgr : w.grownBy W (some g) := ⟨hT.fr.os.trans HB1.out.os, hT.fr.tape.trans HB1.out.tape, hT.fr.output.trans HB1.out.output, Nat.le_trans HB1.out.size hT.fr.size, fun i hi hne => (hT.fr.block i (by omega) hne).trans (HB1.out.block i hi)⟩
    subst hR
    refine ⟨hT.cell, hres, A, c, rfl, ?_, (heap_wrm W w.heap.size g _ (by omega)).trans hT.hr, gb_wrm _ hgr (Nat.le_refl _), hE, hE2, fun a ha => by have := (hT.ap a ha).1; omega⟩
    exact ents_move hT.en (by unfold wrm; simp [World.setCell]) (fun a ha hl => heap_wrm W w.heap.size _ _ (by have := (hT.ap a ha).1; omega))
  go_enter Tryz.func45, Tryz.ntmps45
  go_wp2_with fail
  rw [← HW.out]
  try rw [← HZ.out]
  clear HW
  obtain ⟨q, hq⟩ : ∃ q, q = W1.heap.size := ⟨_, rfl⟩
  rw [← hq] at HT0 hend ⊢
  obtain ⟨H0, hH0⟩ : ∃ H0, H0 = w.heap.size := ⟨_, rfl⟩
  have HQ := Lib.hid hq
  have HH := Lib.hid hH0
  rw [← hH0] at hend
  try rw [← hH0]
  clear hq hH0
  go_loopw [6] (fun l wr => ∃ (n last : Nat) (E : Mp) (A : Option Addr) (c : Nat) (T : ByteArray) (b : Bool), 12 ≤ n + last ∧ last ≤ 11 ∧ l = .int .u64 last ∧ Hid (pk mF n last E T b = R) ∧ Ty W1 g q E A c T b wr ∧ E.Wide ∧ E.es.length ≤ 64) (fun l _ => 12 - (intOf l).toNat)
  case atStart => exact ⟨12, 0, mz0, none, 0, s, false, by omega, by omega, rfl, HR0, HT0.out, mz0_wide, Nat.zero_le _⟩
  case round =>
    obtain ⟨n, last, E, A, c, T, b, hn, hl, rfl, HP, hT, hE, hE2⟩ := hrel
    clear HR0 HT0
    obtain ⟨m, rfl⟩ : ∃ m, n = m + 1 := ⟨n - 1, by omega⟩
    have K98 := Lib.hid (ty_var W1 g q E A c T b wr hT)
    have hvl := varV_lt T
    have hlive : Hid (varV T ≠ 0 → (b || !varO T) = false) := fun hv => by
      obtain ⟨l1, l2⟩ := var_live hT.sn hv
      rw [l1, l2]; rfl
    have hpk := HP.out
    unfold pk at hpk
    obtain ⟨v, hv⟩ : ∃ v, v = varV T := ⟨_, rfl⟩
    obtain ⟨T1, hT1⟩ : ∃ T1, T1 = varT T := ⟨_, rfl⟩
    obtain ⟨bb, hbb⟩ : ∃ bb, bb = (b || !varO T) := ⟨_, rfl⟩
    rw [← hv, ← hT1, ← hbb] at K98 hpk
    rw [← hv] at hvl
    rw [← hv, ← hbb] at hlive
    have HE := Lib.hid hE
    have HE2 := Lib.hid hE2
    have HPK := Lib.hid hpk
    clear HP hT hpk hv hT1 hbb hE hE2
    by_cases hv0 : v = 0
    · subst hv0
      have HRR : Hid ((E, T1, bb) = R) := by have h := HPK.out; rw [if_pos rfl] at h; exact h
      clear HPK hvl hlive
      go_wp2_with fail
      refine K98.out.mono ?_
      rintro e w3 ⟨rfl, h3⟩
      obtain ⟨x1, x2, x3⟩ := hend.out _ _ _ _ _ _ h3 HE.out HE2.out HRR.out
      have c0 : w3.cell? ⟨q, 0, none⟩ = some (.int .i64 E.kind) := x1 0
      have c1 : w3.cell? ⟨q, 1, none⟩ = some (.int .i64 E.frm) := x1 1
      have c2 : w3.cell? ⟨q, 2, none⟩ = some (.int .i64 E.dst) := x1 2
      have c3 : w3.cell? ⟨q, 3, none⟩ = some (.int .u64 E.term) := x1 3
      have c4 : w3.cell? ⟨q, 4, none⟩ = some (.int .u64 E.index) := x1 4
      have c5 : w3.cell? ⟨q, 5, none⟩ = some (.int .u64 E.prev) := x1 5
      have c6 : w3.cell? ⟨q, 6, none⟩ = some (.int .u64 E.commit) := x1 6
      have c7 : w3.cell? ⟨q, 7, none⟩ = some (.int .u64 E.mark) := x1 7
      have c8 : w3.cell? ⟨q, 8, none⟩ = some (.bool E.ok) := x1 8
      have c9 : w3.cell? ⟨q, 9, none⟩ = some (.slice A E.es.length c) := x1 9
      have c10 : w3.cell? ⟨q, 10, none⟩ = some (.string E.snap) := x1 10
      have z0 : w3.cell? ⟨H0, 0, none⟩ = some (.int .i64 0) := cell_of_row w3 _ 0 _ 44 (0, 0) x2
      have z1 : w3.cell? ⟨H0, 1, none⟩ = some (.int .i64 0) := cell_of_row w3 _ 1 _ 44 (0, 0) x2
      have z2 : w3.cell? ⟨H0, 2, none⟩ = some (.int .i64 0) := cell_of_row w3 _ 2 _ 44 (0, 0) x2
      have z3 : w3.cell? ⟨H0, 3, none⟩ = some (.int .u64 0) := cell_of_row w3 _ 3 _ 44 (0, 0) x2
      have z4 : w3.cell? ⟨H0, 4, none⟩ = some (.int .u64 0) := cell_of_row w3 _ 4 _ 44 (0, 0) x2
      have z5 : w3.cell? ⟨H0, 5, none⟩ = some (.int .u64 0) := cell_of_row w3 _ 5 _ 44 (0, 0) x2
      have z6 : w3.cell? ⟨H0, 6, none⟩ = some (.int .u64 0) := cell_of_row w3 _ 6 _ 44 (0, 0) x2
      have z7 : w3.cell? ⟨H0, 7, none⟩ = some (.int .u64 0) := cell_of_row w3 _ 7 _ 44 (0, 0) x2
      have z8 : w3.cell? ⟨H0, 8, none⟩ = some (.bool false) := cell_of_row w3 _ 8 _ 44 (0, 0) x2
      have z9 : w3.cell? ⟨H0, 9, none⟩ = some (.slice none 0 0) := cell_of_row w3 _ 9 _ 44 (0, 0) x2
      have z10 : w3.cell? ⟨H0, 10, none⟩ = some (.string ⟨#[]⟩) := cell_of_row w3 _ 10 _ 44 (0, 0) x2
      have fz : ∀ i, w3.frozen? ⟨H0, i, none⟩ = false := fun i => Lib.frozen_of_heap x2 i
      have hblk := store_allm (E.at_ A c) x2
      obtain ⟨WF, hWF⟩ : ∃ WF, WF = wrm w3 H0 (E.at_ A c) := ⟨_, rfl⟩
      rw [← hWF] at x3 hblk
      have X3 := Lib.hid x3
      have HWF := Lib.hid hWF
      have HBK := Lib.hid hblk
      clear x1 x2 x3 hWF hblk h3
      go_wp2
      have hWF2 := HWF.out
      unfold wrm Mp.at_ at hWF2
      dsimp only at hWF2
      rw [← hWF2]
      clear hWF2
      have f0 : WF.cell? ⟨H0, 0, none⟩ = some (.int .i64 E.kind) := cell_of_row WF _ 0 _ 44 (0, 0) HBK.out
      have f1 : WF.cell? ⟨H0, 1, none⟩ = some (.int .i64 E.frm) := cell_of_row WF _ 1 _ 44 (0, 0) HBK.out
      have f2 : WF.cell? ⟨H0, 2, none⟩ = some (.int .i64 E.dst) := cell_of_row WF _ 2 _ 44 (0, 0) HBK.out
      have f3 : WF.cell? ⟨H0, 3, none⟩ = some (.int .u64 E.term) := cell_of_row WF _ 3 _ 44 (0, 0) HBK.out
      have f4 : WF.cell? ⟨H0, 4, none⟩ = some (.int .u64 E.index) := cell_of_row WF _ 4 _ 44 (0, 0) HBK.out
      have f5 : WF.cell? ⟨H0, 5, none⟩ = some (.int .u64 E.prev) := cell_of_row WF _ 5 _ 44 (0, 0) HBK.out
      have f6 : WF.cell? ⟨H0, 6, none⟩ = some (.int .u64 E.commit) := cell_of_row WF _ 6 _ 44 (0, 0) HBK.out
      have f7 : WF.cell? ⟨H0, 7, none⟩ = some (.int .u64 E.mark) := cell_of_row WF _ 7 _ 44 (0, 0) HBK.out
      have f8 : WF.cell? ⟨H0, 8, none⟩ = some (.bool E.ok) := cell_of_row WF _ 8 _ 44 (0, 0) HBK.out
      have f9 : WF.cell? ⟨H0, 9, none⟩ = some (.slice A E.es.length c) := cell_of_row WF _ 9 _ 44 (0, 0) HBK.out
      have f10 : WF.cell? ⟨H0, 10, none⟩ = some (.string E.snap) := cell_of_row WF _ 10 _ 44 (0, 0) HBK.out
      obtain ⟨A', c', y1, y2⟩ := X3.out
      exact bodyPost_ret (v := mv (E.at_ A c)) (by simp [results, Tryz.results45, go_sem, f0, f1, f2, f3, f4, f5, f6, f7, f8, f9, f10, Mp.at_]) rfl ⟨A', c', by rw [y1], by rw [← HH.out]; exact y2⟩
    · have e0 : ((v : Int) == 0) = false := by simp; omega
      by_cases hq1 : v ≤ last ∨ 12 ≤ v
      · have HRR : Hid ((E, ⟨#[]⟩, true) = R) := by have h := HPK.out; rw [if_neg hv0, if_pos hq1] at h; exact h
        have hw12 : IntKind.u64.wrap (12 : Int) = 12 := rfl
        clear HPK hlive
        by_cases hq2 : v ≤ last
        · have d1 : decide (v ≤ last) = true := decide_eq_true hq2
          have d1' : decide ((v : Int) ≤ (last : Int)) = true := decide_eq_true (by omega)
          clear hq1
          go_wp2_with fail
          refine K98.out.mono ?_
          rintro e w2 ⟨rfl, h2⟩
          go_wp2_with fail
          refine (ty_fail W1 g q E A c T1 bb w2 h2).mono ?_
          rintro e w3 ⟨rfl, h3⟩
          obtain ⟨x1, x2, x3⟩ := hend.out _ _ _ _ _ _ h3 HE.out HE2.out HRR.out
          have c0 : w3.cell? ⟨q, 0, none⟩ = some (.int .i64 E.kind) := x1 0
          have c1 : w3.cell? ⟨q, 1, none⟩ = some (.int .i64 E.frm) := x1 1
          have c2 : w3.cell? ⟨q, 2, none⟩ = some (.int .i64 E.dst) := x1 2
          have c3 : w3.cell? ⟨q, 3, none⟩ = some (.int .u64 E.term) := x1 3
          have c4 : w3.cell? ⟨q, 4, none⟩ = some (.int .u64 E.index) := x1 4
          have c5 : w3.cell? ⟨q, 5, none⟩ = some (.int .u64 E.prev) := x1 5
          have c6 : w3.cell? ⟨q, 6, none⟩ = some (.int .u64 E.commit) := x1 6
          have c7 : w3.cell? ⟨q, 7, none⟩ = some (.int .u64 E.mark) := x1 7
          have c8 : w3.cell? ⟨q, 8, none⟩ = some (.bool E.ok) := x1 8
          have c9 : w3.cell? ⟨q, 9, none⟩ = some (.slice A E.es.length c) := x1 9
          have c10 : w3.cell? ⟨q, 10, none⟩ = some (.string E.snap) := x1 10
          have z0 : w3.cell? ⟨H0, 0, none⟩ = some (.int .i64 0) := cell_of_row w3 _ 0 _ 44 (0, 0) x2
          have z1 : w3.cell? ⟨H0, 1, none⟩ = some (.int .i64 0) := cell_of_row w3 _ 1 _ 44 (0, 0) x2
          have z2 : w3.cell? ⟨H0, 2, none⟩ = some (.int .i64 0) := cell_of_row w3 _ 2 _ 44 (0, 0) x2
          have z3 : w3.cell? ⟨H0, 3, none⟩ = some (.int .u64 0) := cell_of_row w3 _ 3 _ 44 (0, 0) x2
          have z4 : w3.cell? ⟨H0, 4, none⟩ = some (.int .u64 0) := cell_of_row w3 _ 4 _ 44 (0, 0) x2
          have z5 : w3.cell? ⟨H0, 5, none⟩ = some (.int .u64 0) := cell_of_row w3 _ 5 _ 44 (0, 0) x2
          have z6 : w3.cell? ⟨H0, 6, none⟩ = some (.int .u64 0) := cell_of_row w3 _ 6 _ 44 (0, 0) x2
          have z7 : w3.cell? ⟨H0, 7, none⟩ = some (.int .u64 0) := cell_of_row w3 _ 7 _ 44 (0, 0) x2
          have z8 : w3.cell? ⟨H0, 8, none⟩ = some (.bool false) := cell_of_row w3 _ 8 _ 44 (0, 0) x2
          have z9 : w3.cell? ⟨H0, 9, none⟩ = some (.slice none 0 0) := cell_of_row w3 _ 9 _ 44 (0, 0) x2
          have z10 : w3.cell? ⟨H0, 10, none⟩ = some (.string ⟨#[]⟩) := cell_of_row w3 _ 10 _ 44 (0, 0) x2
          have fz : ∀ i, w3.frozen? ⟨H0, i, none⟩ = false := fun i => Lib.frozen_of_heap x2 i
          have hblk := store_allm (E.at_ A c) x2
          obtain ⟨WF, hWF⟩ : ∃ WF, WF = wrm w3 H0 (E.at_ A c) := ⟨_, rfl⟩
          rw [← hWF] at x3 hblk
          have X3 := Lib.hid x3
          have HWF := Lib.hid hWF
          have HBK := Lib.hid hblk
          clear x1 x2 x3 hWF hblk h3 h2
          go_wp2
          have hWF2 := HWF.out
          unfold wrm Mp.at_ at hWF2
          dsimp only at hWF2
          rw [← hWF2]
          clear hWF2
          have f0 : WF.cell? ⟨H0, 0, none⟩ = some (.int .i64 E.kind) := cell_of_row WF _ 0 _ 44 (0, 0) HBK.out
          have f1 : WF.cell? ⟨H0, 1, none⟩ = some (.int .i64 E.frm) := cell_of_row WF _ 1 _ 44 (0, 0) HBK.out
          have f2 : WF.cell? ⟨H0, 2, none⟩ = some (.int .i64 E.dst) := cell_of_row WF _ 2 _ 44 (0, 0) HBK.out
          have f3 : WF.cell? ⟨H0, 3, none⟩ = some (.int .u64 E.term) := cell_of_row WF _ 3 _ 44 (0, 0) HBK.out
          have f4 : WF.cell? ⟨H0, 4, none⟩ = some (.int .u64 E.index) := cell_of_row WF _ 4 _ 44 (0, 0) HBK.out
          have f5 : WF.cell? ⟨H0, 5, none⟩ = some (.int .u64 E.prev) := cell_of_row WF _ 5 _ 44 (0, 0) HBK.out
          have f6 : WF.cell? ⟨H0, 6, none⟩ = some (.int .u64 E.commit) := cell_of_row WF _ 6 _ 44 (0, 0) HBK.out
          have f7 : WF.cell? ⟨H0, 7, none⟩ = some (.int .u64 E.mark) := cell_of_row WF _ 7 _ 44 (0, 0) HBK.out
          have f8 : WF.cell? ⟨H0, 8, none⟩ = some (.bool E.ok) := cell_of_row WF _ 8 _ 44 (0, 0) HBK.out
          have f9 : WF.cell? ⟨H0, 9, none⟩ = some (.slice A E.es.length c) := cell_of_row WF _ 9 _ 44 (0, 0) HBK.out
          have f10 : WF.cell? ⟨H0, 10, none⟩ = some (.string E.snap) := cell_of_row WF _ 10 _ 44 (0, 0) HBK.out
          obtain ⟨A', c', y1, y2⟩ := X3.out
          exact bodyPost_ret (v := mv (E.at_ A c)) (by simp [results, Tryz.results45, go_sem, f0, f1, f2, f3, f4, f5, f6, f7, f8, f9, f10, Mp.at_]) rfl ⟨A', c', by rw [y1], by rw [← HH.out]; exact y2⟩
        · have d1 : decide (v ≤ last) = false := decide_eq_false hq2
          have d1' : decide ((v : Int) ≤ (last : Int)) = false := decide_eq_false (by omega)
          have hq3 : 12 ≤ v := by omega
          have d2 : decide ((12 : Int) ≤ (v : Int)) = true := decide_eq_true (by omega)
          clear hq1
          go_wp2_with fail
          refine K98.out.mono ?_
          rintro e w2 ⟨rfl, h2⟩
          go_wp2_with fail
          refine (ty_fail W1 g q E A c T1 bb w2 h2).mono ?_
          rintro e w3 ⟨rfl, h3⟩
          obtain ⟨x1, x2, x3⟩ := hend.out _ _ _ _ _ _ h3 HE.out HE2.out HRR.out
          have c0 : w3.cell? ⟨q, 0, none⟩ = some (.int .i64 E.kind) := x1 0
          have c1 : w3.cell? ⟨q, 1, none⟩ = some (.int .i64 E.frm) := x1 1
          have c2 : w3.cell? ⟨q, 2, none⟩ = some (.int .i64 E.dst) := x1 2
          have c3 : w3.cell? ⟨q, 3, none⟩ = some (.int .u64 E.term) := x1 3
          have c4 : w3.cell? ⟨q, 4, none⟩ = some (.int .u64 E.index) := x1 4
          have c5 : w3.cell? ⟨q, 5, none⟩ = some (.int .u64 E.prev) := x1 5
          have c6 : w3.cell? ⟨q, 6, none⟩ = some (.int .u64 E.commit) := x1 6
          have c7 : w3.cell? ⟨q, 7, none⟩ = some (.int .u64 E.mark) := x1 7
          have c8 : w3.cell? ⟨q, 8, none⟩ = some (.bool E.ok) := x1 8
          have c9 : w3.cell? ⟨q, 9, none⟩ = some (.slice A E.es.length c) := x1 9
          have c10 : w3.cell? ⟨q, 10, none⟩ = some (.string E.snap) := x1 10
          have z0 : w3.cell? ⟨H0, 0, none⟩ = some (.int .i64 0) := cell_of_row w3 _ 0 _ 44 (0, 0) x2
          have z1 : w3.cell? ⟨H0, 1, none⟩ = some (.int .i64 0) := cell_of_row w3 _ 1 _ 44 (0, 0) x2
          have z2 : w3.cell? ⟨H0, 2, none⟩ = some (.int .i64 0) := cell_of_row w3 _ 2 _ 44 (0, 0) x2
          have z3 : w3.cell? ⟨H0, 3, none⟩ = some (.int .u64 0) := cell_of_row w3 _ 3 _ 44 (0, 0) x2
          have z4 : w3.cell? ⟨H0, 4, none⟩ = some (.int .u64 0) := cell_of_row w3 _ 4 _ 44 (0, 0) x2
          have z5 : w3.cell? ⟨H0, 5, none⟩ = some (.int .u64 0) := cell_of_row w3 _ 5 _ 44 (0, 0) x2
          have z6 : w3.cell? ⟨H0, 6, none⟩ = some (.int .u64 0) := cell_of_row w3 _ 6 _ 44 (0, 0) x2
          have z7 : w3.cell? ⟨H0, 7, none⟩ = some (.int .u64 0) := cell_of_row w3 _ 7 _ 44 (0, 0) x2
          have z8 : w3.cell? ⟨H0, 8, none⟩ = some (.bool false) := cell_of_row w3 _ 8 _ 44 (0, 0) x2
          have z9 : w3.cell? ⟨H0, 9, none⟩ = some (.slice none 0 0) := cell_of_row w3 _ 9 _ 44 (0, 0) x2
          have z10 : w3.cell? ⟨H0, 10, none⟩ = some (.string ⟨#[]⟩) := cell_of_row w3 _ 10 _ 44 (0, 0) x2
          have fz : ∀ i, w3.frozen? ⟨H0, i, none⟩ = false := fun i => Lib.frozen_of_heap x2 i
          have hblk := store_allm (E.at_ A c) x2
          obtain ⟨WF, hWF⟩ : ∃ WF, WF = wrm w3 H0 (E.at_ A c) := ⟨_, rfl⟩
          rw [← hWF] at x3 hblk
          have X3 := Lib.hid x3
          have HWF := Lib.hid hWF
          have HBK := Lib.hid hblk
          clear x1 x2 x3 hWF hblk h3 h2
          go_wp2
          have hWF2 := HWF.out
          unfold wrm Mp.at_ at hWF2
          dsimp only at hWF2
          rw [← hWF2]
          clear hWF2
          have f0 : WF.cell? ⟨H0, 0, none⟩ = some (.int .i64 E.kind) := cell_of_row WF _ 0 _ 44 (0, 0) HBK.out
          have f1 : WF.cell? ⟨H0, 1, none⟩ = some (.int .i64 E.frm) := cell_of_row WF _ 1 _ 44 (0, 0) HBK.out
          have f2 : WF.cell? ⟨H0, 2, none⟩ = some (.int .i64 E.dst) := cell_of_row WF _ 2 _ 44 (0, 0) HBK.out
          have f3 : WF.cell? ⟨H0, 3, none⟩ = some (.int .u64 E.term) := cell_of_row WF _ 3 _ 44 (0, 0) HBK.out
          have f4 : WF.cell? ⟨H0, 4, none⟩ = some (.int .u64 E.index) := cell_of_row WF _ 4 _ 44 (0, 0) HBK.out
          have f5 : WF.cell? ⟨H0, 5, none⟩ = some (.int .u64 E.prev) := cell_of_row WF _ 5 _ 44 (0, 0) HBK.out
          have f6 : WF.cell? ⟨H0, 6, none⟩ = some (.int .u64 E.commit) := cell_of_row WF _ 6 _ 44 (0, 0) HBK.out
          have f7 : WF.cell? ⟨H0, 7, none⟩ = some (.int .u64 E.mark) := cell_of_row WF _ 7 _ 44 (0, 0) HBK.out
          have f8 : WF.cell? ⟨H0, 8, none⟩ = some (.bool E.ok) := cell_of_row WF _ 8 _ 44 (0, 0) HBK.out
          have f9 : WF.cell? ⟨H0, 9, none⟩ = some (.slice A E.es.length c) := cell_of_row WF _ 9 _ 44 (0, 0) HBK.out
          have f10 : WF.cell? ⟨H0, 10, none⟩ = some (.string E.snap) := cell_of_row WF _ 10 _ 44 (0, 0) HBK.out
          obtain ⟨A', c', y1, y2⟩ := X3.out
          exact bodyPost_ret (v := mv (E.at_ A c)) (by simp [results, Tryz.results45, go_sem, f0, f1, f2, f3, f4, f5, f6, f7, f8, f9, f10, Mp.at_]) rfl ⟨A', c', by rw [y1], by rw [← HH.out]; exact y2⟩
      · have hb0 := hlive.out hv0
        have HRR : Hid (pk mF m v (mS v E T1).1 (mS v E T1).2.1 (!(mS v E T1).2.2) = R) := by have h := HPK.out; rw [if_neg hv0, if_neg hq1, hb0, Bool.false_or] at h; exact h
        have d1 : decide (v ≤ last) = false := decide_eq_false (by omega)
        have d1' : decide ((v : Int) ≤ (last : Int)) = false := decide_eq_false (by omega)
        have d2 : decide ((12 : Int) ≤ (v : Int)) = false := decide_eq_false (by omega)
        have hvr : last < v ∧ v ≤ 11 := by omega
        have hvm : 12 ≤ m + v := by omega
        rw [hb0] at K98
        clear HPK hq1 hlive hb0
        go_wp2_with fail
        refine K98.out.mono ?_
        rintro e w2 ⟨rfl, h2⟩
        go_upto_region 9 with fail
        clear d1 d1' d2 e0
        obtain ⟨vv, hblk, g1, g2, g3, g4, g5, g6, g7, g8, g9, g10, g11⟩ := HF1.out
        rcases tag_cases (show 1 ≤ v by omega) hvr.2 with rfl | rfl | rfl | rfl | rfl | rfl | rfl | rfl | rfl | rfl | rfl
        · clear g2 g3 g4 g5 g6 g7 g8 g9 g10 g11
          obtain ⟨a, nn, p, r, _, hv1, hv2, ha0, hn0, hp0, hr0⟩ := g1
          have hbw := h2.st _ _ _ hblk (by decide) (by decide) (by decide)
          have hf : w2.cell? ⟨fb, 3, none⟩ = some (.func (.func 139) #[] #[.pointer (some ⟨r, 0, none⟩), .pointer (some ⟨nn, 0, none⟩), .pointer (some ⟨a, 0, none⟩)]) := by
            rw [← hv2]; exact cell_of_row w2 fb 3 _ 118 (0, 0) hbw
          have HK := Lib.hid (mtake1_any W1 g q E A c T1 w2 r nn a h2 hr0 hn0 ha0)
          have hok := mS_wide (t := 1) HE.out HE2.out h2.sz
          have HOK := Lib.hid hok
          have hml : 12 - 1 < 12 - last := by omega
          clear hv1 hv2 ha0 hn0 hp0 hr0 hblk hbw h2 hok
          go_wp2_with fail
          refine HK.out.mono ?_
          rintro e w4 ⟨rfl, h4⟩
          go_wp2
          go_roundw
          case rel => exact ⟨m, 1, _, _, _, _, _, hvm, by omega, rfl, HRR, h4, HOK.out.1, HOK.out.2⟩
          case measure => simp [intOf]; omega
        · clear g1 g3 g4 g5 g6 g7 g8 g9 g10 g11
          obtain ⟨a, nn, p, r, _, hv1, hv2, ha0, hn0, hp0, hr0⟩ := g2
          have hbw := h2.st _ _ _ hblk (by decide) (by decide) (by decide)
          have hf : w2.cell? ⟨fb, 5, none⟩ = some (.func (.func 139) #[] #[.pointer (some ⟨r, 0, none⟩), .pointer (some ⟨nn, 0, none⟩), .pointer (some ⟨a, 0, none⟩)]) := by
            rw [← hv2]; exact cell_of_row w2 fb 5 _ 118 (0, 0) hbw
          have HK := Lib.hid (mtake2_any W1 g q E A c T1 w2 r nn a h2 hr0 hn0 ha0)
          have hok := mS_wide (t := 2) HE.out HE2.out h2.sz
          have HOK := Lib.hid hok
          have hml : 12 - 2 < 12 - last := by omega
          clear hv1 hv2 ha0 hn0 hp0 hr0 hblk hbw h2 hok
          go_wp2_with fail
          refine HK.out.mono ?_
          rintro e w4 ⟨rfl, h4⟩
          go_wp2
          go_roundw
          case rel => exact ⟨m, 2, _, _, _, _, _, hvm, by omega, rfl, HRR, h4, HOK.out.1, HOK.out.2⟩
          case measure => simp [intOf]; omega
        · clear g1 g2 g4 g5 g6 g7 g8 g9 g10 g11
          obtain ⟨a, nn, p, r, _, hv1, hv2, ha0, hn0, hp0, hr0⟩ := g3
          have hbw := h2.st _ _ _ hblk (by decide) (by decide) (by decide)
          have hf : w2.cell? ⟨fb, 7, none⟩ = some (.func (.func 139) #[] #[.pointer (some ⟨r, 0, none⟩), .pointer (some ⟨nn, 0, none⟩), .pointer (some ⟨a, 0, none⟩)]) := by
            rw [← hv2]; exact cell_of_row w2 fb 7 _ 118 (0, 0) hbw
          have HK := Lib.hid (mtake3_any W1 g q E A c T1 w2 r nn a h2 hr0 hn0 ha0)
          have hok := mS_wide (t := 3) HE.out HE2.out h2.sz
          have HOK := Lib.hid hok
          have hml : 12 - 3 < 12 - last := by omega
          clear hv1 hv2 ha0 hn0 hp0 hr0 hblk hbw h2 hok
          go_wp2_with fail
          refine HK.out.mono ?_
          rintro e w4 ⟨rfl, h4⟩
          go_wp2
          go_roundw
          case rel => exact ⟨m, 3, _, _, _, _, _, hvm, by omega, rfl, HRR, h4, HOK.out.1, HOK.out.2⟩
          case measure => simp [intOf]; omega
        · clear g1 g2 g3 g5 g6 g7 g8 g9 g10 g11
          obtain ⟨a, nn, p, r, _, hv1, hv2, ha0, hn0, hp0, hr0⟩ := g4
          have hbw := h2.st _ _ _ hblk (by decide) (by decide) (by decide)
          have hf : w2.cell? ⟨fb, 9, none⟩ = some (.func (.func 141) #[] #[.pointer (some ⟨r, 0, none⟩), .pointer (some ⟨nn, 0, none⟩), .pointer (some ⟨a, 0, none⟩)]) := by
            rw [← hv2]; exact cell_of_row w2 fb 9 _ 118 (0, 0) hbw
          have HK := Lib.hid (mtake4_any W1 g q E A c T1 w2 r nn a h2 hr0 hn0 ha0)
          have hok := mS_wide (t := 4) HE.out HE2.out h2.sz
          have HOK := Lib.hid hok
          have hml : 12 - 4 < 12 - last := by omega
          clear hv1 hv2 ha0 hn0 hp0 hr0 hblk hbw h2 hok
          go_wp2_with fail
          refine HK.out.mono ?_
          rintro e w4 ⟨rfl, h4⟩
          go_wp2
          go_roundw
          case rel => exact ⟨m, 4, _, _, _, _, _, hvm, by omega, rfl, HRR, h4, HOK.out.1, HOK.out.2⟩
          case measure => simp [intOf]; omega
        · clear g1 g2 g3 g4 g6 g7 g8 g9 g10 g11
          obtain ⟨a, nn, p, r, _, hv1, hv2, ha0, hn0, hp0, hr0⟩ := g5
          have hbw := h2.st _ _ _ hblk (by decide) (by decide) (by decide)
          have hf : w2.cell? ⟨fb, 11, none⟩ = some (.func (.func 141) #[] #[.pointer (some ⟨r, 0, none⟩), .pointer (some ⟨nn, 0, none⟩), .pointer (some ⟨a, 0, none⟩)]) := by
            rw [← hv2]; exact cell_of_row w2 fb 11 _ 118 (0, 0) hbw
          have HK := Lib.hid (mtake5_any W1 g q E A c T1 w2 r nn a h2 hr0 hn0 ha0)
          have hok := mS_wide (t := 5) HE.out HE2.out h2.sz
          have HOK := Lib.hid hok
          have hml : 12 - 5 < 12 - last := by omega
          clear hv1 hv2 ha0 hn0 hp0 hr0 hblk hbw h2 hok
          go_wp2_with fail
          refine HK.out.mono ?_
          rintro e w4 ⟨rfl, h4⟩
          go_wp2
          go_roundw
          case rel => exact ⟨m, 5, _, _, _, _, _, hvm, by omega, rfl, HRR, h4, HOK.out.1, HOK.out.2⟩
          case measure => simp [intOf]; omega
        · clear g1 g2 g3 g4 g5 g7 g8 g9 g10 g11
          obtain ⟨a, nn, p, r, _, hv1, hv2, ha0, hn0, hp0, hr0⟩ := g6
          have hbw := h2.st _ _ _ hblk (by decide) (by decide) (by decide)
          have hf : w2.cell? ⟨fb, 13, none⟩ = some (.func (.func 141) #[] #[.pointer (some ⟨r, 0, none⟩), .pointer (some ⟨nn, 0, none⟩), .pointer (some ⟨a, 0, none⟩)]) := by
            rw [← hv2]; exact cell_of_row w2 fb 13 _ 118 (0, 0) hbw
          have HK := Lib.hid (mtake6_any W1 g q E A c T1 w2 r nn a h2 hr0 hn0 ha0)
          have hok := mS_wide (t := 6) HE.out HE2.out h2.sz
          have HOK := Lib.hid hok
          have hml : 12 - 6 < 12 - last := by omega
          clear hv1 hv2 ha0 hn0 hp0 hr0 hblk hbw h2 hok
          go_wp2_with fail
          refine HK.out.mono ?_
          rintro e w4 ⟨rfl, h4⟩
          go_wp2
          go_roundw
          case rel => exact ⟨m, 6, _, _, _, _, _, hvm, by omega, rfl, HRR, h4, HOK.out.1, HOK.out.2⟩
          case measure => simp [intOf]; omega
        · clear g1 g2 g3 g4 g5 g6 g8 g9 g10 g11
          obtain ⟨a, nn, p, r, _, hv1, hv2, ha0, hn0, hp0, hr0⟩ := g7
          have hbw := h2.st _ _ _ hblk (by decide) (by decide) (by decide)
          have hf : w2.cell? ⟨fb, 15, none⟩ = some (.func (.func 141) #[] #[.pointer (some ⟨r, 0, none⟩), .pointer (some ⟨nn, 0, none⟩), .pointer (some ⟨a, 0, none⟩)]) := by
            rw [← hv2]; exact cell_of_row w2 fb 15 _ 118 (0, 0) hbw
          have HK := Lib.hid (mtake7_any W1 g q E A c T1 w2 r nn a h2 hr0 hn0 ha0)
          have hok := mS_wide (t := 7) HE.out HE2.out h2.sz
          have HOK := Lib.hid hok
          have hml : 12 - 7 < 12 - last := by omega
          clear hv1 hv2 ha0 hn0 hp0 hr0 hblk hbw h2 hok
          go_wp2_with fail
          refine HK.out.mono ?_
          rintro e w4 ⟨rfl, h4⟩
          go_wp2
          go_roundw
          case rel => exact ⟨m, 7, _, _, _, _, _, hvm, by omega, rfl, HRR, h4, HOK.out.1, HOK.out.2⟩
          case measure => simp [intOf]; omega
        · clear g1 g2 g3 g4 g5 g6 g7 g9 g10 g11
          obtain ⟨a, nn, p, r, _, hv1, hv2, ha0, hn0, hp0, hr0⟩ := g8
          have hbw := h2.st _ _ _ hblk (by decide) (by decide) (by decide)
          have hf : w2.cell? ⟨fb, 17, none⟩ = some (.func (.func 141) #[] #[.pointer (some ⟨r, 0, none⟩), .pointer (some ⟨nn, 0, none⟩), .pointer (some ⟨a, 0, none⟩)]) := by
            rw [← hv2]; exact cell_of_row w2 fb 17 _ 118 (0, 0) hbw
          have HK := Lib.hid (mtake8_any W1 g q E A c T1 w2 r nn a h2 hr0 hn0 ha0)
          have hok := mS_wide (t := 8) HE.out HE2.out h2.sz
          have HOK := Lib.hid hok
          have hml : 12 - 8 < 12 - last := by omega
          clear hv1 hv2 ha0 hn0 hp0 hr0 hblk hbw h2 hok
          go_wp2_with fail
          refine HK.out.mono ?_
          rintro e w4 ⟨rfl, h4⟩
          go_wp2
          go_roundw
          case rel => exact ⟨m, 8, _, _, _, _, _, hvm, by omega, rfl, HRR, h4, HOK.out.1, HOK.out.2⟩
          case measure => simp [intOf]; omega
        · clear g1 g2 g3 g4 g5 g6 g7 g8 g10 g11
          obtain ⟨a, nn, p, r, _, hv1, hv2, ha0, hn0, hp0, hr0⟩ := g9
          have hbw := h2.st _ _ _ hblk (by decide) (by decide) (by decide)
          have hf : w2.cell? ⟨fb, 19, none⟩ = some (.func (.func 143) #[] #[.pointer (some ⟨r, 0, none⟩), .pointer (some ⟨nn, 0, none⟩), .pointer (some ⟨a, 0, none⟩)]) := by
            rw [← hv2]; exact cell_of_row w2 fb 19 _ 118 (0, 0) hbw
          have HK := Lib.hid (mtake9_any W1 g q E A c T1 w2 r nn a h2 hr0 hn0 ha0)
          have hok := mS_wide (t := 9) HE.out HE2.out h2.sz
          have HOK := Lib.hid hok
          have hml : 12 - 9 < 12 - last := by omega
          clear hv1 hv2 ha0 hn0 hp0 hr0 hblk hbw h2 hok
          go_wp2_with fail
          refine HK.out.mono ?_
          rintro e w4 ⟨rfl, h4⟩
          go_wp2
          go_roundw
          case rel => exact ⟨m, 9, _, _, _, _, _, hvm, by omega, rfl, HRR, h4, HOK.out.1, HOK.out.2⟩
          case measure => simp [intOf]; omega
        · clear g1 g2 g3 g4 g5 g6 g7 g8 g9 g11
          obtain ⟨a, nn, p, r, _, hv1, hv2, ha0, hn0, hp0, hr0⟩ := g10
          have hbw := h2.st _ _ _ hblk (by decide) (by decide) (by decide)
          have hf : w2.cell? ⟨fb, 21, none⟩ = some (.func (.func 146) #[] #[.pointer (some ⟨r, 0, none⟩), .pointer (some ⟨nn, 0, none⟩), .pointer (some ⟨a, 0, none⟩)]) := by
            rw [← hv2]; exact cell_of_row w2 fb 21 _ 118 (0, 0) hbw
          have HK := Lib.hid (mtake10_any W1 g q E A c T1 w2 r nn a h2 hr0 hn0 ha0)
          have hok := mS_wide (t := 10) HE.out HE2.out h2.sz
          have HOK := Lib.hid hok
          have hml : 12 - 10 < 12 - last := by omega
          clear hv1 hv2 ha0 hn0 hp0 hr0 hblk hbw h2 hok
          go_wp2_with fail
          refine HK.out.mono ?_
          rintro e w4 ⟨rfl, h4⟩
          go_wp2
          go_roundw
          case rel => exact ⟨m, 10, _, _, _, _, _, hvm, by omega, rfl, HRR, h4, HOK.out.1, HOK.out.2⟩
          case measure => simp [intOf]; omega
        · clear g1 g2 g3 g4 g5 g6 g7 g8 g9 g10
          obtain ⟨a, nn, p, r, _, hv1, hv2, ha0, hn0, hp0, hr0⟩ := g11
          have hbw := h2.st _ _ _ hblk (by decide) (by decide) (by decide)
          have hf : w2.cell? ⟨fb, 23, none⟩ = some (.func (.func 124) #[] #[.pointer (some ⟨r, 0, none⟩), .pointer (some ⟨nn, 0, none⟩), .pointer (some ⟨a, 0, none⟩)]) := by
            rw [← hv2]; exact cell_of_row w2 fb 23 _ 118 (0, 0) hbw
          have HK := Lib.hid (mtake11_any W1 g q E A c T1 w2 r nn a h2 hr0 hn0 ha0)
          have hok := mS_wide (t := 11) HE.out HE2.out h2.sz
          have HOK := Lib.hid hok
          have hml : 12 - 11 < 12 - last := by omega
          clear hv1 hv2 ha0 hn0 hp0 hr0 hblk hbw h2 hok
          go_wp2_with fail
          refine HK.out.mono ?_
          rintro e w4 ⟨rfl, A4, c4, h4⟩
          go_wp2
          go_roundw
          case rel => exact ⟨m, 11, _, _, _, _, _, hvm, by omega, rfl, HRR, h4, HOK.out.1, HOK.out.2⟩
          case measure => simp [intOf]; omega
end Go.Proofs.YtmalcldpihpfpaaGreat
namespace Go.Proofs.YtmalcldpihpfpaaGreat
open Go.RowKit
open Vi
set_option linter.unusedVariables false
set_option linter.unusedSimpArgs false

/-- In the midst of the document's reading. -/
structure Xq (w0 : World) (g : Nat) (T : ByteArray) (b : Bool) (w : World) : Prop where
  hr : Rd 39 g T b w
  fr : w0.grownBy w (some g)
  lg : g < w0.heap.size
  sz : T.size ≤ 140737488351232
  sn : Vi.Sane T b
structure Xr (w0 : World) (g p : Nat) (E : Ms) (T : ByteArray) (b : Bool) (w : World) : Prop where
  q : Xq w0 g T b w
  al : w.heap[p]? = some (.cells (mc E) 44 (0, 0))
  own : w.ownsRow (p + 1) 24 11 (.slice E.A E.n E.c) E.n (flat E.es)
  hl : E.es.length = E.n
  lw : w0.heap.size ≤ p
section
variable {w0 w w1 : World} {g p : Nat} {T T' : ByteArray} {b b' : Bool} {E E' : Ms}
theorem Xq.step (h : Xq w0 g T b w) (hx : Rd 39 g T' b' w1) (hf : w.grownBy w1 (some g)) (hT : T'.size ≤ T.size) (hs : Vi.Sane T' b') : Xq w0 g T' b' w1 :=
  ⟨hx, h.fr.trans hf, h.lg, Nat.le_trans hT h.sz, hs⟩
theorem Xq.below (h : Xq w0 g T b w) (hb : Below w.heap.size w w1) : Xq w0 g T b w1 :=
  ⟨h.hr.below hb h.hr.lt, gb_below h.fr hb, h.lg, h.sz, h.sn⟩
theorem Xr.gs (h : Xr w0 g p E T b w) : p < w.heap.size := (Array.getElem?_eq_some_iff.1 h.al).1
theorem Xr.cell (h : Xr w0 g p E T b w) (i : Nat) : w.cell? ⟨p, i, none⟩ = (mc E)[i]? := cell_of_row w _ i _ 44 (0, 0) h.al
theorem Xr.fz (h : Xr w0 g p E T b w) (i : Nat) : w.frozen? ⟨p, i, none⟩ = false := Md.of h.al
theorem Xr.step (h : Xr w0 g p E T b w) (hx : Rd 39 g T' b' w1) (hf : w.grownBy w1 (some g)) (hT : T'.size ≤ T.size) (hs : Vi.Sane T' b') : Xr w0 g p E T' b' w1 := by
  have h1 := h.q.lg
  have h2 := h.lw
  exact ⟨h.q.step hx hf hT hs, (hf.block _ h.gs (by simp; omega)).trans h.al, own_of_heap h.own fun k hk => hf.block k (h.own.lt k hk).2 (fun e => by have := (h.own.lt k hk).1; injection e; omega), h.hl, h.lw⟩
theorem Xr.below (h : Xr w0 g p E T b w) (hb : Below w.heap.size w w1) : Xr w0 g p E T b w1 :=
  ⟨h.q.below hb, (hb.block _ h.gs).trans h.al, own_of_heap h.own fun k hk => hb.block k (h.own.lt k hk).2, h.hl, h.lw⟩
theorem Xr.drew (h : Xr w0 g p E T b w) : Xr w0 g p E T b w.drew := ⟨⟨h.q.hr, gb_below h.q.fr (Below.refl _ _).drew, h.q.lg, h.q.sz, h.q.sn⟩, h.al, own_of_heap h.own fun _ _ => rfl, h.hl, h.lw⟩
theorem Xr.setY (h : Xr w0 g p E T b w) (i : Nat) (v : Value) (he : (mc E).setIfInBounds i v = mc E') : Xq w0 g T b (w.setCell ⟨p, i, none⟩ v) ∧ (w.setCell ⟨p, i, none⟩ v).heap[p]? = some (.cells (mc E') 44 (0, 0)) := by
  have h1 := h.q.lg
  have h2 := h.lw
  refine ⟨⟨rd_set h.q.hr (by simp; omega), gb_set h.q.fr (by simp; omega), h.q.lg, h.q.sz, h.q.sn⟩, ?_⟩
  rw [← he]; exact set_blk h.al i v
theorem Xr.app {w2 w4 : World} {e : En} {n g4 cap : Nat} (h : Xr w0 g p E T b w2) (hn : E.n = n) (hown : w4.ownsRow (p + 1) 24 11 (.slice (some ⟨g4, 0, none⟩) (n + 1) cap) (n + 1) (flat E.es ++ (ec e).toList)) (hgrow : w2.grownBy w4 (Value.slice E.A n E.c).ownBlock) :
    Xr w0 g p { E with A := some ⟨g4, 0, none⟩, n := n + 1, c := cap, es := E.es ++ [e] } T b (w4.setCell ⟨p, 9, none⟩ (.slice (some ⟨g4, 0, none⟩) (n + 1) cap)) := by
  subst hn
  have hg := h.gs
  have h1 := h.q.lg
  have h2 := h.lw
  have hne : ∀ k, k ≤ p → some k ≠ (Value.slice E.A E.n E.c).ownBlock := fun k hk e => by
    have := (h.own.lt k e.symm).1
    omega
  have hbl : ∀ k, k ≤ p → w4.heap[k]? = w2.heap[k]? := fun k hk => hgrow.block k (by omega) (hne k hk)
  have f := h.q.fr
  refine ⟨⟨rd_set ((hbl _ (by omega)).trans h.q.hr) (by simp; omega), gb_set ⟨hgrow.os.trans f.os, hgrow.tape.trans f.tape, hgrow.output.trans f.output, Nat.le_trans f.size hgrow.size, fun k hk hk2 => (hbl k (by omega)).trans (f.block k hk hk2)⟩ (by simp; omega), h1, h.q.sz, h.q.sn⟩, ?_, ?_, ?_, h2⟩
  · have h5 := set_blk ((hbl _ (Nat.le_refl _)).trans h.al) 9 (.slice (some ⟨g4, 0, none⟩) (E.n + 1) cap)
    rw [show (mc E).setIfInBounds 9 (.slice (some ⟨g4, 0, none⟩) (E.n + 1) cap) = mc { E with A := some ⟨g4, 0, none⟩, n := E.n + 1, c := cap, es := E.es ++ [e] } by simp] at h5
    exact h5
  · show World.ownsRow _ (p + 1) 24 11 (.slice (some ⟨g4, 0, none⟩) (E.n + 1) cap) (E.n + 1) (flat (E.es ++ [e]))
    rw [flat_snoc]
    exact ownsRow_setCell_below hown (by simp) _
  · show (E.es ++ [e]).length = E.n + 1
    rw [List.length_append, h.hl]
    rfl
end
section
set_option maxRecDepth 100000
set_option maxHeartbeats 1000000
variable (w0 : World) (g p : Nat) (E : Ms) (T : ByteArray) (b : Bool) (w : World)
theorem xr_var (h : Xr w0 g p E T b w) :
    Calls Tryz.prog 38 #[.pointer (some ⟨g, 0, none⟩)] w fun q w' => q = .returned (.int .u64 (varV T)) ∧ Xr w0 g p E (varT T) (b || !varO T) w' :=
  (rvar_any g T b w h.q.hr (by have := h.q.sz; omega)).mono fun q w' ⟨h1, h2, h3⟩ => ⟨h1, h.step h2 h3 (varT_size T) (Vi.sane_var _ _ h.q.sn)⟩
theorem xr_fail (h : Xr w0 g p E T b w) :
    Calls Tryz.prog 40 #[.pointer (some ⟨g, 0, none⟩)] w fun q w' => q = .returned (.tuple #[]) ∧ Xr w0 g p E ⟨#[]⟩ true w' :=
  (rfail_any g T b w h.q.hr).mono fun q w' ⟨h1, h2, h3⟩ => ⟨h1, h.step h2 h3 (Nat.zero_le _) (fun _ => rfl)⟩
theorem xr_tex (h : Xr w0 g p E T b w) :
    Calls Tryz.prog 77 #[.pointer (some ⟨g, 0, none⟩)] w fun q w' => q = .returned (.string (texV T)) ∧ Xr w0 g p E (texT T) (b || !texO T) w' :=
  (rtextr_any g T b w h.q.hr h.q.sn (by have := h.q.sz; omega)).mono fun q w' ⟨h1, h2, h3⟩ => ⟨h1, h.step h2 h3 (texT_le T) (Vi.sane_tex _ _ h.q.sn)⟩
theorem sane_gT {T : ByteArray} : Vi.Sane (gT T false) (!gO T false) := by
  intro h
  have h2 : gO T false = false := by
    cases hg : gO T false with
    | false => rfl
    | true => rw [hg] at h; cases h
  exact gT_no h2
theorem xr_getE (h : Xr w0 g p E T false w) :
    Calls Tryz.prog 17 #[.pointer (some ⟨g, 0, none⟩)] w fun q w' => q = .returned (ev (gE T false)) ∧ Xr w0 g p E (gT T false) (!gO T false) w' := by
  have hz := h.q.sz
  exact (rgetE_any g T false w h.q.hr (by omega) h.q.sn (eR_ok T false (by omega))).mono fun q w' ⟨h1, h2, h3⟩ => ⟨h1, h.step h2 h3 (gT_le T false) sane_gT⟩
end
theorem Xr.setS {w0 w : World} {g p : Nat} {T : ByteArray} {b : Bool} {E E' : Ms} (h : Xr w0 g p E T b w) (i : Nat) (v : Value) (he : (mc E).setIfInBounds i v = mc E') (hA : E'.A = E.A) (hc : E'.c = E.c) (hn : E'.n = E.n) (hes : E'.es = E.es) : Xr w0 g p E' T b (w.setCell ⟨p, i, none⟩ v) := by
  obtain ⟨h1, h2⟩ := h.setY (E' := E') i v he
  refine ⟨h1, h2, ?_, by rw [hes, hn]; exact h.hl, h.lw⟩
  rw [hA, hc, hn, hes]
  exact ownsRow_setCell_below h.own (by simp) _
section
set_option maxRecDepth 100000
set_option maxHeartbeats 1000000
variable (w0 : World) (g p : Nat) (E : Mp) (A : Option Addr) (c : Nat) (T : ByteArray) (w : World)
theorem rtakm1_any (h : Xr w0 g p (E.at_ A c) T false w) :
    Calls Tryz.prog 46 #[.pointer (some ⟨g, 0, none⟩), .pointer (some ⟨p, 0, none⟩), .int .u64 1] w fun e w' => e = .returned (.tuple #[]) ∧ Xr w0 g p ((mR 1 E T).1.at_ A c) (mR 1 E T).2.1 (!(mR 1 E T).2.2) w' := by
  have K := Lib.hid (xr_var w0 g p _ T false w h)
  have HC : Hid (mR 1 E T = (setMr 1 E (varV T), varT T, varO T)) := by show _ = _; unfold mR; rw [if_neg (by omega), if_pos (by omega)]
  rw [HC.out]
  have hvl := varV_lt T
  obtain ⟨n, hn⟩ : ∃ n, n = varV T := ⟨_, rfl⟩
  rw [← hn] at K hvl ⊢
  have HSET : Hid (∀ T' b' W, Xr w0 g p (E.at_ A c) T' b' W → Xr w0 g p ((setMr 1 E n).at_ A c) T' b' (W.setCell ⟨p, 0, none⟩ (.int .i64 ((n % 1000 : Nat) : Int)))) := fun T' b' W hW => hW.setS 0 _ (by simp [setMr, setM, Mp.at_]) rfl rfl rfl rfl
  have e1 : IntKind.i64.wrap ((n : Int) % 1000) = ((n % 1000 : Nat) : Int) := by rw [IntWalk.i64_in _ (by omega)]; omega
  have e2 : (n : Int).tmod 1000 = (n : Int) % 1000 := Int.tmod_eq_emod_of_nonneg (by omega)
  clear HC h hn
  go_enter Tryz.func46, Tryz.ntmps46
  go_wp2_with fail
  refine K.out.mono ?_
  rintro e w2 ⟨rfl, h2⟩
  have cq : w2.cell? ⟨p, 0, none⟩ = some (.int .i64 E.kind) := h2.cell 0
  have fq := h2.fz 0
  have H2 := Lib.hid h2
  clear h2
  go_wp2
  first | go_end0 | refine bodyPost_ret (results_none rfl _ _ _) rfl ?_
  exact ⟨rfl, HSET.out _ _ _ H2.out⟩
theorem rtakm2_any (h : Xr w0 g p (E.at_ A c) T false w) :
    Calls Tryz.prog 46 #[.pointer (some ⟨g, 0, none⟩), .pointer (some ⟨p, 0, none⟩), .int .u64 2] w fun e w' => e = .returned (.tuple #[]) ∧ Xr w0 g p ((mR 2 E T).1.at_ A c) (mR 2 E T).2.1 (!(mR 2 E T).2.2) w' := by
  have K := Lib.hid (xr_var w0 g p _ T false w h)
  have HC : Hid (mR 2 E T = (setMr 2 E (varV T), varT T, varO T)) := by show _ = _; unfold mR; rw [if_neg (by omega), if_pos (by omega)]
  rw [HC.out]
  have hvl := varV_lt T
  obtain ⟨n, hn⟩ : ∃ n, n = varV T := ⟨_, rfl⟩
  rw [← hn] at K hvl ⊢
  have HSET : Hid (∀ T' b' W, Xr w0 g p (E.at_ A c) T' b' W → Xr w0 g p ((setMr 2 E n).at_ A c) T' b' (W.setCell ⟨p, 1, none⟩ (.int .i64 ((n % 1000 : Nat) : Int)))) := fun T' b' W hW => hW.setS 1 _ (by simp [setMr, setM, Mp.at_]) rfl rfl rfl rfl
  have e1 : IntKind.i64.wrap ((n : Int) % 1000) = ((n % 1000 : Nat) : Int) := by rw [IntWalk.i64_in _ (by omega)]; omega
  have e2 : (n : Int).tmod 1000 = (n : Int) % 1000 := Int.tmod_eq_emod_of_nonneg (by omega)
  clear HC h hn
  go_enter Tryz.func46, Tryz.ntmps46
  go_wp2_with fail
  refine K.out.mono ?_
  rintro e w2 ⟨rfl, h2⟩
  have cq : w2.cell? ⟨p, 1, none⟩ = some (.int .i64 E.frm) := h2.cell 1
  have fq := h2.fz 1
  have H2 := Lib.hid h2
  clear h2
  go_wp2
  first | go_end0 | refine bodyPost_ret (results_none rfl _ _ _) rfl ?_
  exact ⟨rfl, HSET.out _ _ _ H2.out⟩
theorem rtakm3_any (h : Xr w0 g p (E.at_ A c) T false w) :
    Calls Tryz.prog 46 #[.pointer (some ⟨g, 0, none⟩), .pointer (some ⟨p, 0, none⟩), .int .u64 3] w fun e w' => e = .returned (.tuple #[]) ∧ Xr w0 g p ((mR 3 E T).1.at_ A c) (mR 3 E T).2.1 (!(mR 3 E T).2.2) w' := by
  have K := Lib.hid (xr_var w0 g p _ T false w h)
  have HC : Hid (mR 3 E T = (setMr 3 E (varV T), varT T, varO T)) := by show _ = _; unfold mR; rw [if_neg (by omega), if_pos (by omega)]
  rw [HC.out]
  have hvl := varV_lt T
  obtain ⟨n, hn⟩ : ∃ n, n = varV T := ⟨_, rfl⟩
  rw [← hn] at K hvl ⊢
  have HSET : Hid (∀ T' b' W, Xr w0 g p (E.at_ A c) T' b' W → Xr w0 g p ((setMr 3 E n).at_ A c) T' b' (W.setCell ⟨p, 2, none⟩ (.int .i64 ((n % 1000 : Nat) : Int)))) := fun T' b' W hW => hW.setS 2 _ (by simp [setMr, setM, Mp.at_]) rfl rfl rfl rfl
  have e1 : IntKind.i64.wrap ((n : Int) % 1000) = ((n % 1000 : Nat) : Int) := by rw [IntWalk.i64_in _ (by omega)]; omega
  have e2 : (n : Int).tmod 1000 = (n : Int) % 1000 := Int.tmod_eq_emod_of_nonneg (by omega)
  clear HC h hn
  go_enter Tryz.func46, Tryz.ntmps46
  go_wp2_with fail
  refine K.out.mono ?_
  rintro e w2 ⟨rfl, h2⟩
  have cq : w2.cell? ⟨p, 2, none⟩ = some (.int .i64 E.dst) := h2.cell 2
  have fq := h2.fz 2
  have H2 := Lib.hid h2
  clear h2
  go_wp2
  first | go_end0 | refine bodyPost_ret (results_none rfl _ _ _) rfl ?_
  exact ⟨rfl, HSET.out _ _ _ H2.out⟩
theorem rtakm4_any (h : Xr w0 g p (E.at_ A c) T false w) :
    Calls Tryz.prog 46 #[.pointer (some ⟨g, 0, none⟩), .pointer (some ⟨p, 0, none⟩), .int .u64 4] w fun e w' => e = .returned (.tuple #[]) ∧ Xr w0 g p ((mR 4 E T).1.at_ A c) (mR 4 E T).2.1 (!(mR 4 E T).2.2) w' := by
  have K := Lib.hid (xr_var w0 g p _ T false w h)
  have HC : Hid (mR 4 E T = (setMr 4 E (varV T), varT T, varO T)) := by show _ = _; unfold mR; rw [if_neg (by omega), if_pos (by omega)]
  rw [HC.out]
  have hvl := varV_lt T
  obtain ⟨n, hn⟩ : ∃ n, n = varV T := ⟨_, rfl⟩
  rw [← hn] at K hvl ⊢
  have HSET : Hid (∀ T' b' W, Xr w0 g p (E.at_ A c) T' b' W → Xr w0 g p ((setMr 4 E n).at_ A c) T' b' (W.setCell ⟨p, 3, none⟩ (.int .u64 ((n : Nat) : Int)))) := fun T' b' W hW => hW.setS 3 _ (by simp [setMr, setM, Mp.at_]) rfl rfl rfl rfl
  clear HC h hn
  go_enter Tryz.func46, Tryz.ntmps46
  go_wp2_with fail
  refine K.out.mono ?_
  rintro e w2 ⟨rfl, h2⟩
  have cq : w2.cell? ⟨p, 3, none⟩ = some (.int .u64 E.term) := h2.cell 3
  have fq := h2.fz 3
  have H2 := Lib.hid h2
  clear h2
  go_wp2
  first | go_end0 | refine bodyPost_ret (results_none rfl _ _ _) rfl ?_
  exact ⟨rfl, HSET.out _ _ _ H2.out⟩
theorem rtakm5_any (h : Xr w0 g p (E.at_ A c) T false w) :
    Calls Tryz.prog 46 #[.pointer (some ⟨g, 0, none⟩), .pointer (some ⟨p, 0, none⟩), .int .u64 5] w fun e w' => e = .returned (.tuple #[]) ∧ Xr w0 g p ((mR 5 E T).1.at_ A c) (mR 5 E T).2.1 (!(mR 5 E T).2.2) w' := by
  have K := Lib.hid (xr_var w0 g p _ T false w h)
  have HC : Hid (mR 5 E T = (setMr 5 E (varV T), varT T, varO T)) := by show _ = _; unfold mR; rw [if_neg (by omega), if_pos (by omega)]
  rw [HC.out]
  have hvl := varV_lt T
  obtain ⟨n, hn⟩ : ∃ n, n = varV T := ⟨_, rfl⟩
  rw [← hn] at K hvl ⊢
  have HSET : Hid (∀ T' b' W, Xr w0 g p (E.at_ A c) T' b' W → Xr w0 g p ((setMr 5 E n).at_ A c) T' b' (W.setCell ⟨p, 4, none⟩ (.int .u64 ((n : Nat) : Int)))) := fun T' b' W hW => hW.setS 4 _ (by simp [setMr, setM, Mp.at_]) rfl rfl rfl rfl
  clear HC h hn
  go_enter Tryz.func46, Tryz.ntmps46
  go_wp2_with fail
  refine K.out.mono ?_
  rintro e w2 ⟨rfl, h2⟩
  have cq : w2.cell? ⟨p, 4, none⟩ = some (.int .u64 E.index) := h2.cell 4
  have fq := h2.fz 4
  have H2 := Lib.hid h2
  clear h2
  go_wp2
  first | go_end0 | refine bodyPost_ret (results_none rfl _ _ _) rfl ?_
  exact ⟨rfl, HSET.out _ _ _ H2.out⟩
theorem rtakm6_any (h : Xr w0 g p (E.at_ A c) T false w) :
    Calls Tryz.prog 46 #[.pointer (some ⟨g, 0, none⟩), .pointer (some ⟨p, 0, none⟩), .int .u64 6] w fun e w' => e = .returned (.tuple #[]) ∧ Xr w0 g p ((mR 6 E T).1.at_ A c) (mR 6 E T).2.1 (!(mR 6 E T).2.2) w' := by
  have K := Lib.hid (xr_var w0 g p _ T false w h)
  have HC : Hid (mR 6 E T = (setMr 6 E (varV T), varT T, varO T)) := by show _ = _; unfold mR; rw [if_neg (by omega), if_pos (by omega)]
  rw [HC.out]
  have hvl := varV_lt T
  obtain ⟨n, hn⟩ : ∃ n, n = varV T := ⟨_, rfl⟩
  rw [← hn] at K hvl ⊢
  have HSET : Hid (∀ T' b' W, Xr w0 g p (E.at_ A c) T' b' W → Xr w0 g p ((setMr 6 E n).at_ A c) T' b' (W.setCell ⟨p, 5, none⟩ (.int .u64 ((n : Nat) : Int)))) := fun T' b' W hW => hW.setS 5 _ (by simp [setMr, setM, Mp.at_]) rfl rfl rfl rfl
  clear HC h hn
  go_enter Tryz.func46, Tryz.ntmps46
  go_wp2_with fail
  refine K.out.mono ?_
  rintro e w2 ⟨rfl, h2⟩
  have cq : w2.cell? ⟨p, 5, none⟩ = some (.int .u64 E.prev) := h2.cell 5
  have fq := h2.fz 5
  have H2 := Lib.hid h2
  clear h2
  go_wp2
  first | go_end0 | refine bodyPost_ret (results_none rfl _ _ _) rfl ?_
  exact ⟨rfl, HSET.out _ _ _ H2.out⟩
theorem rtakm7_any (h : Xr w0 g p (E.at_ A c) T false w) :
    Calls Tryz.prog 46 #[.pointer (some ⟨g, 0, none⟩), .pointer (some ⟨p, 0, none⟩), .int .u64 7] w fun e w' => e = .returned (.tuple #[]) ∧ Xr w0 g p ((mR 7 E T).1.at_ A c) (mR 7 E T).2.1 (!(mR 7 E T).2.2) w' := by
  have K := Lib.hid (xr_var w0 g p _ T false w h)
  have HC : Hid (mR 7 E T = (setMr 7 E (varV T), varT T, varO T)) := by show _ = _; unfold mR; rw [if_neg (by omega), if_pos (by omega)]
  rw [HC.out]
  have hvl := varV_lt T
  obtain ⟨n, hn⟩ : ∃ n, n = varV T := ⟨_, rfl⟩
  rw [← hn] at K hvl ⊢
  have HSET : Hid (∀ T' b' W, Xr w0 g p (E.at_ A c) T' b' W → Xr w0 g p ((setMr 7 E n).at_ A c) T' b' (W.setCell ⟨p, 6, none⟩ (.int .u64 ((n : Nat) : Int)))) := fun T' b' W hW => hW.setS 6 _ (by simp [setMr, setM, Mp.at_]) rfl rfl rfl rfl
  clear HC h hn
  go_enter Tryz.func46, Tryz.ntmps46
  go_wp2_with fail
  refine K.out.mono ?_
  rintro e w2 ⟨rfl, h2⟩
  have cq : w2.cell? ⟨p, 6, none⟩ = some (.int .u64 E.commit) := h2.cell 6
  have fq := h2.fz 6
  have H2 := Lib.hid h2
  clear h2
  go_wp2
  first | go_end0 | refine bodyPost_ret (results_none rfl _ _ _) rfl ?_
  exact ⟨rfl, HSET.out _ _ _ H2.out⟩
theorem rtakm8_any (h : Xr w0 g p (E.at_ A c) T false w) :
    Calls Tryz.prog 46 #[.pointer (some ⟨g, 0, none⟩), .pointer (some ⟨p, 0, none⟩), .int .u64 8] w fun e w' => e = .returned (.tuple #[]) ∧ Xr w0 g p ((mR 8 E T).1.at_ A c) (mR 8 E T).2.1 (!(mR 8 E T).2.2) w' := by
  have K := Lib.hid (xr_var w0 g p _ T false w h)
  have HC : Hid (mR 8 E T = (setMr 8 E (varV T), varT T, varO T)) := by show _ = _; unfold mR; rw [if_neg (by omega), if_pos (by omega)]
  rw [HC.out]
  have hvl := varV_lt T
  obtain ⟨n, hn⟩ : ∃ n, n = varV T := ⟨_, rfl⟩
  rw [← hn] at K hvl ⊢
  have HSET : Hid (∀ T' b' W, Xr w0 g p (E.at_ A c) T' b' W → Xr w0 g p ((setMr 8 E n).at_ A c) T' b' (W.setCell ⟨p, 7, none⟩ (.int .u64 ((n : Nat) : Int)))) := fun T' b' W hW => hW.setS 7 _ (by simp [setMr, setM, Mp.at_]) rfl rfl rfl rfl
  clear HC h hn
  go_enter Tryz.func46, Tryz.ntmps46
  go_wp2_with fail
  refine K.out.mono ?_
  rintro e w2 ⟨rfl, h2⟩
  have cq : w2.cell? ⟨p, 7, none⟩ = some (.int .u64 E.mark) := h2.cell 7
  have fq := h2.fz 7
  have H2 := Lib.hid h2
  clear h2
  go_wp2
  first | go_end0 | refine bodyPost_ret (results_none rfl _ _ _) rfl ?_
  exact ⟨rfl, HSET.out _ _ _ H2.out⟩
theorem rtakm9_any (h : Xr w0 g p (E.at_ A c) T false w) :
    Calls Tryz.prog 46 #[.pointer (some ⟨g, 0, none⟩), .pointer (some ⟨p, 0, none⟩), .int .u64 9] w fun e w' => e = .returned (.tuple #[]) ∧ Xr w0 g p ((mR 9 E T).1.at_ A c) (mR 9 E T).2.1 (!(mR 9 E T).2.2) w' := by
  have K := Lib.hid (xr_var w0 g p _ T false w h)
  have HC : Hid (mR 9 E T = ({ E with ok := decide (varV T = 1) }, varT T, varO T)) := by show _ = _; unfold mR; rw [if_neg (by omega), if_neg (by omega), if_pos rfl]
  rw [HC.out]
  obtain ⟨n, hn⟩ : ∃ n, n = varV T := ⟨_, rfl⟩
  rw [← hn] at K ⊢
  obtain ⟨y, hy⟩ : ∃ y, y = decide (n = 1) := ⟨_, rfl⟩
  rw [← hy]
  have hq : ((n : Int) == 1) = y := by
    rw [hy, Bool.eq_iff_iff]
    simp only [beq_iff_eq, decide_eq_true_eq]
    omega
  have hq2 : decide (n = 1) = y := hy.symm
  have HSET : Hid (∀ T' b' W, Xr w0 g p (E.at_ A c) T' b' W → Xr w0 g p (({ E with ok := y } : Mp).at_ A c) T' b' (W.setCell ⟨p, 8, none⟩ (.bool y))) := fun T' b' W hW => hW.setS 8 _ (by simp [Mp.at_]) rfl rfl rfl rfl
  clear HC h hn hy
  go_enter Tryz.func46, Tryz.ntmps46
  go_wp2_with fail
  refine K.out.mono ?_
  rintro e w2 ⟨rfl, h2⟩
  have cq : w2.cell? ⟨p, 8, none⟩ = some (.bool E.ok) := h2.cell 8
  have fq := h2.fz 8
  have H2 := Lib.hid h2
  clear h2
  go_wp2
  first | go_end0 | refine bodyPost_ret (results_none rfl _ _ _) rfl ?_
  exact ⟨rfl, HSET.out _ _ _ H2.out⟩
theorem rtakm10_any (h : Xr w0 g p (E.at_ A c) T false w) :
    Calls Tryz.prog 46 #[.pointer (some ⟨g, 0, none⟩), .pointer (some ⟨p, 0, none⟩), .int .u64 10] w fun e w' => e = .returned (.tuple #[]) ∧ Xr w0 g p ((mR 10 E T).1.at_ A c) (mR 10 E T).2.1 (!(mR 10 E T).2.2) w' := by
  have K := Lib.hid (xr_tex w0 g p _ T false w h)
  have HC : Hid (mR 10 E T = ({ E with snap := texV T }, texT T, texO T)) := by show _ = _; unfold mR; rw [if_pos rfl]
  rw [HC.out]
  obtain ⟨d, hd⟩ : ∃ d, d = texV T := ⟨_, rfl⟩
  rw [← hd] at K ⊢
  have HSET : Hid (∀ T' b' W, Xr w0 g p (E.at_ A c) T' b' W → Xr w0 g p (({ E with snap := d } : Mp).at_ A c) T' b' (W.setCell ⟨p, 10, none⟩ (.string d))) := fun T' b' W hW => hW.setS 10 _ (by simp [Mp.at_]) rfl rfl rfl rfl
  clear HC h hd
  go_enter Tryz.func46, Tryz.ntmps46
  go_wp2_with fail
  refine K.out.mono ?_
  rintro e w2 ⟨rfl, h2⟩
  have cq : w2.cell? ⟨p, 10, none⟩ = some (.string E.snap) := h2.cell 10
  have fq := h2.fz 10
  have H2 := Lib.hid h2
  clear h2
  go_wp2
  refine bodyPost_ret (results_none rfl _ _ _) rfl ?_
  exact ⟨rfl, HSET.out _ _ _ H2.out⟩
theorem rtakmD_any (t : Nat) (ht : 12 ≤ t) (h : Xr w0 g p (E.at_ A c) T false w) :
    Calls Tryz.prog 46 #[.pointer (some ⟨g, 0, none⟩), .pointer (some ⟨p, 0, none⟩), .int .u64 t] w fun e w' => e = .returned (.tuple #[]) ∧ Xr w0 g p ((mR t E T).1.at_ A c) (mR t E T).2.1 (!(mR t E T).2.2) w' := by
  have K := Lib.hid (xr_var w0 g p _ T false w h)
  have HC : Hid (mR t E T = (E, ⟨#[]⟩, false)) := by show _ = _; unfold mR; rw [if_neg (by omega), if_neg (by omega), if_neg (by omega), if_neg (by omega)]
  rw [HC.out]
  have k1 : ((t : Int) == 1) = false := by simp; omega
  have k2 : ((t : Int) == 2) = false := by simp; omega
  have k3 : ((t : Int) == 3) = false := by simp; omega
  have k4 : ((t : Int) == 4) = false := by simp; omega
  have k5 : ((t : Int) == 5) = false := by simp; omega
  have k6 : ((t : Int) == 6) = false := by simp; omega
  have k7 : ((t : Int) == 7) = false := by simp; omega
  have k8 : ((t : Int) == 8) = false := by simp; omega
  have k9 : ((t : Int) == 9) = false := by simp; omega
  have k10 : ((t : Int) == 10) = false := by simp; omega
  have k11 : ((t : Int) == 11) = false := by simp; omega
  clear HC h ht
  go_enter Tryz.func46, Tryz.ntmps46
  go_wp2_with fail
  refine K.out.mono ?_
  rintro e w2 ⟨rfl, h2⟩
  go_wp2_with fail
  refine (xr_fail w0 g p _ _ _ w2 h2).mono ?_
  rintro e w3 ⟨rfl, h3⟩
  go_wp2
  go_end0
  exact ⟨rfl, h3⟩
end
/-- Has the reader failed behind k entries? -/
def bdE (b : Bool) (k : Nat) (s : ByteArray) : Bool := b || !lO k s
theorem bdE_snoc (b : Bool) (k : Nat) (s : ByteArray) (h : bdE b k s = false) : bdE b (k + 1) s = !gO (lT k s) false := by
  unfold bdE at h ⊢
  rw [Bool.or_eq_false_iff] at h
  obtain ⟨h1, h2⟩ := h
  have h3 : lO k s = true := by simpa using h2
  rw [lO_snoc, h3, h1]
  simp
theorem hL_bad (n : Nat) (l : List En) (s : ByteArray) : hL n l s true = (l, s, true) := by
  cases n with
  | zero => rfl
  | succ n => rfl
theorem lE_cons (k : Nat) (s : ByteArray) : lE (k + 1) s = gE s false :: lE k (gT s false) := rfl
theorem hL_stop : ∀ (K : Nat) (l : List En) (s : ByteArray) (b : Bool) (k : Nat), k ≤ K → (∀ j, j < k → bdE b j s = false) → (k = K ∨ bdE b k s = true) → hL K l s b = (l ++ lE k s, lT k s, bdE b k s)
  | K, l, s, b, 0, _, _, h2 => by
    have e0 : bdE b 0 s = b := by unfold bdE; show (b || !true) = b; simp
    rw [e0]
    show _ = (l ++ [], s, b)
    rw [List.append_nil]
    rcases h2 with h2 | h2
    · subst h2; rfl
    · rw [e0] at h2
      subst h2
      exact hL_bad K l s
  | 0, l, s, b, k + 1, hk, _, _ => absurd hk (by omega)
  | K + 1, l, s, b, k + 1, hk, h1, h2 => by
    have e0 : bdE b 0 s = b := by unfold bdE; show (b || !true) = b; simp
    have hb : b = false := by rw [← e0]; exact h1 0 (by omega)
    subst hb
    have hs : ∀ j, bdE false (j + 1) s = bdE (!gO s false) j (gT s false) := by
      intro j
      unfold bdE
      show (false || !(gO s false && lO j (gT s false))) = _
      cases gO s false <;> simp
    have ih := hL_stop K (l ++ [gE s false]) (gT s false) (!gO s false) k (by omega) (fun j hj => by rw [← hs]; exact h1 (j + 1) (by omega)) (by
      rcases h2 with h2 | h2
      · exact .inl (by omega)
      · exact .inr (by rw [← hs]; exact h2))
    show (if false = true then _ else hL K (l ++ [gE s false]) (gT s false) (!gO s false)) = _
    rw [if_neg (by decide), ih, hs, List.append_assoc]
    rfl
/-- The message behind k entries. -/
def mKe (E : Mp) (s : ByteArray) (k : Nat) : Mp := { E with es := E.es ++ lE k s }
theorem mKe_next (E : Mp) (s : ByteArray) (k : Nat) (A' : Option Addr) (c' : Nat) (A : Option Addr) (c : Nat) : ({ (mKe E s k).at_ A c with A := A', n := (E.es ++ lE k s).length + 1, c := c', es := (E.es ++ lE k s) ++ [gE (lT k s) false] } : Ms) = (mKe E s (k + 1)).at_ A' c' := by
  unfold mKe Mp.at_
  rw [lE_snoc]
  simp only [List.append_assoc, List.length_append, List.length_cons, List.length_nil]
  congr 1

set_option maxHeartbeats 8000000 in
set_option maxRecDepth 100000 in
theorem rtakm11_any (w0 : World) (g p : Nat) (E : Mp) (A : Option Addr) (c : Nat) (T : ByteArray) (w : World) (h : Xr w0 g p (E.at_ A c) T false w) (hlen : E.es.length ≤ 10000) :
    Calls Tryz.prog 46 #[.pointer (some ⟨g, 0, none⟩), .pointer (some ⟨p, 0, none⟩), .int .u64 11] w fun e w' => e = .returned (.tuple #[]) ∧ ∃ A' c', Xr w0 g p ((mR 11 E T).1.at_ A' c') (mR 11 E T).2.1 (!(mR 11 E T).2.2) w' := by
  obtain ⟨i24, hi24, hz24, hs24, hb24⟩ := info_parts (show (Tryz.prog.info? 24).map (fun i => (i.zero, i.size, i.bytes)) = some (some (ev ezz), 11, 104) by kernel_rfl)
  have K := Lib.hid (xr_var w0 g p _ T false w h)
  have hvl := varV_lt T
  obtain ⟨n, hn⟩ : ∃ n, n = varV T := ⟨_, rfl⟩
  obtain ⟨s1, hs1⟩ : ∃ s1, s1 = varT T := ⟨_, rfl⟩
  obtain ⟨b1, hb1⟩ : ∃ b1, b1 = !varO T := ⟨_, rfl⟩
  obtain ⟨KK, hKK⟩ : ∃ KK, KK = min n 65 := ⟨_, rfl⟩
  have HEND : Hid (∀ k A' c' W, k ≤ KK → (∀ j, j < k → bdE b1 j s1 = false) → (k = KK ∨ bdE b1 k s1 = true) → Xr w0 g p ((mKe E s1 k).at_ A' c') (lT k s1) (bdE b1 k s1) W → Xr w0 g p ((mR 11 E T).1.at_ A' c') (mR 11 E T).2.1 (!(mR 11 E T).2.2) W) := by
    intro k A' c' W h1 h2 h3 hX
    have e := hL_stop KK E.es s1 b1 k h1 h2 h3
    have HC : mR 11 E T = ({ E with es := (hL KK E.es s1 b1).1 }, (hL KK E.es s1 b1).2.1, !(hL KK E.es s1 b1).2.2) := by
      rw [hKK, hn, hs1, hb1]
      unfold mR
      rw [if_neg (by omega), if_neg (by omega), if_neg (by omega), if_pos rfl]
    rw [HC, e, Bool.not_not]
    exact hX
  have X0 : Hid (∀ W, Xr w0 g p (E.at_ A c) s1 b1 W → Xr w0 g p ((mKe E s1 0).at_ A c) (lT 0 s1) (bdE b1 0 s1) W) := by
    intro W hW
    have e0 : bdE b1 0 s1 = b1 := by unfold bdE; show (b1 || !true) = b1; simp
    have e1 : mKe E s1 0 = E := by unfold mKe; show { E with es := E.es ++ [] } = E; rw [List.append_nil]
    rw [e0, e1]
    exact hW
  rw [← hn, ← hs1, Bool.false_or, ← hb1] at K
  rw [← hn] at hvl
  have HKK := Lib.hid hKK
  have HLEN := Lib.hid hlen
  clear h hn hs1 hb1 hKK hlen
  go_enter Tryz.func46, Tryz.ntmps46
  go_wp2_with fail
  refine K.out.mono ?_
  rintro e w2 ⟨rfl, h2⟩
  have H2 := Lib.hid (X0.out w2 h2)
  clear h2 X0 K
  go_wp2_with fail
  go_loopw [7] (fun i wr => ∃ (k : Nat) (A' : Option Addr) (c' : Nat), k ≤ KK ∧ i = .int .u64 k ∧ (∀ j, j < k → bdE b1 j s1 = false) ∧ Xr w0 g p ((mKe E s1 k).at_ A' c') (lT k s1) (bdE b1 k s1) wr) (fun i _ => KK - (intOf i).toNat)
  case atStart => exact ⟨0, A, c, Nat.zero_le _, rfl, fun j hj => absurd hj (by omega), H2.out⟩
  case round =>
    obtain ⟨k, A', c', hk, rfl, hbd, hr⟩ := hrel
    clear H2
    obtain ⟨bq, hbq⟩ : ∃ bq, bq = bdE b1 k s1 := ⟨_, rfl⟩
    have HR := Lib.hid hr
    have cg1 : wr.cell? ⟨g, 1, none⟩ = some (.bool bq) := by rw [hbq]; exact cell_of_row wr g 1 _ 39 (0, 0) hr.q.hr
    have HBQ := Lib.hid hbq
    have HBD := Lib.hid hbd
    have hk65 : k ≤ n ∧ k ≤ 65 := by have := HKK.out; omega
    clear hbq hr hbd
    by_cases hlt : k < KK
    · have hkn : k < n ∧ k < 65 := by have := HKK.out; omega
      have t1 : decide ((k : Int) < (n : Int)) = true := decide_eq_true (by omega)
      have t2 : decide ((k : Int) < 65) = true := decide_eq_true (by omega)
      have t1' : decide (k < n) = true := decide_eq_true (by omega)
      have t2' : decide (k < 65) = true := decide_eq_true (by omega)
      cases bq with
      | true =>
        have HX := Lib.hid (HEND.out k A' c' wr hk HBD.out (.inr HBQ.out.symm) HR.out)
        clear HEND HR HBQ HBD
        go_wp2_with fail
        first | go_end0 | refine bodyPost_ret (results_none rfl _ _ _) rfl ?_
        exact ⟨rfl, A', c', HX.out⟩
      | false =>
        have KG : Hid (∀ W, Xr w0 g p ((mKe E s1 k).at_ A' c') (lT k s1) false W → Calls Tryz.prog 17 #[.pointer (some ⟨g, 0, none⟩)] W fun q w' => q = .returned (ev (gE (lT k s1) false)) ∧ Xr w0 g p ((mKe E s1 k).at_ A' c') (lT (k + 1) s1) (bdE b1 (k + 1) s1) w') := by
          intro W hW
          refine (xr_getE w0 g p _ _ W hW).mono ?_
          rintro q w' ⟨h1, h2⟩
          rw [bdE_snoc b1 k s1 HBQ.out.symm, lT_snoc]
          exact ⟨h1, h2⟩
        have HXD : Hid (Xr w0 g p ((mKe E s1 k).at_ A' c') (lT k s1) false wr.drew) := by
          have h3 := HR.out.drew
          rw [← HBQ.out] at h3
          exact h3
        have HBD2 : Hid (∀ j, j < k + 1 → bdE b1 j s1 = false) := by
          intro j hj
          rcases Nat.lt_or_eq_of_le (Nat.le_of_lt_succ hj) with h3 | h3
          · exact HBD.out j h3
          · rw [h3]; exact HBQ.out.symm
        have HNX : Hid (∀ g4 cap W, Xr w0 g p ({ (mKe E s1 k).at_ A' c' with A := some ⟨g4, 0, none⟩, n := (E.es ++ lE k s1).length + 1, c := cap, es := (E.es ++ lE k s1) ++ [gE (lT k s1) false] } : Ms) (lT (k + 1) s1) (bdE b1 (k + 1) s1) W → Xr w0 g p ((mKe E s1 (k + 1)).at_ (some ⟨g4, 0, none⟩) cap) (lT (k + 1) s1) (bdE b1 (k + 1) s1) W) := by
          intro g4 cap W hW
          rw [mKe_next] at hW
          exact hW
        obtain ⟨M, hM⟩ : ∃ M, M = (mKe E s1 k).at_ A' c' := ⟨_, rfl⟩
        obtain ⟨e, he⟩ : ∃ e, e = gE (lT k s1) false := ⟨_, rfl⟩
        obtain ⟨es, hes⟩ : ∃ es, es = E.es ++ lE k s1 := ⟨_, rfl⟩
        obtain ⟨nn, hnn⟩ : ∃ nn, nn = (E.es ++ lE k s1).length := ⟨_, rfl⟩
        have hME : Hid (M.es = es ∧ M.n = nn ∧ M.A = A' ∧ M.c = c') := by show _ ∧ _; rw [hM, hes, hnn]; exact ⟨rfl, rfl, rfl, rfl⟩
        have hnb : nn ≤ 10065 := by rw [hnn, List.length_append, lE_length]; have := HLEN.out; omega
        rw [← hM, ← he] at KG
        rw [← hM] at HXD
        rw [← hM, ← he, ← hes] at HNX
        have HNN : Hid (nn = es.length) := by rw [hes]; exact hnn
        rw [← HNN.out] at HNX
        have hpl : p < wr.drew.heap.size := HXD.out.gs
        have xx9 : wr.drew.cell? ⟨p, 9, none⟩ = some (.slice A' nn c') := by
          have h3 := HXD.out.cell 9
          rw [show (mc M)[9]? = some (.slice M.A M.n M.c) from rfl, hME.out.2.1, hME.out.2.2.1, hME.out.2.2.2] at h3
          exact h3
        clear hM he hes hnn HR HBQ HBD HEND
        go_upto_region 27 with fail
        go_region_law (first
          | (refine step_append_lies _ (by rfl) _ _ 42 (by rfl) (p + 1) 24 i24 (ev ezz) 11 104 Tryz.underlying42 hi24 hz24 hs24 hb24 (by rfl) (by omega) (.slice A' nn c') nn (flat es) (by rfl) (by exact HOW.out) ⟨w3.heap.size, 0, none⟩ 1 1 (ec e).toList (by rfl) rfl (by exact HNEWS.out) (fun u hu => by simp at hu; rcases hu with rfl | rfl | rfl | rfl | rfl | rfl | rfl | rfl | rfl | rfl | rfl <;> rfl) (by omega) (by unfold maxLen; omega) (by omega) (by exact HBS.out) (w3.heap.size + 1) (by simp) ?_; intro g4 cap w4 hown4 hgrow hat hlt4; have z9 : w4.cell? ⟨p, 9, none⟩ = some (.slice A' nn c') := World.grownBy.cell hgrow (by exact U9.out) (HNE.out); have g0 : w4.frozen? ⟨p, 9, none⟩ = false := (World.frozen?_of_block (hgrow.block _ (HGL.out) (HNE.out))).trans F9.out)
          | (go_simp; go_at_call 17; (with_reducible refine (KG.out _ HXD.out).mono ?_); rintro q w3 ⟨rfl, HC⟩; have HN2 : Hid (Xr w0 g p M (lT (k + 1) s1) (bdE b1 (k + 1) s1) (w3.alloc (Obj.cells (ec e) 24))) := HC.below ((Below.refl _ _).alloc (Nat.le_refl _) _); have v9 : w3.cell? ⟨p, 9, none⟩ = some (.slice A' nn c') := (by have h3 := HC.cell 9; rw [show (mc M)[9]? = some (.slice M.A M.n M.c) from rfl, hME.out.2.1, hME.out.2.2.1, hME.out.2.2.2] at h3; exact h3); have U9 : Hid ((w3.alloc (Obj.cells (ec e) 24)).cell? ⟨p, 9, none⟩ = some (.slice A' nn c')) := (by have h3 := HN2.out.cell 9; rw [show (mc M)[9]? = some (.slice M.A M.n M.c) from rfl, hME.out.2.1, hME.out.2.2.1, hME.out.2.2.2] at h3; exact h3); have t9 := U9.out; have HOW : Hid ((w3.alloc (Obj.cells (ec e) 24)).ownsRow (p + 1) 24 11 (.slice A' nn c') nn (flat es)) := (by have h3 := HN2.out.own; rw [hME.out.1, hME.out.2.1, hME.out.2.2.1, hME.out.2.2.2] at h3; exact h3); have HNEWS : Hid (∀ (i : Nat) u, (ec e).toList[i]? = some u → (w3.alloc (Obj.cells (ec e) 24)).cell? ((⟨w3.heap.size, 0, none⟩ : Addr).add i) = some u) := fun i u hu => cell_new_list w3 (ec e).toList 24 i u hu; have HBS : Hid (p + 1 ≤ (w3.alloc (Obj.cells (ec e) 24)).heap.size) := HN2.out.gs; have HGL : Hid (p < (w3.alloc (Obj.cells (ec e) 24)).heap.size) := HN2.out.gs; have HNE : Hid (some p ≠ (Value.slice A' nn c').ownBlock) := (fun e => absurd (HOW.out.lt _ e.symm).1 (by omega)); have F9 : Hid ((w3.alloc (Obj.cells (ec e) 24)).frozen? ⟨p, 9, none⟩ = false) := Md.of HN2.out.al; clear HC))
        all_goals
          have hA := HN2.out.app (e := e) (n := nn) hME.out.2.1 (by rw [hME.out.1]; exact hown4) (by rw [hME.out.2.2.1, hME.out.2.2.2]; exact hgrow)
          rw [hME.out.1] at hA
          have HN3 := Lib.hid (HNX.out g4 cap _ hA)
          clear hA HN2 hown4 hgrow hat hlt4 g0 z9 xx9 v9 t9 U9 HOW HNEWS HBS HGL HNE F9 HXD KG hME hpl HNX HNN hnb cg1
          go_wp2
          go_roundw
          case rel => first | exact ⟨k + 1, some ⟨g4, 0, none⟩, cap, hlt, by go_num, HBD2.out, HN3.out⟩ | ((repeat apply Exists.intro); exact ⟨⟨k + 1, some ⟨g4, 0, none⟩, cap, hlt, by go_num, HBD2.out, HN3.out⟩, rfl⟩)
          case measure => simp [intOf]; omega
    · have hkk : k = KK := by omega
      have HX := Lib.hid (HEND.out k A' c' wr hk HBD.out (.inl hkk) HR.out)
      clear HEND HR HBQ HBD
      by_cases hkn : k < n
      · have t1 : decide ((k : Int) < (n : Int)) = true := decide_eq_true (by omega)
        have t1' : decide (k < n) = true := decide_eq_true (by omega)
        have h65 : ¬ k < 65 := by have := HKK.out; omega
        have t2 : decide ((k : Int) < 65) = false := decide_eq_false (by omega)
        have t2' : decide (k < 65) = false := decide_eq_false h65
        cases bq
        all_goals
          go_wp2_with fail
          first | go_end0 | refine bodyPost_ret (results_none rfl _ _ _) rfl ?_
          exact ⟨rfl, A', c', HX.out⟩
      · have t1 : decide ((k : Int) < (n : Int)) = false := decide_eq_false (by omega)
        have t1' : decide (k < n) = false := decide_eq_false hkn
        go_wp2_with fail
        first | go_end0 | refine bodyPost_ret (results_none rfl _ _ _) rfl ?_
        exact ⟨rfl, A', c', HX.out⟩
end Go.Proofs.YtmalcldpihpfpaaGreat
namespace Go.Proofs.YtmalcldpihpfpaaGreat
open Go.RowKit
open Vi
set_option linter.unusedVariables false
set_option linter.unusedSimpArgs false

theorem mright_any (m : Ms) (w : World) (hE : Ents w.heap.size m.A m.n m.es w) (hn : (m.n : Int) ≤ 9223372036854775807) (hok : ∀ e ∈ m.es, e.Ok) :
    Calls Tryz.prog 26 #[mv m] w fun r w' => r = .returned (.bool (mrightB m)) ∧ Below w.heap.size w w' := by
  by_cases h1 : 1 ≤ m.frm <;> by_cases h2 : 1 ≤ m.dst
  · exact mright_11 m w hE hn hok h1 h2
  · exact mright_10 m w hE hn hok h1 (by omega)
  · exact mright_01 m w hE hn hok (by omega) h2
  · exact mright_00 m w hE hn hok (by omega) (by omega)

set_option maxHeartbeats 8000000 in
set_option maxRecDepth 100000 in
theorem putM_any (m : Ms) (w : World) (hE : Ents w.heap.size m.A m.n m.es w) (wd : m.Wide) :
    Calls Tryz.prog 20 #[mv m] w fun q w' => q = .returned (.tuple #[.string (putX m), .bool (mrightB m)]) ∧ Below w.heap.size w w' := by
  obtain ⟨W0, hW0⟩ : ∃ W0, W0 = w.alloc (Obj.cells (mc m) 44) := ⟨_, rfl⟩
  have S0 : Bm w m W0 := by rw [hW0]; exact Bm.start hE
  have KR := Lib.hid (fun (W : World) (h : Bm w m W) => (mright_any m W (h.en.mr h.be.size) wd.n1 wd.eo).mono fun q w' ⟨h1, h2⟩ => And.intro h1 (h.on h2).all)
  have HW := Lib.hid hW0
  have HP : Hid (putX m = if mrightB m then sbM m.pl else ⟨#[]⟩) := rfl
  have S1 := Lib.hid S0
  have HLEN := Lib.hid hE.len
  have WD := Lib.hid wd
  obtain ⟨_, c0, c1, c2, c3, c4, c5, c6, c7, c8, c9, c10⟩ := S0.all
  rw [hW0] at c0 c1 c2 c3 c4 c5 c6 c7 c8 c9 c10
  clear hW0 S0 hE wd
  obtain ⟨rb, hrb⟩ : ∃ rb, rb = mrightB m := ⟨_, rfl⟩
  rw [← hrb] at KR HP ⊢
  cases rb with
  | false =>
    have HEq : Hid (putX m = ⟨#[]⟩) := HP.out
    clear hrb
    go_enter Tryz.func20, Tryz.ntmps20
    go_wp2_with fail
    rw [← HW.out]
    refine (KR.out _ S1.out).mono ?_
    rintro q w1 ⟨rfl, T, _⟩
    go_wp2
    go_ret2
    exact ⟨ret_pair HEq.out.symm rfl, T.be⟩
  | true =>
    have fw := mfew_of WD.out HLEN.out hrb.symm
    have ok2 := wide_pl WD.out
    have HEq : Hid (putX m = sbM m.pl) := HP.out
    have K42 : Hid (∀ W, Bm w m W → Calls Tryz.prog 42 #[] W fun q w' => ∃ b, q = .returned (.slice (some ⟨b, 0, none⟩) 12 12) ∧ MFlds b w' ∧ Bm w m w' ∧ w'.cell? ⟨w.heap.size, 0, none⟩ = some (.int .i64 m.kind) ∧ w'.cell? ⟨w.heap.size, 1, none⟩ = some (.int .i64 m.frm) ∧ w'.cell? ⟨w.heap.size, 2, none⟩ = some (.int .i64 m.dst) ∧ w'.cell? ⟨w.heap.size, 3, none⟩ = some (.int .u64 m.term) ∧ w'.cell? ⟨w.heap.size, 4, none⟩ = some (.int .u64 m.index) ∧ w'.cell? ⟨w.heap.size, 5, none⟩ = some (.int .u64 m.prev) ∧ w'.cell? ⟨w.heap.size, 6, none⟩ = some (.int .u64 m.commit) ∧ w'.cell? ⟨w.heap.size, 7, none⟩ = some (.int .u64 m.mark) ∧ w'.cell? ⟨w.heap.size, 8, none⟩ = some (.bool m.ok) ∧ w'.cell? ⟨w.heap.size, 9, none⟩ = some (.slice m.A m.n m.c) ∧ w'.cell? ⟨w.heap.size, 10, none⟩ = some (.string m.snap)) := fun W h => (mfields_any2 W).mono fun q w' ⟨b, h1, h2, h3⟩ => ⟨b, h1, h2, (h.on h3).all⟩
    have K41 : Hid (∀ (b : Nat) (W : World), MFlds b W → Bm w m W → Calls Tryz.prog 41 #[.slice (some ⟨b, 0, none⟩) 12 12, mv m] W fun q w' => q = .returned (.string (sbM m.pl)) ∧ Bm w m w' ∧ w'.cell? ⟨w.heap.size, 0, none⟩ = some (.int .i64 m.kind) ∧ w'.cell? ⟨w.heap.size, 1, none⟩ = some (.int .i64 m.frm) ∧ w'.cell? ⟨w.heap.size, 2, none⟩ = some (.int .i64 m.dst) ∧ w'.cell? ⟨w.heap.size, 3, none⟩ = some (.int .u64 m.term) ∧ w'.cell? ⟨w.heap.size, 4, none⟩ = some (.int .u64 m.index) ∧ w'.cell? ⟨w.heap.size, 5, none⟩ = some (.int .u64 m.prev) ∧ w'.cell? ⟨w.heap.size, 6, none⟩ = some (.int .u64 m.commit) ∧ w'.cell? ⟨w.heap.size, 7, none⟩ = some (.int .u64 m.mark) ∧ w'.cell? ⟨w.heap.size, 8, none⟩ = some (.bool m.ok) ∧ w'.cell? ⟨w.heap.size, 9, none⟩ = some (.slice m.A m.n m.c) ∧ w'.cell? ⟨w.heap.size, 10, none⟩ = some (.string m.snap)) := fun b W h1 h => (putFieldsM_any b m W (h.en.mr h.be.size) ok2 fw h1).mono fun q w' ⟨h2, h3⟩ => ⟨h2, (h.on h3).all⟩
    clear HP hrb fw ok2
    go_enter Tryz.func20, Tryz.ntmps20
    go_wp2_with fail
    rw [← HW.out]
    refine (KR.out _ S1.out).mono ?_
    rintro q w1 ⟨rfl, T, d0, d1, d2, d3, d4, d5, d6, d7, d8, d9, d10⟩
    go_upto_region 3 with fail
    have Td : Bm w m w1.drew := T.on (Below.refl _ w1).drew
    clear KR S1
    go_region_held3 (fun w' => w'.cell? ⟨w.heap.size, 0, none⟩ = some (.int .i64 m.kind) ∧ w'.cell? ⟨w.heap.size, 1, none⟩ = some (.int .i64 m.frm) ∧ w'.cell? ⟨w.heap.size, 2, none⟩ = some (.int .i64 m.dst) ∧ w'.cell? ⟨w.heap.size, 3, none⟩ = some (.int .u64 m.term) ∧ w'.cell? ⟨w.heap.size, 4, none⟩ = some (.int .u64 m.index) ∧ w'.cell? ⟨w.heap.size, 5, none⟩ = some (.int .u64 m.prev) ∧ w'.cell? ⟨w.heap.size, 6, none⟩ = some (.int .u64 m.commit) ∧ w'.cell? ⟨w.heap.size, 7, none⟩ = some (.int .u64 m.mark) ∧ w'.cell? ⟨w.heap.size, 8, none⟩ = some (.bool m.ok) ∧ w'.cell? ⟨w.heap.size, 9, none⟩ = some (.slice m.A m.n m.c) ∧ w'.cell? ⟨w.heap.size, 10, none⟩ = some (.string m.snap)) (first | exact ⟨d0, d1, d2, d3, d4, d5, d6, d7, d8, d9, d10⟩ | (refine ⟨?_, ?_, ?_, ?_, ?_, ?_, ?_, ?_, ?_, ?_, ?_⟩ <;> assumption)) (first
      | (go_at_call 42; (with_reducible refine (K42.out _ Td).mono ?_); rintro q w2 ⟨fb, rfl, hf, X2, e0, e1, e2, e3, e4, e5, e6, e7, e8, e9, e10⟩)
      | (go_at_call 41; (with_reducible refine (K41.out _ _ hf X2).mono ?_); rintro q w3 ⟨rfl, X3, g0, g1, g2, g3, g4, g5, g6, g7, g8, g9, g10⟩))
    go_wp2_with fail
    go_ret2
    exact ⟨ret_pair HEq.out.symm rfl, X3.be⟩
end Go.Proofs.YtmalcldpihpfpaaGreat
namespace Go.Proofs.YtmalcldpihpfpaaGreat
open Go.RowKit
open Vi
set_option linter.unusedVariables false
set_option linter.unusedSimpArgs false

theorem right_at (X : Mp) (A : Option Addr) (c : Nat) : mrightB (X.at_ A c) = mrightB (X.at_ none 0) := rfl
/-- Does a text hold a message, all of it? -/
def gok (s : ByteArray) : Bool := !(mRd s false).2.2 && (decide ((mRd s false).2.1.size = 0) && mrightB ((mRd s false).1.at_ none 0))
def mPrs (s : ByteArray) (A : Option Addr) (c : Nat) : Ms := (mRd s false).1.at_ A c
/-- What GetMsg returns, the package's, and the document's own. -/
def GMsg (s : ByteArray) (w : World) (q : Ending) (w' : World) : Prop :=
  ∃ M : Ms, q = .returned (.tuple #[mv M, .bool (gok s)]) ∧ Ents w'.heap.size M.A M.n M.es w' ∧ M.Wide ∧ Below w.heap.size w w' ∧ (gok s = true → ∃ A c, M = mPrs s A c) ∧ (gok s = false → M = mzz)
theorem mzz_wide : mzz.Wide := by
  constructor <;> first | decide | (intro e he; cases he)
theorem gmsg_no {s : ByteArray} {w w' : World} (h : gok s = false) (hb : Below w.heap.size w w') : GMsg s w (.returned (.tuple #[mv mzz, .bool false])) w' :=
  ⟨mzz, by rw [h], ⟨rfl, fun i e he => (by cases i <;> cases he)⟩, mzz_wide, hb, fun h2 => (by rw [h] at h2; cases h2), fun _ => rfl⟩
theorem ents_wrm {B n : Nat} {A : Option Addr} {es : List En} {w : World} {g : Nat} (M : Ms) (h : Ents w.heap.size A n es w) (hp : ∀ a, A = some a → a.block ≠ g) : Ents (wrm w g M).heap.size A n es (wrm w g M) :=
  ents_move h (by unfold wrm; simp [World.setCell]) (fun a ha _ => heap_wrm w g _ M (hp a ha))

theorem size_wrm (w : World) (g : Nat) (M : Ms) : (wrm w g M).heap.size = w.heap.size := by
  simp [World.setCell]
theorem ents_wrm2 {w : World} {g B n : Nat} {A : Option Addr} {es : List En} (M : Ms) (h : Ents B A n es w) (hA : ∀ a, A = some a → a.block ≠ g) : Ents B A n es (wrm w g M) :=
  ⟨h.len, fun i e he => by
    obtain ⟨a, h1, h2, h3⟩ := h.at_ i e he
    refine ⟨a, h1, h2, fun j hj => ?_⟩
    rw [← h3 j hj]
    exact World.cell?_of_block (heap_wrm w g _ M (by rw [block_of_add, block_of_add]; exact hA a h1))⟩

set_option maxHeartbeats 16000000 in
set_option maxRecDepth 100000 in
theorem getMsg_any (s : ByteArray) (w : World) (hm : s.size ≤ 140737488351232) : Calls Tryz.prog 23 #[.string s] w (GMsg s w) := by
  obtain ⟨W0, hW0⟩ : ∃ W0, W0 = w.alloc (Obj.cells (mc mzz) 44) := ⟨_, rfl⟩
  have k0 : W0.heap[w.heap.size]? = some (.cells (mc mzz) 44 (0, 0)) := by rw [hW0]; exact heap_alloc_new w _
  have b0 : Below w.heap.size w W0 := by rw [hW0]; exact (Below.refl _ _).alloc (Nat.le_refl _) _
  have s0 : W0.heap.size = w.heap.size + 1 := by rw [hW0]; simp
  have KN := Lib.hid (new2 s W0)
  have K42 := Lib.hid (fun (W : World) => mfields_any2 W)
  have KR := Lib.hid (fun (fb g : Nat) (W : World) (hF : MFlds fb W) (h : Rd 74 g s false W) => takeM_any fb g s W hF h hm)
  have HM := Lib.hid hm
  have HW0 := Lib.hid hW0
  have HK0 := Lib.hid k0
  have HB0 := Lib.hid b0
  have HS0 := Lib.hid s0
  clear hW0 k0 b0 s0 hm
  go_enter Tryz.func23, Tryz.ntmps23
  go_wp2_with fail
  rw [← HW0.out]
  refine KN.out.mono ?_
  rintro q w1 ⟨rfl, R1, b1, s1⟩
  have HR1 := Lib.hid R1
  have HK1 : Hid (w1.heap[w.heap.size]? = some (.cells (mc mzz) 44 (0, 0))) := (b1.block _ (by have := HS0.out; omega)).trans HK0.out
  have HB1 : Hid (Below w.heap.size w w1) := HB0.out.trans (b1.mono HB0.out.size)
  clear R1 b1 s1
  go_wp2_with fail
  refine (K42.out w1).mono ?_
  rintro q w1' ⟨fb, rfl, F1', b1'⟩
  have HR1' : Hid (Rd 74 W0.heap.size s false w1') := HR1.out.below b1' HR1.out.lt
  have HK1' : Hid (w1'.heap[w.heap.size]? = some (.cells (mc mzz) 44 (0, 0))) := (b1'.block _ (Array.getElem?_eq_some_iff.1 HK1.out).1).trans HK1.out
  have HB1' : Hid (Below w.heap.size w w1') := HB1.out.trans (b1'.mono HB1.out.size)
  clear b1' HB1 HK1 HR1
  have HB1 := HB1'
  have HK1 := HK1'
  have HR1 := HR1'
  clear HB1' HK1' HR1'
  go_wp2_with fail
  refine (KR.out fb _ w1' F1' HR1.out).mono ?_
  rintro q w2 ⟨A, c, rfl, hE, R2, g2, wd2, n2, hLo⟩
  have HLO : Hid (∀ a, A = some a → a.block ≠ w.heap.size) := fun a ha => by have h1 := hLo a ha; have h2 := HB1.out.size; have h3 := (Array.getElem?_eq_some_iff.1 HK1.out).1; omega
  have hW1 : w.heap.size < W0.heap.size := by have := HS0.out; omega
  have HK2 : Hid (w2.heap[w.heap.size]? = some (.cells (mc mzz) 44 (0, 0))) := (g2.block _ (Array.getElem?_eq_some_iff.1 HK1.out).1 (by simp; omega)).trans HK1.out
  have HB2 : Hid (Below w.heap.size w w2) := HB1.out.grown g2 HB1.out.size (fun k hk => by injection hk with hk; omega)
  obtain ⟨M, hMe⟩ : ∃ M, M = (mRd s false).1.at_ A c := ⟨_, rfl⟩
  have HPR : Hid (M = mPrs s A c) := hMe
  have HWD : Hid M.Wide := by show Ms.Wide _; rw [hMe]; exact wide_at wd2 A c (by omega)
  have HP : Hid (M.A = A ∧ M.n = (mRd s false).1.es.length ∧ M.es = (mRd s false).1.es) := by show _ ∧ _; rw [hMe]; exact ⟨rfl, rfl, rfl⟩
  obtain ⟨bf, hbf⟩ : ∃ bf, bf = (mRd s false).2.2 := ⟨_, rfl⟩
  obtain ⟨st, hst⟩ : ∃ st, st = (mRd s false).2.1 := ⟨_, rfl⟩
  have HG : gok s = ((!bf && decide (st.size = 0)) && mrightB M) := by unfold gok; rw [hbf, hst, hMe, right_at _ A c, Bool.and_assoc]
  have HY : Hid (∀ W, Below w.heap.size w W → Ents W.heap.size A (mRd s false).1.es.length (mRd s false).1.es W → gok s = true → GMsg s w (.returned (.tuple #[mv M, .bool true])) W) := fun W hb he hk => ⟨M, by rw [hk], by rw [HP.out.1, HP.out.2.1, HP.out.2.2]; exact he, HWD.out, hb, fun _ => ⟨A, c, HPR.out⟩, fun h2 => by rw [hk] at h2; cases h2⟩
  rw [← hMe]
  rw [← hbf, ← hst] at R2
  have HGG := Lib.hid HG
  obtain ⟨W2, hW2⟩ : ∃ W2, W2 = w2.alloc (Obj.cells (mc M) 44) := ⟨_, rfl⟩
  have bb : Below w2.heap.size w2 W2 := by rw [hW2]; exact (Below.refl _ _).alloc (Nat.le_refl _) _
  have HR3 : Hid (Rd 74 W0.heap.size st bf W2) := R2.below bb R2.lt
  have HK3 : Hid (W2.heap[w.heap.size]? = some (.cells (mc mzz) 44 (0, 0))) := (bb.block _ (Array.getElem?_eq_some_iff.1 HK2.out).1).trans HK2.out
  have HKM : Hid (W2.heap[w2.heap.size]? = some (.cells (mc M) 44 (0, 0))) := by show _ = _; rw [hW2]; exact heap_alloc_new w2 _
  have HB3 : Hid (Below w.heap.size w W2) := HB2.out.trans (bb.mono HB2.out.size)
  have HE3 : Hid (Ents W2.heap.size A (mRd s false).1.es.length (mRd s false).1.es W2) := (hE.below bb).mr bb.size
  have HL2 : Hid (w2.heap.size < W2.heap.size) := (Array.getElem?_eq_some_iff.1 HKM.out).1
  have HW2 := Lib.hid hW2
  have KO := Lib.hid (ok2 _ _ _ _ HR3.out)
  have KL := Lib.hid (left2 _ _ _ _ HR3.out)
  have KM : Hid (Calls Tryz.prog 26 #[mv M] W2 fun q w' => q = .returned (.bool (mrightB M)) ∧ Below W2.heap.size W2 w') := mright_any M W2 (by rw [HP.out.1, HP.out.2.1, HP.out.2.2]; exact HE3.out) HWD.out.n1 HWD.out.eo
  clear hE hLo R2 g2 hW1 HG hMe hbf hst hW2 bb KR KN HR1 HK1 HB1 HK2 HB2
  cases bf with
  | true =>
    have hk : gok s = false := by rw [HGG.out]; rfl
    have z0 : W2.cell? ⟨w.heap.size, 0, none⟩ = some (.int .i64 0) := cell_of_row W2 _ 0 _ 44 (0, 0) HK3.out
    have z1 : W2.cell? ⟨w.heap.size, 1, none⟩ = some (.int .i64 0) := cell_of_row W2 _ 1 _ 44 (0, 0) HK3.out
    have z2 : W2.cell? ⟨w.heap.size, 2, none⟩ = some (.int .i64 0) := cell_of_row W2 _ 2 _ 44 (0, 0) HK3.out
    have z3 : W2.cell? ⟨w.heap.size, 3, none⟩ = some (.int .u64 0) := cell_of_row W2 _ 3 _ 44 (0, 0) HK3.out
    have z4 : W2.cell? ⟨w.heap.size, 4, none⟩ = some (.int .u64 0) := cell_of_row W2 _ 4 _ 44 (0, 0) HK3.out
    have z5 : W2.cell? ⟨w.heap.size, 5, none⟩ = some (.int .u64 0) := cell_of_row W2 _ 5 _ 44 (0, 0) HK3.out
    have z6 : W2.cell? ⟨w.heap.size, 6, none⟩ = some (.int .u64 0) := cell_of_row W2 _ 6 _ 44 (0, 0) HK3.out
    have z7 : W2.cell? ⟨w.heap.size, 7, none⟩ = some (.int .u64 0) := cell_of_row W2 _ 7 _ 44 (0, 0) HK3.out
    have z8 : W2.cell? ⟨w.heap.size, 8, none⟩ = some (.bool false) := cell_of_row W2 _ 8 _ 44 (0, 0) HK3.out
    have z9 : W2.cell? ⟨w.heap.size, 9, none⟩ = some (.slice none 0 0) := cell_of_row W2 _ 9 _ 44 (0, 0) HK3.out
    have z10 : W2.cell? ⟨w.heap.size, 10, none⟩ = some (.string ⟨#[]⟩) := cell_of_row W2 _ 10 _ 44 (0, 0) HK3.out
    have fz : ∀ i, W2.frozen? ⟨w.heap.size, i, none⟩ = false := fun i => Md.of HK3.out
    go_wp2_with fail
    rw [← HW2.out]
    refine KO.out.mono ?_
    rintro q w3 ⟨rfl, rfl⟩
    go_wp2
    obtain ⟨WF, hWF⟩ : ∃ WF, WF = wrm W2 w.heap.size mzz := ⟨_, rfl⟩
    have hblk : WF.heap[w.heap.size]? = some (.cells (mc mzz) 44 (0, 0)) := by rw [hWF]; exact store_allm mzz HK3.out
    have hbF : Below w.heap.size w WF := by rw [hWF]; exact below_allm mzz HB3.out (Nat.le_refl _)
    unfold wrm at hWF
    rw [← hWF]
    have hWF2 := Lib.hid hWF
    clear hWF
    have f0 : WF.cell? ⟨w.heap.size, 0, none⟩ = some (.int .i64 0) := cell_of_row WF _ 0 _ 44 (0, 0) hblk
    have f1 : WF.cell? ⟨w.heap.size, 1, none⟩ = some (.int .i64 0) := cell_of_row WF _ 1 _ 44 (0, 0) hblk
    have f2 : WF.cell? ⟨w.heap.size, 2, none⟩ = some (.int .i64 0) := cell_of_row WF _ 2 _ 44 (0, 0) hblk
    have f3 : WF.cell? ⟨w.heap.size, 3, none⟩ = some (.int .u64 0) := cell_of_row WF _ 3 _ 44 (0, 0) hblk
    have f4 : WF.cell? ⟨w.heap.size, 4, none⟩ = some (.int .u64 0) := cell_of_row WF _ 4 _ 44 (0, 0) hblk
    have f5 : WF.cell? ⟨w.heap.size, 5, none⟩ = some (.int .u64 0) := cell_of_row WF _ 5 _ 44 (0, 0) hblk
    have f6 : WF.cell? ⟨w.heap.size, 6, none⟩ = some (.int .u64 0) := cell_of_row WF _ 6 _ 44 (0, 0) hblk
    have f7 : WF.cell? ⟨w.heap.size, 7, none⟩ = some (.int .u64 0) := cell_of_row WF _ 7 _ 44 (0, 0) hblk
    have f8 : WF.cell? ⟨w.heap.size, 8, none⟩ = some (.bool false) := cell_of_row WF _ 8 _ 44 (0, 0) hblk
    have f9 : WF.cell? ⟨w.heap.size, 9, none⟩ = some (.slice none 0 0) := cell_of_row WF _ 9 _ 44 (0, 0) hblk
    have f10 : WF.cell? ⟨w.heap.size, 10, none⟩ = some (.string ⟨#[]⟩) := cell_of_row WF _ 10 _ 44 (0, 0) hblk
    exact bodyPost_ret (v := .tuple #[mv mzz, .bool false]) (by simp [results, Tryz.results23, go_sem, f0, f1, f2, f3, f4, f5, f6, f7, f8, f9, f10]) rfl (gmsg_no hk hbF)
  | false =>
    by_cases hz : st.size = 0
    · have hd : decide (0 < (st.size : Int)) = false := decide_eq_false (by omega)
      have hd2 : ¬ 0 < st.size := by omega
      have hkk : gok s = mrightB M := by rw [HGG.out, decide_eq_true hz]; rfl
      have HKK := Lib.hid hkk
      obtain ⟨mb, hmb⟩ : ∃ mb, mb = mrightB M := ⟨_, rfl⟩
      rw [← hmb] at KM HKK
      clear hkk hmb
      have m0 : W2.cell? ⟨w2.heap.size, 0, none⟩ = some (.int .i64 M.kind) := cell_of_row W2 _ 0 _ 44 (0, 0) HKM.out
      have m1 : W2.cell? ⟨w2.heap.size, 1, none⟩ = some (.int .i64 M.frm) := cell_of_row W2 _ 1 _ 44 (0, 0) HKM.out
      have m2 : W2.cell? ⟨w2.heap.size, 2, none⟩ = some (.int .i64 M.dst) := cell_of_row W2 _ 2 _ 44 (0, 0) HKM.out
      have m3 : W2.cell? ⟨w2.heap.size, 3, none⟩ = some (.int .u64 M.term) := cell_of_row W2 _ 3 _ 44 (0, 0) HKM.out
      have m4 : W2.cell? ⟨w2.heap.size, 4, none⟩ = some (.int .u64 M.index) := cell_of_row W2 _ 4 _ 44 (0, 0) HKM.out
      have m5 : W2.cell? ⟨w2.heap.size, 5, none⟩ = some (.int .u64 M.prev) := cell_of_row W2 _ 5 _ 44 (0, 0) HKM.out
      have m6 : W2.cell? ⟨w2.heap.size, 6, none⟩ = some (.int .u64 M.commit) := cell_of_row W2 _ 6 _ 44 (0, 0) HKM.out
      have m7 : W2.cell? ⟨w2.heap.size, 7, none⟩ = some (.int .u64 M.mark) := cell_of_row W2 _ 7 _ 44 (0, 0) HKM.out
      have m8 : W2.cell? ⟨w2.heap.size, 8, none⟩ = some (.bool M.ok) := cell_of_row W2 _ 8 _ 44 (0, 0) HKM.out
      have m9 : W2.cell? ⟨w2.heap.size, 9, none⟩ = some (.slice M.A M.n M.c) := cell_of_row W2 _ 9 _ 44 (0, 0) HKM.out
      have m10 : W2.cell? ⟨w2.heap.size, 10, none⟩ = some (.string M.snap) := cell_of_row W2 _ 10 _ 44 (0, 0) HKM.out
      go_wp2_with fail
      rw [← HW2.out]
      refine KO.out.mono ?_
      rintro q w3 ⟨rfl, rfl⟩
      go_wp2_with fail
      refine KL.out.mono ?_
      rintro q w3 ⟨rfl, rfl⟩
      cases mb with
      | true =>
        go_wp2_with fail
        refine KM.out.mono ?_
        rintro q w4 ⟨rfl, b4⟩
        have HK4 : Hid (w4.heap[w.heap.size]? = some (.cells (mc mzz) 44 (0, 0))) := (b4.block _ (Array.getElem?_eq_some_iff.1 HK3.out).1).trans HK3.out
        have HM4 : Hid (w4.heap[w2.heap.size]? = some (.cells (mc M) 44 (0, 0))) := (b4.block _ HL2.out).trans HKM.out
        have HB4 : Hid (Below w.heap.size w w4) := HB3.out.trans (b4.mono HB3.out.size)
        have HE4 : Hid (Ents w4.heap.size A (mRd s false).1.es.length (mRd s false).1.es w4) := (HE3.out.below b4).mr b4.size
        clear b4 m0 m1 m2 m3 m4 m5 m6 m7 m8 m9 m10
        have z0 : w4.cell? ⟨w.heap.size, 0, none⟩ = some (.int .i64 0) := cell_of_row w4 _ 0 _ 44 (0, 0) HK4.out
        have z1 : w4.cell? ⟨w.heap.size, 1, none⟩ = some (.int .i64 0) := cell_of_row w4 _ 1 _ 44 (0, 0) HK4.out
        have z2 : w4.cell? ⟨w.heap.size, 2, none⟩ = some (.int .i64 0) := cell_of_row w4 _ 2 _ 44 (0, 0) HK4.out
        have z3 : w4.cell? ⟨w.heap.size, 3, none⟩ = some (.int .u64 0) := cell_of_row w4 _ 3 _ 44 (0, 0) HK4.out
        have z4 : w4.cell? ⟨w.heap.size, 4, none⟩ = some (.int .u64 0) := cell_of_row w4 _ 4 _ 44 (0, 0) HK4.out
        have z5 : w4.cell? ⟨w.heap.size, 5, none⟩ = some (.int .u64 0) := cell_of_row w4 _ 5 _ 44 (0, 0) HK4.out
        have z6 : w4.cell? ⟨w.heap.size, 6, none⟩ = some (.int .u64 0) := cell_of_row w4 _ 6 _ 44 (0, 0) HK4.out
        have z7 : w4.cell? ⟨w.heap.size, 7, none⟩ = some (.int .u64 0) := cell_of_row w4 _ 7 _ 44 (0, 0) HK4.out
        have z8 : w4.cell? ⟨w.heap.size, 8, none⟩ = some (.bool false) := cell_of_row w4 _ 8 _ 44 (0, 0) HK4.out
        have z9 : w4.cell? ⟨w.heap.size, 9, none⟩ = some (.slice none 0 0) := cell_of_row w4 _ 9 _ 44 (0, 0) HK4.out
        have z10 : w4.cell? ⟨w.heap.size, 10, none⟩ = some (.string ⟨#[]⟩) := cell_of_row w4 _ 10 _ 44 (0, 0) HK4.out
        have fz : ∀ i, w4.frozen? ⟨w.heap.size, i, none⟩ = false := fun i => Md.of HK4.out
        have m0 : w4.cell? ⟨w2.heap.size, 0, none⟩ = some (.int .i64 M.kind) := cell_of_row w4 _ 0 _ 44 (0, 0) HM4.out
        have m1 : w4.cell? ⟨w2.heap.size, 1, none⟩ = some (.int .i64 M.frm) := cell_of_row w4 _ 1 _ 44 (0, 0) HM4.out
        have m2 : w4.cell? ⟨w2.heap.size, 2, none⟩ = some (.int .i64 M.dst) := cell_of_row w4 _ 2 _ 44 (0, 0) HM4.out
        have m3 : w4.cell? ⟨w2.heap.size, 3, none⟩ = some (.int .u64 M.term) := cell_of_row w4 _ 3 _ 44 (0, 0) HM4.out
        have m4 : w4.cell? ⟨w2.heap.size, 4, none⟩ = some (.int .u64 M.index) := cell_of_row w4 _ 4 _ 44 (0, 0) HM4.out
        have m5 : w4.cell? ⟨w2.heap.size, 5, none⟩ = some (.int .u64 M.prev) := cell_of_row w4 _ 5 _ 44 (0, 0) HM4.out
        have m6 : w4.cell? ⟨w2.heap.size, 6, none⟩ = some (.int .u64 M.commit) := cell_of_row w4 _ 6 _ 44 (0, 0) HM4.out
        have m7 : w4.cell? ⟨w2.heap.size, 7, none⟩ = some (.int .u64 M.mark) := cell_of_row w4 _ 7 _ 44 (0, 0) HM4.out
        have m8 : w4.cell? ⟨w2.heap.size, 8, none⟩ = some (.bool M.ok) := cell_of_row w4 _ 8 _ 44 (0, 0) HM4.out
        have m9 : w4.cell? ⟨w2.heap.size, 9, none⟩ = some (.slice M.A M.n M.c) := cell_of_row w4 _ 9 _ 44 (0, 0) HM4.out
        have m10 : w4.cell? ⟨w2.heap.size, 10, none⟩ = some (.string M.snap) := cell_of_row w4 _ 10 _ 44 (0, 0) HM4.out
        go_wp2
        obtain ⟨WF, hWF⟩ : ∃ WF, WF = wrm w4 w.heap.size M := ⟨_, rfl⟩
        have hblk : WF.heap[w.heap.size]? = some (.cells (mc M) 44 (0, 0)) := by rw [hWF]; exact store_allm M HK4.out
        have hbF : Below w.heap.size w WF := by rw [hWF]; exact below_allm M HB4.out (Nat.le_refl _)
        unfold wrm at hWF
        rw [← hWF]
        have hWF2 := Lib.hid hWF
        clear hWF
        have f0 : WF.cell? ⟨w.heap.size, 0, none⟩ = some (.int .i64 M.kind) := cell_of_row WF _ 0 _ 44 (0, 0) hblk
        have f1 : WF.cell? ⟨w.heap.size, 1, none⟩ = some (.int .i64 M.frm) := cell_of_row WF _ 1 _ 44 (0, 0) hblk
        have f2 : WF.cell? ⟨w.heap.size, 2, none⟩ = some (.int .i64 M.dst) := cell_of_row WF _ 2 _ 44 (0, 0) hblk
        have f3 : WF.cell? ⟨w.heap.size, 3, none⟩ = some (.int .u64 M.term) := cell_of_row WF _ 3 _ 44 (0, 0) hblk
        have f4 : WF.cell? ⟨w.heap.size, 4, none⟩ = some (.int .u64 M.index) := cell_of_row WF _ 4 _ 44 (0, 0) hblk
        have f5 : WF.cell? ⟨w.heap.size, 5, none⟩ = some (.int .u64 M.prev) := cell_of_row WF _ 5 _ 44 (0, 0) hblk
        have f6 : WF.cell? ⟨w.heap.size, 6, none⟩ = some (.int .u64 M.commit) := cell_of_row WF _ 6 _ 44 (0, 0) hblk
        have f7 : WF.cell? ⟨w.heap.size, 7, none⟩ = some (.int .u64 M.mark) := cell_of_row WF _ 7 _ 44 (0, 0) hblk
        have f8 : WF.cell? ⟨w.heap.size, 8, none⟩ = some (.bool M.ok) := cell_of_row WF _ 8 _ 44 (0, 0) hblk
        have f9 : WF.cell? ⟨w.heap.size, 9, none⟩ = some (.slice M.A M.n M.c) := cell_of_row WF _ 9 _ 44 (0, 0) hblk
        have f10 : WF.cell? ⟨w.heap.size, 10, none⟩ = some (.string M.snap) := cell_of_row WF _ 10 _ 44 (0, 0) hblk
        exact bodyPost_ret (v := .tuple #[mv M, .bool true]) (by simp [results, Tryz.results23, go_sem, f0, f1, f2, f3, f4, f5, f6, f7, f8, f9, f10]) rfl (HY.out _ hbF (by have hq := ents_wrm2 (g := w.heap.size) M HE4.out HLO.out; have hz := size_wrm w4 w.heap.size M; rw [← hz] at hq; unfold wrm at hq; rw [← hWF2.out] at hq; exact hq) HKK.out)
      | false =>
        go_wp2_with fail
        refine KM.out.mono ?_
        rintro q w4 ⟨rfl, b4⟩
        have HK4 : Hid (w4.heap[w.heap.size]? = some (.cells (mc mzz) 44 (0, 0))) := (b4.block _ (Array.getElem?_eq_some_iff.1 HK3.out).1).trans HK3.out
        have HB4 : Hid (Below w.heap.size w w4) := HB3.out.trans (b4.mono HB3.out.size)
        clear b4 m0 m1 m2 m3 m4 m5 m6 m7 m8 m9 m10
        have z0 : w4.cell? ⟨w.heap.size, 0, none⟩ = some (.int .i64 0) := cell_of_row w4 _ 0 _ 44 (0, 0) HK4.out
        have z1 : w4.cell? ⟨w.heap.size, 1, none⟩ = some (.int .i64 0) := cell_of_row w4 _ 1 _ 44 (0, 0) HK4.out
        have z2 : w4.cell? ⟨w.heap.size, 2, none⟩ = some (.int .i64 0) := cell_of_row w4 _ 2 _ 44 (0, 0) HK4.out
        have z3 : w4.cell? ⟨w.heap.size, 3, none⟩ = some (.int .u64 0) := cell_of_row w4 _ 3 _ 44 (0, 0) HK4.out
        have z4 : w4.cell? ⟨w.heap.size, 4, none⟩ = some (.int .u64 0) := cell_of_row w4 _ 4 _ 44 (0, 0) HK4.out
        have z5 : w4.cell? ⟨w.heap.size, 5, none⟩ = some (.int .u64 0) := cell_of_row w4 _ 5 _ 44 (0, 0) HK4.out
        have z6 : w4.cell? ⟨w.heap.size, 6, none⟩ = some (.int .u64 0) := cell_of_row w4 _ 6 _ 44 (0, 0) HK4.out
        have z7 : w4.cell? ⟨w.heap.size, 7, none⟩ = some (.int .u64 0) := cell_of_row w4 _ 7 _ 44 (0, 0) HK4.out
        have z8 : w4.cell? ⟨w.heap.size, 8, none⟩ = some (.bool false) := cell_of_row w4 _ 8 _ 44 (0, 0) HK4.out
        have z9 : w4.cell? ⟨w.heap.size, 9, none⟩ = some (.slice none 0 0) := cell_of_row w4 _ 9 _ 44 (0, 0) HK4.out
        have z10 : w4.cell? ⟨w.heap.size, 10, none⟩ = some (.string ⟨#[]⟩) := cell_of_row w4 _ 10 _ 44 (0, 0) HK4.out
        have fz : ∀ i, w4.frozen? ⟨w.heap.size, i, none⟩ = false := fun i => Md.of HK4.out
        go_wp2
        obtain ⟨WF, hWF⟩ : ∃ WF, WF = wrm w4 w.heap.size mzz := ⟨_, rfl⟩
        have hblk : WF.heap[w.heap.size]? = some (.cells (mc mzz) 44 (0, 0)) := by rw [hWF]; exact store_allm mzz HK4.out
        have hbF : Below w.heap.size w WF := by rw [hWF]; exact below_allm mzz HB4.out (Nat.le_refl _)
        unfold wrm at hWF
        rw [← hWF]
        have hWF2 := Lib.hid hWF
        clear hWF
        have f0 : WF.cell? ⟨w.heap.size, 0, none⟩ = some (.int .i64 0) := cell_of_row WF _ 0 _ 44 (0, 0) hblk
        have f1 : WF.cell? ⟨w.heap.size, 1, none⟩ = some (.int .i64 0) := cell_of_row WF _ 1 _ 44 (0, 0) hblk
        have f2 : WF.cell? ⟨w.heap.size, 2, none⟩ = some (.int .i64 0) := cell_of_row WF _ 2 _ 44 (0, 0) hblk
        have f3 : WF.cell? ⟨w.heap.size, 3, none⟩ = some (.int .u64 0) := cell_of_row WF _ 3 _ 44 (0, 0) hblk
        have f4 : WF.cell? ⟨w.heap.size, 4, none⟩ = some (.int .u64 0) := cell_of_row WF _ 4 _ 44 (0, 0) hblk
        have f5 : WF.cell? ⟨w.heap.size, 5, none⟩ = some (.int .u64 0) := cell_of_row WF _ 5 _ 44 (0, 0) hblk
        have f6 : WF.cell? ⟨w.heap.size, 6, none⟩ = some (.int .u64 0) := cell_of_row WF _ 6 _ 44 (0, 0) hblk
        have f7 : WF.cell? ⟨w.heap.size, 7, none⟩ = some (.int .u64 0) := cell_of_row WF _ 7 _ 44 (0, 0) hblk
        have f8 : WF.cell? ⟨w.heap.size, 8, none⟩ = some (.bool false) := cell_of_row WF _ 8 _ 44 (0, 0) hblk
        have f9 : WF.cell? ⟨w.heap.size, 9, none⟩ = some (.slice none 0 0) := cell_of_row WF _ 9 _ 44 (0, 0) hblk
        have f10 : WF.cell? ⟨w.heap.size, 10, none⟩ = some (.string ⟨#[]⟩) := cell_of_row WF _ 10 _ 44 (0, 0) hblk
        exact bodyPost_ret (v := .tuple #[mv mzz, .bool false]) (by simp [results, Tryz.results23, go_sem, f0, f1, f2, f3, f4, f5, f6, f7, f8, f9, f10]) rfl (gmsg_no HKK.out hbF)
    · have hd : decide (0 < (st.size : Int)) = true := decide_eq_true (by omega)
      have hd2 : 0 < st.size := by omega
      have hk : gok s = false := by rw [HGG.out, decide_eq_false hz]; rfl
      have z0 : W2.cell? ⟨w.heap.size, 0, none⟩ = some (.int .i64 0) := cell_of_row W2 _ 0 _ 44 (0, 0) HK3.out
      have z1 : W2.cell? ⟨w.heap.size, 1, none⟩ = some (.int .i64 0) := cell_of_row W2 _ 1 _ 44 (0, 0) HK3.out
      have z2 : W2.cell? ⟨w.heap.size, 2, none⟩ = some (.int .i64 0) := cell_of_row W2 _ 2 _ 44 (0, 0) HK3.out
      have z3 : W2.cell? ⟨w.heap.size, 3, none⟩ = some (.int .u64 0) := cell_of_row W2 _ 3 _ 44 (0, 0) HK3.out
      have z4 : W2.cell? ⟨w.heap.size, 4, none⟩ = some (.int .u64 0) := cell_of_row W2 _ 4 _ 44 (0, 0) HK3.out
      have z5 : W2.cell? ⟨w.heap.size, 5, none⟩ = some (.int .u64 0) := cell_of_row W2 _ 5 _ 44 (0, 0) HK3.out
      have z6 : W2.cell? ⟨w.heap.size, 6, none⟩ = some (.int .u64 0) := cell_of_row W2 _ 6 _ 44 (0, 0) HK3.out
      have z7 : W2.cell? ⟨w.heap.size, 7, none⟩ = some (.int .u64 0) := cell_of_row W2 _ 7 _ 44 (0, 0) HK3.out
      have z8 : W2.cell? ⟨w.heap.size, 8, none⟩ = some (.bool false) := cell_of_row W2 _ 8 _ 44 (0, 0) HK3.out
      have z9 : W2.cell? ⟨w.heap.size, 9, none⟩ = some (.slice none 0 0) := cell_of_row W2 _ 9 _ 44 (0, 0) HK3.out
      have z10 : W2.cell? ⟨w.heap.size, 10, none⟩ = some (.string ⟨#[]⟩) := cell_of_row W2 _ 10 _ 44 (0, 0) HK3.out
      have fz : ∀ i, W2.frozen? ⟨w.heap.size, i, none⟩ = false := fun i => Md.of HK3.out
      go_wp2_with fail
      rw [← HW2.out]
      refine KO.out.mono ?_
      rintro q w3 ⟨rfl, rfl⟩
      go_wp2_with fail
      refine KL.out.mono ?_
      rintro q w3 ⟨rfl, rfl⟩
      go_wp2
      obtain ⟨WF, hWF⟩ : ∃ WF, WF = wrm W2 w.heap.size mzz := ⟨_, rfl⟩
      have hblk : WF.heap[w.heap.size]? = some (.cells (mc mzz) 44 (0, 0)) := by rw [hWF]; exact store_allm mzz HK3.out
      have hbF : Below w.heap.size w WF := by rw [hWF]; exact below_allm mzz HB3.out (Nat.le_refl _)
      unfold wrm at hWF
      rw [← hWF]
      have hWF2 := Lib.hid hWF
      clear hWF
      have f0 : WF.cell? ⟨w.heap.size, 0, none⟩ = some (.int .i64 0) := cell_of_row WF _ 0 _ 44 (0, 0) hblk
      have f1 : WF.cell? ⟨w.heap.size, 1, none⟩ = some (.int .i64 0) := cell_of_row WF _ 1 _ 44 (0, 0) hblk
      have f2 : WF.cell? ⟨w.heap.size, 2, none⟩ = some (.int .i64 0) := cell_of_row WF _ 2 _ 44 (0, 0) hblk
      have f3 : WF.cell? ⟨w.heap.size, 3, none⟩ = some (.int .u64 0) := cell_of_row WF _ 3 _ 44 (0, 0) hblk
      have f4 : WF.cell? ⟨w.heap.size, 4, none⟩ = some (.int .u64 0) := cell_of_row WF _ 4 _ 44 (0, 0) hblk
      have f5 : WF.cell? ⟨w.heap.size, 5, none⟩ = some (.int .u64 0) := cell_of_row WF _ 5 _ 44 (0, 0) hblk
      have f6 : WF.cell? ⟨w.heap.size, 6, none⟩ = some (.int .u64 0) := cell_of_row WF _ 6 _ 44 (0, 0) hblk
      have f7 : WF.cell? ⟨w.heap.size, 7, none⟩ = some (.int .u64 0) := cell_of_row WF _ 7 _ 44 (0, 0) hblk
      have f8 : WF.cell? ⟨w.heap.size, 8, none⟩ = some (.bool false) := cell_of_row WF _ 8 _ 44 (0, 0) hblk
      have f9 : WF.cell? ⟨w.heap.size, 9, none⟩ = some (.slice none 0 0) := cell_of_row WF _ 9 _ 44 (0, 0) hblk
      have f10 : WF.cell? ⟨w.heap.size, 10, none⟩ = some (.string ⟨#[]⟩) := cell_of_row WF _ 10 _ 44 (0, 0) hblk
      exact bodyPost_ret (v := .tuple #[mv mzz, .bool false]) (by simp [results, Tryz.results23, go_sem, f0, f1, f2, f3, f4, f5, f6, f7, f8, f9, f10]) rfl (gmsg_no hk hbF)

end Go.Proofs.YtmalcldpihpfpaaGreat
namespace Go.Proofs.YtmalcldpihpfpaaGreat
open Go.RowKit
open Vi
set_option linter.unusedVariables false
set_option linter.unusedSimpArgs false

theorem setMr_wide {t : Nat} {E : Mp} {v : Nat} (h : E.Wide) (hv : v < 18446744073709551616) : (setMr t E v).Wide := by
  have h0 := h
  obtain ⟨a1, a2, a3, a4, a5, a6, a7, a8, a9, a10, a11, a12, a13, a14, a15, a16, a17, a18⟩ := h
  unfold setMr
  split <;> first | exact setM_wide h0 hv | (constructor <;> (try dsimp only) <;> first | assumption | omega)
theorem setMr_es (t : Nat) (E : Mp) (v : Nat) : (setMr t E v).es = E.es := by
  unfold setMr
  split <;> first | rfl | exact setM_es _ _ _
theorem hL_ok : ∀ (n : Nat) (l : List En) (s : ByteArray) (b : Bool), s.size ≤ 140737488351232 → (∀ e ∈ l, e.Ok) → (∀ e ∈ (hL n l s b).1, e.Ok) ∧ (hL n l s b).1.length ≤ l.length + n
  | 0, l, _, _, _, h => ⟨h, Nat.le_refl _⟩
  | n + 1, l, s, b, hs, h => by
    unfold hL
    split
    · exact ⟨h, Nat.le_add_right _ _⟩
    · have ih := hL_ok n (l ++ [gE s false]) (gT s false) (!gO s false) (Nat.le_trans (gT_le s false) hs) (fun e he => by
        rcases List.mem_append.1 he with he | he
        · exact h e he
        · rw [List.mem_singleton] at he
          subst he
          exact gE_ok s false (by omega))
      refine ⟨ih.1, ?_⟩
      have h2 := ih.2
      rw [List.length_append] at h2
      simp only [List.length_cons, List.length_nil] at h2
      omega
theorem mR_wide {t : Nat} {E : Mp} {T : ByteArray} (h : E.Wide) (hT : T.size ≤ 140737488351232) : (mR t E T).1.Wide ∧ (mR t E T).1.es.length ≤ E.es.length + 65 := by
  have h1 := varT_size T
  have h2 := texV_le T
  have hl : E.es.length ≤ E.es.length + 65 := Nat.le_add_right _ _
  have h0 := h
  unfold mR
  obtain ⟨a1, a2, a3, a4, a5, a6, a7, a8, a9, a10, a11, a12, a13, a14, a15, a16, a17, a18⟩ := h
  by_cases h10 : t = 10
  · rw [if_pos h10]
    exact ⟨⟨a1, a2, a3, a4, a5, a6, a7, a8, a9, a10, a11, a12, a13, a14, a15, a16, Nat.le_trans h2 hT, a18⟩, hl⟩
  · rw [if_neg h10]
    by_cases h8 : t ≤ 8
    · rw [if_pos h8]
      exact ⟨setMr_wide h0 (varV_lt T), by show (setMr t E (varV T)).es.length ≤ _; rw [setMr_es]; exact hl⟩
    · rw [if_neg h8]
      by_cases h9 : t = 9
      · rw [if_pos h9]
        exact ⟨⟨a1, a2, a3, a4, a5, a6, a7, a8, a9, a10, a11, a12, a13, a14, a15, a16, a17, a18⟩, hl⟩
      · rw [if_neg h9]
        by_cases h11 : t = 11
        · rw [if_pos h11]
          have hk := hL_ok (min (varV T) 65) E.es (varT T) (!varO T) (by omega) a18
          exact ⟨⟨a1, a2, a3, a4, a5, a6, a7, a8, a9, a10, a11, a12, a13, a14, a15, a16, a17, hk.1⟩, Nat.le_trans hk.2 (by omega)⟩
        · rw [if_neg h11]
          exact ⟨h0, hl⟩
theorem pk_wide : ∀ n last E T b, E.Wide → E.es.length ≤ 64 → T.size ≤ 140737488351232 → (pk mF n last E T b).1.Wide ∧ (pk mF n last E T b).1.es.length ≤ 64
  | 0, _, _, _, _, h, h2, _ => ⟨h, h2⟩
  | n + 1, last, E, T, b, h, h2, h3 => by
    have h4 := varT_size T
    unfold pk
    split
    · exact ⟨h, h2⟩
    · split
      · exact ⟨h, h2⟩
      · have h5 := mS_wide (t := varV T) h h2 (T := varT T) (by omega)
        exact pk_wide n _ _ _ _ h5.1 h5.2 (Nat.le_trans (mS_size _ _ _) (by omega))
theorem mRd_wide (s : ByteArray) (hm : s.size ≤ 140737488351232) : (mRd s false).1.Wide ∧ (mRd s false).1.es.length ≤ 64 := pk_wide 12 0 mz0 s false mz0_wide (Nat.zero_le _) hm
theorem rgm_iff (s : ByteArray) (A : Option Addr) (c : Nat) (hm : s.size ≤ 140737488351232) (R : Mp × ByteArray × Bool) (hR : R = mRr s false) (h2 : R.1.Wide) (h3 : R.1.es.length ≤ 10000) :
    (!R.2.2 && (mrightB (R.1.at_ A c) && decide (nums (putX (R.1.at_ A c)) = nums s))) = gok s ∧ (gok s = true → R.1 = (mRd s false).1) := by
  have hw := mRd_wide s hm
  have back : gok s = true → R = ((mRd s false).1, ⟨#[]⟩, false) ∧ mrightB (R.1.at_ A c) = true ∧ putX (R.1.at_ A c) = s := by
    intro hg
    unfold gok at hg
    simp only [Bool.and_eq_true, decide_eq_true_eq] at hg
    obtain ⟨g1, g2, g3⟩ := hg
    obtain ⟨X, hX⟩ : ∃ X, X = (mRd s false).1 := ⟨_, rfl⟩
    have e1 : (mRd s false).2.2 = false := by simpa using g1
    have e2 : (mRd s false).2.1 = ⟨#[]⟩ := (size0 _).1 g2
    have e3 : mRd s false = (X, ⟨#[]⟩, false) := Prod.ext hX.symm (Prod.ext e2 e1)
    rw [← hX] at hw g3
    have fw : MFew X := mfew_of (wide_at hw.1 none 0 (by omega)) rfl g3
    have hs := (mRd_sound hw.1 fw e3).2
    have hp := (mRd_put hw.1 fw ⟨#[]⟩).2
    rw [← hs] at hp
    have hRX : R = (X, ⟨#[]⟩, false) := by rw [hR]; exact hp
    rw [hRX]
    refine ⟨by rw [hX], ?_, ?_⟩
    · show mrightB (X.at_ A c) = true
      rw [right_at]; exact g3
    · show putX (X.at_ A c) = s
      unfold putX
      rw [right_at, if_pos g3]
      have e5 : sbM X ++ ⟨#[]⟩ = sbM X := by apply ByteArray.ext; simp
      rw [e5] at hs
      exact hs.symm
  refine ⟨?_, fun h => by rw [(back h).1]⟩
  cases hg : gok s with
  | true =>
    obtain ⟨b1, b2, b3⟩ := back hg
    rw [b3, b2, b1, decide_eq_true rfl]
    rfl
  | false =>
    cases hL : (!R.2.2 && (mrightB (R.1.at_ A c) && decide (nums (putX (R.1.at_ A c)) = nums s))) with
    | false => rfl
    | true =>
      exfalso
      simp only [Bool.and_eq_true, decide_eq_true_eq] at hL
      obtain ⟨_, q2, q3⟩ := hL
      have e := nums_inj q3
      unfold putX at e
      rw [if_pos q2] at e
      have e : sbM R.1 = s := e
      have fw : MFew R.1 := mfew_of (wide_at h2 A c (by omega)) rfl q2
      have hp := (mRd_put h2 fw ⟨#[]⟩).1
      have e5 : sbM R.1 ++ ⟨#[]⟩ = s := by rw [e]; apply ByteArray.ext; simp
      rw [e5] at hp
      have : gok s = true := by
        unfold gok
        rw [hp]
        show (!false && (decide ((⟨#[]⟩ : ByteArray).size = 0) && mrightB (R.1.at_ none 0))) = true
        rw [← right_at R.1 A c, q2]
        rfl
      rw [hg] at this
      cases this

set_option maxHeartbeats 32000000 in
set_option maxRecDepth 100000 in
theorem rgetM_any (s : ByteArray) (w : World) (hm : s.size ≤ 140737488351232) : Calls Tryz.prog 24 #[.string s] w (GMsg s w) := by
  obtain ⟨W0, hW0⟩ : ∃ W0, W0 = w.alloc (Obj.cells (mc mzz) 44) := ⟨_, rfl⟩
  have k0 : W0.heap[w.heap.size]? = some (.cells (mc mzz) 44 (0, 0)) := by rw [hW0]; exact heap_alloc_new w _
  have b0 : Below w.heap.size w W0 := by rw [hW0]; exact (Below.refl _ _).alloc (Nat.le_refl _) _
  have s0 : W0.heap.size = w.heap.size + 1 := by rw [hW0]; simp
  have KN := Lib.hid (rnew2 s W0)
  have HM := Lib.hid hm
  have HW0 := Lib.hid hW0
  have HK0 := Lib.hid k0
  have HB0 := Lib.hid b0
  have HS0 := Lib.hid s0
  obtain ⟨R, hR⟩ : ∃ R, R = mRr s false := ⟨_, rfl⟩
  have HR0 : Hid (rk mR 12 mz0 s false = R) := hR.symm
  have HEQ : Hid (∀ A c, R.1.Wide → R.1.es.length ≤ 10000 → (!R.2.2 && (mrightB (R.1.at_ A c) && decide (nums (putX (R.1.at_ A c)) = nums s))) = gok s ∧ (gok s = true → R.1 = (mRd s false).1)) := fun A c h2 h3 => rgm_iff s A c hm R hR h2 h3
  clear hW0 k0 b0 s0 hm hR
  go_enter Tryz.func24, Tryz.ntmps24
  go_wp2_with fail
  rw [← HW0.out]
  refine KN.out.mono ?_
  rintro q w1 ⟨rfl, R1, b1, s1⟩
  obtain ⟨g, hg⟩ : ∃ g, g = W0.heap.size := ⟨_, rfl⟩
  rw [← hg] at R1 s1 ⊢
  have HK1 : Hid (w1.heap[w.heap.size]? = some (.cells (mc mzz) 44 (0, 0))) := (b1.block _ (by have := HS0.out; omega)).trans HK0.out
  have HB1 : Hid (Below w.heap.size w w1) := HB0.out.trans (b1.mono HB0.out.size)
  have HGW : Hid (g = w.heap.size + 1 ∧ w1.heap.size = w.heap.size + 2) := by have := HS0.out; exact ⟨by omega, by omega⟩
  obtain ⟨W2, hW2⟩ : ∃ W2, W2 = w1.alloc (Obj.cells (mc mzz) 44) := ⟨_, rfl⟩
  have bb2 : Below w1.heap.size w1 W2 := by rw [hW2]; exact (Below.refl _ _).alloc (Nat.le_refl _) _
  have k2 : W2.heap[w1.heap.size]? = some (.cells (mc mzz) 44 (0, 0)) := by rw [hW2]; exact heap_alloc_new w1 _
  have X0 : Xr w1 g w1.heap.size (mz0.at_ none 0) s false W2 :=
    ⟨⟨R1.below bb2 (by omega), ⟨bb2.os, bb2.tape, bb2.output, bb2.size, fun i hi _ => bb2.block i hi⟩, by omega, HM.out, fun h => by cases h⟩, k2, World.ownsRow_nil _ _ _ _, rfl, Nat.le_refl _⟩
  have HX0 := Lib.hid X0
  have HW2 := Lib.hid hW2
  obtain ⟨p, hp⟩ : ∃ p, p = w1.heap.size := ⟨_, rfl⟩
  rw [← hp] at HX0
  have HPP : Hid (w.heap.size + 1 < p) := by have h1 := HGW.out.2; show _ < _; omega
  have HPE := Lib.hid hp
  have HB2 : Hid (∀ W, w1.grownBy W (some g) → Below w.heap.size w W ∧ W.heap[w.heap.size]? = some (.cells (mc mzz) 44 (0, 0))) := by
    intro W hW
    have h1 := HGW.out.1
    exact ⟨HB1.out.grown hW HB1.out.size (fun k hk => by injection hk with hk; omega), (hW.block _ (Array.getElem?_eq_some_iff.1 HK1.out).1 (by simp; omega)).trans HK1.out⟩
  clear R1 b1 s1 hg bb2 k2 X0 hW2 hp
  go_wp2_with fail
  rw [← HW2.out]
  try rw [← HPE.out]
  clear HW2 HPE
  go_loopw [6] (fun i wr => ∃ (k n : Nat) (E : Mp) (A : Option Addr) (c : Nat) (T : ByteArray) (b : Bool), k + n = 12 ∧ i = .int .i64 k ∧ Hid (rk mR n E T b = R) ∧ Xr w1 g p (E.at_ A c) T b wr ∧ E.Wide ∧ E.es.length ≤ 65 * k) (fun i _ => 12 - (intOf i).toNat)
  case atStart => exact ⟨0, 12, mz0, none, 0, s, false, rfl, rfl, HR0, HX0.out, mz0_wide, Nat.zero_le _⟩
  case round =>
    obtain ⟨k, n, E, A, c, T, b, hn, rfl, HP, hT, hE, hE2⟩ := hrel
    clear HR0 HX0
    have HE := Lib.hid hE
    have HE2 := Lib.hid hE2
    have HT := Lib.hid hT
    have cg1 : wr.cell? ⟨g, 1, none⟩ = some (.bool b) := hT.q.hr.cell1
    by_cases hk : k < 12
    · have t1 : decide ((k : Int) < 12) = true := decide_eq_true (by omega)
      have t1' : decide (k < 12) = true := decide_eq_true (by omega)
      obtain ⟨m, rfl⟩ : ∃ m, n = m + 1 := ⟨n - 1, by omega⟩
      have hpk := HP.out
      unfold rk at hpk
      cases b with
      | true =>
        have HRR : Hid ((E, T, true) = R) := by rw [if_pos rfl] at hpk; exact hpk
        clear hpk HP hT hE hE2
        have HT3 := HT
        obtain ⟨w3, hw3⟩ : ∃ w3, w3 = wr := ⟨_, rfl⟩
        rw [← hw3] at HT3 cg1 ⊢
        obtain ⟨bb, hbb⟩ : ∃ bb, bb = true := ⟨_, rfl⟩
        obtain ⟨T1, hT1⟩ : ∃ T1, T1 = T := ⟨_, rfl⟩
        rw [← hT1] at HRR HT3
        rw [show (E, T1, true) = (E, T1, bb) by rw [hbb]] at HRR
        rw [← hbb] at HT3
        clear HT hw3 hT1
        have hRR1 : R.1 = E := by rw [← HRR.out]
        have hRR2 : R.2.2 = bb := by rw [← HRR.out]
        have hel : E.es.length ≤ 10000 := by have := HE2.out; omega
        obtain ⟨hx3, hx4⟩ := HEQ.out A c (by rw [hRR1]; exact HE.out) (by rw [hRR1]; exact hel)
        rw [hRR1, hRR2] at hx3
        rw [hRR1] at hx4
        obtain ⟨M, hM⟩ : ∃ M, M = E.at_ A c := ⟨_, rfl⟩
        have HWD : Hid M.Wide := by show Ms.Wide _; rw [hM]; exact wide_at HE.out A c (by omega)
        have HPR : Hid (gok s = true → M = mPrs s A c) := fun h => by rw [hM, hx4 h]; rfl
        rw [← hM] at hx3 HT3
        obtain ⟨mb, hmb⟩ : ∃ mb, mb = mrightB M := ⟨_, rfl⟩
        obtain ⟨PM, hPM⟩ : ∃ PM, PM = putX M := ⟨_, rfl⟩
        rw [← hmb, ← hPM, ← beq_nums] at hx3
        obtain ⟨te, hte⟩ : ∃ te, te = (PM.toList == s.toList) := ⟨_, rfl⟩
        rw [← hte] at hx3
        have hte2 : (PM.toList == s.toList) = te := hte.symm
        have HGK := Lib.hid hx3
        have K3 : Hid (Calls Tryz.prog 22 #[mv M] w3 fun q w' => q = .returned (.tuple #[.string PM, .bool mb]) ∧ Below w3.heap.size w3 w') := by
          refine (rputM_any M w3 (ents_of_own HT3.out.own HT3.out.hl) HWD.out).mono fun q w' ⟨h1, h2⟩ => ?_
          rw [← hPM, ← hmb] at h1
          exact ⟨h1, h2⟩
        have m0 : w3.cell? ⟨p, 0, none⟩ = some (.int .i64 M.kind) := HT3.out.cell 0
        have m1 : w3.cell? ⟨p, 1, none⟩ = some (.int .i64 M.frm) := HT3.out.cell 1
        have m2 : w3.cell? ⟨p, 2, none⟩ = some (.int .i64 M.dst) := HT3.out.cell 2
        have m3 : w3.cell? ⟨p, 3, none⟩ = some (.int .u64 M.term) := HT3.out.cell 3
        have m4 : w3.cell? ⟨p, 4, none⟩ = some (.int .u64 M.index) := HT3.out.cell 4
        have m5 : w3.cell? ⟨p, 5, none⟩ = some (.int .u64 M.prev) := HT3.out.cell 5
        have m6 : w3.cell? ⟨p, 6, none⟩ = some (.int .u64 M.commit) := HT3.out.cell 6
        have m7 : w3.cell? ⟨p, 7, none⟩ = some (.int .u64 M.mark) := HT3.out.cell 7
        have m8 : w3.cell? ⟨p, 8, none⟩ = some (.bool M.ok) := HT3.out.cell 8
        have m9 : w3.cell? ⟨p, 9, none⟩ = some (.slice M.A M.n M.c) := HT3.out.cell 9
        have m10 : w3.cell? ⟨p, 10, none⟩ = some (.string M.snap) := HT3.out.cell 10
        clear hx3 hx4 hM hmb hPM hte hRR1 hRR2 hel HRR HEQ
        subst hbb
        go_wp2_with fail
        refine K3.out.mono ?_
        rintro e w5 ⟨rfl, b5⟩
        have HT5 := Lib.hid (HT3.out.below b5)
        have cr1 : w5.cell? ⟨g, 1, none⟩ = some (.bool true) := HT5.out.q.hr.cell1
        clear b5 K3 HT3 m0 m1 m2 m3 m4 m5 m6 m7 m8 m9 m10
        have HOK : Hid (gok s = false) := HGK.out.symm
        clear HGK
        have hgr := HB2.out w5 HT5.out.q.fr
        have z0 : w5.cell? ⟨w.heap.size, 0, none⟩ = some (.int .i64 0) := cell_of_row w5 _ 0 _ 44 (0, 0) hgr.2
        have z1 : w5.cell? ⟨w.heap.size, 1, none⟩ = some (.int .i64 0) := cell_of_row w5 _ 1 _ 44 (0, 0) hgr.2
        have z2 : w5.cell? ⟨w.heap.size, 2, none⟩ = some (.int .i64 0) := cell_of_row w5 _ 2 _ 44 (0, 0) hgr.2
        have z3 : w5.cell? ⟨w.heap.size, 3, none⟩ = some (.int .u64 0) := cell_of_row w5 _ 3 _ 44 (0, 0) hgr.2
        have z4 : w5.cell? ⟨w.heap.size, 4, none⟩ = some (.int .u64 0) := cell_of_row w5 _ 4 _ 44 (0, 0) hgr.2
        have z5 : w5.cell? ⟨w.heap.size, 5, none⟩ = some (.int .u64 0) := cell_of_row w5 _ 5 _ 44 (0, 0) hgr.2
        have z6 : w5.cell? ⟨w.heap.size, 6, none⟩ = some (.int .u64 0) := cell_of_row w5 _ 6 _ 44 (0, 0) hgr.2
        have z7 : w5.cell? ⟨w.heap.size, 7, none⟩ = some (.int .u64 0) := cell_of_row w5 _ 7 _ 44 (0, 0) hgr.2
        have z8 : w5.cell? ⟨w.heap.size, 8, none⟩ = some (.bool false) := cell_of_row w5 _ 8 _ 44 (0, 0) hgr.2
        have z9 : w5.cell? ⟨w.heap.size, 9, none⟩ = some (.slice none 0 0) := cell_of_row w5 _ 9 _ 44 (0, 0) hgr.2
        have z10 : w5.cell? ⟨w.heap.size, 10, none⟩ = some (.string ⟨#[]⟩) := cell_of_row w5 _ 10 _ 44 (0, 0) hgr.2
        have fz : ∀ i, w5.frozen? ⟨w.heap.size, i, none⟩ = false := fun i => Md.of hgr.2
        obtain ⟨WF, hWF⟩ : ∃ WF, WF = wrm w5 w.heap.size mzz := ⟨_, rfl⟩
        have hblk : WF.heap[w.heap.size]? = some (.cells (mc mzz) 44 (0, 0)) := by rw [hWF]; exact store_allm mzz hgr.2
        have HBF : Hid (Below w.heap.size w WF) := by rw [hWF]; exact below_allm mzz hgr.1 (Nat.le_refl _)
        have HBK := Lib.hid hblk
        have HWF := Lib.hid hWF
        clear hgr hblk hWF
        go_wp2
        have hWF := HWF.out
        unfold wrm at hWF
        rw [← hWF]
        have f0 : WF.cell? ⟨w.heap.size, 0, none⟩ = some (.int .i64 0) := cell_of_row WF _ 0 _ 44 (0, 0) HBK.out
        have f1 : WF.cell? ⟨w.heap.size, 1, none⟩ = some (.int .i64 0) := cell_of_row WF _ 1 _ 44 (0, 0) HBK.out
        have f2 : WF.cell? ⟨w.heap.size, 2, none⟩ = some (.int .i64 0) := cell_of_row WF _ 2 _ 44 (0, 0) HBK.out
        have f3 : WF.cell? ⟨w.heap.size, 3, none⟩ = some (.int .u64 0) := cell_of_row WF _ 3 _ 44 (0, 0) HBK.out
        have f4 : WF.cell? ⟨w.heap.size, 4, none⟩ = some (.int .u64 0) := cell_of_row WF _ 4 _ 44 (0, 0) HBK.out
        have f5 : WF.cell? ⟨w.heap.size, 5, none⟩ = some (.int .u64 0) := cell_of_row WF _ 5 _ 44 (0, 0) HBK.out
        have f6 : WF.cell? ⟨w.heap.size, 6, none⟩ = some (.int .u64 0) := cell_of_row WF _ 6 _ 44 (0, 0) HBK.out
        have f7 : WF.cell? ⟨w.heap.size, 7, none⟩ = some (.int .u64 0) := cell_of_row WF _ 7 _ 44 (0, 0) HBK.out
        have f8 : WF.cell? ⟨w.heap.size, 8, none⟩ = some (.bool false) := cell_of_row WF _ 8 _ 44 (0, 0) HBK.out
        have f9 : WF.cell? ⟨w.heap.size, 9, none⟩ = some (.slice none 0 0) := cell_of_row WF _ 9 _ 44 (0, 0) HBK.out
        have f10 : WF.cell? ⟨w.heap.size, 10, none⟩ = some (.string ⟨#[]⟩) := cell_of_row WF _ 10 _ 44 (0, 0) HBK.out
        exact bodyPost_ret (v := .tuple #[mv mzz, .bool false]) (by simp [results, Tryz.results24, go_sem, f0, f1, f2, f3, f4, f5, f6, f7, f8, f9, f10]) rfl (gmsg_no HOK.out HBF.out)
      | false =>
        rw [if_neg (by decide)] at hpk
        have K98 := Lib.hid (xr_var w1 g p _ T false wr hT)
        have hvl := varV_lt T
        have hlive : Hid (varV T ≠ 0 → (false || !varO T) = false) := fun hv => by
          obtain ⟨l1, l2⟩ := var_live hT.q.sn hv
          rw [l2]; rfl
        obtain ⟨v, hv⟩ : ∃ v, v = varV T := ⟨_, rfl⟩
        obtain ⟨T1, hT1⟩ : ∃ T1, T1 = varT T := ⟨_, rfl⟩
        obtain ⟨bb, hbb⟩ : ∃ bb, bb = (false || !varO T) := ⟨_, rfl⟩
        rw [← hv, ← hT1, ← hbb] at K98 hpk
        rw [← hv] at hvl
        rw [← hv, ← hbb] at hlive
        have HPK := Lib.hid hpk
        clear HP hT hpk hv hT1 hbb hE HT hE2
        by_cases hv0 : v = 0
        · subst hv0
          have HRR : Hid ((E, T1, bb) = R) := by have h := HPK.out; rw [if_pos rfl] at h; exact h
          clear HPK hvl hlive
          go_wp2_with fail
          refine K98.out.mono ?_
          rintro e w3 ⟨rfl, h3⟩
          have HT3 := Lib.hid h3
          clear h3 cg1 K98
          have hRR1 : R.1 = E := by rw [← HRR.out]
          have hRR2 : R.2.2 = bb := by rw [← HRR.out]
          have hel : E.es.length ≤ 10000 := by have := HE2.out; omega
          obtain ⟨hx3, hx4⟩ := HEQ.out A c (by rw [hRR1]; exact HE.out) (by rw [hRR1]; exact hel)
          rw [hRR1, hRR2] at hx3
          rw [hRR1] at hx4
          obtain ⟨M, hM⟩ : ∃ M, M = E.at_ A c := ⟨_, rfl⟩
          have HWD : Hid M.Wide := by show Ms.Wide _; rw [hM]; exact wide_at HE.out A c (by omega)
          have HPR : Hid (gok s = true → M = mPrs s A c) := fun h => by rw [hM, hx4 h]; rfl
          rw [← hM] at hx3 HT3
          obtain ⟨mb, hmb⟩ : ∃ mb, mb = mrightB M := ⟨_, rfl⟩
          obtain ⟨PM, hPM⟩ : ∃ PM, PM = putX M := ⟨_, rfl⟩
          rw [← hmb, ← hPM, ← beq_nums] at hx3
          obtain ⟨te, hte⟩ : ∃ te, te = (PM.toList == s.toList) := ⟨_, rfl⟩
          rw [← hte] at hx3
          have hte2 : (PM.toList == s.toList) = te := hte.symm
          have HGK := Lib.hid hx3
          have K3 : Hid (Calls Tryz.prog 22 #[mv M] w3 fun q w' => q = .returned (.tuple #[.string PM, .bool mb]) ∧ Below w3.heap.size w3 w') := by
            refine (rputM_any M w3 (ents_of_own HT3.out.own HT3.out.hl) HWD.out).mono fun q w' ⟨h1, h2⟩ => ?_
            rw [← hPM, ← hmb] at h1
            exact ⟨h1, h2⟩
          have m0 : w3.cell? ⟨p, 0, none⟩ = some (.int .i64 M.kind) := HT3.out.cell 0
          have m1 : w3.cell? ⟨p, 1, none⟩ = some (.int .i64 M.frm) := HT3.out.cell 1
          have m2 : w3.cell? ⟨p, 2, none⟩ = some (.int .i64 M.dst) := HT3.out.cell 2
          have m3 : w3.cell? ⟨p, 3, none⟩ = some (.int .u64 M.term) := HT3.out.cell 3
          have m4 : w3.cell? ⟨p, 4, none⟩ = some (.int .u64 M.index) := HT3.out.cell 4
          have m5 : w3.cell? ⟨p, 5, none⟩ = some (.int .u64 M.prev) := HT3.out.cell 5
          have m6 : w3.cell? ⟨p, 6, none⟩ = some (.int .u64 M.commit) := HT3.out.cell 6
          have m7 : w3.cell? ⟨p, 7, none⟩ = some (.int .u64 M.mark) := HT3.out.cell 7
          have m8 : w3.cell? ⟨p, 8, none⟩ = some (.bool M.ok) := HT3.out.cell 8
          have m9 : w3.cell? ⟨p, 9, none⟩ = some (.slice M.A M.n M.c) := HT3.out.cell 9
          have m10 : w3.cell? ⟨p, 10, none⟩ = some (.string M.snap) := HT3.out.cell 10
          clear hx3 hx4 hM hmb hPM hte hRR1 hRR2 hel HRR HEQ
          skip
          go_wp2_with fail
          refine K3.out.mono ?_
          rintro e w5 ⟨rfl, b5⟩
          have HT5 := Lib.hid (HT3.out.below b5)
          have cr1 : w5.cell? ⟨g, 1, none⟩ = some (.bool bb) := HT5.out.q.hr.cell1
          clear b5 K3 HT3 m0 m1 m2 m3 m4 m5 m6 m7 m8 m9 m10
          cases bb with
          | true =>
            have HOK : Hid (gok s = false) := HGK.out.symm
            clear HGK
            have hgr := HB2.out w5 HT5.out.q.fr
            have z0 : w5.cell? ⟨w.heap.size, 0, none⟩ = some (.int .i64 0) := cell_of_row w5 _ 0 _ 44 (0, 0) hgr.2
            have z1 : w5.cell? ⟨w.heap.size, 1, none⟩ = some (.int .i64 0) := cell_of_row w5 _ 1 _ 44 (0, 0) hgr.2
            have z2 : w5.cell? ⟨w.heap.size, 2, none⟩ = some (.int .i64 0) := cell_of_row w5 _ 2 _ 44 (0, 0) hgr.2
            have z3 : w5.cell? ⟨w.heap.size, 3, none⟩ = some (.int .u64 0) := cell_of_row w5 _ 3 _ 44 (0, 0) hgr.2
            have z4 : w5.cell? ⟨w.heap.size, 4, none⟩ = some (.int .u64 0) := cell_of_row w5 _ 4 _ 44 (0, 0) hgr.2
            have z5 : w5.cell? ⟨w.heap.size, 5, none⟩ = some (.int .u64 0) := cell_of_row w5 _ 5 _ 44 (0, 0) hgr.2
            have z6 : w5.cell? ⟨w.heap.size, 6, none⟩ = some (.int .u64 0) := cell_of_row w5 _ 6 _ 44 (0, 0) hgr.2
            have z7 : w5.cell? ⟨w.heap.size, 7, none⟩ = some (.int .u64 0) := cell_of_row w5 _ 7 _ 44 (0, 0) hgr.2
            have z8 : w5.cell? ⟨w.heap.size, 8, none⟩ = some (.bool false) := cell_of_row w5 _ 8 _ 44 (0, 0) hgr.2
            have z9 : w5.cell? ⟨w.heap.size, 9, none⟩ = some (.slice none 0 0) := cell_of_row w5 _ 9 _ 44 (0, 0) hgr.2
            have z10 : w5.cell? ⟨w.heap.size, 10, none⟩ = some (.string ⟨#[]⟩) := cell_of_row w5 _ 10 _ 44 (0, 0) hgr.2
            have fz : ∀ i, w5.frozen? ⟨w.heap.size, i, none⟩ = false := fun i => Md.of hgr.2
            obtain ⟨WF, hWF⟩ : ∃ WF, WF = wrm w5 w.heap.size mzz := ⟨_, rfl⟩
            have hblk : WF.heap[w.heap.size]? = some (.cells (mc mzz) 44 (0, 0)) := by rw [hWF]; exact store_allm mzz hgr.2
            have HBF : Hid (Below w.heap.size w WF) := by rw [hWF]; exact below_allm mzz hgr.1 (Nat.le_refl _)
            have HBK := Lib.hid hblk
            have HWF := Lib.hid hWF
            clear hgr hblk hWF
            go_wp2
            have hWF := HWF.out
            unfold wrm at hWF
            rw [← hWF]
            have f0 : WF.cell? ⟨w.heap.size, 0, none⟩ = some (.int .i64 0) := cell_of_row WF _ 0 _ 44 (0, 0) HBK.out
            have f1 : WF.cell? ⟨w.heap.size, 1, none⟩ = some (.int .i64 0) := cell_of_row WF _ 1 _ 44 (0, 0) HBK.out
            have f2 : WF.cell? ⟨w.heap.size, 2, none⟩ = some (.int .i64 0) := cell_of_row WF _ 2 _ 44 (0, 0) HBK.out
            have f3 : WF.cell? ⟨w.heap.size, 3, none⟩ = some (.int .u64 0) := cell_of_row WF _ 3 _ 44 (0, 0) HBK.out
            have f4 : WF.cell? ⟨w.heap.size, 4, none⟩ = some (.int .u64 0) := cell_of_row WF _ 4 _ 44 (0, 0) HBK.out
            have f5 : WF.cell? ⟨w.heap.size, 5, none⟩ = some (.int .u64 0) := cell_of_row WF _ 5 _ 44 (0, 0) HBK.out
            have f6 : WF.cell? ⟨w.heap.size, 6, none⟩ = some (.int .u64 0) := cell_of_row WF _ 6 _ 44 (0, 0) HBK.out
            have f7 : WF.cell? ⟨w.heap.size, 7, none⟩ = some (.int .u64 0) := cell_of_row WF _ 7 _ 44 (0, 0) HBK.out
            have f8 : WF.cell? ⟨w.heap.size, 8, none⟩ = some (.bool false) := cell_of_row WF _ 8 _ 44 (0, 0) HBK.out
            have f9 : WF.cell? ⟨w.heap.size, 9, none⟩ = some (.slice none 0 0) := cell_of_row WF _ 9 _ 44 (0, 0) HBK.out
            have f10 : WF.cell? ⟨w.heap.size, 10, none⟩ = some (.string ⟨#[]⟩) := cell_of_row WF _ 10 _ 44 (0, 0) HBK.out
            exact bodyPost_ret (v := .tuple #[mv mzz, .bool false]) (by simp [results, Tryz.results24, go_sem, f0, f1, f2, f3, f4, f5, f6, f7, f8, f9, f10]) rfl (gmsg_no HOK.out HBF.out)
          | false =>
            cases mb with
            | false =>
              have HOK : Hid (gok s = false) := HGK.out.symm
              clear HGK
              have hgr := HB2.out w5 HT5.out.q.fr
              have z0 : w5.cell? ⟨w.heap.size, 0, none⟩ = some (.int .i64 0) := cell_of_row w5 _ 0 _ 44 (0, 0) hgr.2
              have z1 : w5.cell? ⟨w.heap.size, 1, none⟩ = some (.int .i64 0) := cell_of_row w5 _ 1 _ 44 (0, 0) hgr.2
              have z2 : w5.cell? ⟨w.heap.size, 2, none⟩ = some (.int .i64 0) := cell_of_row w5 _ 2 _ 44 (0, 0) hgr.2
              have z3 : w5.cell? ⟨w.heap.size, 3, none⟩ = some (.int .u64 0) := cell_of_row w5 _ 3 _ 44 (0, 0) hgr.2
              have z4 : w5.cell? ⟨w.heap.size, 4, none⟩ = some (.int .u64 0) := cell_of_row w5 _ 4 _ 44 (0, 0) hgr.2
              have z5 : w5.cell? ⟨w.heap.size, 5, none⟩ = some (.int .u64 0) := cell_of_row w5 _ 5 _ 44 (0, 0) hgr.2
              have z6 : w5.cell? ⟨w.heap.size, 6, none⟩ = some (.int .u64 0) := cell_of_row w5 _ 6 _ 44 (0, 0) hgr.2
              have z7 : w5.cell? ⟨w.heap.size, 7, none⟩ = some (.int .u64 0) := cell_of_row w5 _ 7 _ 44 (0, 0) hgr.2
              have z8 : w5.cell? ⟨w.heap.size, 8, none⟩ = some (.bool false) := cell_of_row w5 _ 8 _ 44 (0, 0) hgr.2
              have z9 : w5.cell? ⟨w.heap.size, 9, none⟩ = some (.slice none 0 0) := cell_of_row w5 _ 9 _ 44 (0, 0) hgr.2
              have z10 : w5.cell? ⟨w.heap.size, 10, none⟩ = some (.string ⟨#[]⟩) := cell_of_row w5 _ 10 _ 44 (0, 0) hgr.2
              have fz : ∀ i, w5.frozen? ⟨w.heap.size, i, none⟩ = false := fun i => Md.of hgr.2
              obtain ⟨WF, hWF⟩ : ∃ WF, WF = wrm w5 w.heap.size mzz := ⟨_, rfl⟩
              have hblk : WF.heap[w.heap.size]? = some (.cells (mc mzz) 44 (0, 0)) := by rw [hWF]; exact store_allm mzz hgr.2
              have HBF : Hid (Below w.heap.size w WF) := by rw [hWF]; exact below_allm mzz hgr.1 (Nat.le_refl _)
              have HBK := Lib.hid hblk
              have HWF := Lib.hid hWF
              clear hgr hblk hWF
              go_wp2
              have hWF := HWF.out
              unfold wrm at hWF
              rw [← hWF]
              have f0 : WF.cell? ⟨w.heap.size, 0, none⟩ = some (.int .i64 0) := cell_of_row WF _ 0 _ 44 (0, 0) HBK.out
              have f1 : WF.cell? ⟨w.heap.size, 1, none⟩ = some (.int .i64 0) := cell_of_row WF _ 1 _ 44 (0, 0) HBK.out
              have f2 : WF.cell? ⟨w.heap.size, 2, none⟩ = some (.int .i64 0) := cell_of_row WF _ 2 _ 44 (0, 0) HBK.out
              have f3 : WF.cell? ⟨w.heap.size, 3, none⟩ = some (.int .u64 0) := cell_of_row WF _ 3 _ 44 (0, 0) HBK.out
              have f4 : WF.cell? ⟨w.heap.size, 4, none⟩ = some (.int .u64 0) := cell_of_row WF _ 4 _ 44 (0, 0) HBK.out
              have f5 : WF.cell? ⟨w.heap.size, 5, none⟩ = some (.int .u64 0) := cell_of_row WF _ 5 _ 44 (0, 0) HBK.out
              have f6 : WF.cell? ⟨w.heap.size, 6, none⟩ = some (.int .u64 0) := cell_of_row WF _ 6 _ 44 (0, 0) HBK.out
              have f7 : WF.cell? ⟨w.heap.size, 7, none⟩ = some (.int .u64 0) := cell_of_row WF _ 7 _ 44 (0, 0) HBK.out
              have f8 : WF.cell? ⟨w.heap.size, 8, none⟩ = some (.bool false) := cell_of_row WF _ 8 _ 44 (0, 0) HBK.out
              have f9 : WF.cell? ⟨w.heap.size, 9, none⟩ = some (.slice none 0 0) := cell_of_row WF _ 9 _ 44 (0, 0) HBK.out
              have f10 : WF.cell? ⟨w.heap.size, 10, none⟩ = some (.string ⟨#[]⟩) := cell_of_row WF _ 10 _ 44 (0, 0) HBK.out
              exact bodyPost_ret (v := .tuple #[mv mzz, .bool false]) (by simp [results, Tryz.results24, go_sem, f0, f1, f2, f3, f4, f5, f6, f7, f8, f9, f10]) rfl (gmsg_no HOK.out HBF.out)
            | true =>
              cases te with
              | false =>
                have HOK : Hid (gok s = false) := HGK.out.symm
                clear HGK
                have hgr := HB2.out w5 HT5.out.q.fr
                have z0 : w5.cell? ⟨w.heap.size, 0, none⟩ = some (.int .i64 0) := cell_of_row w5 _ 0 _ 44 (0, 0) hgr.2
                have z1 : w5.cell? ⟨w.heap.size, 1, none⟩ = some (.int .i64 0) := cell_of_row w5 _ 1 _ 44 (0, 0) hgr.2
                have z2 : w5.cell? ⟨w.heap.size, 2, none⟩ = some (.int .i64 0) := cell_of_row w5 _ 2 _ 44 (0, 0) hgr.2
                have z3 : w5.cell? ⟨w.heap.size, 3, none⟩ = some (.int .u64 0) := cell_of_row w5 _ 3 _ 44 (0, 0) hgr.2
                have z4 : w5.cell? ⟨w.heap.size, 4, none⟩ = some (.int .u64 0) := cell_of_row w5 _ 4 _ 44 (0, 0) hgr.2
                have z5 : w5.cell? ⟨w.heap.size, 5, none⟩ = some (.int .u64 0) := cell_of_row w5 _ 5 _ 44 (0, 0) hgr.2
                have z6 : w5.cell? ⟨w.heap.size, 6, none⟩ = some (.int .u64 0) := cell_of_row w5 _ 6 _ 44 (0, 0) hgr.2
                have z7 : w5.cell? ⟨w.heap.size, 7, none⟩ = some (.int .u64 0) := cell_of_row w5 _ 7 _ 44 (0, 0) hgr.2
                have z8 : w5.cell? ⟨w.heap.size, 8, none⟩ = some (.bool false) := cell_of_row w5 _ 8 _ 44 (0, 0) hgr.2
                have z9 : w5.cell? ⟨w.heap.size, 9, none⟩ = some (.slice none 0 0) := cell_of_row w5 _ 9 _ 44 (0, 0) hgr.2
                have z10 : w5.cell? ⟨w.heap.size, 10, none⟩ = some (.string ⟨#[]⟩) := cell_of_row w5 _ 10 _ 44 (0, 0) hgr.2
                have fz : ∀ i, w5.frozen? ⟨w.heap.size, i, none⟩ = false := fun i => Md.of hgr.2
                obtain ⟨WF, hWF⟩ : ∃ WF, WF = wrm w5 w.heap.size mzz := ⟨_, rfl⟩
                have hblk : WF.heap[w.heap.size]? = some (.cells (mc mzz) 44 (0, 0)) := by rw [hWF]; exact store_allm mzz hgr.2
                have HBF : Hid (Below w.heap.size w WF) := by rw [hWF]; exact below_allm mzz hgr.1 (Nat.le_refl _)
                have HBK := Lib.hid hblk
                have HWF := Lib.hid hWF
                clear hgr hblk hWF
                go_wp2
                have hWF := HWF.out
                unfold wrm at hWF
                rw [← hWF]
                have f0 : WF.cell? ⟨w.heap.size, 0, none⟩ = some (.int .i64 0) := cell_of_row WF _ 0 _ 44 (0, 0) HBK.out
                have f1 : WF.cell? ⟨w.heap.size, 1, none⟩ = some (.int .i64 0) := cell_of_row WF _ 1 _ 44 (0, 0) HBK.out
                have f2 : WF.cell? ⟨w.heap.size, 2, none⟩ = some (.int .i64 0) := cell_of_row WF _ 2 _ 44 (0, 0) HBK.out
                have f3 : WF.cell? ⟨w.heap.size, 3, none⟩ = some (.int .u64 0) := cell_of_row WF _ 3 _ 44 (0, 0) HBK.out
                have f4 : WF.cell? ⟨w.heap.size, 4, none⟩ = some (.int .u64 0) := cell_of_row WF _ 4 _ 44 (0, 0) HBK.out
                have f5 : WF.cell? ⟨w.heap.size, 5, none⟩ = some (.int .u64 0) := cell_of_row WF _ 5 _ 44 (0, 0) HBK.out
                have f6 : WF.cell? ⟨w.heap.size, 6, none⟩ = some (.int .u64 0) := cell_of_row WF _ 6 _ 44 (0, 0) HBK.out
                have f7 : WF.cell? ⟨w.heap.size, 7, none⟩ = some (.int .u64 0) := cell_of_row WF _ 7 _ 44 (0, 0) HBK.out
                have f8 : WF.cell? ⟨w.heap.size, 8, none⟩ = some (.bool false) := cell_of_row WF _ 8 _ 44 (0, 0) HBK.out
                have f9 : WF.cell? ⟨w.heap.size, 9, none⟩ = some (.slice none 0 0) := cell_of_row WF _ 9 _ 44 (0, 0) HBK.out
                have f10 : WF.cell? ⟨w.heap.size, 10, none⟩ = some (.string ⟨#[]⟩) := cell_of_row WF _ 10 _ 44 (0, 0) HBK.out
                exact bodyPost_ret (v := .tuple #[mv mzz, .bool false]) (by simp [results, Tryz.results24, go_sem, f0, f1, f2, f3, f4, f5, f6, f7, f8, f9, f10]) rfl (gmsg_no HOK.out HBF.out)
              | true =>
                have HOK : Hid (gok s = true) := HGK.out.symm
                clear HGK
                have hgr := HB2.out w5 HT5.out.q.fr
                have z0 : w5.cell? ⟨w.heap.size, 0, none⟩ = some (.int .i64 0) := cell_of_row w5 _ 0 _ 44 (0, 0) hgr.2
                have z1 : w5.cell? ⟨w.heap.size, 1, none⟩ = some (.int .i64 0) := cell_of_row w5 _ 1 _ 44 (0, 0) hgr.2
                have z2 : w5.cell? ⟨w.heap.size, 2, none⟩ = some (.int .i64 0) := cell_of_row w5 _ 2 _ 44 (0, 0) hgr.2
                have z3 : w5.cell? ⟨w.heap.size, 3, none⟩ = some (.int .u64 0) := cell_of_row w5 _ 3 _ 44 (0, 0) hgr.2
                have z4 : w5.cell? ⟨w.heap.size, 4, none⟩ = some (.int .u64 0) := cell_of_row w5 _ 4 _ 44 (0, 0) hgr.2
                have z5 : w5.cell? ⟨w.heap.size, 5, none⟩ = some (.int .u64 0) := cell_of_row w5 _ 5 _ 44 (0, 0) hgr.2
                have z6 : w5.cell? ⟨w.heap.size, 6, none⟩ = some (.int .u64 0) := cell_of_row w5 _ 6 _ 44 (0, 0) hgr.2
                have z7 : w5.cell? ⟨w.heap.size, 7, none⟩ = some (.int .u64 0) := cell_of_row w5 _ 7 _ 44 (0, 0) hgr.2
                have z8 : w5.cell? ⟨w.heap.size, 8, none⟩ = some (.bool false) := cell_of_row w5 _ 8 _ 44 (0, 0) hgr.2
                have z9 : w5.cell? ⟨w.heap.size, 9, none⟩ = some (.slice none 0 0) := cell_of_row w5 _ 9 _ 44 (0, 0) hgr.2
                have z10 : w5.cell? ⟨w.heap.size, 10, none⟩ = some (.string ⟨#[]⟩) := cell_of_row w5 _ 10 _ 44 (0, 0) hgr.2
                have m0 : w5.cell? ⟨p, 0, none⟩ = some (.int .i64 M.kind) := HT5.out.cell 0
                have m1 : w5.cell? ⟨p, 1, none⟩ = some (.int .i64 M.frm) := HT5.out.cell 1
                have m2 : w5.cell? ⟨p, 2, none⟩ = some (.int .i64 M.dst) := HT5.out.cell 2
                have m3 : w5.cell? ⟨p, 3, none⟩ = some (.int .u64 M.term) := HT5.out.cell 3
                have m4 : w5.cell? ⟨p, 4, none⟩ = some (.int .u64 M.index) := HT5.out.cell 4
                have m5 : w5.cell? ⟨p, 5, none⟩ = some (.int .u64 M.prev) := HT5.out.cell 5
                have m6 : w5.cell? ⟨p, 6, none⟩ = some (.int .u64 M.commit) := HT5.out.cell 6
                have m7 : w5.cell? ⟨p, 7, none⟩ = some (.int .u64 M.mark) := HT5.out.cell 7
                have m8 : w5.cell? ⟨p, 8, none⟩ = some (.bool M.ok) := HT5.out.cell 8
                have m9 : w5.cell? ⟨p, 9, none⟩ = some (.slice M.A M.n M.c) := HT5.out.cell 9
                have m10 : w5.cell? ⟨p, 10, none⟩ = some (.string M.snap) := HT5.out.cell 10
                have fz : ∀ i, w5.frozen? ⟨w.heap.size, i, none⟩ = false := fun i => Md.of hgr.2
                obtain ⟨WF, hWF⟩ : ∃ WF, WF = wrm w5 w.heap.size M := ⟨_, rfl⟩
                have hblk : WF.heap[w.heap.size]? = some (.cells (mc M) 44 (0, 0)) := by rw [hWF]; exact store_allm M hgr.2
                have HBF : Hid (Below w.heap.size w WF) := by rw [hWF]; exact below_allm M hgr.1 (Nat.le_refl _)
                have HEF : Hid (Ents WF.heap.size M.A M.n M.es WF) := by
                  have h1 := ents_of_own HT5.out.own HT5.out.hl
                  have h2 := ents_wrm2 (g := w.heap.size) M h1 (fun a ha => by have h3 := (HT5.out.own.lt a.block (by rw [ha]; rfl)).1; have h4 := HPP.out; omega)
                  have hz := size_wrm w5 w.heap.size M
                  rw [← hz, ← hWF] at h2
                  exact h2
                have HBK := Lib.hid hblk
                have HWF := Lib.hid hWF
                clear hgr hblk hWF
                go_wp2
                have hWF := HWF.out
                unfold wrm at hWF
                rw [← hWF]
                have f0 : WF.cell? ⟨w.heap.size, 0, none⟩ = some (.int .i64 M.kind) := cell_of_row WF _ 0 _ 44 (0, 0) HBK.out
                have f1 : WF.cell? ⟨w.heap.size, 1, none⟩ = some (.int .i64 M.frm) := cell_of_row WF _ 1 _ 44 (0, 0) HBK.out
                have f2 : WF.cell? ⟨w.heap.size, 2, none⟩ = some (.int .i64 M.dst) := cell_of_row WF _ 2 _ 44 (0, 0) HBK.out
                have f3 : WF.cell? ⟨w.heap.size, 3, none⟩ = some (.int .u64 M.term) := cell_of_row WF _ 3 _ 44 (0, 0) HBK.out
                have f4 : WF.cell? ⟨w.heap.size, 4, none⟩ = some (.int .u64 M.index) := cell_of_row WF _ 4 _ 44 (0, 0) HBK.out
                have f5 : WF.cell? ⟨w.heap.size, 5, none⟩ = some (.int .u64 M.prev) := cell_of_row WF _ 5 _ 44 (0, 0) HBK.out
                have f6 : WF.cell? ⟨w.heap.size, 6, none⟩ = some (.int .u64 M.commit) := cell_of_row WF _ 6 _ 44 (0, 0) HBK.out
                have f7 : WF.cell? ⟨w.heap.size, 7, none⟩ = some (.int .u64 M.mark) := cell_of_row WF _ 7 _ 44 (0, 0) HBK.out
                have f8 : WF.cell? ⟨w.heap.size, 8, none⟩ = some (.bool M.ok) := cell_of_row WF _ 8 _ 44 (0, 0) HBK.out
                have f9 : WF.cell? ⟨w.heap.size, 9, none⟩ = some (.slice M.A M.n M.c) := cell_of_row WF _ 9 _ 44 (0, 0) HBK.out
                have f10 : WF.cell? ⟨w.heap.size, 10, none⟩ = some (.string M.snap) := cell_of_row WF _ 10 _ 44 (0, 0) HBK.out
                exact bodyPost_ret (v := .tuple #[mv M, .bool true]) (by simp [results, Tryz.results24, go_sem, f0, f1, f2, f3, f4, f5, f6, f7, f8, f9, f10]) rfl ⟨M, by rw [HOK.out], HEF.out, HWD.out, HBF.out, fun h => ⟨A, c, HPR.out h⟩, fun h => by rw [HOK.out] at h; cases h⟩
        · have e0 : ((v : Int) == 0) = false := by simp; omega
          have hb0 := hlive.out hv0
          have HRR : Hid (rk mR m (mR v E T1).1 (mR v E T1).2.1 (!(mR v E T1).2.2) = R) := by have h := HPK.out; rw [if_neg hv0, hb0, Bool.false_or] at h; exact h
          rw [hb0] at K98
          clear HPK hlive hb0
          go_wp2_with fail
          refine K98.out.mono ?_
          rintro e w3 ⟨rfl, h3⟩
          have HW := Lib.hid (mR_wide (t := v) (T := T1) HE.out h3.q.sz)
          have hel : E.es.length ≤ 10000 := by have := HE2.out; omega
          clear cg1 K98
          by_cases hv11 : v ≤ 11
          · have hv1 : 1 ≤ v := by omega
            rcases tag_cases hv1 hv11 with rfl | rfl | rfl | rfl | rfl | rfl | rfl | rfl | rfl | rfl | rfl
            · have KD := Lib.hid (rtakm1_any w1 g p E A c T1 w3 h3)
              clear h3
              go_wp2_with fail
              refine KD.out.mono ?_
              rintro e w4 ⟨rfl, h4⟩
              go_wp2
              go_roundw
              case rel => exact ⟨k + 1, m, _, _, _, _, _, by omega, by go_num, HRR, h4, HW.out.1, Nat.le_trans HW.out.2 (by have := HE2.out; omega)⟩
              case measure => simp [intOf]; omega
            · have KD := Lib.hid (rtakm2_any w1 g p E A c T1 w3 h3)
              clear h3
              go_wp2_with fail
              refine KD.out.mono ?_
              rintro e w4 ⟨rfl, h4⟩
              go_wp2
              go_roundw
              case rel => exact ⟨k + 1, m, _, _, _, _, _, by omega, by go_num, HRR, h4, HW.out.1, Nat.le_trans HW.out.2 (by have := HE2.out; omega)⟩
              case measure => simp [intOf]; omega
            · have KD := Lib.hid (rtakm3_any w1 g p E A c T1 w3 h3)
              clear h3
              go_wp2_with fail
              refine KD.out.mono ?_
              rintro e w4 ⟨rfl, h4⟩
              go_wp2
              go_roundw
              case rel => exact ⟨k + 1, m, _, _, _, _, _, by omega, by go_num, HRR, h4, HW.out.1, Nat.le_trans HW.out.2 (by have := HE2.out; omega)⟩
              case measure => simp [intOf]; omega
            · have KD := Lib.hid (rtakm4_any w1 g p E A c T1 w3 h3)
              clear h3
              go_wp2_with fail
              refine KD.out.mono ?_
              rintro e w4 ⟨rfl, h4⟩
              go_wp2
              go_roundw
              case rel => exact ⟨k + 1, m, _, _, _, _, _, by omega, by go_num, HRR, h4, HW.out.1, Nat.le_trans HW.out.2 (by have := HE2.out; omega)⟩
              case measure => simp [intOf]; omega
            · have KD := Lib.hid (rtakm5_any w1 g p E A c T1 w3 h3)
              clear h3
              go_wp2_with fail
              refine KD.out.mono ?_
              rintro e w4 ⟨rfl, h4⟩
              go_wp2
              go_roundw
              case rel => exact ⟨k + 1, m, _, _, _, _, _, by omega, by go_num, HRR, h4, HW.out.1, Nat.le_trans HW.out.2 (by have := HE2.out; omega)⟩
              case measure => simp [intOf]; omega
            · have KD := Lib.hid (rtakm6_any w1 g p E A c T1 w3 h3)
              clear h3
              go_wp2_with fail
              refine KD.out.mono ?_
              rintro e w4 ⟨rfl, h4⟩
              go_wp2
              go_roundw
              case rel => exact ⟨k + 1, m, _, _, _, _, _, by omega, by go_num, HRR, h4, HW.out.1, Nat.le_trans HW.out.2 (by have := HE2.out; omega)⟩
              case measure => simp [intOf]; omega
            · have KD := Lib.hid (rtakm7_any w1 g p E A c T1 w3 h3)
              clear h3
              go_wp2_with fail
              refine KD.out.mono ?_
              rintro e w4 ⟨rfl, h4⟩
              go_wp2
              go_roundw
              case rel => exact ⟨k + 1, m, _, _, _, _, _, by omega, by go_num, HRR, h4, HW.out.1, Nat.le_trans HW.out.2 (by have := HE2.out; omega)⟩
              case measure => simp [intOf]; omega
            · have KD := Lib.hid (rtakm8_any w1 g p E A c T1 w3 h3)
              clear h3
              go_wp2_with fail
              refine KD.out.mono ?_
              rintro e w4 ⟨rfl, h4⟩
              go_wp2
              go_roundw
              case rel => exact ⟨k + 1, m, _, _, _, _, _, by omega, by go_num, HRR, h4, HW.out.1, Nat.le_trans HW.out.2 (by have := HE2.out; omega)⟩
              case measure => simp [intOf]; omega
            · have KD := Lib.hid (rtakm9_any w1 g p E A c T1 w3 h3)
              clear h3
              go_wp2_with fail
              refine KD.out.mono ?_
              rintro e w4 ⟨rfl, h4⟩
              go_wp2
              go_roundw
              case rel => exact ⟨k + 1, m, _, _, _, _, _, by omega, by go_num, HRR, h4, HW.out.1, Nat.le_trans HW.out.2 (by have := HE2.out; omega)⟩
              case measure => simp [intOf]; omega
            · have KD := Lib.hid (rtakm10_any w1 g p E A c T1 w3 h3)
              clear h3
              go_wp2_with fail
              refine KD.out.mono ?_
              rintro e w4 ⟨rfl, h4⟩
              go_wp2
              go_roundw
              case rel => exact ⟨k + 1, m, _, _, _, _, _, by omega, by go_num, HRR, h4, HW.out.1, Nat.le_trans HW.out.2 (by have := HE2.out; omega)⟩
              case measure => simp [intOf]; omega
            · have KD := Lib.hid (rtakm11_any w1 g p E A c T1 w3 h3 hel)
              clear h3
              go_wp2_with fail
              refine KD.out.mono ?_
              rintro e w4 ⟨rfl, A4, c4, h4⟩
              go_wp2
              go_roundw
              case rel => exact ⟨k + 1, m, _, _, _, _, _, by omega, by go_num, HRR, h4, HW.out.1, Nat.le_trans HW.out.2 (by have := HE2.out; omega)⟩
              case measure => simp [intOf]; omega
          · have KD := Lib.hid (rtakmD_any w1 g p E A c T1 w3 v (by omega) h3)
            clear h3
            go_wp2_with fail
            refine KD.out.mono ?_
            rintro e w4 ⟨rfl, h4⟩
            go_wp2
            go_roundw
            case rel => exact ⟨k + 1, m, _, _, _, _, _, by omega, by go_num, HRR, h4, HW.out.1, Nat.le_trans HW.out.2 (by have := HE2.out; omega)⟩
            case measure => simp [intOf]; omega
    · have t1 : decide ((k : Int) < 12) = false := decide_eq_false (by omega)
      have t1' : decide (k < 12) = false := decide_eq_false hk
      have hn0 : n = 0 := by omega
      subst hn0
      have HRR : Hid ((E, T, b) = R) := HP.out
      clear HP hT hE hE2
      obtain ⟨T1, hT1⟩ : ∃ T1, T1 = T := ⟨_, rfl⟩
      obtain ⟨bb, hbb⟩ : ∃ bb, bb = b := ⟨_, rfl⟩
      have HT3 := HT
      obtain ⟨w3, hw3⟩ : ∃ w3, w3 = wr := ⟨_, rfl⟩
      rw [← hT1, ← hbb] at HRR HT3
      rw [← hw3] at HT3 cg1 ⊢
      rw [← hbb] at cg1
      clear HT hw3 hT1 hbb
      have hRR1 : R.1 = E := by rw [← HRR.out]
      have hRR2 : R.2.2 = bb := by rw [← HRR.out]
      have hel : E.es.length ≤ 10000 := by have := HE2.out; omega
      obtain ⟨hx3, hx4⟩ := HEQ.out A c (by rw [hRR1]; exact HE.out) (by rw [hRR1]; exact hel)
      rw [hRR1, hRR2] at hx3
      rw [hRR1] at hx4
      obtain ⟨M, hM⟩ : ∃ M, M = E.at_ A c := ⟨_, rfl⟩
      have HWD : Hid M.Wide := by show Ms.Wide _; rw [hM]; exact wide_at HE.out A c (by omega)
      have HPR : Hid (gok s = true → M = mPrs s A c) := fun h => by rw [hM, hx4 h]; rfl
      rw [← hM] at hx3 HT3
      obtain ⟨mb, hmb⟩ : ∃ mb, mb = mrightB M := ⟨_, rfl⟩
      obtain ⟨PM, hPM⟩ : ∃ PM, PM = putX M := ⟨_, rfl⟩
      rw [← hmb, ← hPM, ← beq_nums] at hx3
      obtain ⟨te, hte⟩ : ∃ te, te = (PM.toList == s.toList) := ⟨_, rfl⟩
      rw [← hte] at hx3
      have hte2 : (PM.toList == s.toList) = te := hte.symm
      have HGK := Lib.hid hx3
      have K3 : Hid (Calls Tryz.prog 22 #[mv M] w3 fun q w' => q = .returned (.tuple #[.string PM, .bool mb]) ∧ Below w3.heap.size w3 w') := by
        refine (rputM_any M w3 (ents_of_own HT3.out.own HT3.out.hl) HWD.out).mono fun q w' ⟨h1, h2⟩ => ?_
        rw [← hPM, ← hmb] at h1
        exact ⟨h1, h2⟩
      have m0 : w3.cell? ⟨p, 0, none⟩ = some (.int .i64 M.kind) := HT3.out.cell 0
      have m1 : w3.cell? ⟨p, 1, none⟩ = some (.int .i64 M.frm) := HT3.out.cell 1
      have m2 : w3.cell? ⟨p, 2, none⟩ = some (.int .i64 M.dst) := HT3.out.cell 2
      have m3 : w3.cell? ⟨p, 3, none⟩ = some (.int .u64 M.term) := HT3.out.cell 3
      have m4 : w3.cell? ⟨p, 4, none⟩ = some (.int .u64 M.index) := HT3.out.cell 4
      have m5 : w3.cell? ⟨p, 5, none⟩ = some (.int .u64 M.prev) := HT3.out.cell 5
      have m6 : w3.cell? ⟨p, 6, none⟩ = some (.int .u64 M.commit) := HT3.out.cell 6
      have m7 : w3.cell? ⟨p, 7, none⟩ = some (.int .u64 M.mark) := HT3.out.cell 7
      have m8 : w3.cell? ⟨p, 8, none⟩ = some (.bool M.ok) := HT3.out.cell 8
      have m9 : w3.cell? ⟨p, 9, none⟩ = some (.slice M.A M.n M.c) := HT3.out.cell 9
      have m10 : w3.cell? ⟨p, 10, none⟩ = some (.string M.snap) := HT3.out.cell 10
      clear hx3 hx4 hM hmb hPM hte hRR1 hRR2 hel HRR HEQ
      skip
      go_wp2_with fail
      refine K3.out.mono ?_
      rintro e w5 ⟨rfl, b5⟩
      have HT5 := Lib.hid (HT3.out.below b5)
      have cr1 : w5.cell? ⟨g, 1, none⟩ = some (.bool bb) := HT5.out.q.hr.cell1
      clear b5 K3 HT3 m0 m1 m2 m3 m4 m5 m6 m7 m8 m9 m10
      cases bb with
      | true =>
        have HOK : Hid (gok s = false) := HGK.out.symm
        clear HGK
        have hgr := HB2.out w5 HT5.out.q.fr
        have z0 : w5.cell? ⟨w.heap.size, 0, none⟩ = some (.int .i64 0) := cell_of_row w5 _ 0 _ 44 (0, 0) hgr.2
        have z1 : w5.cell? ⟨w.heap.size, 1, none⟩ = some (.int .i64 0) := cell_of_row w5 _ 1 _ 44 (0, 0) hgr.2
        have z2 : w5.cell? ⟨w.heap.size, 2, none⟩ = some (.int .i64 0) := cell_of_row w5 _ 2 _ 44 (0, 0) hgr.2
        have z3 : w5.cell? ⟨w.heap.size, 3, none⟩ = some (.int .u64 0) := cell_of_row w5 _ 3 _ 44 (0, 0) hgr.2
        have z4 : w5.cell? ⟨w.heap.size, 4, none⟩ = some (.int .u64 0) := cell_of_row w5 _ 4 _ 44 (0, 0) hgr.2
        have z5 : w5.cell? ⟨w.heap.size, 5, none⟩ = some (.int .u64 0) := cell_of_row w5 _ 5 _ 44 (0, 0) hgr.2
        have z6 : w5.cell? ⟨w.heap.size, 6, none⟩ = some (.int .u64 0) := cell_of_row w5 _ 6 _ 44 (0, 0) hgr.2
        have z7 : w5.cell? ⟨w.heap.size, 7, none⟩ = some (.int .u64 0) := cell_of_row w5 _ 7 _ 44 (0, 0) hgr.2
        have z8 : w5.cell? ⟨w.heap.size, 8, none⟩ = some (.bool false) := cell_of_row w5 _ 8 _ 44 (0, 0) hgr.2
        have z9 : w5.cell? ⟨w.heap.size, 9, none⟩ = some (.slice none 0 0) := cell_of_row w5 _ 9 _ 44 (0, 0) hgr.2
        have z10 : w5.cell? ⟨w.heap.size, 10, none⟩ = some (.string ⟨#[]⟩) := cell_of_row w5 _ 10 _ 44 (0, 0) hgr.2
        have fz : ∀ i, w5.frozen? ⟨w.heap.size, i, none⟩ = false := fun i => Md.of hgr.2
        obtain ⟨WF, hWF⟩ : ∃ WF, WF = wrm w5 w.heap.size mzz := ⟨_, rfl⟩
        have hblk : WF.heap[w.heap.size]? = some (.cells (mc mzz) 44 (0, 0)) := by rw [hWF]; exact store_allm mzz hgr.2
        have HBF : Hid (Below w.heap.size w WF) := by rw [hWF]; exact below_allm mzz hgr.1 (Nat.le_refl _)
        have HBK := Lib.hid hblk
        have HWF := Lib.hid hWF
        clear hgr hblk hWF
        go_wp2
        have hWF := HWF.out
        unfold wrm at hWF
        rw [← hWF]
        have f0 : WF.cell? ⟨w.heap.size, 0, none⟩ = some (.int .i64 0) := cell_of_row WF _ 0 _ 44 (0, 0) HBK.out
        have f1 : WF.cell? ⟨w.heap.size, 1, none⟩ = some (.int .i64 0) := cell_of_row WF _ 1 _ 44 (0, 0) HBK.out
        have f2 : WF.cell? ⟨w.heap.size, 2, none⟩ = some (.int .i64 0) := cell_of_row WF _ 2 _ 44 (0, 0) HBK.out
        have f3 : WF.cell? ⟨w.heap.size, 3, none⟩ = some (.int .u64 0) := cell_of_row WF _ 3 _ 44 (0, 0) HBK.out
        have f4 : WF.cell? ⟨w.heap.size, 4, none⟩ = some (.int .u64 0) := cell_of_row WF _ 4 _ 44 (0, 0) HBK.out
        have f5 : WF.cell? ⟨w.heap.size, 5, none⟩ = some (.int .u64 0) := cell_of_row WF _ 5 _ 44 (0, 0) HBK.out
        have f6 : WF.cell? ⟨w.heap.size, 6, none⟩ = some (.int .u64 0) := cell_of_row WF _ 6 _ 44 (0, 0) HBK.out
        have f7 : WF.cell? ⟨w.heap.size, 7, none⟩ = some (.int .u64 0) := cell_of_row WF _ 7 _ 44 (0, 0) HBK.out
        have f8 : WF.cell? ⟨w.heap.size, 8, none⟩ = some (.bool false) := cell_of_row WF _ 8 _ 44 (0, 0) HBK.out
        have f9 : WF.cell? ⟨w.heap.size, 9, none⟩ = some (.slice none 0 0) := cell_of_row WF _ 9 _ 44 (0, 0) HBK.out
        have f10 : WF.cell? ⟨w.heap.size, 10, none⟩ = some (.string ⟨#[]⟩) := cell_of_row WF _ 10 _ 44 (0, 0) HBK.out
        exact bodyPost_ret (v := .tuple #[mv mzz, .bool false]) (by simp [results, Tryz.results24, go_sem, f0, f1, f2, f3, f4, f5, f6, f7, f8, f9, f10]) rfl (gmsg_no HOK.out HBF.out)
      | false =>
        cases mb with
        | false =>
          have HOK : Hid (gok s = false) := HGK.out.symm
          clear HGK
          have hgr := HB2.out w5 HT5.out.q.fr
          have z0 : w5.cell? ⟨w.heap.size, 0, none⟩ = some (.int .i64 0) := cell_of_row w5 _ 0 _ 44 (0, 0) hgr.2
          have z1 : w5.cell? ⟨w.heap.size, 1, none⟩ = some (.int .i64 0) := cell_of_row w5 _ 1 _ 44 (0, 0) hgr.2
          have z2 : w5.cell? ⟨w.heap.size, 2, none⟩ = some (.int .i64 0) := cell_of_row w5 _ 2 _ 44 (0, 0) hgr.2
          have z3 : w5.cell? ⟨w.heap.size, 3, none⟩ = some (.int .u64 0) := cell_of_row w5 _ 3 _ 44 (0, 0) hgr.2
          have z4 : w5.cell? ⟨w.heap.size, 4, none⟩ = some (.int .u64 0) := cell_of_row w5 _ 4 _ 44 (0, 0) hgr.2
          have z5 : w5.cell? ⟨w.heap.size, 5, none⟩ = some (.int .u64 0) := cell_of_row w5 _ 5 _ 44 (0, 0) hgr.2
          have z6 : w5.cell? ⟨w.heap.size, 6, none⟩ = some (.int .u64 0) := cell_of_row w5 _ 6 _ 44 (0, 0) hgr.2
          have z7 : w5.cell? ⟨w.heap.size, 7, none⟩ = some (.int .u64 0) := cell_of_row w5 _ 7 _ 44 (0, 0) hgr.2
          have z8 : w5.cell? ⟨w.heap.size, 8, none⟩ = some (.bool false) := cell_of_row w5 _ 8 _ 44 (0, 0) hgr.2
          have z9 : w5.cell? ⟨w.heap.size, 9, none⟩ = some (.slice none 0 0) := cell_of_row w5 _ 9 _ 44 (0, 0) hgr.2
          have z10 : w5.cell? ⟨w.heap.size, 10, none⟩ = some (.string ⟨#[]⟩) := cell_of_row w5 _ 10 _ 44 (0, 0) hgr.2
          have fz : ∀ i, w5.frozen? ⟨w.heap.size, i, none⟩ = false := fun i => Md.of hgr.2
          obtain ⟨WF, hWF⟩ : ∃ WF, WF = wrm w5 w.heap.size mzz := ⟨_, rfl⟩
          have hblk : WF.heap[w.heap.size]? = some (.cells (mc mzz) 44 (0, 0)) := by rw [hWF]; exact store_allm mzz hgr.2
          have HBF : Hid (Below w.heap.size w WF) := by rw [hWF]; exact below_allm mzz hgr.1 (Nat.le_refl _)
          have HBK := Lib.hid hblk
          have HWF := Lib.hid hWF
          clear hgr hblk hWF
          go_wp2
          have hWF := HWF.out
          unfold wrm at hWF
          rw [← hWF]
          have f0 : WF.cell? ⟨w.heap.size, 0, none⟩ = some (.int .i64 0) := cell_of_row WF _ 0 _ 44 (0, 0) HBK.out
          have f1 : WF.cell? ⟨w.heap.size, 1, none⟩ = some (.int .i64 0) := cell_of_row WF _ 1 _ 44 (0, 0) HBK.out
          have f2 : WF.cell? ⟨w.heap.size, 2, none⟩ = some (.int .i64 0) := cell_of_row WF _ 2 _ 44 (0, 0) HBK.out
          have f3 : WF.cell? ⟨w.heap.size, 3, none⟩ = some (.int .u64 0) := cell_of_row WF _ 3 _ 44 (0, 0) HBK.out
          have f4 : WF.cell? ⟨w.heap.size, 4, none⟩ = some (.int .u64 0) := cell_of_row WF _ 4 _ 44 (0, 0) HBK.out
          have f5 : WF.cell? ⟨w.heap.size, 5, none⟩ = some (.int .u64 0) := cell_of_row WF _ 5 _ 44 (0, 0) HBK.out
          have f6 : WF.cell? ⟨w.heap.size, 6, none⟩ = some (.int .u64 0) := cell_of_row WF _ 6 _ 44 (0, 0) HBK.out
          have f7 : WF.cell? ⟨w.heap.size, 7, none⟩ = some (.int .u64 0) := cell_of_row WF _ 7 _ 44 (0, 0) HBK.out
          have f8 : WF.cell? ⟨w.heap.size, 8, none⟩ = some (.bool false) := cell_of_row WF _ 8 _ 44 (0, 0) HBK.out
          have f9 : WF.cell? ⟨w.heap.size, 9, none⟩ = some (.slice none 0 0) := cell_of_row WF _ 9 _ 44 (0, 0) HBK.out
          have f10 : WF.cell? ⟨w.heap.size, 10, none⟩ = some (.string ⟨#[]⟩) := cell_of_row WF _ 10 _ 44 (0, 0) HBK.out
          exact bodyPost_ret (v := .tuple #[mv mzz, .bool false]) (by simp [results, Tryz.results24, go_sem, f0, f1, f2, f3, f4, f5, f6, f7, f8, f9, f10]) rfl (gmsg_no HOK.out HBF.out)
        | true =>
          cases te with
          | false =>
            have HOK : Hid (gok s = false) := HGK.out.symm
            clear HGK
            have hgr := HB2.out w5 HT5.out.q.fr
            have z0 : w5.cell? ⟨w.heap.size, 0, none⟩ = some (.int .i64 0) := cell_of_row w5 _ 0 _ 44 (0, 0) hgr.2
            have z1 : w5.cell? ⟨w.heap.size, 1, none⟩ = some (.int .i64 0) := cell_of_row w5 _ 1 _ 44 (0, 0) hgr.2
            have z2 : w5.cell? ⟨w.heap.size, 2, none⟩ = some (.int .i64 0) := cell_of_row w5 _ 2 _ 44 (0, 0) hgr.2
            have z3 : w5.cell? ⟨w.heap.size, 3, none⟩ = some (.int .u64 0) := cell_of_row w5 _ 3 _ 44 (0, 0) hgr.2
            have z4 : w5.cell? ⟨w.heap.size, 4, none⟩ = some (.int .u64 0) := cell_of_row w5 _ 4 _ 44 (0, 0) hgr.2
            have z5 : w5.cell? ⟨w.heap.size, 5, none⟩ = some (.int .u64 0) := cell_of_row w5 _ 5 _ 44 (0, 0) hgr.2
            have z6 : w5.cell? ⟨w.heap.size, 6, none⟩ = some (.int .u64 0) := cell_of_row w5 _ 6 _ 44 (0, 0) hgr.2
            have z7 : w5.cell? ⟨w.heap.size, 7, none⟩ = some (.int .u64 0) := cell_of_row w5 _ 7 _ 44 (0, 0) hgr.2
            have z8 : w5.cell? ⟨w.heap.size, 8, none⟩ = some (.bool false) := cell_of_row w5 _ 8 _ 44 (0, 0) hgr.2
            have z9 : w5.cell? ⟨w.heap.size, 9, none⟩ = some (.slice none 0 0) := cell_of_row w5 _ 9 _ 44 (0, 0) hgr.2
            have z10 : w5.cell? ⟨w.heap.size, 10, none⟩ = some (.string ⟨#[]⟩) := cell_of_row w5 _ 10 _ 44 (0, 0) hgr.2
            have fz : ∀ i, w5.frozen? ⟨w.heap.size, i, none⟩ = false := fun i => Md.of hgr.2
            obtain ⟨WF, hWF⟩ : ∃ WF, WF = wrm w5 w.heap.size mzz := ⟨_, rfl⟩
            have hblk : WF.heap[w.heap.size]? = some (.cells (mc mzz) 44 (0, 0)) := by rw [hWF]; exact store_allm mzz hgr.2
            have HBF : Hid (Below w.heap.size w WF) := by rw [hWF]; exact below_allm mzz hgr.1 (Nat.le_refl _)
            have HBK := Lib.hid hblk
            have HWF := Lib.hid hWF
            clear hgr hblk hWF
            go_wp2
            have hWF := HWF.out
            unfold wrm at hWF
            rw [← hWF]
            have f0 : WF.cell? ⟨w.heap.size, 0, none⟩ = some (.int .i64 0) := cell_of_row WF _ 0 _ 44 (0, 0) HBK.out
            have f1 : WF.cell? ⟨w.heap.size, 1, none⟩ = some (.int .i64 0) := cell_of_row WF _ 1 _ 44 (0, 0) HBK.out
            have f2 : WF.cell? ⟨w.heap.size, 2, none⟩ = some (.int .i64 0) := cell_of_row WF _ 2 _ 44 (0, 0) HBK.out
            have f3 : WF.cell? ⟨w.heap.size, 3, none⟩ = some (.int .u64 0) := cell_of_row WF _ 3 _ 44 (0, 0) HBK.out
            have f4 : WF.cell? ⟨w.heap.size, 4, none⟩ = some (.int .u64 0) := cell_of_row WF _ 4 _ 44 (0, 0) HBK.out
            have f5 : WF.cell? ⟨w.heap.size, 5, none⟩ = some (.int .u64 0) := cell_of_row WF _ 5 _ 44 (0, 0) HBK.out
            have f6 : WF.cell? ⟨w.heap.size, 6, none⟩ = some (.int .u64 0) := cell_of_row WF _ 6 _ 44 (0, 0) HBK.out
            have f7 : WF.cell? ⟨w.heap.size, 7, none⟩ = some (.int .u64 0) := cell_of_row WF _ 7 _ 44 (0, 0) HBK.out
            have f8 : WF.cell? ⟨w.heap.size, 8, none⟩ = some (.bool false) := cell_of_row WF _ 8 _ 44 (0, 0) HBK.out
            have f9 : WF.cell? ⟨w.heap.size, 9, none⟩ = some (.slice none 0 0) := cell_of_row WF _ 9 _ 44 (0, 0) HBK.out
            have f10 : WF.cell? ⟨w.heap.size, 10, none⟩ = some (.string ⟨#[]⟩) := cell_of_row WF _ 10 _ 44 (0, 0) HBK.out
            exact bodyPost_ret (v := .tuple #[mv mzz, .bool false]) (by simp [results, Tryz.results24, go_sem, f0, f1, f2, f3, f4, f5, f6, f7, f8, f9, f10]) rfl (gmsg_no HOK.out HBF.out)
          | true =>
            have HOK : Hid (gok s = true) := HGK.out.symm
            clear HGK
            have hgr := HB2.out w5 HT5.out.q.fr
            have z0 : w5.cell? ⟨w.heap.size, 0, none⟩ = some (.int .i64 0) := cell_of_row w5 _ 0 _ 44 (0, 0) hgr.2
            have z1 : w5.cell? ⟨w.heap.size, 1, none⟩ = some (.int .i64 0) := cell_of_row w5 _ 1 _ 44 (0, 0) hgr.2
            have z2 : w5.cell? ⟨w.heap.size, 2, none⟩ = some (.int .i64 0) := cell_of_row w5 _ 2 _ 44 (0, 0) hgr.2
            have z3 : w5.cell? ⟨w.heap.size, 3, none⟩ = some (.int .u64 0) := cell_of_row w5 _ 3 _ 44 (0, 0) hgr.2
            have z4 : w5.cell? ⟨w.heap.size, 4, none⟩ = some (.int .u64 0) := cell_of_row w5 _ 4 _ 44 (0, 0) hgr.2
            have z5 : w5.cell? ⟨w.heap.size, 5, none⟩ = some (.int .u64 0) := cell_of_row w5 _ 5 _ 44 (0, 0) hgr.2
            have z6 : w5.cell? ⟨w.heap.size, 6, none⟩ = some (.int .u64 0) := cell_of_row w5 _ 6 _ 44 (0, 0) hgr.2
            have z7 : w5.cell? ⟨w.heap.size, 7, none⟩ = some (.int .u64 0) := cell_of_row w5 _ 7 _ 44 (0, 0) hgr.2
            have z8 : w5.cell? ⟨w.heap.size, 8, none⟩ = some (.bool false) := cell_of_row w5 _ 8 _ 44 (0, 0) hgr.2
            have z9 : w5.cell? ⟨w.heap.size, 9, none⟩ = some (.slice none 0 0) := cell_of_row w5 _ 9 _ 44 (0, 0) hgr.2
            have z10 : w5.cell? ⟨w.heap.size, 10, none⟩ = some (.string ⟨#[]⟩) := cell_of_row w5 _ 10 _ 44 (0, 0) hgr.2
            have m0 : w5.cell? ⟨p, 0, none⟩ = some (.int .i64 M.kind) := HT5.out.cell 0
            have m1 : w5.cell? ⟨p, 1, none⟩ = some (.int .i64 M.frm) := HT5.out.cell 1
            have m2 : w5.cell? ⟨p, 2, none⟩ = some (.int .i64 M.dst) := HT5.out.cell 2
            have m3 : w5.cell? ⟨p, 3, none⟩ = some (.int .u64 M.term) := HT5.out.cell 3
            have m4 : w5.cell? ⟨p, 4, none⟩ = some (.int .u64 M.index) := HT5.out.cell 4
            have m5 : w5.cell? ⟨p, 5, none⟩ = some (.int .u64 M.prev) := HT5.out.cell 5
            have m6 : w5.cell? ⟨p, 6, none⟩ = some (.int .u64 M.commit) := HT5.out.cell 6
            have m7 : w5.cell? ⟨p, 7, none⟩ = some (.int .u64 M.mark) := HT5.out.cell 7
            have m8 : w5.cell? ⟨p, 8, none⟩ = some (.bool M.ok) := HT5.out.cell 8
            have m9 : w5.cell? ⟨p, 9, none⟩ = some (.slice M.A M.n M.c) := HT5.out.cell 9
            have m10 : w5.cell? ⟨p, 10, none⟩ = some (.string M.snap) := HT5.out.cell 10
            have fz : ∀ i, w5.frozen? ⟨w.heap.size, i, none⟩ = false := fun i => Md.of hgr.2
            obtain ⟨WF, hWF⟩ : ∃ WF, WF = wrm w5 w.heap.size M := ⟨_, rfl⟩
            have hblk : WF.heap[w.heap.size]? = some (.cells (mc M) 44 (0, 0)) := by rw [hWF]; exact store_allm M hgr.2
            have HBF : Hid (Below w.heap.size w WF) := by rw [hWF]; exact below_allm M hgr.1 (Nat.le_refl _)
            have HEF : Hid (Ents WF.heap.size M.A M.n M.es WF) := by
              have h1 := ents_of_own HT5.out.own HT5.out.hl
              have h2 := ents_wrm2 (g := w.heap.size) M h1 (fun a ha => by have h3 := (HT5.out.own.lt a.block (by rw [ha]; rfl)).1; have h4 := HPP.out; omega)
              have hz := size_wrm w5 w.heap.size M
              rw [← hz, ← hWF] at h2
              exact h2
            have HBK := Lib.hid hblk
            have HWF := Lib.hid hWF
            clear hgr hblk hWF
            go_wp2
            have hWF := HWF.out
            unfold wrm at hWF
            rw [← hWF]
            have f0 : WF.cell? ⟨w.heap.size, 0, none⟩ = some (.int .i64 M.kind) := cell_of_row WF _ 0 _ 44 (0, 0) HBK.out
            have f1 : WF.cell? ⟨w.heap.size, 1, none⟩ = some (.int .i64 M.frm) := cell_of_row WF _ 1 _ 44 (0, 0) HBK.out
            have f2 : WF.cell? ⟨w.heap.size, 2, none⟩ = some (.int .i64 M.dst) := cell_of_row WF _ 2 _ 44 (0, 0) HBK.out
            have f3 : WF.cell? ⟨w.heap.size, 3, none⟩ = some (.int .u64 M.term) := cell_of_row WF _ 3 _ 44 (0, 0) HBK.out
            have f4 : WF.cell? ⟨w.heap.size, 4, none⟩ = some (.int .u64 M.index) := cell_of_row WF _ 4 _ 44 (0, 0) HBK.out
            have f5 : WF.cell? ⟨w.heap.size, 5, none⟩ = some (.int .u64 M.prev) := cell_of_row WF _ 5 _ 44 (0, 0) HBK.out
            have f6 : WF.cell? ⟨w.heap.size, 6, none⟩ = some (.int .u64 M.commit) := cell_of_row WF _ 6 _ 44 (0, 0) HBK.out
            have f7 : WF.cell? ⟨w.heap.size, 7, none⟩ = some (.int .u64 M.mark) := cell_of_row WF _ 7 _ 44 (0, 0) HBK.out
            have f8 : WF.cell? ⟨w.heap.size, 8, none⟩ = some (.bool M.ok) := cell_of_row WF _ 8 _ 44 (0, 0) HBK.out
            have f9 : WF.cell? ⟨w.heap.size, 9, none⟩ = some (.slice M.A M.n M.c) := cell_of_row WF _ 9 _ 44 (0, 0) HBK.out
            have f10 : WF.cell? ⟨w.heap.size, 10, none⟩ = some (.string M.snap) := cell_of_row WF _ 10 _ 44 (0, 0) HBK.out
            exact bodyPost_ret (v := .tuple #[mv M, .bool true]) (by simp [results, Tryz.results24, go_sem, f0, f1, f2, f3, f4, f5, f6, f7, f8, f9, f10]) rfl ⟨M, by rw [HOK.out], HEF.out, HWD.out, HBF.out, fun h => ⟨A, c, HPR.out h⟩, fun h => by rw [HOK.out] at h; cases h⟩
end Go.Proofs.YtmalcldpihpfpaaGreat
namespace Go.Proofs.YtmalcldpihpfpaaGreat
open Go.RowKit
open Vi
set_option linter.unusedVariables false
set_option linter.unusedSimpArgs false

theorem sameB_refl (e : En) : sameB e e = true := by unfold sameB; simp
theorem preB_refl (es : List En) (n : Nat) : preB es es n = true := by
  have key : ∀ l : List En, (List.zipWith sameB l l).all id = true := by
    intro l
    induction l with
    | nil => rfl
    | cons a l ih =>
      rw [List.zipWith_cons_cons, List.all_cons, ih, sameB_refl]
      rfl
  exact key _
theorem msame_at (M : Ms) (A A' : Option Addr) (c c' : Nat) : msameB { M with A := A, c := c } { M with A := A', c := c' } = true := by
  refine (msame_eq (a := { M with A := A, c := c }) (b := { M with A := A', c := c' }) rfl (preB_refl M.es M.n)).trans ?_
  unfold scalB
  simp
theorem mPrs_at (s : ByteArray) (A : Option Addr) (c : Nat) : mPrs s A c = { mPrs s none 0 with A := A, c := c } := by
  rfl
theorem gmsg_same {s : ByteArray} {M M' : Ms} (h1 : gok s = true → ∃ A c, M = mPrs s A c) (h2 : gok s = false → M = mzz) (k1 : gok s = true → ∃ A c, M' = mPrs s A c) (k2 : gok s = false → M' = mzz) : msameB M M' = true := by
  cases hg : gok s with
  | true =>
    obtain ⟨A, c, rfl⟩ := h1 hg
    obtain ⟨A', c', rfl⟩ := k1 hg
    rw [mPrs_at s A c, mPrs_at s A' c']
    exact msame_at _ _ _ _ _
  | false =>
    rw [h2 hg, k2 hg]
    exact msame_at mzz none none 0 0
theorem Mades.mr {B B' : Nat} {A : Option Addr} {n : Nat} {L : List (En × Bool)} {w : World} (h : Mades B A n L w) (hB : B ≤ B') : Mades B' A n L w :=
  ⟨h.len, fun i e he => by
    obtain ⟨a, hA, h1, hc⟩ := h.at_ i e he
    exact ⟨a, hA, Nat.lt_of_lt_of_le h1 hB, hc⟩⟩
theorem NoteIn.on {w w1 : World} {m : Ms} {LA : Option Addr} {ln : Nat} {L : List (En × Bool)} (h : NoteIn w m LA ln L) (hb : Below w.heap.size w w1) : NoteIn w1 m LA ln L :=
  ⟨h.wd, (h.en.below hb).mr hb.size, (h.md.below hb).mr hb.size, h.ok, h.ll⟩
/-- What the law's note hands back. -/
structure NoteOut (m : Ms) (L : List (En × Bool)) (M : Ms) (w : World) : Prop where
  rt : mrightB M = true
  en : Ents w.heap.size M.A M.n M.es w
  f1 : 1 ≤ M.frm
  f7 : M.frm ≤ 7
  o1 : 1 ≤ M.dst
  o7 : M.dst ≤ 7
  k1 : 1 ≤ M.kind
  k9 : M.kind ≤ 10
  n : (M.n : Int) ≤ 10
  es : ∀ e ∈ M.es, e.Ok ∧ rightB e = true ∧ e.data.size ≤ 64 ∧ e.old.size ≤ 64
  t : M.term = m.term
  i0 : 0 ≤ M.index
  i1 : M.index ≤ 18446744073709551615
  p0 : 0 ≤ M.prev
  p1 : M.prev ≤ 18446744073709551615
  c0 : 0 ≤ M.commit
  c1 : M.commit ≤ 18446744073709551615
  m0 : 0 ≤ M.mark
  m1 : M.mark ≤ 18446744073709551615
  sn : M.snap.size ≤ 200
theorem ite0 {p : Prop} [Decidable p] {x hi : Int} (h0 : 0 ≤ x) (h1 : x ≤ hi) (h2 : 0 ≤ hi) : 0 ≤ (if p then x else 0) ∧ (if p then x else 0) ≤ hi := by
  split <;> omega
theorem NoteOut.wide {m : Ms} {L : List (En × Bool)} {M : Ms} {w : World} (wd : m.Wide) (h : NoteOut m L M w) : M.Wide := by
  have k1 := h.k1
  have k9 := h.k9
  have f1 := h.f1
  have f7 := h.f7
  have o1 := h.o1
  have o7 := h.o7
  have sn := h.sn
  have hn := h.n
  exact ⟨by omega, by omega, by omega, by omega, by omega, by omega, h.t ▸ wd.t0, h.t ▸ wd.t1, h.i0, h.i1, h.p0, h.p1, h.c0, h.c1, h.m0, h.m1, by omega, by omega, fun e he => (h.es e he).1⟩
/-- What the law's note gives, wherever its entries lie. -/
def ML (m : Ms) (own : Bool) (L : List (En × Bool)) (A : Option Addr) (c : Nat) : Ms := if own then nm m L A (nm m L none 0 0).es.length c else m
theorem nm_at (m : Ms) (L : List (En × Bool)) (A : Option Addr) (n c : Nat) : nm m L A n c = { nm m L none n 0 with A := A, c := c } := by
  simp only [nm, npart]
theorem nm_es (m : Ms) (L : List (En × Bool)) (A : Option Addr) (n c : Nat) : (nm m L A n c).es = (nm m L none 0 0).es := by
  simp only [nm, npart]
theorem putM_at (M : Ms) (A : Option Addr) (c : Nat) : putX { M with A := A, c := c } = putX M ∧ mrightB { M with A := A, c := c } = mrightB M := ⟨rfl, rfl⟩
theorem putM_ML (m : Ms) (own : Bool) (L : List (En × Bool)) (A : Option Addr) (c : Nat) : putX (ML m own L A c) = putX (ML m own L none 0) ∧ mrightB (ML m own L A c) = mrightB (ML m own L none 0) := by
  unfold ML
  cases own with
  | false => exact ⟨rfl, rfl⟩
  | true =>
    rw [if_pos rfl, if_pos rfl, nm_at m L A]
    exact putM_at _ _ _
theorem note3 (m : Ms) (own : Bool) (LA : Option Addr) (ln lc : Nat) (L : List (En × Bool)) (w : World) (h : NoteIn w m LA ln L) :
    Calls Tryz.prog 21 #[nvv m own LA ln lc] w fun r w' => ∃ A c, r = .returned (mv (ML m own L A c)) ∧ Ents w'.heap.size (ML m own L A c).A (ML m own L A c).n (ML m own L A c).es w' ∧ (ML m own L A c).Wide ∧ Below w.heap.size w w' := by
  cases own with
  | false => exact (note_no m LA ln lc w).mono fun r w' ⟨h1, h2⟩ => ⟨none, 0, h1, (h.en.below h2).mr h2.size, h.wd, h2⟩
  | true =>
    refine (note_yes m LA ln lc L w h.md h.ok h.ll).mono ?_
    rintro r w' ⟨A, c, n, hr, hl, hE, hb⟩
    have hN : NoteOut m L (nm m L A n c) w' := by
      refine ⟨nm_right m L A n c h.ok hl h.wd.i0 h.wd.i1 h.wd.p0 h.wd.p1 h.wd.c0 h.wd.c1 h.wd.m0 h.wd.m1 h.wd.s1, hE, (nfrom _).1, (nfrom _).2, (nfrom _).1, (nfrom _).2, (nkind _).1, (nkind _).2, ?_, fun e he => nes_mem h.ok he, rfl, (ite0 h.wd.i0 h.wd.i1 (by omega)).1, (ite0 h.wd.i0 h.wd.i1 (by omega)).2, (ite0 h.wd.p0 h.wd.p1 (by omega)).1, (ite0 h.wd.p0 h.wd.p1 (by omega)).2, (ite0 h.wd.c0 h.wd.c1 (by omega)).1, (ite0 h.wd.c0 h.wd.c1 (by omega)).2, (ite0 h.wd.m0 h.wd.m1 (by omega)).1, (ite0 h.wd.m0 h.wd.m1 (by omega)).2, ?_⟩
      · have := nes_length m L A n c
        rw [hl] at this
        show (n : Int) ≤ 10
        omega
      · show (if hasT (mfl (m.kind % 10 + 1)).data.toList 115 then cut200 m.snap else ⟨#[]⟩ : ByteArray).size ≤ 200
        split
        · exact cut200_size _ h.wd.s1
        · exact Nat.zero_le _
    have hw := hN.wide h.wd
    have hn : n = (nm m L none 0 0).es.length := by rw [← nm_es m L A n c]; exact hl.symm
    have hML : ML m true L A c = nm m L A n c := by unfold ML; rw [if_pos rfl, ← hn]
    refine ⟨A, c, by rw [hML]; exact hr, ?_, by rw [hML]; exact hw, hb⟩
    rw [hML]
    have hes : (nm m L A n c).A = A ∧ (nm m L A n c).n = n := by simp only [nm, npart, and_self]
    rw [hes.1, hes.2]
    exact hE
theorem putM_size {m : Ms} (wd : m.Wide) (hl : m.es.length = m.n) : (putX m).size ≤ 1000000 := by
  unfold putX
  split
  · rename_i h
    have fw := mfew_of wd hl h
    have h1 := secM_le (wide_pl wd) fw 11 (Nat.le_refl _)
    have h2 := putB_le 0 (by omega)
    show (secU mF m.pl 11 ++ putB 0).size ≤ _
    rw [ByteArray.size_append]
    omega
  · exact Nat.zero_le _
theorem wide_n {m : Ms} (wd : m.Wide) : (m.n : Int) ≤ 9223372036854775807 := wd.n1
end Go.Proofs.YtmalcldpihpfpaaGreat
