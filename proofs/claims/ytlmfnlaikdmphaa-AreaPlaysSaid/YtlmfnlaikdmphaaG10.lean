/-
  Texts of the layer below and of this one: AW, AX, AG.
  Conditions: named in each theorem.
-/
import Derived.Test.YtlmfnlaikdmphaaG09
import Derived.Test.YtlmfnlaikdmphaaG04
import Derived.Laws.ResultCell
import Derived.Laws.EntriesVeiled
import Derived.Deep.WholeRow
import Derived.Carry
namespace Go.Proofs.Ytlmfnlaikdmphaa
open Go.RowKit Vi Dk
set_option linter.unusedVariables false
set_option linter.unusedSimpArgs false
set_option maxHeartbeats 2000000 in
set_option maxRecDepth 100000 in
/-- One sector of what is written. -/
theorem awcl_any (g : Nat) (L : List Nat) (d : St) (b5 b6 b7 at_ k : Nat) (l : List UInt8) (w : World) (h : Dv w g L d) (h5 : w.heap[b5]? = some (.cells #[ptr g] 43 (0, 0))) (h6 : w.heap[b6]? = some (.cells #[.int .i64 at_] 3 (0, 0)))
    (h7 : w.heap[b7]? = some (.cells #[.string (txt l)] 9 (0, 0))) (hk : k * 64 + 64 ≤ l.length) (hl : l.length ≤ 1099511627776) (hf : at_ ≤ 1099511627776) :
    Calls Try.prog 54 #[.int .i64 k, ptr b5, ptr b6, ptr b7] w fun e w' => e = .returned (.int .i64 (d.write ((at_ + k : Nat) : Int) ((l.drop (k * 64)).take 64)).2) ∧ Moves g L (d.write ((at_ + k : Nat) : Int) ((l.drop (k * 64)).take 64)).1 w w' := by
  have c5 : w.drew.cell? ⟨b5, 0, none⟩ = some (ptr g) := cell_of_row w.drew b5 0 _ 43 (0, 0) h5
  have c6 : w.drew.cell? ⟨b6, 0, none⟩ = some (.int .i64 at_) := cell_of_row w.drew b6 0 _ 3 (0, 0) h6
  have c7 : w.drew.cell? ⟨b7, 0, none⟩ = some (.string (txt l)) := cell_of_row w.drew b7 0 _ 9 (0, 0) h7
  have hd : Dv w.drew g L d := h.below (Below.refl _ w).drew
  have KW := Lib.hid (write_any g L d ((at_ + k : Nat) : Int) ((l.drop (k * 64)).take 64) w.drew hd)
  rw [show ((at_ + k : Nat) : Int) = (at_ : Int) + k by omega] at KW ⊢
  obtain ⟨D, hD⟩ : ∃ D, D = d.write ((at_ : Int) + k) ((l.drop (k * 64)).take 64) := ⟨_, rfl⟩
  rw [← hD] at KW ⊢
  have hx := txt_cut l (k * 64) (k * 64 + 64) (by omega)
  obtain ⟨p, hp⟩ : ∃ p, p = (l.drop (k * 64)).take 64 := ⟨_, rfl⟩
  rw [← hp] at KW hx
  have hz := txt_size l
  obtain ⟨S, hS⟩ : ∃ S, S = txt l := ⟨_, rfl⟩
  rw [← hS] at c7 hx hz
  obtain ⟨n, hn⟩ : ∃ n, n = l.length := ⟨_, rfl⟩
  rw [← hn] at hk hl hz
  obtain ⟨m, hm⟩ : ∃ m, m = k * 64 + 64 := ⟨_, rfl⟩
  rw [← hm] at hx
  have hmI : (k : Int) * 64 + 64 = (m : Int) := by omega
  have hmn : m ≤ n := by omega
  have hkm : k * 64 ≤ m := by omega
  have q1 : (m : Int) ≤ (n : Int) := by omega
  have q2 : (k : Int) * 64 ≤ (m : Int) := by omega
  have q0 : (0 : Int) ≤ (k : Int) * 64 := by omega
  have q3 : ((k : Int) * 64).toNat = k * 64 := by omega
  have w1 : IntKind.i64.wrap (m : Int) = (m : Int) := IntWalk.i64_in _ (by omega)
  have w2 : IntKind.i64.wrap ((at_ : Int) + k) = (at_ : Int) + k := IntWalk.i64_in _ (by omega)
  clear hD hp hS hn hm h h5 h6 h7 hd
  unfold ptr at *
  go_enter Try.func54, Try.ntmps54
  go_upto_region 2 with fail
  go_region_law (go_simp; go_at_call 31; (with_reducible refine KW.out.mono ?_); rintro q w5 ⟨rfl, hM⟩)
  all_goals
    go_wp2
    go_ret
    obtain ⟨L', m1, m2, m3⟩ := hM
    exact ⟨rfl, L', m1, (Keep.of_below (Below.refl _ w).drew).trans m2, m3⟩
/-- What Write writes, with bytes 0 up to the end of the sectors. -/
def lpad (b : ByteArray) (m : Nat) : List UInt8 := b.data.toList ++ List.replicate (m * 64 - b.size) 0
theorem lpad_len (b : ByteArray) (m : Nat) (h : b.size ≤ m * 64) : (lpad b m).length = m * 64 := by
  unfold lpad
  rw [List.length_append, List.length_replicate, Array.length_toList]
  show b.size + _ = _
  omega
theorem lpad_txt (b : ByteArray) (m : Nat) : b ++ zer (m * 64 - b.size) = txt (lpad b m) := by
  apply ByteArray.ext
  apply Array.toList_inj.1
  rw [txt_list]
  unfold lpad zer
  simp
def arW (d : St) (at_ m v : Int) (s : Sn) : St × Int :=
  if snO v s && onA d.n at_ m then (if ((((snS v s).size + 63) / 64 : Nat) : Int) ≤ m then wrL at_.toNat (snS v s).data.toList m.toNat 0 d else (d, 4)) else (d, 1)
theorem write_pad (d : St) (i : Int) (a b : List UInt8) (ha : a.length ≤ 64) (hb : b.length ≤ 64) (h : pad a = pad b) : d.write i a = d.write i b := by
  unfold St.write
  rw [h, if_neg (show ¬ 64 < a.length by omega), if_neg (show ¬ 64 < b.length by omega)]
theorem pad_zeros (l : List UInt8) (r k : Nat) : pad (((l ++ List.replicate r 0).drop k).take 64) = pad ((l.drop k).take 64) := by
  unfold pad
  apply List.ext_getElem?
  intro i
  simp only [List.getElem?_append, List.length_take, List.length_drop, List.length_append, List.length_replicate, List.getElem?_take, List.getElem?_drop, List.getElem?_replicate]
  repeat' split
  all_goals first
    | rfl
    | omega
    | (exfalso; omega)
theorem wrL_lpad (first : Nat) (b : ByteArray) (m : Nat) : ∀ (r k : Nat) (d : St), wrL first (lpad b m) r k d = wrL first b.data.toList r k d
  | 0, k, d => rfl
  | r + 1, k, d => by
    have e : d.write ((first + k : Nat) : Int) (((lpad b m).drop (k * 64)).take 64) = d.write ((first + k : Nat) : Int) ((b.data.toList.drop (k * 64)).take 64) :=
      write_pad d _ _ _ (by rw [List.length_take]; omega) (by rw [List.length_take]; omega) (pad_zeros _ _ _)
    rw [wrL, wrL, e, wrL_lpad first b m r (k + 1)]
theorem aeachw_any (g : Nat) (L : List Nat) (d : St) (b5 b6 b7 a M : Nat) (b : ByteArray) (w W : World) (hw : Dv w g L d) (hb : Below w.heap.size w W) (h5 : W.heap[b5]? = some (.cells #[ptr g] 43 (0, 0))) (h6 : W.heap[b6]? = some (.cells #[.int .i64 a] 3 (0, 0)))
    (h7 : W.heap[b7]? = some (.cells #[.string (txt (lpad b M))] 9 (0, 0))) (l5 : w.heap.size ≤ b5) (l6 : w.heap.size ≤ b6) (l7 : w.heap.size ≤ b7) (hf : b.size ≤ M * 64) (hM : M ≤ 1048576) (ha : a ≤ 1048576) :
    Calls Try.prog 53 #[.int .i64 M, .func (.func 54) #[] #[ptr b5, ptr b6, ptr b7]] W fun e w' => e = .returned (.int .i64 (wrL a b.data.toList M 0 d).2) ∧ Moves g L (wrL a b.data.toList M 0 d).1 w w' := by
  obtain ⟨T, hT⟩ : ∃ T, T = wrL a b.data.toList M 0 d := ⟨_, rfl⟩
  rw [← hT]
  have hLw := hw.lt
  have hD := hw.below hb
  have hkW : Keep L w W := Keep.of_below hb
  have hlen := lpad_len b M hf
  refine (aeach_any 54 (.inl rfl) (ptr b5) (ptr b6) (ptr b7) M
    (fun k w1 => ∃ L' d', Dv w1 g L' d' ∧ Keep L W w1 ∧ Fresh W L L' ∧ wrL a b.data.toList (M - k) k d' = T) (fun z w1 => z = T.2 ∧ Moves g L T.1 w w1) W (by omega) ⟨L, d, hD, Keep.refl _ _, Fresh.refl _ _, by rw [hT]; rfl⟩ ?_).mono ?_
  · rintro k w1 hk ⟨L1, d1, hD1, hK1, hF1, hw1⟩
    have hblk : ∀ j o, W.heap[j]? = some o → w.heap.size ≤ j → w1.heap[j]? = some o := fun j o h1 h2 => (hK1.block j (Array.getElem?_eq_some_iff.1 h1).1 fun hm => by have := hLw j hm; omega).trans h1
    have hst : wrL a b.data.toList (M - k) k d1 = if (d1.write ((a + k : Nat) : Int) ((b.data.toList.drop (k * 64)).take 64)).2 = 0 then wrL a b.data.toList (M - (k + 1)) (k + 1) (d1.write ((a + k : Nat) : Int) ((b.data.toList.drop (k * 64)).take 64)).1 else d1.write ((a + k : Nat) : Int) ((b.data.toList.drop (k * 64)).take 64) := by
      rw [show M - k = (M - (k + 1)) + 1 by omega]
      rfl
    rw [hw1] at hst
    have hpz : d1.write ((a + k : Nat) : Int) (((lpad b M).drop (k * 64)).take 64) = d1.write ((a + k : Nat) : Int) ((b.data.toList.drop (k * 64)).take 64) :=
      write_pad d1 _ _ _ (by rw [List.length_take]; omega) (by rw [List.length_take]; omega) (pad_zeros _ _ _)
    have hc := awcl_any g L1 d1 b5 b6 b7 a k (lpad b M) w1 hD1 (hblk _ _ h5 l5) (hblk _ _ h6 l6) (hblk _ _ h7 l7) (by rw [hlen]; omega) (by rw [hlen]; omega) (by omega)
    rw [hpz] at hc
    refine hc.mono ?_
    rintro e w2 ⟨rfl, L2, hD2, hK2, hF2⟩
    have hK3 : Keep L W w2 := hK1.trans' hK2 hF1
    have hF3 : Fresh W L L2 := hF1.trans hF2 hK1.size
    refine ⟨_, rfl, fun hz => ?_, fun hz => ?_⟩
    · rw [if_pos hz] at hst
      exact ⟨L2, _, hD2, hK3, hF3, hst.symm⟩
    · rw [if_neg hz] at hst
      rw [hst]
      exact ⟨rfl, L2, hD2, hkW.trans hK3, fun k hk => (hF3 k hk).elim .inl (fun h => .inr (Nat.le_trans hb.size h))⟩
  · rintro e w1 ⟨z, rfl, hz0, hz1⟩
    by_cases hz : z = 0
    · obtain ⟨L1, d1, hD1, hK1, hF1, hw1⟩ := hz0 hz
      rw [Nat.sub_self] at hw1
      have hT2 : T = (d1, 0) := hw1.symm
      rw [hT2]
      exact ⟨by rw [hz], L1, hD1, hkW.trans hK1, fun k hk => (hF1 k hk).elim .inl (fun h => .inr (Nat.le_trans hb.size h))⟩
    · obtain ⟨h1, h2⟩ := hz1 hz
      exact ⟨by rw [h1], h2⟩
theorem bwrap (b : ByteArray) (m : Nat) (hb : b.size ≤ 1099511627776) (hm : m ≤ 1099511627776) : wrap64 (((m * 64 : Nat) : Int) - b.size) = ((m * 64 : Nat) : Int) - b.size := by unfold wrap64; omega
set_option maxHeartbeats 4000000 in
set_option maxRecDepth 100000 in
theorem awrite_any (g : Nat) (L : List Nat) (d : St) (at_ m v : Int) (s : Sn) (w : World) (h : Dv w g L d) (ok : s.Ok) (ha : at_ ≤ 9223372036854775807) :
    Calls Try.prog 19 #[ptr g, .int .i64 at_, .int .i64 m, .int .i64 v, s.v] w fun e w' => e = .returned (.int .i64 (arW d at_ m v s).2) ∧ Moves g L (arW d at_ m v s).1 w w' := by
  obtain ⟨W, hW⟩ : ∃ W, W = ((w.alloc (.cells #[ptr g] 43)).alloc (.cells #[.int .i64 at_] 3)).alloc (.cells s.c 24) := ⟨_, rfl⟩
  have hB : Below w.heap.size w W := by
    rw [hW]
    exact (((Below.refl _ w).alloc (Nat.le_refl _) _).alloc (by simp) _).alloc (by simp; omega) _
  have z5 : W.heap[w.heap.size]? = some (.cells #[ptr g] 43 (0, 0)) := by
    rw [hW, Lib.alloc_old _ _ _ (by simp; omega), Lib.alloc_old _ _ _ (by simp)]
    exact heap_alloc_new w _
  have z6 : W.heap[w.heap.size + 1]? = some (.cells #[.int .i64 at_] 3 (0, 0)) := by
    rw [hW, Lib.alloc_old _ _ _ (by simp)]
    have := heap_alloc_new (w.alloc (.cells #[ptr g] 43)) (.cells #[.int .i64 at_] 3)
    rwa [World.size_alloc] at this
  have z9 : W.heap[w.heap.size + 2]? = some (.cells s.c 24 (0, 0)) := by
    rw [hW]
    have := heap_alloc_new ((w.alloc (.cells #[ptr g] 43)).alloc (.cells #[.int .i64 at_] 3)) (.cells s.c 24)
    rwa [World.size_alloc, World.size_alloc] at this
  have hsz : W.heap.size = w.heap.size + 3 := by rw [hW]; simp
  obtain ⟨c0, c1, c2⟩ := sn_cells z9
  have KP := Lib.hid (aput_any v s W ok)
  have HB := Lib.hid hB
  have HW := Lib.hid hW
  have H5 := Lib.hid z5
  have H6 := Lib.hid z6
  have HSZ := Lib.hid hsz
  have HD := Lib.hid (h.below hB)
  have HDw := Lib.hid h
  have hbz := snS_size v s ok
  have KF := Lib.hid (fun (W : World) => fits_any (snS v s) m W (by omega))
  have KO := Lib.hid (fun (W : World) (h : Dv W g L d) => aon_any g L d at_ m W h ha)
  have HN : Hid (d.n ≤ 4096) := h.1.n2
  have HA : Hid (arW d at_ m v s = if snO v s && onA d.n at_ m then (if ((((snS v s).size + 63) / 64 : Nat) : Int) ≤ m then wrL at_.toNat (snS v s).data.toList m.toNat 0 d else (d, 4)) else (d, 1)) := rfl
  have HM0 : Hid (∀ W', Below w.heap.size w W' → Moves g L d w W') := fun W' hb => ⟨L, h.below hb, Keep.of_below hb, Fresh.refl _ _⟩
  obtain ⟨X, hX⟩ : ∃ X, X = arW d at_ m v s := ⟨_, rfl⟩
  rw [← hX] at HA ⊢
  obtain ⟨b, hb⟩ : ∃ b, b = snS v s := ⟨_, rfl⟩
  rw [← hb] at KP KF HA hbz
  obtain ⟨o, ho⟩ : ∃ o, o = snO v s := ⟨_, rfl⟩
  rw [← ho] at KP HA
  obtain ⟨on, hon⟩ : ∃ x, x = onA d.n at_ m := ⟨_, rfl⟩
  have HON : Hid (on = true → 0 ≤ at_ ∧ 1 ≤ m ∧ m ≤ (d.n : Int) - at_) := fun h => onA_iff.1 (hon ▸ h)
  rw [← hon] at KO HA
  have HBZ := Lib.hid hbz
  unfold Sn.c at HW
  obtain ⟨ix, tm, D⟩ := s
  dsimp only at *
  clear hB hW z5 z6 z9 hsz hX hb ho hon h ok hbz
  unfold ptr at *
  cases o with
  | false =>
    rw [Bool.false_and] at HA
    obtain rfl : X = (d, 1) := HA.out
    go_enter Try.func19, Try.ntmps19
    go_upto_region 1 with fail
    refine wp_at (w := W) HW.out.symm ?_
    go_wp2_with (go_at_call 9; (with_reducible refine KP.out.mono ?_); rintro q w1 ⟨rfl, b1⟩)
    go_ret
    exact ⟨rfl, HM0.out _ ((HB.out.trans (b1.mono HB.out.size)).alloc (Nat.le_trans HB.out.size b1.size) _)⟩
  | true =>
    rw [Bool.true_and] at HA
    go_enter Try.func19, Try.ntmps19
    go_upto_region 1 with fail
    refine wp_at (w := W) HW.out.symm ?_
    obtain ⟨bb, hbb⟩ : ∃ bb, bb = w.heap.size + 3 := ⟨_, rfl⟩
    go_upto_region 2 with (go_at_call 9; (with_reducible refine KP.out.mono ?_); rintro q w1 ⟨rfl, b1⟩)
    obtain ⟨B7, hB7⟩ : ∃ x, x = w1.heap.size := ⟨_, rfl⟩
    obtain ⟨W2, hW2⟩ : ∃ x, x = w1.alloc (.cells #[.string b] 9) := ⟨_, rfl⟩
    have b2 : Below W.heap.size W W2 := by rw [hW2]; exact b1.alloc b1.size _
    have HB2 : Hid (Below w.heap.size w W2) := HB.out.trans (b2.mono HB.out.size)
    have HL7 : Hid (w.heap.size + 3 ≤ B7) := by show _ ≤ _; rw [hB7, ← HSZ.out]; exact b1.size
    have H7 : Hid (W2.heap[B7]? = some (.cells #[.string b] 9 (0, 0))) := by show _ = _; rw [hW2, hB7]; exact heap_alloc_new w1 _
    have H52 : Hid (W2.heap[w.heap.size]? = some (.cells #[.pointer (some ⟨g, 0, none⟩)] 43 (0, 0))) := (b2.block _ (Array.getElem?_eq_some_iff.1 H5.out).1).trans H5.out
    have H62 : Hid (W2.heap[w.heap.size + 1]? = some (.cells #[.int .i64 at_] 3 (0, 0))) := (b2.block _ (Array.getElem?_eq_some_iff.1 H6.out).1).trans H6.out
    have HD2 : Hid (Dv W2 g L d) := HD.out.below b2
    have HW2 := Lib.hid hW2
    have HB7 := Lib.hid hB7
    rw [← HW2.out, ← HB7.out]
    have e5 : W2.cell? ⟨w.heap.size, 0, none⟩ = some (.pointer (some ⟨g, 0, none⟩)) := cell_of_row _ _ 0 _ 43 (0, 0) H52.out
    have e6 : W2.cell? ⟨w.heap.size + 1, 0, none⟩ = some (.int .i64 at_) := cell_of_row _ _ 0 _ 3 (0, 0) H62.out
    have e7 : W2.cell? ⟨B7, 0, none⟩ = some (.string b) := cell_of_row _ _ 0 _ 9 (0, 0) H7.out
    clear b1 b2 hB7 hW2 hbb HW2 HB7 H5 H6 HSZ HB HD KP c0 c1 c2 HW
    have K1 := Lib.hid (KO.out _ HD2.out)
    cases on with
    | false =>
      obtain rfl : X = (d, 1) := HA.out
      clear HA HON
      go_wp2_with (go_at_call 51; (with_reducible refine K1.out.mono ?_); rintro q w1 ⟨rfl, rfl⟩)
      go_ret
      exact ⟨rfl, HM0.out _ HB2.out⟩
    | true =>
      obtain ⟨h0, h1, h2⟩ := HON.out rfl
      have hn := HN.out
      obtain ⟨a, rfl⟩ := Int.eq_ofNat_of_zero_le h0
      obtain ⟨M, rfl⟩ := Int.eq_ofNat_of_zero_le (show 0 ≤ m by omega)
      by_cases hf : (((b.size + 63) / 64 : Nat) : Int) ≤ (M : Int)
      · have hX : X = wrL a b.data.toList M 0 d := by rw [HA.out, if_pos rfl, if_pos hf, Int.toNat_natCast, Int.toNat_natCast]
        rw [decide_eq_true hf] at KF
        obtain ⟨N, hN⟩ : ∃ N, N = M * 64 - b.size := ⟨_, rfl⟩
        have hNI : (M : Int) * 64 - b.size = (N : Int) := by omega
        have hbz := HBZ.out
        have KZ := Lib.hid (fun (W : World) => (show Calls Try.prog 52 #[.string ⟨#[0]⟩, .int .i64 (N : Nat)] W fun e w' => e = .returned (.string (zer N)) ∧ Below W.heap.size W w' from by
          have := Try.strings_Repeat ⟨#[0]⟩ N W (by omega) (by show 1 * N ≤ _; omega)
          rw [zer_rep] at this
          exact this))
        have hT : b ++ zer N = txt (lpad b M) := by rw [hN]; exact lpad_txt b M
        have hzz := zer_size N
        have hsum : ¬ 9223372036854775807 < b.size + (zer N).size := by rw [hzz]; omega
        obtain ⟨ZN, hZN⟩ : ∃ z, z = zer N := ⟨_, rfl⟩
        rw [← hZN] at KZ hT hzz hsum
        obtain ⟨T, hTT⟩ : ∃ T, T = b ++ ZN := ⟨_, rfl⟩
        have hl1 : wrap64 ((M : Int) * 64) = (M : Int) * 64 := by unfold wrap64; omega
        have hl2 : wrap64 ((M : Int) * 64 - b.size) = (N : Int) := by rw [hNI]; unfold wrap64; omega
        have hl3 : IntKind.i64.wrap ((M : Int) * 64) = (M : Int) * 64 := IntWalk.i64_in _ (by omega)
        have hl4 : IntKind.i64.wrap ((M : Int) * 64 - b.size) = (N : Int) := by rw [hNI]; exact IntWalk.i64_in _ (by omega)
        have HX := Lib.hid hX
        have HF64 : Hid (b.size ≤ M * 64) := by show _ ≤ _; omega
        have HM64 : Hid (M ≤ 1048576) := by show _ ≤ _; omega
        have HA64 : Hid (a ≤ 1048576) := by show _ ≤ _; omega
        have HT := Lib.hid hT
        have HTT := Lib.hid hTT
        have hfz : W2.frozen? ⟨B7, 0, none⟩ = false := Lib.frozen_of_heap H7.out 0
        have hB0 := Below.refl W2.heap.size W2
        clear HA HON hf h0 h1 h2 hn hX hN hNI hbz hT hzz hZN hTT
        go_upto_region 6 with (first | (go_at_call 51; (with_reducible refine K1.out.mono ?_); rintro q w1 ⟨rfl, rfl⟩) | (go_at_call 49; (with_reducible refine (KF.out _).mono ?_); rintro q w1 ⟨rfl, rfl⟩))
        go_region_with (first | (go_at_call 52; (with_reducible refine (KZ.out _).mono ?_); rintro q w3 ⟨rfl, b3⟩; have HH3 : w3.heap[B7]? = some (.cells #[.string b] 9 (0, 0)) := (b3.block _ (Array.getElem?_eq_some_iff.1 H7.out).1).trans H7.out; have f3 : w3.cell? ⟨B7, 0, none⟩ = some (.string b) := cell_of_row _ _ 0 _ 9 (0, 0) HH3; have g3 : w3.frozen? ⟨B7, 0, none⟩ = false := Lib.frozen_of_heap HH3 0))
        all_goals
          obtain ⟨W4, hW4⟩ : ∃ x, x = w3.setCell ⟨B7, 0, none⟩ (.string (b ++ ZN)) := ⟨_, rfl⟩
          have hh7 : W4.heap[B7]? = some (.cells #[.string (txt (lpad b M))] 9 (0, 0)) := by rw [hW4, ← HT.out]; exact heap_setCell_same _ B7 0 _ 9 (.string (b ++ ZN)) HH3
          have hlt7 := (Array.getElem?_eq_some_iff.1 H7.out).1
          have hl7 := HL7.out
          have b3' : Below W2.heap.size W2 w3 := (Below.refl W2.heap.size W2).drew.trans b3
          have hb4 : Below B7 W2 W4 := by rw [hW4]; exact (b3'.mono (Nat.le_of_lt hlt7)).setCell (p := ⟨B7, 0, none⟩) (Nat.le_refl _) _
          have hb4' : Below w.heap.size w W4 := HB2.out.trans (hb4.mono (by omega))
          have hh5 := (hb4.block _ (show w.heap.size < B7 by omega)).trans H52.out
          have hh6 := (hb4.block _ (show w.heap.size + 1 < B7 by omega)).trans H62.out
          have KE := Lib.hid (aeachw_any g L d w.heap.size (w.heap.size + 1) B7 a M b w W4 HDw.out hb4' hh5 hh6 hh7 (Nat.le_refl _) (by omega) (by omega) HF64.out HM64.out HA64.out)
          rw [← HX.out] at KE
          rw [← hW4]
          clear hh7 hlt7 hl7 hb4 hh5 hh6 b3 b3' hW4 HH3 f3 g3 e5 e6 e7 hb4' hl1 hl2 hl3 hl4 hsum
          unfold ptr at *
          go_wp2_with (go_at_call 53; (with_reducible refine KE.out.mono ?_); rintro q w5 ⟨rfl, hM5⟩)
          go_ret
          exact ⟨rfl, hM5⟩
      · obtain rfl : X = (d, 4) := by rw [HA.out, if_pos rfl, if_neg hf]
        rw [decide_eq_false hf] at KF
        clear HA HON hf h0 h1 h2 hn
        go_wp2_with (first | (go_at_call 51; (with_reducible refine K1.out.mono ?_); rintro q w1 ⟨rfl, rfl⟩) | (go_at_call 49; (with_reducible refine (KF.out _).mono ?_); rintro q w1 ⟨rfl, rfl⟩))
        go_ret
        exact ⟨rfl, HM0.out _ HB2.out⟩
end Go.Proofs.Ytlmfnlaikdmphaa
namespace Go.Proofs.Ytlmfnlaikdmphaa
open Go.RowKit Vi Dk
set_option linter.unusedVariables false
set_option linter.unusedSimpArgs false
theorem ext_cut (b : ByteArray) (k : Nat) : b.extract (min (64 * k) b.size) (min (64 * k + 64) b.size) = txt ((b.data.toList.drop (k * 64)).take 64) := by
  have hl : b.data.toList.length = b.size := Array.length_toList
  apply ByteArray.ext
  apply Array.toList_inj.1
  rw [ByteArray.data_extract, Array.toList_extract, txt_list, List.extract_eq_take_drop]
  by_cases h : 64 * k ≤ b.size
  · rw [show min (64 * k) b.size = k * 64 by omega, List.take_eq_take_iff, List.length_drop]
    omega
  · rw [List.drop_eq_nil_of_le (by omega), List.drop_eq_nil_of_le (by omega)]
    simp
set_option maxHeartbeats 4000000 in
set_option maxRecDepth 100000 in
theorem rwrite_sn (B gr : Nat) (L : List Nat) (d : St) (at_ m v : Int) (s : Sn) (w : World) (h : Rf w B gr L d) (hBw : B ≤ w.heap.size) (ok : s.Ok) (ha : at_ ≤ 9223372036854775807) :
    Calls Try.prog 20 #[ptr gr, .int .i64 at_, .int .i64 m, .int .i64 v, s.v] w fun e w' => e = .returned (.int .i64 (arW d at_ m v s).2) ∧ RMoves B gr L (arW d at_ m v s).1 w w' := by
  obtain ⟨W, hW⟩ : ∃ W, W = w.alloc (.cells s.c 30) := ⟨_, rfl⟩
  have hB : Below w.heap.size w W := by rw [hW]; exact (Below.refl _ w).alloc (Nat.le_refl _) _
  have hc : W.heap[w.heap.size]? = some (.cells s.c 30 (0, 0)) := by rw [hW]; exact heap_alloc_new w _
  obtain ⟨c0, c1, c2⟩ := sn_cells hc
  have KP := Lib.hid (rput_sn v s W ok)
  have HB := Lib.hid hB
  have HW := Lib.hid hW
  have HR := Lib.hid (h.below hB)
  have hbz := snS_size v s ok
  have KO := Lib.hid (fun (W : World) (h : Rf W B gr L d) => rright_any B gr L d at_ m W h ha)
  have HN : Hid (d.n ≤ 4096) := h.1.n2
  have HA : Hid (arW d at_ m v s = if snO v s && onA d.n at_ m then (if ((((snS v s).size + 63) / 64 : Nat) : Int) ≤ m then wrL at_.toNat (snS v s).data.toList m.toNat 0 d else (d, 4)) else (d, 1)) := rfl
  have HM0 : Hid (∀ W', Below w.heap.size w W' → RMoves B gr L d w W') := fun W' hb => ⟨h.below hb, Keep.of_below hb⟩
  obtain ⟨X, hX⟩ : ∃ X, X = arW d at_ m v s := ⟨_, rfl⟩
  rw [← hX] at HA ⊢
  obtain ⟨b, hb⟩ : ∃ b, b = snS v s := ⟨_, rfl⟩
  rw [← hb] at KP HA hbz
  obtain ⟨o, ho⟩ : ∃ o, o = snO v s := ⟨_, rfl⟩
  rw [← ho] at KP HA
  obtain ⟨on, hon⟩ : ∃ x, x = onA d.n at_ m := ⟨_, rfl⟩
  have HON : Hid (on = true → 0 ≤ at_ ∧ 1 ≤ m ∧ m ≤ (d.n : Int) - at_) := fun h => onA_iff.1 (hon ▸ h)
  rw [← hon] at KO HA
  have HBZ := Lib.hid hbz
  unfold Sn.c at HW
  obtain ⟨ix, tm, D⟩ := s
  dsimp only at *
  clear hB hW hX hb ho hon h ok hbz hc
  unfold ptr at *
  cases o with
  | false =>
    rw [Bool.false_and] at HA
    obtain rfl : X = (d, 1) := HA.out
    go_enter Try.func20, Try.ntmps20
    go_upto_region 1 with fail
    refine wp_at (w := W) HW.out.symm ?_
    go_wp2_with (first | (go_at_call 10; (with_reducible refine KP.out.mono ?_); rintro q w1 ⟨rfl, b1⟩) | (go_at_call 55; (with_reducible refine (KO.out _ (HR.out.below b1)).mono ?_); rintro q w2 ⟨rfl, rfl⟩))
    go_ret
    exact ⟨rfl, HM0.out _ (HB.out.trans (b1.mono HB.out.size))⟩
  | true =>
    rw [Bool.true_and] at HA
    cases on with
    | false =>
      obtain rfl : X = (d, 1) := HA.out
      go_enter Try.func20, Try.ntmps20
      go_upto_region 1 with fail
      refine wp_at (w := W) HW.out.symm ?_
      go_wp2_with (first | (go_at_call 10; (with_reducible refine KP.out.mono ?_); rintro q w1 ⟨rfl, b1⟩) | (go_at_call 55; (with_reducible refine (KO.out _ (HR.out.below b1)).mono ?_); rintro q w2 ⟨rfl, rfl⟩))
      go_ret
      exact ⟨rfl, HM0.out _ (HB.out.trans (b1.mono HB.out.size))⟩
    | true =>
      obtain ⟨h0, h1, h2⟩ := HON.out rfl
      have hn := HN.out
      have hbz := HBZ.out
      obtain ⟨a, rfl⟩ := Int.eq_ofNat_of_zero_le h0
      obtain ⟨M, rfl⟩ := Int.eq_ofNat_of_zero_le (show 0 ≤ m by omega)
      have hl1 : wrap64 (64 * (M : Int)) = 64 * (M : Int) := by unfold wrap64; omega
      by_cases hf : (((b.size + 63) / 64 : Nat) : Int) ≤ (M : Int)
      · have hX : X = wrL a b.data.toList M 0 d := by rw [HA.out, if_pos rfl, if_pos hf, Int.toNat_natCast, Int.toNat_natCast]
        have hng : ¬ 64 * (M : Int) < b.size := by omega
        have HX := Lib.hid hX
        have HAM : Hid (a ≤ 4096 ∧ M ≤ 4096 ∧ b.size ≤ 16420) := ⟨by omega, by omega, hbz⟩
        clear HA HON h0 h1 h2 hn hX hf hbz
        go_enter Try.func20, Try.ntmps20
        go_upto_region 1 with fail
        refine wp_at (w := W) HW.out.symm ?_
        go_upto_region 7 with (first | (go_at_call 10; (with_reducible refine KP.out.mono ?_); rintro q w1 ⟨rfl, b1⟩) | (go_at_call 55; (with_reducible refine (KO.out _ (HR.out.below b1)).mono ?_); rintro q w2 ⟨rfl, rfl⟩))
        have HB1 : Hid (Below w.heap.size w w1) := HB.out.trans (b1.mono HB.out.size)
        have HR1 := Lib.hid (HR.out.below b1)
        clear b1 c0 c1 c2 hng hl1 KP KO HW
        go_wp2_with fail
        go_loopw [14] (fun i wr => ∃ (k : Nat) (d' : St), i = .int .i64 k ∧ k ≤ M ∧ Hid (RMoves B gr L d' w wr ∧ wrL a b.data.toList (M - k) k d' = X)) (fun i _ => M - (Go.RowKit.intOf i).toNat)
        case atStart => exact ⟨0, d, rfl, Nat.zero_le _, HM0.out _ HB1.out, HX.out.symm⟩
        case round =>
          obtain ⟨k, d', rfl, hk, hP⟩ := hrel
          by_cases hlt : k < M
          · have t1 : decide ((k : Int) < (M : Int)) = true := decide_eq_true (by omega)
            obtain ⟨ham1, ham2, ham3⟩ := HAM.out
            have hst : wrL a b.data.toList (M - k) k d' = if (d'.write ((a + k : Nat) : Int) ((b.data.toList.drop (k * 64)).take 64)).2 = 0 then wrL a b.data.toList (M - (k + 1)) (k + 1) (d'.write ((a + k : Nat) : Int) ((b.data.toList.drop (k * 64)).take 64)).1 else d'.write ((a + k : Nat) : Int) ((b.data.toList.drop (k * 64)).take 64) := by
              rw [show M - k = (M - (k + 1)) + 1 by omega]
              rfl
            rw [hP.out.2] at hst
            have HST := Lib.hid hst
            have hx := ext_cut b k
            have KW := Lib.hid (rwrite_any B gr L d' ((a + k : Nat) : Int) ((b.data.toList.drop (k * 64)).take 64) wr hP.out.1.1)
            rw [← hx] at KW
            rw [show ((a + k : Nat) : Int) = (a : Int) + k by omega] at KW HST
            obtain ⟨DD, hDD⟩ : ∃ D, D = d'.write ((a : Int) + k) ((b.data.toList.drop (k * 64)).take 64) := ⟨_, rfl⟩
            rw [← hDD] at KW HST
            obtain ⟨p, hp⟩ : ∃ p, p = min (64 * k) b.size := ⟨_, rfl⟩
            obtain ⟨r, hr⟩ : ∃ r, r = min (64 * k + 64) b.size := ⟨_, rfl⟩
            rw [← hp, ← hr] at KW
            have hm1 : min (64 * (k : Int)) (b.size : Int) = (p : Int) := by omega
            have hm2 : min (64 * (k : Int) + 64) (b.size : Int) = (r : Int) := by omega
            have hpr : (p : Int) ≤ (r : Int) := by omega
            have hrb : (r : Int) ≤ (b.size : Int) := by omega
            have hl2 : wrap64 ((a : Int) + k) = (a : Int) + k := by unfold wrap64; omega
            have hl3 : wrap64 (64 * (k : Int)) = 64 * (k : Int) := by unfold wrap64; omega
            have hl4 : wrap64 (64 * (k : Int) + 64) = 64 * (k : Int) + 64 := by unfold wrap64; omega
            clear hst hx hDD hp hr ham1 ham2 ham3
            unfold ptr at *
            go_upto_region 11 with (go_at_call 56; (with_reducible refine KW.out.mono ?_); rintro q w5 ⟨rfl, hM5⟩)
            have HM5 : Hid (RMoves B gr L DD.1 w w5) := ⟨hM5.1, hP.out.1.2.trans hM5.2⟩
            obtain ⟨z, hz⟩ : ∃ z, z = DD.2 := ⟨_, rfl⟩
            rw [← hz] at HST ⊢
            clear hM5 hP KW hm1 hm2 hpr hrb hl2 hl3 hl4
            have hMM := HAM.out.2.1
            by_cases hz0 : z = 0
            · have hst := HST.out
              rw [if_pos hz0] at hst
              have HST2 := Lib.hid hst
              subst hz0
              clear hst HST hz
              go_wp2
              go_roundw
              case rel => exact ⟨k + 1, DD.1, by go_num, by omega, HM5.out, HST2.out.symm⟩
              case measure => simp [Go.RowKit.intOf]; omega
            · have hst := HST.out
              rw [if_neg hz0] at hst
              have hX1 : X.1 = DD.1 := by rw [hst]
              have hX2 : X.2 = z := by rw [hst, hz]
              have e1 : (z == 0) = false := beqI hz0
              have e2 : (z != 0) = true := by unfold bne; rw [e1]; rfl
              have HX1 := Lib.hid hX1
              have HX2 := Lib.hid hX2
              clear hst HST hX1 hX2 hz
              go_wp2
              go_ret
              exact ⟨congrArg (fun x => Ending.returned (.int .i64 x)) HX2.out.symm, by rw [HX1.out]; exact HM5.out⟩
          · have hkm : k = M := by omega
            subst hkm
            have t1 : decide ((k : Int) < (k : Int)) = false := decide_eq_false (by omega)
            obtain ⟨h1, h2⟩ := hP.out
            rw [Nat.sub_self] at h2
            have H1 := Lib.hid h1
            have hX2 : X = (d', 0) := h2.symm
            subst hX2
            clear h1 h2 HX hP
            go_wp2
            go_ret
            exact ⟨rfl, H1.out⟩
      · obtain rfl : X = (d, 4) := by rw [HA.out, if_pos rfl, if_neg hf]
        have hng : 64 * (M : Int) < b.size := by omega
        clear HA HON h0 h1 h2 hn hf hbz
        go_enter Try.func20, Try.ntmps20
        go_upto_region 1 with fail
        refine wp_at (w := W) HW.out.symm ?_
        go_wp2_with (first | (go_at_call 10; (with_reducible refine KP.out.mono ?_); rintro q w1 ⟨rfl, b1⟩) | (go_at_call 55; (with_reducible refine (KO.out _ (HR.out.below b1)).mono ?_); rintro q w2 ⟨rfl, rfl⟩))
        go_ret
        exact ⟨rfl, HM0.out _ (HB.out.trans (b1.mono HB.out.size))⟩
end Go.Proofs.Ytlmfnlaikdmphaa
namespace Go.Proofs.Ytlmfnlaikdmphaa
open Go.RowKit Vi Dk
set_option linter.unusedVariables false
set_option linter.unusedSimpArgs false
theorem Try.sn24 : (Try.prog.info? 24).map (·.size) = some 3 := by kernel_rfl
theorem wpList_store_sn {ops : Array Oper} {rest : List Oper} {op : Oper} {a : Act} {Q : Exit → Act → World → Prop} (hgd : op.guard = none) (x y : Operand) (ho : op.op = .store 24 x y)
    (w : World) (z : Nat) (s t : Sn) (hx : a.eval x = .pointer (some ⟨z, 0, none⟩)) (hy : a.eval y = .agg s.c) (hz : w.heap[z]? = some (.cells t.c 24 (0, 0)))
    (h : wpList Try.prog ops Q rest (a.put op.dst undef) (w.setRow z s.c)) : wpList Try.prog ops Q (op :: rest) a w :=
  wpList_store_row hgd 24 x y ho z _ hx hy 24 _ hz Try.sn24 rfl (by simp [Value.oneCell']) h
theorem wpList_load_sn {ops : Array Oper} {rest : List Oper} {op : Oper} {a : Act} {Q : Exit → Act → World → Prop} (hgd : op.guard = none) (x : Operand) (ho : op.op = .load 24 x)
    (w : World) (z : Nat) (s : Sn) (hx : a.eval x = .pointer (some ⟨z, 0, none⟩)) (hz : w.heap[z]? = some (.cells s.c 24 (0, 0)))
    (h : wpList Try.prog ops Q rest (a.put op.dst (.agg s.c)) w) : wpList Try.prog ops Q (op :: rest) a w :=
  wpList_load_row hgd 24 x ho z hx 24 _ (0, 0) _ hz Try.underlying24 rfl Try.sn24 h
theorem res13 (tmps : Array Value) (w : World) (p : Nat) (s : Sn) (hp : tmps.getD 2 undef = .pointer (some ⟨p, 0, none⟩)) (hg : w.heap[p]? = some (.cells s.c 24 (0, 0))) :
    (results Try.f13 tmps).run Try.prog w = .ok (.tuple #[.agg s.c, tmps.getD 3 undef, tmps.getD 4 undef]) w := by
  simp only [results, Try.results13]
  have hp' : tmps[2]?.getD undef = .pointer (some ⟨p, 0, none⟩) := by simpa using hp
  simp [Sem.run_bind, Result.andThen, hp', asAddr, run_loadVar_row w p 24 24 s.c (0, 0) _ hg Try.underlying24 rfl Try.sn24]
abbrev sn0 : Sn := ⟨0, 0, ⟨#[]⟩⟩
theorem look_plain {T E : TypeId} {g clock i : Nat} {es : Array MapEntry} (c : Int) (v : Value) {w : World} (hT : Try.prog.underlying T = some (.map 3 E)) (hb : w.heap[g]? = some (.map es clock))
    (hf : Instr.findNow (.int .i64) (.int .i64 c) es.toList 0 = some (some (i, v))) :
    (Instr.lookup T (.map (some g)) (.int .i64 c) false).run Try.prog w = .ok v w := by
  have hk : Try.prog.underlying 3 = some (.int .i64) := Try.underlying3
  have hc : (Instr.checkKey es.isEmpty 10000 3 (.int .i64 c)).run Try.prog w = .ok () w := MapKept.run_checkKey (k := .int .i64 c) hk (by simp [MapKept.IsKey]) es.isEmpty 9999
  simp [Instr.lookup, run_underlying hT, MapKept.run_getObj_map hb, hc, MapKept.run_findKey hk hf, Result.andThen]
set_option maxHeartbeats 1000000 in
set_option maxRecDepth 100000 in
theorem takes_any (g : Nat) (w : World) :
    Calls Try.prog 41 #[rdp g] w fun r w' => r = .returned (.map (some (w.heap.size + 1))) ∧ w'.heap[w.heap.size]? = some (.cells #[.func (.func 79) #[rdp g] #[]] 86 (0, 0)) ∧ w'.heap[w.heap.size + 1]? = some (.map (two (.func (.func 81) #[] #[.pointer (some ⟨w.heap.size, 0, none⟩)]) (.func (.func 82) #[rdp g] #[])) 2) ∧ Below w.heap.size w w' := by
  have hmm := @run_makeMap Try.prog
  have hmf : ∀ (fn : Fn) (first cap : Array Value) (w : World), (Instr.makeFunc fn first cap).run Try.prog w = .ok (.func fn first cap) w := fun _ _ _ _ => rfl
  obtain ⟨W, hW⟩ : ∃ W, W = w.alloc (Obj.cells #[.func (.func 79) #[rdp g] #[]] 86) := ⟨_, rfl⟩
  have hz : W.heap.size = w.heap.size + 1 := by rw [hW]; simp
  have hB : Below w.heap.size w W := by rw [hW]; exact (Below.refl _ _).alloc (Nat.le_refl _) _
  have hK : W.heap[w.heap.size]? = some (.cells #[.func (.func 79) #[rdp g] #[]] 86 (0, 0)) := by rw [hW]; exact heap_alloc_new w _
  obtain ⟨w1, e1, h1, b1, o1, s1⟩ := ins_step (T := 81) 1 (.func (.func 81) #[] #[.pointer (some ⟨w.heap.size, 0, none⟩)]) Try.underlying81 (heap_alloc_new W (.map #[] 0)) rfl ((Below.refl _ _).alloc (Nat.le_refl _) _) (Nat.le_refl _)
  obtain ⟨w2, e2, h2, b2, o2, s2⟩ := ins_step (T := 81) 2 (.func (.func 82) #[rdp g] #[]) Try.underlying81 h1 rfl b1 (Nat.le_refl _)
  have H2 : Hid (w2.heap[w.heap.size + 1]? = some (.map (two (.func (.func 81) #[] #[.pointer (some ⟨w.heap.size, 0, none⟩)]) (.func (.func 82) #[rdp g] #[])) 2)) := by rw [← hz]; exact h2
  have B2 : Hid (Below w.heap.size w w2) := hB.trans (b2.mono hB.size)
  have K2 : Hid (w2.heap[w.heap.size]? = some (.cells #[.func (.func 79) #[rdp g] #[]] 86 (0, 0))) := (b2.block _ (by omega)).trans hK
  have HW := Lib.hid hW
  have HZ := Lib.hid hz
  clear h1 h2 b1 b2 o1 o2 s1 s2 hB hK hW hz
  unfold rdp at *
  go_enter Try.func41, Try.ntmps41
  go_upto_region 2 with fail
  rw [← HW.out]
  go_wp2
  go_ret
  rw [HZ.out]
  exact ⟨rfl, K2.out, H2.out, B2.out⟩
set_option maxHeartbeats 1000000 in
set_option maxRecDepth 100000 in
theorem tk8_any (A g : Nat) (s : ByteArray) (bad : Bool) (w : World) (hA : w.heap[A]? = some (.cells #[.func (.func 79) #[rdp g] #[]] 86 (0, 0))) (h : Rd 130 g s bad w) (hm : s.size ≤ 281474976710656) :
    Calls Try.prog 81 #[.pointer (some ⟨A, 0, none⟩)] w fun e w' => e = .returned (.int .u64 (fixV s 8)) ∧ Rd 130 g (fixT s 8) (bad || !hasF s 8) w' ∧ w.grownBy w' (some g) := by
  have c0 : w.cell? ⟨A, 0, none⟩ = some (.func (.func 79) #[rdp g] #[]) := cell_of_row w A 0 _ 86 (0, 0) hA
  have K := Lib.hid (fixedr_any g s bad 8 w h hm)
  unfold rdp at *
  clear h hA
  go_enter Try.func81, Try.ntmps81
  go_wp2_with fail
  refine K.out.mono ?_
  rintro e w1 ⟨rfl, R1, g1⟩
  go_wp2
  go_ret
  exact ⟨rfl, R1, g1⟩
/-- What is read so far: the result's block, the reader, the cell that holds how numbers are taken. -/
structure Gr (w : World) (R A : Nat) (u : ByteArray) (bad : Bool) (W : World) : Prop where
  be : Below w.heap.size w W
  r0 : W.heap[w.heap.size]? = some (.cells sn0.c 24 (0, 0))
  rd : Rd 130 R u bad W
  ca : W.heap[A]? = some (.cells #[.func (.func 79) #[rdp R] #[]] 86 (0, 0))
  l1 : w.heap.size < R
  l2 : R < A
  sz : u.size ≤ 281474976710656
theorem Gr.grown {w W W' : World} {R A : Nat} {u v : ByteArray} {b b' : Bool} (h : Gr w R A u b W) (hr : Rd 130 R v b' W') (hg : W.grownBy W' (some R)) (hv : v.size ≤ 281474976710656) : Gr w R A v b' W' := by
  have l1 := h.l1
  have l2 := h.l2
  have lt := (Array.getElem?_eq_some_iff.1 h.ca).1
  have bl : ∀ k, k < W.heap.size → k ≠ R → W'.heap[k]? = W.heap[k]? := fun k hk hn => hg.block k hk (by simpa using hn)
  exact ⟨below_grownBy h.be hg h.be.size (by omega), (bl _ (by omega) (by omega)).trans h.r0, hr, (bl _ (by omega) (by omega)).trans h.ca, l1, l2, hv⟩
theorem hasB_self (s : ByteArray) : hasB s s.size = true ∧ bytV s s.size = s ∧ bytT s s.size = ⟨#[]⟩ := by
  obtain ⟨h1, h2, h3⟩ := byt_put s ⟨#[]⟩
  rw [app_nil] at h1 h2 h3
  exact ⟨h3, h1, h2⟩
theorem nT_size (s : ByteArray) : (nT s).size ≤ s.size := by
  unfold nT
  split
  · exact Nat.le_trans (fixT_size _ 4) (fixT_size s 1)
  · exact Nat.le_trans (varT_size _) (fixT_size s 1)
theorem nBd_size (s : ByteArray) : (nBd s).size ≤ s.size := by
  have h1 : (nBd s).size ≤ (nU s).size := bytV_size _ _
  have h2 : (nU s).size ≤ (nT s).size := bytT_size _ _
  exact Nat.le_trans h1 (Nat.le_trans h2 (nT_size s))
theorem gt_nx {s : ByteArray} (h : nOk s = false) : gtO s = false := by unfold gtO; rw [h]; rfl
theorem nV_12 {s : ByteArray} (h : nOk s = true) : nV s = 1 ∨ nV s = 2 := by
  by_cases h1 : nV s = 1
  · exact .inl h1
  · by_cases h2 : nV s = 2
    · exact .inr h2
    · unfold nOk at h
      rw [decide_eq_false h1, decide_eq_false h2] at h
      simp at h
set_option maxHeartbeats 2000000 in
set_option maxRecDepth 100000 in
theorem aget_none (b : ByteArray) (w : World) (hb : b.size ≤ 281474976710656) (h : nOk b = false) :
    Calls Try.prog 13 #[.string b] w fun e w' => e = .returned (.tuple #[(gtS b).v, .int .i64 (gtV b), .bool (gtO b)]) ∧ Below w.heap.size w w' := by
  have hO := gt_nx h
  obtain ⟨hS, hV⟩ := gt_no hO
  rw [hO, hS, hV]
  obtain ⟨W, hW⟩ : ∃ W, W = w.alloc (.cells sn0.c 24) := ⟨_, rfl⟩
  have hB : Below w.heap.size w W := by rw [hW]; exact (Below.refl _ w).alloc (Nat.le_refl _) _
  have hc : W.heap[w.heap.size]? = some (.cells sn0.c 24 (0, 0)) := by rw [hW]; exact heap_alloc_new w _
  have KN := Lib.hid (next_any b W hb)
  obtain ⟨n1, n2, n3⟩ := nx_no h
  rw [h, n1, n2, n3] at KN
  have HB := Lib.hid hB
  have HC := Lib.hid hc
  have HW := Lib.hid hW
  unfold sn0 Sn.c at HW
  dsimp only at HW
  clear hB hc hW hO hS hV h n1 n2 n3
  go_enter Try.func13, Try.ntmps13
  go_upto_region 1 with fail
  refine wp_at (w := W) HW.out.symm ?_
  go_upto_region 3 with (go_at_call 39; (with_reducible refine KN.out.mono ?_); rintro q w1 ⟨rfl, b1⟩)
  have HC1 : Hid (w1.heap[w.heap.size]? = some (.cells sn0.c 24 (0, 0))) := (b1.block _ (Array.getElem?_eq_some_iff.1 HC.out).1).trans HC.out
  have HB1 : Hid (Below w.heap.size w w1) := HB.out.trans (b1.mono HB.out.size)
  obtain ⟨W2, hW2⟩ : ∃ W2, W2 = w1.setRow w.heap.size sn0.c := ⟨_, rfl⟩
  have HB2 : Hid (Below w.heap.size w W2) := by rw [hW2]; exact HB1.out.trans ⟨rfl, rfl, rfl, by simp, fun k hk => setRow_other _ _ _ _ (by have := HB1.out.size; omega)⟩
  have HC2 : Hid (W2.heap[w.heap.size]? = some (.cells sn0.c 24 (0, 0))) := by show _ = _; rw [hW2]; exact setRow_heap _ _ _ _ 24 (0, 0) HC1.out
  have HW2 := Lib.hid hW2
  clear b1 hW2
  go_wp2_with (refine wpList_store_sn rfl _ _ rfl _ _ sn0 sn0 rfl rfl HC1.out ?_; refine wpList_at HW2.out.symm ?_; go_frame)
  exact bodyPost_ret (v := _) (res13 _ _ w.heap.size sn0 rfl HC2.out) rfl ⟨rfl, HB2.out⟩
set_option maxHeartbeats 4000000 in
set_option maxRecDepth 100000 in
theorem aget_v1 (b : ByteArray) (w : World) (hb : b.size ≤ 281474976710656) (h : nOk b = true) (hv : nV b = 1) :
    Calls Try.prog 13 #[.string b] w fun e w' => e = .returned (.tuple #[(gtS b).v, .int .i64 (gtV b), .bool (gtO b)]) ∧ Below w.heap.size w w' := by
  obtain ⟨W, hW⟩ : ∃ W, W = w.alloc (.cells sn0.c 24) := ⟨_, rfl⟩
  have hB : Below w.heap.size w W := by rw [hW]; exact (Below.refl _ w).alloc (Nat.le_refl _) _
  have hc : W.heap[w.heap.size]? = some (.cells sn0.c 24 (0, 0)) := by rw [hW]; exact heap_alloc_new w _
  have KN := Lib.hid (next_any b W hb)
  obtain ⟨n1, n2, n3⟩ := nx_yes h
  rw [h, n1, n2, n3, hv] at KN
  have hbz := Nat.le_trans (nBd_size b) hb
  obtain ⟨u0, hu0⟩ : ∃ u, u = nBd b := ⟨_, rfl⟩
  rw [← hu0] at KN hbz
  obtain ⟨NN, hNN⟩ : ∃ x : Int, x = (b.size : Int) - (nW b).size := ⟨_, rfl⟩
  rw [← hNN] at KN
  have HO : Hid (gtO b = ((hasF u0 8 && hasF (fixT u0 8) 8) && decide ((fixT (fixT u0 8) 8).size ≤ 16384))) := by
    show _ = _
    unfold gtO bDa bOk bF bT
    rw [h, hv, ← hu0]
    rfl
  have HS : Hid (gtS b = if gtO b then ⟨fixV u0 8, fixV (fixT u0 8) 8, fixT (fixT u0 8) 8⟩ else sn0) := by
    show _ = _
    unfold gtS bDa bI bT
    rw [hv, ← hu0]
    rfl
  have HV : Hid (gtV b = if gtO b then 1 else 0) := by
    show _ = _
    unfold gtV
    rw [hv]
  obtain ⟨OO, hOO⟩ : ∃ x, x = gtO b := ⟨_, rfl⟩
  obtain ⟨SS, hSS⟩ : ∃ x, x = gtS b := ⟨_, rfl⟩
  obtain ⟨VV, hVV⟩ : ∃ x, x = gtV b := ⟨_, rfl⟩
  rw [← hOO] at HO HS HV
  rw [← hSS] at HS
  rw [← hVV] at HV
  rw [← hOO, ← hSS, ← hVV]
  have hz1 : (fixT u0 8).size ≤ 281474976710656 := Nat.le_trans (fixT_size u0 8) hbz
  have hz2 : (fixT (fixT u0 8) 8).size ≤ 281474976710656 := Nat.le_trans (fixT_size (fixT u0 8) 8) hz1
  have HZ0 := Lib.hid hbz
  have KF := fun (R : Nat) (bad : Bool) (W : World) (h : Rd 130 R u0 bad W) => fun (A : Nat) (hA : W.heap[A]? = some (.cells #[.func (.func 79) #[rdp R] #[]] 86 (0, 0))) => tk8_any A R u0 bad W hA h hbz
  have KG := fun (R : Nat) (bad : Bool) (W : World) (h : Rd 130 R (fixT u0 8) bad W) => fun (A : Nat) (hA : W.heap[A]? = some (.cells #[.func (.func 79) #[rdp R] #[]] 86 (0, 0))) => tk8_any A R (fixT u0 8) bad W hA h hz1
  obtain ⟨v0, hv0⟩ : ∃ x, x = fixV u0 8 := ⟨_, rfl⟩
  obtain ⟨f0, hf0⟩ : ∃ x, x = hasF u0 8 := ⟨_, rfl⟩
  obtain ⟨v1, hv1⟩ : ∃ x, x = fixV (fixT u0 8) 8 := ⟨_, rfl⟩
  obtain ⟨f1, hf1⟩ : ∃ x, x = hasF (fixT u0 8) 8 := ⟨_, rfl⟩
  obtain ⟨u2, hu2⟩ : ∃ x, x = fixT (fixT u0 8) 8 := ⟨_, rfl⟩
  rw [← hf0, ← hf1, ← hu2] at HO
  rw [← hv0, ← hv1, ← hu2] at HS
  simp only [← hv0, ← hf0] at KF
  simp only [← hv1, ← hf1, ← hu2] at KG
  rw [← hu2] at hz2
  obtain ⟨u1, hu1⟩ : ∃ x, x = fixT u0 8 := ⟨_, rfl⟩
  simp only [← hu1] at KF KG
  rw [← hu1] at hz1
  have HZ1 := Lib.hid hz1
  have HZ2 := Lib.hid hz2
  have KF := Lib.hid KF
  have KG := Lib.hid KG
  obtain ⟨s1, s2, s3⟩ := hasB_self u2
  have KB := Lib.hid (fun (R : Nat) (bad : Bool) (W : World) (h : Rd 130 R u2 bad W) => bytes_any R u2 bad (u2.size : Int) W h hz2)
  simp only [s1, s2, s3] at KB
  have HB := Lib.hid hB
  have HC := Lib.hid hc
  have HW := Lib.hid hW
  unfold sn0 Sn.c at HW
  dsimp only at HW
  clear hB hc hW h n1 n2 n3 hbz hz1 hz2 hOO hSS hVV hv0 hv1 hf0 hf1 hu2 hu1 hu0 hv s1 s2 s3 hNN hb
  unfold rdp at *
  go_enter Try.func13, Try.ntmps13
  go_upto_region 1 with fail
  refine wp_at (w := W) HW.out.symm ?_
  go_upto_region 4 with (go_at_call 39; (with_reducible refine KN.out.mono ?_); rintro q w1 ⟨rfl, b1⟩)
  have HC1 : Hid (w1.heap[w.heap.size]? = some (.cells sn0.c 24 (0, 0))) := (b1.block _ (Array.getElem?_eq_some_iff.1 HC.out).1).trans HC.out
  have HB1 : Hid (Below w.heap.size w w1) := HB.out.trans (b1.mono HB.out.size)
  clear b1 KN
  go_wp2_with fail
  refine (new_any _ _).mono ?_
  rintro e w2 ⟨rfl, hw2⟩
  obtain ⟨R, hR⟩ : ∃ R, R = w1.heap.size := ⟨_, rfl⟩
  have r2 : Rd 130 R u0 false w2 := by rw [hw2, hR]; exact Rd.new _ _ _ _
  have b2 : Below w1.heap.size w1 w2 := by rw [hw2]; exact (Below.refl _ _).alloc (Nat.le_refl _) _
  have hl1 : w.heap.size < R := by rw [hR]; exact (Array.getElem?_eq_some_iff.1 HC1.out).1
  have HC2 : Hid (w2.heap[w.heap.size]? = some (.cells sn0.c 24 (0, 0))) := (b2.block _ (by omega)).trans HC1.out
  have HB2 : Hid (Below w.heap.size w w2) := HB1.out.trans (b2.mono HB1.out.size)
  have HR2 := Lib.hid r2
  have HL1 := Lib.hid hl1
  unfold rdp
  rw [← hR]
  clear hw2 r2 b2 hl1 hR
  go_wp2_with fail
  refine (takes_any R w2).mono ?_
  rintro e w3 ⟨rfl, a3, m3, b3⟩
  have hl := look_plain (T := 81) 1 (.func (.func 81) #[] #[.pointer (some ⟨w2.heap.size, 0, none⟩)]) Try.underlying81 m3 (two_1 _ _)
  have G3 : Hid (Gr w R w2.heap.size u0 false w3) :=
    ⟨HB2.out.trans (b3.mono HB2.out.size), (b3.block _ (Array.getElem?_eq_some_iff.1 HC2.out).1).trans HC2.out, HR2.out.below b3 HR2.out.lt, a3, HL1.out, HR2.out.lt, HZ0.out⟩
  clear a3 m3 b3 HR2 HC2 HB2
  obtain ⟨A, hA⟩ : ∃ A, A = w2.heap.size := ⟨_, rfl⟩
  rw [← hA] at G3 hl
  rw [← hA]
  clear hA
  unfold rdp at *
  go_wp2_with fail
  refine (KF.out _ _ _ G3.out.rd _ G3.out.ca).mono ?_
  rintro e w4 ⟨rfl, r4, g4⟩
  have G4 : Hid (Gr w R A u1 (false || !f0) w4) := G3.out.grown r4 g4 HZ1.out
  clear r4 g4 G3 hl
  go_wp2_with fail
  refine (KG.out _ _ _ G4.out.rd _ G4.out.ca).mono ?_
  rintro e w5 ⟨rfl, r5, g5⟩
  have G5 : Hid (Gr w R A u2 (false || !f0 || !f1) w5) := G4.out.grown r5 g5 HZ2.out
  clear r5 g5 G4
  go_wp2_with fail
  refine (left_any R _ _ _ G5.out.rd).mono ?_
  rintro e w6 ⟨rfl, rfl⟩
  go_wp2_with fail
  refine (KB.out _ _ _ G5.out.rd).mono ?_
  rintro e w7 ⟨rfl, r7, g7⟩
  have G7 : Hid (Gr w R A ⟨#[]⟩ (false || !f0 || !f1 || !true) w7) := G5.out.grown r7 g7 (Nat.zero_le _)
  clear r7 g7 G5
  have HC7 := Lib.hid G7.out.r0
  obtain ⟨W8, hW8⟩ : ∃ W8, W8 = w7.setRow w.heap.size (Sn.c ⟨v0, v1, u2⟩) := ⟨_, rfl⟩
  have HB8 : Hid (Below w.heap.size w W8) := by rw [hW8]; exact G7.out.be.trans ⟨rfl, rfl, rfl, by simp, fun k hk => setRow_other _ _ _ _ (by have := G7.out.be.size; omega)⟩
  have HC8 : Hid (W8.heap[w.heap.size]? = some (.cells (Sn.c ⟨v0, v1, u2⟩) 24 (0, 0))) := by show _ = _; rw [hW8]; exact setRow_heap _ _ _ _ 24 (0, 0) HC7.out
  have HR8 : Hid (Rd 130 R ⟨#[]⟩ (false || !f0 || !f1 || !true) W8) := by
    have := G7.out.rd
    show Rd _ _ _ _ _
    unfold Rd at this ⊢
    rw [hW8, setRow_other _ _ _ _ (by have := HL1.out; omega)]
    exact this
  have HW8 := Lib.hid hW8
  clear hW8 G7
  unfold Sn.c at *
  dsimp only at *
  go_upto_region 7 with (refine wpList_store_sn rfl _ _ rfl _ _ ⟨v0, v1, u2⟩ sn0 rfl rfl HC7.out ?_; refine wpList_at HW8.out.symm ?_; go_frame)
  have K8 := Lib.hid (ok_any R _ _ _ HR8.out)
  have d2 : W8.cell? ⟨w.heap.size, 2, none⟩ = some (.string u2) := (sn_cells (s := ⟨v0, v1, u2⟩) HC8.out).2.2
  have hbo : (!(false || !f0 || !f1 || !true)) = (f0 && f1) := by cases f0 <;> cases f1 <;> rfl
  rw [hbo] at K8
  obtain ⟨ff, hff⟩ : ∃ x, x = (f0 && f1) := ⟨_, rfl⟩
  rw [← hff] at K8 HO
  clear hbo hff HR8 HW8 HC7
  have hzero : ∀ (W9 : World), W9 = W8.setRow w.heap.size sn0.c → Below w.heap.size w W9 ∧ W9.heap[w.heap.size]? = some (.cells sn0.c 24 (0, 0)) := fun W9 h9 => by
    rw [h9]
    exact ⟨HB8.out.trans ⟨rfl, rfl, rfl, by simp, fun k hk => setRow_other _ _ _ _ (by have := HB8.out.size; omega)⟩, setRow_heap _ _ _ _ 24 (0, 0) HC8.out⟩
  have HZZ := Lib.hid hzero
  clear hzero
  unfold rdp at *
  cases ff with
  | false =>
    have hO : OO = false := HO.out
    subst hO
    obtain rfl : SS = sn0 := HS.out
    obtain rfl : VV = 0 := HV.out
    obtain ⟨W9, hW9⟩ : ∃ W9, W9 = W8.setRow w.heap.size sn0.c := ⟨_, rfl⟩
    have H9 := Lib.hid (HZZ.out W9 hW9)
    have HW9 := Lib.hid hW9
    clear hW9 HZZ HO HS HV
    go_wp2_with (first
      | (go_at_call 44; (with_reducible refine K8.out.mono ?_); rintro q w9 ⟨rfl, rfl⟩)
      | (refine wpList_store_sn rfl _ _ rfl _ _ sn0 ⟨v0, v1, u2⟩ rfl rfl HC8.out ?_; refine wpList_at HW9.out.symm ?_; go_frame))
    exact bodyPost_ret (v := _) (res13 _ _ w.heap.size sn0 rfl H9.out.2) rfl ⟨rfl, H9.out.1⟩
  | true =>
    by_cases hd : u2.size ≤ 16384
    · have hO : OO = true := by rw [HO.out, decide_eq_true hd]; rfl
      subst hO
      obtain rfl : SS = ⟨v0, v1, u2⟩ := HS.out
      obtain rfl : VV = 1 := HV.out
      have hdn : ¬ (16384 : Int) < u2.size := by omega
      obtain ⟨W9, hW9⟩ : ∃ W9, W9 = W8.setRow w.heap.size (Sn.c ⟨v0, v1, u2⟩) := ⟨_, rfl⟩
      have HB9 : Hid (Below w.heap.size w W9) := by rw [hW9]; exact HB8.out.trans ⟨rfl, rfl, rfl, by simp, fun k hk => setRow_other _ _ _ _ (by have := HB8.out.size; omega)⟩
      have HC9 : Hid (W9.heap[w.heap.size]? = some (.cells (Sn.c ⟨v0, v1, u2⟩) 24 (0, 0))) := by show _ = _; rw [hW9]; exact setRow_heap _ _ _ _ 24 (0, 0) HC8.out
      have HW9 := Lib.hid hW9
      clear hW9 HZZ HO HS HV hd
      go_wp2_with (first
        | (go_at_call 44; (with_reducible refine K8.out.mono ?_); rintro q w9 ⟨rfl, rfl⟩)
        | (refine wpList_load_sn rfl _ rfl _ _ ⟨v0, v1, u2⟩ rfl HC8.out ?_; go_frame)
        | (refine wpList_store_sn rfl _ _ rfl _ _ ⟨v0, v1, u2⟩ ⟨v0, v1, u2⟩ rfl rfl HC8.out ?_; refine wpList_at HW9.out.symm ?_; go_frame))
      exact bodyPost_ret (v := _) (res13 _ _ w.heap.size ⟨v0, v1, u2⟩ rfl HC9.out) rfl ⟨rfl, HB9.out⟩
    · have hO : OO = false := by rw [HO.out, decide_eq_false hd]; rfl
      subst hO
      obtain rfl : SS = sn0 := HS.out
      obtain rfl : VV = 0 := HV.out
      have hdn : (16384 : Int) < u2.size := by omega
      obtain ⟨W9, hW9⟩ : ∃ W9, W9 = W8.setRow w.heap.size sn0.c := ⟨_, rfl⟩
      have H9 := Lib.hid (HZZ.out W9 hW9)
      have HW9 := Lib.hid hW9
      clear hW9 HZZ HO HS HV hd
      go_wp2_with (first
        | (go_at_call 44; (with_reducible refine K8.out.mono ?_); rintro q w9 ⟨rfl, rfl⟩)
        | (refine wpList_store_sn rfl _ _ rfl _ _ sn0 ⟨v0, v1, u2⟩ rfl rfl HC8.out ?_; refine wpList_at HW9.out.symm ?_; go_frame))
      exact bodyPost_ret (v := _) (res13 _ _ w.heap.size sn0 rfl H9.out.2) rfl ⟨rfl, H9.out.1⟩
set_option maxHeartbeats 4000000 in
set_option maxRecDepth 100000 in
theorem aget_v2 (b : ByteArray) (w : World) (hb : b.size ≤ 281474976710656) (h : nOk b = true) (hv : nV b = 2) :
    Calls Try.prog 13 #[.string b] w fun e w' => e = .returned (.tuple #[(gtS b).v, .int .i64 (gtV b), .bool (gtO b)]) ∧ Below w.heap.size w w' := by
  obtain ⟨W, hW⟩ : ∃ W, W = w.alloc (.cells sn0.c 24) := ⟨_, rfl⟩
  have hB : Below w.heap.size w W := by rw [hW]; exact (Below.refl _ w).alloc (Nat.le_refl _) _
  have hc : W.heap[w.heap.size]? = some (.cells sn0.c 24 (0, 0)) := by rw [hW]; exact heap_alloc_new w _
  have KN := Lib.hid (next_any b W hb)
  obtain ⟨n1, n2, n3⟩ := nx_yes h
  rw [h, n1, n2, n3, hv] at KN
  have hbz := Nat.le_trans (nBd_size b) hb
  obtain ⟨u0, hu0⟩ : ∃ u, u = nBd b := ⟨_, rfl⟩
  rw [← hu0] at KN hbz
  obtain ⟨NN, hNN⟩ : ∃ x : Int, x = (b.size : Int) - (nW b).size := ⟨_, rfl⟩
  rw [← hNN] at KN
  have HO : Hid (gtO b = ((varO u0 && varO (varT u0)) && decide ((varT (varT u0)).size ≤ 16384))) := by
    show _ = _
    unfold gtO bDa bOk bF bT
    rw [h, hv, ← hu0]
    rfl
  have HS : Hid (gtS b = if gtO b then ⟨varV u0, varV (varT u0), varT (varT u0)⟩ else sn0) := by
    show _ = _
    unfold gtS bDa bI bT
    rw [hv, ← hu0]
    rfl
  have HV : Hid (gtV b = if gtO b then 2 else 0) := by
    show _ = _
    unfold gtV
    rw [hv]
  obtain ⟨OO, hOO⟩ : ∃ x, x = gtO b := ⟨_, rfl⟩
  obtain ⟨SS, hSS⟩ : ∃ x, x = gtS b := ⟨_, rfl⟩
  obtain ⟨VV, hVV⟩ : ∃ x, x = gtV b := ⟨_, rfl⟩
  rw [← hOO] at HO HS HV
  rw [← hSS] at HS
  rw [← hVV] at HV
  rw [← hOO, ← hSS, ← hVV]
  have hz1 : (varT u0).size ≤ 281474976710656 := Nat.le_trans (varT_size u0) hbz
  have hz2 : (varT (varT u0)).size ≤ 281474976710656 := Nat.le_trans (varT_size (varT u0)) hz1
  have HZ0 := Lib.hid hbz
  have KF := fun (R : Nat) (bad : Bool) (W : World) (h : Rd 130 R u0 bad W) => var_any R u0 bad W h hbz
  have KG := fun (R : Nat) (bad : Bool) (W : World) (h : Rd 130 R (varT u0) bad W) => var_any R (varT u0) bad W h hz1
  obtain ⟨v0, hv0⟩ : ∃ x, x = varV u0 := ⟨_, rfl⟩
  obtain ⟨f0, hf0⟩ : ∃ x, x = varO u0 := ⟨_, rfl⟩
  obtain ⟨v1, hv1⟩ : ∃ x, x = varV (varT u0) := ⟨_, rfl⟩
  obtain ⟨f1, hf1⟩ : ∃ x, x = varO (varT u0) := ⟨_, rfl⟩
  obtain ⟨u2, hu2⟩ : ∃ x, x = varT (varT u0) := ⟨_, rfl⟩
  rw [← hf0, ← hf1, ← hu2] at HO
  rw [← hv0, ← hv1, ← hu2] at HS
  simp only [← hv0, ← hf0] at KF
  simp only [← hv1, ← hf1, ← hu2] at KG
  rw [← hu2] at hz2
  obtain ⟨u1, hu1⟩ : ∃ x, x = varT u0 := ⟨_, rfl⟩
  simp only [← hu1] at KF KG
  rw [← hu1] at hz1
  have HZ1 := Lib.hid hz1
  have HZ2 := Lib.hid hz2
  have KF := Lib.hid KF
  have KG := Lib.hid KG
  obtain ⟨s1, s2, s3⟩ := hasB_self u2
  have KB := Lib.hid (fun (R : Nat) (bad : Bool) (W : World) (h : Rd 130 R u2 bad W) => bytes_any R u2 bad (u2.size : Int) W h hz2)
  simp only [s1, s2, s3] at KB
  have HB := Lib.hid hB
  have HC := Lib.hid hc
  have HW := Lib.hid hW
  unfold sn0 Sn.c at HW
  dsimp only at HW
  clear hB hc hW h n1 n2 n3 hbz hz1 hz2 hOO hSS hVV hv0 hv1 hf0 hf1 hu2 hu1 hu0 hv s1 s2 s3 hNN hb
  unfold rdp at *
  go_enter Try.func13, Try.ntmps13
  go_upto_region 1 with fail
  refine wp_at (w := W) HW.out.symm ?_
  go_upto_region 4 with (go_at_call 39; (with_reducible refine KN.out.mono ?_); rintro q w1 ⟨rfl, b1⟩)
  have HC1 : Hid (w1.heap[w.heap.size]? = some (.cells sn0.c 24 (0, 0))) := (b1.block _ (Array.getElem?_eq_some_iff.1 HC.out).1).trans HC.out
  have HB1 : Hid (Below w.heap.size w w1) := HB.out.trans (b1.mono HB.out.size)
  clear b1 KN
  go_wp2_with fail
  refine (new_any _ _).mono ?_
  rintro e w2 ⟨rfl, hw2⟩
  obtain ⟨R, hR⟩ : ∃ R, R = w1.heap.size := ⟨_, rfl⟩
  have r2 : Rd 130 R u0 false w2 := by rw [hw2, hR]; exact Rd.new _ _ _ _
  have b2 : Below w1.heap.size w1 w2 := by rw [hw2]; exact (Below.refl _ _).alloc (Nat.le_refl _) _
  have hl1 : w.heap.size < R := by rw [hR]; exact (Array.getElem?_eq_some_iff.1 HC1.out).1
  have HC2 : Hid (w2.heap[w.heap.size]? = some (.cells sn0.c 24 (0, 0))) := (b2.block _ (by omega)).trans HC1.out
  have HB2 : Hid (Below w.heap.size w w2) := HB1.out.trans (b2.mono HB1.out.size)
  have HR2 := Lib.hid r2
  have HL1 := Lib.hid hl1
  unfold rdp
  rw [← hR]
  clear hw2 r2 b2 hl1 hR
  go_wp2_with fail
  refine (takes_any R w2).mono ?_
  rintro e w3 ⟨rfl, a3, m3, b3⟩
  have hl := look_plain (T := 81) 2 (.func (.func 82) #[.pointer (some ⟨R, 0, none⟩)] #[]) Try.underlying81 m3 (two_2 _ _)
  have G3 : Hid (Gr w R w2.heap.size u0 false w3) :=
    ⟨HB2.out.trans (b3.mono HB2.out.size), (b3.block _ (Array.getElem?_eq_some_iff.1 HC2.out).1).trans HC2.out, HR2.out.below b3 HR2.out.lt, a3, HL1.out, HR2.out.lt, HZ0.out⟩
  clear a3 m3 b3 HR2 HC2 HB2
  obtain ⟨A, hA⟩ : ∃ A, A = w2.heap.size := ⟨_, rfl⟩
  rw [← hA] at G3 hl
  rw [← hA]
  clear hA
  unfold rdp at *
  go_wp2_with fail
  refine (KF.out _ _ _ G3.out.rd).mono ?_
  rintro e w4 ⟨rfl, r4, g4⟩
  have G4 : Hid (Gr w R A u1 (false || !f0) w4) := G3.out.grown r4 g4 HZ1.out
  clear r4 g4 G3 hl
  go_wp2_with fail
  refine (KG.out _ _ _ G4.out.rd).mono ?_
  rintro e w5 ⟨rfl, r5, g5⟩
  have G5 : Hid (Gr w R A u2 (false || !f0 || !f1) w5) := G4.out.grown r5 g5 HZ2.out
  clear r5 g5 G4
  go_wp2_with fail
  refine (left_any R _ _ _ G5.out.rd).mono ?_
  rintro e w6 ⟨rfl, rfl⟩
  go_wp2_with fail
  refine (KB.out _ _ _ G5.out.rd).mono ?_
  rintro e w7 ⟨rfl, r7, g7⟩
  have G7 : Hid (Gr w R A ⟨#[]⟩ (false || !f0 || !f1 || !true) w7) := G5.out.grown r7 g7 (Nat.zero_le _)
  clear r7 g7 G5
  have HC7 := Lib.hid G7.out.r0
  obtain ⟨W8, hW8⟩ : ∃ W8, W8 = w7.setRow w.heap.size (Sn.c ⟨v0, v1, u2⟩) := ⟨_, rfl⟩
  have HB8 : Hid (Below w.heap.size w W8) := by rw [hW8]; exact G7.out.be.trans ⟨rfl, rfl, rfl, by simp, fun k hk => setRow_other _ _ _ _ (by have := G7.out.be.size; omega)⟩
  have HC8 : Hid (W8.heap[w.heap.size]? = some (.cells (Sn.c ⟨v0, v1, u2⟩) 24 (0, 0))) := by show _ = _; rw [hW8]; exact setRow_heap _ _ _ _ 24 (0, 0) HC7.out
  have HR8 : Hid (Rd 130 R ⟨#[]⟩ (false || !f0 || !f1 || !true) W8) := by
    have := G7.out.rd
    show Rd _ _ _ _ _
    unfold Rd at this ⊢
    rw [hW8, setRow_other _ _ _ _ (by have := HL1.out; omega)]
    exact this
  have HW8 := Lib.hid hW8
  clear hW8 G7
  unfold Sn.c at *
  dsimp only at *
  go_upto_region 7 with (refine wpList_store_sn rfl _ _ rfl _ _ ⟨v0, v1, u2⟩ sn0 rfl rfl HC7.out ?_; refine wpList_at HW8.out.symm ?_; go_frame)
  have K8 := Lib.hid (ok_any R _ _ _ HR8.out)
  have d2 : W8.cell? ⟨w.heap.size, 2, none⟩ = some (.string u2) := (sn_cells (s := ⟨v0, v1, u2⟩) HC8.out).2.2
  have hbo : (!(false || !f0 || !f1 || !true)) = (f0 && f1) := by cases f0 <;> cases f1 <;> rfl
  rw [hbo] at K8
  obtain ⟨ff, hff⟩ : ∃ x, x = (f0 && f1) := ⟨_, rfl⟩
  rw [← hff] at K8 HO
  clear hbo hff HR8 HW8 HC7
  have hzero : ∀ (W9 : World), W9 = W8.setRow w.heap.size sn0.c → Below w.heap.size w W9 ∧ W9.heap[w.heap.size]? = some (.cells sn0.c 24 (0, 0)) := fun W9 h9 => by
    rw [h9]
    exact ⟨HB8.out.trans ⟨rfl, rfl, rfl, by simp, fun k hk => setRow_other _ _ _ _ (by have := HB8.out.size; omega)⟩, setRow_heap _ _ _ _ 24 (0, 0) HC8.out⟩
  have HZZ := Lib.hid hzero
  clear hzero
  unfold rdp at *
  cases ff with
  | false =>
    have hO : OO = false := HO.out
    subst hO
    obtain rfl : SS = sn0 := HS.out
    obtain rfl : VV = 0 := HV.out
    obtain ⟨W9, hW9⟩ : ∃ W9, W9 = W8.setRow w.heap.size sn0.c := ⟨_, rfl⟩
    have H9 := Lib.hid (HZZ.out W9 hW9)
    have HW9 := Lib.hid hW9
    clear hW9 HZZ HO HS HV
    go_wp2_with (first
      | (go_at_call 44; (with_reducible refine K8.out.mono ?_); rintro q w9 ⟨rfl, rfl⟩)
      | (refine wpList_store_sn rfl _ _ rfl _ _ sn0 ⟨v0, v1, u2⟩ rfl rfl HC8.out ?_; refine wpList_at HW9.out.symm ?_; go_frame))
    exact bodyPost_ret (v := _) (res13 _ _ w.heap.size sn0 rfl H9.out.2) rfl ⟨rfl, H9.out.1⟩
  | true =>
    by_cases hd : u2.size ≤ 16384
    · have hO : OO = true := by rw [HO.out, decide_eq_true hd]; rfl
      subst hO
      obtain rfl : SS = ⟨v0, v1, u2⟩ := HS.out
      obtain rfl : VV = 2 := HV.out
      have hdn : ¬ (16384 : Int) < u2.size := by omega
      obtain ⟨W9, hW9⟩ : ∃ W9, W9 = W8.setRow w.heap.size (Sn.c ⟨v0, v1, u2⟩) := ⟨_, rfl⟩
      have HB9 : Hid (Below w.heap.size w W9) := by rw [hW9]; exact HB8.out.trans ⟨rfl, rfl, rfl, by simp, fun k hk => setRow_other _ _ _ _ (by have := HB8.out.size; omega)⟩
      have HC9 : Hid (W9.heap[w.heap.size]? = some (.cells (Sn.c ⟨v0, v1, u2⟩) 24 (0, 0))) := by show _ = _; rw [hW9]; exact setRow_heap _ _ _ _ 24 (0, 0) HC8.out
      have HW9 := Lib.hid hW9
      clear hW9 HZZ HO HS HV hd
      go_wp2_with (first
        | (go_at_call 44; (with_reducible refine K8.out.mono ?_); rintro q w9 ⟨rfl, rfl⟩)
        | (refine wpList_load_sn rfl _ rfl _ _ ⟨v0, v1, u2⟩ rfl HC8.out ?_; go_frame)
        | (refine wpList_store_sn rfl _ _ rfl _ _ ⟨v0, v1, u2⟩ ⟨v0, v1, u2⟩ rfl rfl HC8.out ?_; refine wpList_at HW9.out.symm ?_; go_frame))
      exact bodyPost_ret (v := _) (res13 _ _ w.heap.size ⟨v0, v1, u2⟩ rfl HC9.out) rfl ⟨rfl, HB9.out⟩
    · have hO : OO = false := by rw [HO.out, decide_eq_false hd]; rfl
      subst hO
      obtain rfl : SS = sn0 := HS.out
      obtain rfl : VV = 0 := HV.out
      have hdn : (16384 : Int) < u2.size := by omega
      obtain ⟨W9, hW9⟩ : ∃ W9, W9 = W8.setRow w.heap.size sn0.c := ⟨_, rfl⟩
      have H9 := Lib.hid (HZZ.out W9 hW9)
      have HW9 := Lib.hid hW9
      clear hW9 HZZ HO HS HV hd
      go_wp2_with (first
        | (go_at_call 44; (with_reducible refine K8.out.mono ?_); rintro q w9 ⟨rfl, rfl⟩)
        | (refine wpList_store_sn rfl _ _ rfl _ _ sn0 ⟨v0, v1, u2⟩ rfl rfl HC8.out ?_; refine wpList_at HW9.out.symm ?_; go_frame))
      exact bodyPost_ret (v := _) (res13 _ _ w.heap.size sn0 rfl H9.out.2) rfl ⟨rfl, H9.out.1⟩
theorem aget_any (b : ByteArray) (w : World) (hb : b.size ≤ 281474976710656) :
    Calls Try.prog 13 #[.string b] w fun e w' => e = .returned (.tuple #[(gtS b).v, .int .i64 (gtV b), .bool (gtO b)]) ∧ Below w.heap.size w w' := by
  cases h : nOk b with
  | false => exact aget_none b w hb h
  | true =>
    rcases nV_12 h with hv | hv
    · exact aget_v1 b w hb h hv
    · exact aget_v2 b w hb h hv
end Go.Proofs.Ytlmfnlaikdmphaa
