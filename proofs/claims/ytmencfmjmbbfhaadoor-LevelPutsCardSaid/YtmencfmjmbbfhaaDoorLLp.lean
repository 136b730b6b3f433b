/-
  LevelPuts: what was put is got.
  Conditions: the inputs are of their kinds.
-/
import Derived.Test.YtmencfmjmbbfhaaDoorLEx
import Derived.Test.YtmencfmjmbbfhaaDoorLGe
namespace Go.Proofs.YtmencfmjmbbfhaaDoor
open Go.RowKit
set_option linter.unusedVariables false
set_option linter.unusedSimpArgs false
theorem ba_len (s : ByteArray) : s.size = s.data.toList.length := by simp
theorem hd_cut (s : ByteArray) (j : Nat) (h0 : 0 < j) (hj : j ≤ s.size) : Vi.hdB (s.extract 0 j) = Vi.hdB s := by
  rw [Vi.hdB_eq, Vi.hdB_eq, Vi.nums_extract, List.getD_eq_getElem?_getD, List.getD_eq_getElem?_getD, List.getElem?_take, if_pos (by omega), List.getElem?_drop, Nat.add_zero]
theorem hd_app (s t : ByteArray) (h : 0 < s.size) : Vi.hdB (s ++ t) = Vi.hdB s := by
  unfold Vi.hdB
  rw [ByteArray.data_append, Array.toList_append, List.getD_eq_getElem?_getD, List.getD_eq_getElem?_getD, List.getElem?_append_left (by rw [← ba_len]; exact h)]
/-- All speak version 1 but the first k. -/
def upK (C : Cf) (f : Bool) (k : Nat) : Cf := ⟨C.m, List.replicate k 2 ++ List.replicate (C.m.length - k) 1, if k = 0 then 1 else 2, if k = 0 then false else f⟩
theorem upK_0 (l : List Int) (f : Bool) : upK (newC l) f 0 = newC l := by
  unfold upK newC; simp
theorem upK_hl (C : Cf) (f : Bool) (k : Nat) (hk : k ≤ C.m.length) : (upK C f k).h.length = C.m.length := by
  unfold upK; simp; omega
theorem upK_set (C : Cf) (f : Bool) (k : Nat) (hk : k < C.m.length) : (upK C f k).h.set k 2 = (upK C f (k + 1)).h := by
  unfold upK
  show (List.replicate k (2 : Int) ++ List.replicate (C.m.length - k) 1).set k 2 = List.replicate (k + 1) 2 ++ List.replicate (C.m.length - (k + 1)) 1
  rw [List.set_append_right _ _ (by simp), List.length_replicate, Nat.sub_self, show C.m.length - k = (C.m.length - (k + 1)) + 1 from by omega, List.replicate_succ, List.set_cons_zero, List.replicate_succ']
  simp
theorem upK_right (C : Cf) (f : Bool) (hr : RightC C) : RightC (upK C f C.m.length) := by
  have hn := hr.n
  have h0 : ¬ C.m.length = 0 := by omega
  refine { n := hr.n, r := hr.r, l1 := ?_, l2 := ?_, f := fun _ => ?_, hn := ?_, ha := fun x hx => ?_ }
  · unfold upK; simp [h0]
  · unfold upK; simp [h0]
  · unfold upK; simp [h0]
  · unfold upK; simp
  · have : x = 2 := by
      have hx' : x ∈ List.replicate C.m.length (2 : Int) ++ List.replicate (C.m.length - C.m.length) 1 := hx
      rw [Nat.sub_self] at hx'
      simp at hx'
      exact hx'.2
    subst this
    unfold upK; simp [h0]
theorem Bx.set1 {p b1 c1 b2 c2 : Nat} {c : Cf} {W : World} (h : Bx p b1 c1 b2 c2 c W) (k : Nat) (hk : k < c.h.length) (v : Int) (h12 : b1 ≠ b2) :
    Bx p b1 c1 b2 c2 { c with h := c.h.set k v } (W.setCell ⟨b2, k, none⟩ (.int .i64 v)) ∧ W.grownBy (W.setCell ⟨b2, k, none⟩ (.int .i64 v)) (some b2) := by
  have g : W.grownBy (W.setCell ⟨b2, k, none⟩ (.int .i64 v)) (some b2) := grownBy_set _
  obtain ⟨cur, e1, e2, e3⟩ := h.h.ex
  have hpb : p ≠ b2 := fun e => by have := h.bx; rw [e, e1] at this; cases this
  refine ⟨⟨?_, h.m.grown g (by simp; exact h12), ⟨⟨_, heap_setCell_row e1 k _, by simpa using e2, fun j x hj => ?_⟩, by simpa using h.h.le, h.h.mx⟩⟩, g⟩
  · rw [g.block p h.lt (by simp; exact hpb)]
    have := h.bx
    unfold cvc at this ⊢
    simpa using this
  · have hc := h.h.le
    rw [Array.getElem?_setIfInBounds]
    rw [List.getElem?_set] at hj
    by_cases hkj : k = j
    · subst hkj
      rw [if_pos rfl] at hj
      rw [if_pos rfl, if_pos (by omega)]
      rw [if_pos hk] at hj
      cases hj; rfl
    · rw [if_neg hkj] at hj
      rw [if_neg hkj]; exact e3 j x hj
theorem Bx.set2 {p b1 c1 b2 c2 : Nat} {c : Cf} {W : World} (h : Bx p b1 c1 b2 c2 c W) (v : Int) :
    Bx p b1 c1 b2 c2 { c with l := v } (W.setCell ⟨p, 2, none⟩ (.int .i64 v)) ∧ W.grownBy (W.setCell ⟨p, 2, none⟩ (.int .i64 v)) (some p) := by
  have g : W.grownBy (W.setCell ⟨p, 2, none⟩ (.int .i64 v)) (some p) := grownBy_set _
  obtain ⟨cur, e1, _⟩ := h.m.ex
  obtain ⟨cur2, e2, _⟩ := h.h.ex
  exact ⟨⟨heap_setCell_row h.bx 2 _, h.m.grown g (fun e => by cases e; rw [h.bx] at e1; cases e1), h.h.grown g (fun e => by cases e; rw [h.bx] at e2; cases e2)⟩, g⟩
theorem Bx.set3 {p b1 c1 b2 c2 : Nat} {c : Cf} {W : World} (h : Bx p b1 c1 b2 c2 c W) (v : Bool) :
    Bx p b1 c1 b2 c2 { c with f := v } (W.setCell ⟨p, 3, none⟩ (.bool v)) ∧ W.grownBy (W.setCell ⟨p, 3, none⟩ (.bool v)) (some p) := by
  have g : W.grownBy (W.setCell ⟨p, 3, none⟩ (.bool v)) (some p) := grownBy_set _
  obtain ⟨cur, e1, _⟩ := h.m.ex
  obtain ⟨cur2, e2, _⟩ := h.h.ex
  exact ⟨⟨heap_setCell_row h.bx 3 _, h.m.grown g (fun e => by cases e; rw [h.bx] at e1; cases e1), h.h.grown g (fun e => by cases e; rw [h.bx] at e2; cases e2)⟩, g⟩
theorem Bx.fz {p b1 c1 b2 c2 : Nat} {c : Cf} {W : World} (h : Bx p b1 c1 b2 c2 c W) (i : Nat) : W.frozen? ⟨p, i, none⟩ = false := by simp [World.frozen?, h.bx]
/-- A config of the call's own. -/
structure Px (w : World) (p b1 c1 b2 c2 : Nat) (c : Cf) (W : World) : Prop where
  b : Bx p b1 c1 b2 c2 c W
  be : Below w.heap.size w W
  lp : w.heap.size ≤ p
  l1 : w.heap.size ≤ b1
  l2 : w.heap.size ≤ b2
  ne : b1 ≠ b2
theorem Px.below {w W W' : World} {p b1 c1 b2 c2 : Nat} {c : Cf} (h : Px w p b1 c1 b2 c2 c W) (hb : Below W.heap.size W W') : Px w p b1 c1 b2 c2 c W' := ⟨h.b.below hb, bS h.be hb, h.lp, h.l1, h.l2, h.ne⟩
theorem Px.at {w W : World} {p b1 c1 b2 c2 : Nat} {c : Cf} (h : Px w p b1 c1 b2 c2 c W) : Px w p b1 c1 b2 c2 c W.drew := ⟨h.b.at rfl, h.be.drew, h.lp, h.l1, h.l2, h.ne⟩
theorem kx_any (w : World) : Hid (Calls Tryd.prog 7 #[] w fun r W' => r = .returned (.bool true) ∧ Hid (Below w.heap.size w W')) := examples_any w
theorem ks_any (b : Nat) (hb : b < 256) (w : World) : Hid (∀ W, Hid (Below w.heap.size w W) → Calls Tryd.prog 9 #[.int .u8 b] W fun r W' => ∃ b1 c1, r = .returned (.slice (some ⟨b1, 0, none⟩) (sm b).length c1) ∧ Hid (Rw W' b1 c1 (sm b) ∧ Below w.heap.size w W')) := by
  intro W hW
  refine (some_any b hb W).mono ?_
  rintro r W' ⟨b1, c1, rfl, h1, h2, h3⟩
  exact ⟨b1, c1, rfl, h2, bS hW h3⟩
theorem smC_right (b : Nat) (hb : b < 256) : RightC (newC (sm b)) := by
  have h1 := smK_len b 7
  exact newC_right (sm b) (fun e => by have h2 : (sm b).length = 0 := by rw [e]; rfl
                                       have h3 : 1 ≤ (sm b).length := h1.1
                                       omega) (smK_mem b hb 7 (Nat.le_refl _))
theorem kn_any (b : Nat) (hb : b < 256) (w : World) : Hid (∀ W b1 c1, Hid (Rw W b1 c1 (sm b) ∧ Below w.heap.size w W) → Calls Tryd.prog 8 #[.slice (some ⟨b1, 0, none⟩) (sm b).length c1] W fun r W' => ∃ b1 c1 b2 c2, r = .returned (.tuple #[cvl b1 c1 b2 c2 (newC (sm b)), .bool true]) ∧ Hid (Px w W'.heap.size b1 c1 b2 c2 (newC (sm b)) ((W'.alloc (.cells zc 25)).setRow W'.heap.size (cvc b1 c1 b2 c2 (newC (sm b)))))) := by
  rintro W b1 c1 ⟨h1, h2⟩
  have h3 := smK_len b 7
  refine (new_yes h1 (by have : (sm b).length ≤ 7 + 1 := h3.2
                         omega) (fun e => by have h2 : (sm b).length = 0 := by rw [e]; rfl
                                             have h4 : 1 ≤ (sm b).length := h3.1
                                             omega) (smC_right b hb)).mono ?_
  rintro r W' ⟨d1, e1, d2, e2, rfl, q1, q2, q3, q4, q5, q6⟩
  have hs := h2.size
  have hb6 := bS h2 q6
  exact ⟨d1, e1, d2, e2, rfl, bx_cf q1 q2, bS hb6 (bx_new _).2, hb6.size, by omega, by omega, q5⟩

set_option maxHeartbeats 4000000 in
set_option maxRecDepth 100000 in
theorem levelPuts_any (b cut more : Nat) (up f : Bool) (hb : b < 256) (hc : cut < 256) (hm : more < 256) (w : World) :
    Calls Tryd.prog 6 #[.int .u8 b, .bool up, .bool f, .int .u8 cut, .int .u8 more] w fun r w' => r = .returned (.bool true) ∧ Below w.heap.size w w' := by
  have KX := kx_any w
  have KS := ks_any b hb w
  have KN := kn_any b hb w
  have hR0 := smC_right b hb
  have hu0 : upK (newC (sm b)) f 0 = newC (sm b) := upK_0 _ _
  obtain ⟨C0, hC0⟩ : ∃ C0, C0 = newC (sm b) := ⟨_, rfl⟩
  obtain ⟨L, hL⟩ : ∃ L, L = (sm b).length := ⟨_, rfl⟩
  rw [← hC0] at KN hR0 hu0
  rw [← hL] at KS KN
  clear hC0 hL
  go_enter Tryd.func6, Tryd.ntmps6
  go_upto_region 4 with (go_at_call 7; refine KX.out.mono ?_; rintro r w1 ⟨rfl, H1⟩)
  go_upto_region 5 with (first
    | (go_at_call 9; refine (KS.out _ H1).mono ?_; rintro r w2 ⟨x1, y1, rfl, H2⟩)
    | (go_at_call 8; refine (KN.out _ _ _ H2).mono ?_; rintro r w3 ⟨b1, c1, b2, c2, rfl, H3⟩; have hnew3 := heap_alloc_new w3 (.cells zc 25))
    | (refine wpList_store_cf rfl _ _ rfl _ w3.heap.size (cvc b1 c1 b2 c2 C0) zc rfl (by simp [Value.oneCell']) rfl rfl hnew3 rfl ?_))
  obtain ⟨p, hp⟩ : ∃ p, p = w3.heap.size := ⟨_, rfl⟩
  obtain ⟨w4, hw4⟩ : ∃ w4, w4 = (w3.alloc (.cells zc 25)).setRow w3.heap.size (cvc b1 c1 b2 c2 C0) := ⟨_, rfl⟩
  rw [← hw4, ← hp] at H3
  have HW4 := Lib.hid hw4
  have HP := Lib.hid hp
  clear hw4 hp hnew3 KX KS KN H1 H2
  rw [← HP.out]
  refine wp_at (w := w4) (by rw [HW4.out, HP.out]) ?_
  clear HW4 HP
  obtain ⟨n, hn⟩ : ∃ n, n = C0.m.length := ⟨_, rfl⟩
  have HN := Lib.hid hn
  have HR0 := Lib.hid hR0
  have hn1 : 1 ≤ n := by rw [hn]; exact hR0.n
  have hn7 : n ≤ 7 := by rw [hn]; exact hR0.len
  have H4 : Hid (Px w p b1 c1 b2 c2 (upK C0 f 0) w4) := by show Px _ _ _ _ _ _ _ _; rw [hu0]; exact H3
  have HU0 := Lib.hid hu0
  clear hn hR0 hu0 H3
  go_upto_region 8 with fail
  go_loopw [14] (fun i wr => ∃ k : Nat, i = .int .i64 k ∧ k ≤ n ∧ Hid (up = false → k = 0) ∧ Hid (Px w p b1 c1 b2 c2 (upK C0 f k) wr)) (fun i _ => n - (Go.RowKit.intOf i).toNat)
  case atStart => exact ⟨0, rfl, Nat.zero_le _, fun _ => rfl, H4⟩
  case round =>
    obtain ⟨k, rfl, hk, hu, H5⟩ := hrel
    have a1 : wr.cell? ⟨p, 1, none⟩ = some (.slice (some ⟨b2, 0, none⟩) n c2) := by
      have h := H5.out.b.cells.2.1
      rwa [upK_hl C0 f k (by rw [← HN.out]; exact hk), ← HN.out] at h
    by_cases hgo : up = true ∧ k < n
    · obtain ⟨rfl, hlt⟩ := hgo
      have hd : decide ((k : Int) < (n : Int)) = true := decide_eq_true (by omega)
      have hkl : k < (upK C0 f k).h.length := by rw [upK_hl C0 f k (by rw [← HN.out]; exact hk), ← HN.out]; exact hlt
      obtain ⟨ov, hro⟩ : ∃ ov, wr.cell? ⟨b2, k, none⟩ = some ov := Option.isSome_iff_exists.1 (H5.out.b.h.room k (by have := H5.out.b.h.le; omega))
      have hfz : wr.frozen? ⟨b2, k, none⟩ = false := H5.out.b.h.fz k
      have H6 : Hid (Px w p b1 c1 b2 c2 { upK C0 f k with h := (upK C0 f (k + 1)).h } (wr.setCell ⟨b2, k, none⟩ (.int .i64 2))) := by
        obtain ⟨q1, q2⟩ := H5.out.b.set1 k hkl 2 H5.out.ne
        rw [upK_set C0 f k (by rw [← HN.out]; exact hlt)] at q1
        exact ⟨q1, H5.out.be.grown q2 H5.out.be.size (fun j e => by cases e; exact H5.out.l2), H5.out.lp, H5.out.l1, H5.out.l2, H5.out.ne⟩
      clear hkl
      go_upto_region 11 with fail
      obtain ⟨w6, hw6⟩ : ∃ w6, w6 = wr.setCell ⟨b2, k, none⟩ (.int .i64 2) := ⟨_, rfl⟩
      rw [← hw6] at H6 ⊢
      clear hw6 hro hfz H5 a1
      have a2 := H6.out.b.cells.2.2.1
      have f2 := H6.out.b.fz 2
      have H7 : Hid (Px w p b1 c1 b2 c2 { upK C0 f k with h := (upK C0 f (k + 1)).h, l := 2 } (w6.setCell ⟨p, 2, none⟩ (.int .i64 2))) := by
        obtain ⟨q1, q2⟩ := H6.out.b.set2 2
        exact ⟨q1, H6.out.be.grown q2 H6.out.be.size (fun j e => by cases e; exact H6.out.lp), H6.out.lp, H6.out.l1, H6.out.l2, H6.out.ne⟩
      go_upto_region 12 with fail
      obtain ⟨w7, hw7⟩ : ∃ w7, w7 = w6.setCell ⟨p, 2, none⟩ (.int .i64 2) := ⟨_, rfl⟩
      rw [← hw7] at H7 ⊢
      clear hw7 H6 a2 f2
      have a3 := H7.out.b.cells.2.2.2
      have f3 := H7.out.b.fz 3
      have H8 : Hid (Px w p b1 c1 b2 c2 (upK C0 f (k + 1)) (w7.setCell ⟨p, 3, none⟩ (.bool f))) := by
        obtain ⟨q1, q2⟩ := H7.out.b.set3 f
        exact ⟨q1, H7.out.be.grown q2 H7.out.be.size (fun j e => by cases e; exact H7.out.lp), H7.out.lp, H7.out.l1, H7.out.l2, H7.out.ne⟩
      clear H7
      go_wp2
      go_roundw
      case rel => exact ⟨k + 1, by go_num, by omega, (fun h => by cases h), H8⟩
      case measure => simp [Go.RowKit.intOf]; omega
    · have hcase : (up = false ∧ k = 0) ∨ (up = true ∧ k = n) := by
        cases up
        · exact .inl ⟨rfl, hu.out rfl⟩
        · exact .inr ⟨rfl, by have h : ¬ k < n := fun h => hgo ⟨rfl, h⟩
                              omega⟩
      have HRE : Hid (RightC (upK C0 f k)) := by
        rcases hcase with ⟨_, rfl⟩ | ⟨_, rfl⟩
        · show RightC _
          rw [HU0.out]; exact HR0.out
        · show RightC _
          rw [HN.out]; exact upK_right C0 f HR0.out
      have HM : Hid ((upK C0 f k).m.length = n) := HN.out.symm
      have hd : decide ((k : Int) < (n : Int)) = (!up) := by
        rcases hcase with ⟨rfl, rfl⟩ | ⟨rfl, rfl⟩
        · exact decide_eq_true (by omega)
        · exact decide_eq_false (by omega)
      obtain ⟨CE, hCE⟩ : ∃ CE, CE = upK C0 f k := ⟨_, rfl⟩
      rw [← hCE] at HRE H5 HM
      clear hCE hu hgo
      rcases hcase with ⟨rfl, _⟩ | ⟨rfl, _⟩
      all_goals
        try dsimp only [Bool.not] at hd
        go_upto_region 13 with fail
        clear hd a1
        have KP : Hid (∀ W, Hid (Px w p b1 c1 b2 c2 CE W) → Calls Tryd.prog 17 #[cvl b1 c1 b2 c2 CE] W fun r W' => r = .returned (.tuple #[.string (putC CE), .bool true]) ∧ Hid (Px w p b1 c1 b2 c2 CE W')) := by
          intro W h
          refine (lput_yes h.out.b.m h.out.b.h HRE.out).mono ?_
          rintro r W' ⟨rfl, hb⟩
          exact ⟨rfl, h.out.below hb⟩
        have hSz : (putC CE).size = 3 + 2 * n := by
          rw [← HM.out]; unfold putC; rw [Vi.str_size, putL_length]; omega
        have hSe : (putC CE).toList.isEmpty = false := by
          rw [Lib.toList_data]
          cases h : (putC CE).data.toList
          · exact absurd hSz (by rw [ba_len, h, List.length_nil]; omega)
          · rfl
        have HGP := Lib.hid (get_put CE HRE.out)
        have HGN := Lib.hid (fun s h1 h2 => get_none CE HRE.out s h1 h2)
        obtain ⟨S, hS⟩ : ∃ S, S = putC CE := ⟨_, rfl⟩
        rw [← hS] at KP hSz hSe HGP HGN
        have HS := Lib.hid hS
        have HSz := Lib.hid hSz
        clear hS hSz
        have hb5 := H5.out.b.bx
        go_upto_region 16 with (first
          | (refine wpList_load_cf rfl _ rfl _ p (cvc b1 c1 b2 c2 CE) rfl rfl hb5 ?_)
          | (go_at_call 17; refine (KP.out _ H5).mono ?_; rintro r w6 ⟨rfl, H6⟩))
        have KG : Hid (∀ W, Hid (Px w p b1 c1 b2 c2 CE W) → Calls Tryd.prog 18 #[.string S] W fun r W' => ∃ d1 e1 d2 e2, r = .returned (.tuple #[cvl d1 e1 d2 e2 CE, .bool true]) ∧ Hid (Px w p b1 c1 b2 c2 CE ((W'.alloc (.cells zc 25)).setRow W'.heap.size (cvc d1 e1 d2 e2 CE)) ∧ Px w W'.heap.size d1 e1 d2 e2 CE ((W'.alloc (.cells zc 25)).setRow W'.heap.size (cvc d1 e1 d2 e2 CE)))) := by
          intro W h
          refine (get_any S W (by rw [HSz.out]; omega)).mono ?_
          rintro r W' ⟨v, rfl, _, h2, h3⟩
          rw [HGP.out.1] at h2
          obtain ⟨d1, e1, d2, e2, rfl, q1, q2, q3, q4, q5⟩ := h2 HGP.out.2
          have hs := h.out.be.size
          have hb6 := bS h.out.be h3
          exact ⟨d1, e1, d2, e2, by rw [HGP.out.2], (h.out.below h3).below (bx_new _).2, bx_cf q1 q2, bS hb6 (bx_new _).2, hb6.size, by omega, by omega, q5⟩
        clear hb5 KP hSe
        go_upto_region 17 with (first
          | (go_at_call 18; refine (KG.out _ H6).mono ?_; rintro r w7 ⟨d1, e1, d2, e2, rfl, H7⟩; have hnew7 := heap_alloc_new w7 (.cells zc 25))
          | (refine wpList_store_cf rfl _ _ rfl _ w7.heap.size (cvc d1 e1 d2 e2 CE) zc rfl (by simp [Value.oneCell']) rfl rfl hnew7 rfl ?_))
        obtain ⟨p2, hp2⟩ : ∃ p2, p2 = w7.heap.size := ⟨_, rfl⟩
        obtain ⟨w8, hw8⟩ : ∃ w8, w8 = (w7.alloc (.cells zc 25)).setRow w7.heap.size (cvc d1 e1 d2 e2 CE) := ⟨_, rfl⟩
        rw [← hw8, ← hp2] at H7
        have HW8 := Lib.hid hw8
        have HP2 := Lib.hid hp2
        clear hw8 hp2 hnew7 KG H6
        rw [← HP2.out]
        refine wp_at (w := w8) (by rw [HW8.out, HP2.out]) ?_
        clear HW8 HP2
        have KGN : Hid (∀ (s : ByteArray) (W : World), s.size ≠ S.size → s.size ≤ 100 → (0 < s.size → Vi.hdB s = Vi.hdB S) → Hid (Px w p b1 c1 b2 c2 CE W ∧ Px w p2 d1 e1 d2 e2 CE W) → Calls Tryd.prog 18 #[.string s] W fun r W' => r = .returned (.tuple #[.agg zc, .bool false]) ∧ Hid (Px w p b1 c1 b2 c2 CE ((W'.alloc (.cells zc 25)).setRow W'.heap.size zc) ∧ Px w p2 d1 e1 d2 e2 CE ((W'.alloc (.cells zc 25)).setRow W'.heap.size zc))) := by
          intro s W hs1 hs2 hs3 h
          have hN := HGN.out s hs1 hs3
          refine (get_any s W (by omega)).mono ?_
          rintro r W' ⟨v, rfl, h1, _, h3⟩
          obtain rfl := h1 hN
          exact ⟨by rw [hN], (h.1.below h3).below (bx_new _).2, (h.2.below h3).below (bx_new _).2⟩
        have hS0 : ¬ S.size = 0 := by rw [HSz.out]; omega
        have hmod : cut % S.size < S.size := Nat.mod_lt _ (by omega)
        have htm : (cut : Int).tmod (S.size : Int) = ((cut % S.size : Nat) : Int) := by rw [Int.ofNat_tmod]
        have hcs : (S.extract 0 (cut % S.size)).size = cut % S.size := by rw [ByteArray.size_extract]; omega
        have K1 : Hid (Calls Tryd.prog 18 #[.string (S.extract 0 (cut % S.size))] w8 fun r W' => r = .returned (.tuple #[.agg zc, .bool false]) ∧ Hid (Px w p b1 c1 b2 c2 CE ((W'.alloc (.cells zc 25)).setRow W'.heap.size zc) ∧ Px w p2 d1 e1 d2 e2 CE ((W'.alloc (.cells zc 25)).setRow W'.heap.size zc))) :=
          KGN.out _ _ (by omega) (by have := HSz.out; omega) (fun h => hd_cut _ _ (by omega) (by omega)) H7
        clear hcs
        go_upto_region 18 with (first
          | (go_at_call 18; refine K1.out.mono ?_; rintro r w9 ⟨rfl, H9⟩; have hnew9 := heap_alloc_new w9 (.cells zc 25))
          | (refine wpList_store_cf rfl _ _ rfl _ w9.heap.size zc zc rfl (by simp [Value.oneCell']) rfl rfl hnew9 rfl ?_))
        obtain ⟨w10, hw10⟩ : ∃ w10, w10 = (w9.alloc (.cells zc 25)).setRow w9.heap.size zc := ⟨_, rfl⟩
        rw [← hw10] at H9
        refine wp_at (w := w10) (by rw [hw10]) ?_
        clear hw10 hnew9 K1 H7 hmod htm
        have hb10 : Below w10.heap.size w10 (w10.alloc (.cells #[.int .u8 more] 5)) := (Below.refl _ w10).alloc (Nat.le_refl _) _
        have hcv := str_of_own (l := [more]) (w := w10.alloc (.cells #[.int .u8 more] 5)) (base := w10.heap.size) (v := .slice (some ⟨w10.heap.size, 0, none⟩) 1 1) (n := 1) ⟨by simp [Vi.cells], .inr ⟨w10.heap.size, 1, _, rfl, Nat.le_refl _, heap_alloc_new w10 _, by omega, by unfold maxLen; omega, rfl, by simp [Vi.cells]⟩⟩
        have hms : (Vi.str [more]).size = 1 := by rw [Vi.str_size]; rfl
        have K2 : Hid (Calls Tryd.prog 18 #[.string (S ++ Vi.str [more])] (w10.alloc (.cells #[.int .u8 more] 5)) fun r W' => r = .returned (.tuple #[.agg zc, .bool false]) ∧ Hid (Px w p b1 c1 b2 c2 CE ((W'.alloc (.cells zc 25)).setRow W'.heap.size zc) ∧ Px w p2 d1 e1 d2 e2 CE ((W'.alloc (.cells zc 25)).setRow W'.heap.size zc))) :=
          KGN.out _ _ (by rw [ba_size, hms]; omega) (by rw [ba_size, hms, HSz.out]; omega) (fun h => hd_app _ _ (by omega)) ⟨H9.1.below hb10, H9.2.below hb10⟩
        obtain ⟨MS, hMS⟩ : ∃ MS, MS = Vi.str [more] := ⟨_, rfl⟩
        rw [← hMS] at K2 hcv hms
        have hcat : ¬ 9223372036854775807 < S.size + MS.size := by have := HSz.out; omega
        have hcat1 : ¬ 9223372036854775807 < S.size + 1 := by have := HSz.out; omega
        clear hMS KGN
        go_upto_region 19 with (first
          | (go_at_call 18; refine K2.out.mono ?_; rintro r w11 ⟨rfl, H11⟩; have hnew11 := heap_alloc_new w11 (.cells zc 25))
          | (refine wpList_store_cf rfl _ _ rfl _ w11.heap.size zc zc rfl (by simp [Value.oneCell']) rfl rfl hnew11 rfl ?_))
        obtain ⟨w12, hw12⟩ : ∃ w12, w12 = (w11.alloc (.cells zc 25)).setRow w11.heap.size zc := ⟨_, rfl⟩
        rw [← hw12] at H11
        refine wp_at (w := w12) (by rw [hw12]) ?_
        clear hw12 hnew11 K2 H9 hb10 hcv hcat hcat1 hms
        have HH : Hid (CE.h.length = n) := HRE.out.hn.trans HM.out
        have G1 : Hid (∀ Z, Hid (Px w p b1 c1 b2 c2 CE Z ∧ Px w p2 d1 e1 d2 e2 CE Z) → (Z.cell? ⟨p, 0, none⟩ = some (.slice (some ⟨b1, 0, none⟩) n c1) ∧ Z.cell? ⟨p, 1, none⟩ = some (.slice (some ⟨b2, 0, none⟩) n c2) ∧ Z.cell? ⟨p, 2, none⟩ = some (.int .i64 CE.l) ∧ Z.cell? ⟨p, 3, none⟩ = some (.bool CE.f)) ∧ Z.cell? ⟨p2, 0, none⟩ = some (.slice (some ⟨d1, 0, none⟩) n e1) ∧ Z.cell? ⟨p2, 1, none⟩ = some (.slice (some ⟨d2, 0, none⟩) n e2) ∧ Z.cell? ⟨p2, 2, none⟩ = some (.int .i64 CE.l) ∧ Z.cell? ⟨p2, 3, none⟩ = some (.bool CE.f)) := by
          intro Z h
          have q1 := h.1.b.cells
          have q2 := h.2.b.cells
          rw [HM.out, HH.out] at q1 q2
          exact ⟨q1, q2⟩
        have KT1 : Hid (∀ W, Hid (Px w p b1 c1 b2 c2 CE W ∧ Px w p2 d1 e1 d2 e2 CE W) → Calls Tryd.prog 13 #[.agg #[.slice (some ⟨b1, 0, none⟩) n c1, .slice (some ⟨b2, 0, none⟩) n c2, .int .i64 CE.l, .bool CE.f]] W fun r W' => r = .returned (.string (textC CE)) ∧ Hid (Px w p b1 c1 b2 c2 CE W' ∧ Px w p2 d1 e1 d2 e2 CE W')) := by
          intro W h
          have K := text_any h.1.b.m h.1.b.h HRE.out
          unfold cvl at K
          rw [HM.out, HH.out] at K
          refine K.mono ?_
          rintro r W' ⟨rfl, hb⟩
          exact ⟨rfl, h.1.below hb, h.2.below hb⟩
        have KT2 : Hid (∀ W, Hid (Px w p b1 c1 b2 c2 CE W ∧ Px w p2 d1 e1 d2 e2 CE W) → Calls Tryd.prog 13 #[.agg #[.slice (some ⟨d1, 0, none⟩) n e1, .slice (some ⟨d2, 0, none⟩) n e2, .int .i64 CE.l, .bool CE.f]] W fun r W' => r = .returned (.string (textC CE)) ∧ Hid (Px w p b1 c1 b2 c2 CE W' ∧ Px w p2 d1 e1 d2 e2 CE W')) := by
          intro W h
          have K := text_any h.2.b.m h.2.b.h HRE.out
          unfold cvl at K
          rw [HM.out, HH.out] at K
          refine K.mono ?_
          rintro r W' ⟨rfl, hb⟩
          exact ⟨rfl, h.1.below hb, h.2.below hb⟩
        have H12 : Hid (Px w p b1 c1 b2 c2 CE w12.drew ∧ Px w p2 d1 e1 d2 e2 CE w12.drew) := ⟨H11.1.at, H11.2.at⟩
        obtain ⟨T, hT⟩ : ∃ T, T = textC CE := ⟨_, rfl⟩
        rw [← hT] at KT1 KT2
        have hsz : (S.size : Int) = 3 + 2 * (n : Int) := by rw [HSz.out]; push_cast; rfl
        have hw1 : IntKind.i64.wrap (2 * (n : Int)) = 2 * (n : Int) := Go.IntWalk.i64_in _ (by omega)
        have hw2 : IntKind.i64.wrap (3 + 2 * (n : Int)) = 3 + 2 * (n : Int) := Go.IntWalk.i64_in _ (by omega)
        clear hT H11 hS0 hn1 hn7
        go_region_held3 (fun Z => (Z.cell? ⟨p, 0, none⟩ = some (.slice (some ⟨b1, 0, none⟩) n c1) ∧ Z.cell? ⟨p, 1, none⟩ = some (.slice (some ⟨b2, 0, none⟩) n c2) ∧ Z.cell? ⟨p, 2, none⟩ = some (.int .i64 CE.l) ∧ Z.cell? ⟨p, 3, none⟩ = some (.bool CE.f)) ∧ Z.cell? ⟨p2, 0, none⟩ = some (.slice (some ⟨d1, 0, none⟩) n e1) ∧ Z.cell? ⟨p2, 1, none⟩ = some (.slice (some ⟨d2, 0, none⟩) n e2) ∧ Z.cell? ⟨p2, 2, none⟩ = some (.int .i64 CE.l) ∧ Z.cell? ⟨p2, 3, none⟩ = some (.bool CE.f)) (first | exact G1.out _ H12 | exact G1.out _ (by assumption)) (first
          | (go_at_call 13; (with_reducible refine (KT1.out _ (by assumption)).mono ?_); rintro r y ⟨rfl, Q⟩)
          | (go_at_call 13; (with_reducible refine (KT2.out _ (by assumption)).mono ?_); rintro r y ⟨rfl, Q⟩))
        all_goals
          go_wp2
          go_ret
          exact ⟨by simp [hsz], Q.1.be⟩
end Go.Proofs.YtmencfmjmbbfhaaDoor
