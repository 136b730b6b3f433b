/-
  A config out of bytes: Get.
  Conditions: the text has at most 2^20 bytes.
-/
import Derived.Test.YtmencfmjmbbfhaaDoorLGt
namespace Go.Proofs.YtmencfmjmbbfhaaDoor
open Go.RowKit
set_option linter.unusedVariables false
set_option linter.unusedSimpArgs false
theorem Tryd.info3 : (Tryd.prog.info? 3).map (fun i => (i.zero, i.size, i.bytes)) = some (some (.int .i64 0), 1, 8) := by kernel_rfl
theorem lput_any {bm cm bh ch : Nat} {c : Cf} {w : World} (hm : Rw w bm cm c.m) (hh : Rw w bh ch c.h) (h1 : c.m.length ≤ 7) (h2 : c.h.length ≤ 7) :
    Calls Tryd.prog 17 #[cvl bm cm bh ch c] w fun r w' => r = .returned (.tuple #[.string (if rightC c then putC c else ⟨#[]⟩), .bool (rightC c)]) ∧ Below w.heap.size w w' := by
  cases h : rightC c
  · exact lput_no hm hh (by omega) (by omega) h
  · exact lput_yes hm hh ((rightC_iff c).1 h)
theorem news1 (W : World) (x : Int) : ∀ (i : Nat) (u : Value), [Value.int .i64 x][i]? = some u → (W.alloc (.cells #[.int .i64 x] 3)).cell? ((⟨W.heap.size, 0, none⟩ : Addr).add i) = some u := by
  intro i u hu
  match i, hu with
  | 0, hu => simp at hu; subst hu; exact cell_of_row _ _ 0 _ 3 (0, 0) (heap_alloc_new W _)
theorem Gt.below {w W W' : World} {p q g : Nat} {t : ByteArray} {vm vh : Value} {ms hs : List Int} {l : Int} {f : Bool} (h : Gt w p q g t vm vh ms hs l f W) (hb : Below W.heap.size W W') : Gt w p q g t vm vh ms hs l f W' := by
  have hg : W.grownBy W' none := grownBy_below hb none
  have bl : ∀ {k : Nat} {x : Obj}, W.heap[k]? = some x → W'.heap[k]? = some x := fun hk => (hb.block _ (Array.getElem?_eq_some_iff.1 hk).1).trans hk
  obtain ⟨bad, hr⟩ := h.rd
  exact ⟨h.be.trans (hb.mono h.be.size), bl h.r, bl h.pc, ⟨bad, bl hr⟩, bl h.cq, ownk h.om hg (fun k hk e => by cases e), ownk h.oh hg (fun k hk e => by cases e), h.ne, h.nq, h.lp, h.lq, h.lg⟩
theorem Gt.rows {w W : World} {p q g : Nat} {t : ByteArray} {vm vh : Value} {ms hs : List Int} {l : Int} {f : Bool} (h : Gt w p q g t vm vh ms hs l f W) (hn : hs.length = ms.length) : (ms = [] ∧ hs = [] ∧ vm = .slice none 0 0 ∧ vh = .slice none 0 0) ∨ (∃ bm cm bh ch, vm = .slice (some ⟨bm, 0, none⟩) ms.length cm ∧ vh = .slice (some ⟨bh, 0, none⟩) hs.length ch ∧ Rw W bm cm ms ∧ Rw W bh ch hs ∧ w.heap.size ≤ bm ∧ w.heap.size ≤ bh ∧ bm ≠ bh) ∨ ms = [] := by
  by_cases h0 : ms = []
  · exact .inr (.inr h0)
  · have h1 : 0 < ms.length := List.length_pos_iff.2 h0
    have n1 : vm ≠ .slice none 0 0 := by
      rcases h.om.2 with ⟨_, hz⟩ | ⟨g1, cap, cur, hv, _⟩
      · omega
      · rw [hv]; simp
    have n2 : vh ≠ .slice none 0 0 := by
      rcases h.oh.2 with ⟨_, hz⟩ | ⟨g1, cap, cur, hv, _⟩
      · omega
      · rw [hv]; simp
    obtain ⟨_, bm, cm, e1, l1, r1⟩ := Rw.of_own h.om n1
    obtain ⟨_, bh, ch, e2, l2, r2⟩ := Rw.of_own h.oh n2
    refine .inr (.inl ⟨bm, cm, bh, ch, e1, e2, r1, r2, l1, l2, fun e => ?_⟩)
    refine h.ne bm (by rw [e1]; rfl) (by rw [e2, e]; rfl)
theorem own_nil {w : World} {B n : Nat} {v : Value} {l : List Value} (h : w.ownsRow B 3 1 v 0 l) (hx : v.ownBlock = none) : v = .slice none 0 0 := by
  rcases h.2 with ⟨e, _⟩ | ⟨g1, cap, cur, e, _⟩
  · exact e
  · rw [e] at hx; cases hx
set_option maxHeartbeats 4000000 in
set_option maxRecDepth 100000 in
theorem get_any (s : ByteArray) (w : World) (hs : s.size ≤ 1048576) :
    Calls Tryd.prog 18 #[.string s] w fun r w' => ∃ v, r = .returned (.tuple #[v, .bool (getO s)]) ∧ (getO s = false → v = .agg zc) ∧ (getO s = true → ∃ bm cm bh ch, v = cvl bm cm bh ch (getX s) ∧ Rw w' bm cm (getX s).m ∧ Rw w' bh ch (getX s).h ∧ w.heap.size ≤ bm ∧ w.heap.size ≤ bh ∧ bm ≠ bh) ∧ Below w.heap.size w w' := by
  obtain ⟨i3, hi3, hz3, hs3, hb3⟩ := info_parts Tryd.info3
  obtain ⟨W2, hW2⟩ : ∃ W2, W2 = ((w.alloc (.cells zc 25)).alloc (.cells #[.string s, .bool false] 94)).alloc (.cells #[rdp (w.heap.size + 1)] 79) := ⟨_, rfl⟩
  have be2 : Below w.heap.size w W2 := by rw [hW2]; exact (((Below.refl _ w).alloc (Nat.le_refl _) _).alloc (by simp) _).alloc (by simp; omega) _
  have r2 : W2.heap[w.heap.size]? = some (.cells zc 25 (0, 0)) := by
    rw [hW2, Below.heap_alloc _ _ _ (by simp; omega), Below.heap_alloc _ _ _ (by simp)]; exact heap_alloc_new w _
  have d2 : Rd 94 (w.heap.size + 1) s false W2 := by
    have h := heap_alloc_new (w.alloc (.cells zc 25)) (.cells #[.string s, .bool false] 94)
    rw [World.size_alloc] at h
    unfold Rd
    rw [hW2, Below.heap_alloc _ _ _ (by simp)]; exact h
  have p2 : W2.heap[w.heap.size + 2]? = some (.cells #[rdp (w.heap.size + 1)] 79 (0, 0)) := by
    have h := heap_alloc_new ((w.alloc (.cells zc 25)).alloc (.cells #[.string s, .bool false] 94)) (.cells #[rdp (w.heap.size + 1)] 79)
    rw [World.size_alloc, World.size_alloc] at h
    rw [hW2]; exact h
  have c2 : W2.cell? ⟨w.heap.size + 1 + 1, 0, none⟩ = some (rdp (w.heap.size + 1)) := cell_of_row W2 _ 0 _ 79 (0, 0) p2
  have KV := var_any (w.heap.size + 1) s false W2 d2 (by omega)
  obtain ⟨M, hM⟩ : ∃ M, M = Vi.varV s := ⟨_, rfl⟩
  rw [← hM] at KV
  have KN := Lib.hid (new_any s (w.alloc (.cells zc 25)))
  rw [World.size_alloc] at KN
  have HW := Lib.hid hW2
  have KV := Lib.hid KV
  have HM := Lib.hid hM
  have H2 := Lib.hid be2
  have R2 := Lib.hid r2
  have P2 := Lib.hid p2
  have HS := Lib.hid hs
  clear hW2 be2 r2 d2 p2 hM hs
  unfold rdp at *
  go_enter Tryd.func18, Tryd.ntmps18
  go_upto_region 3 with (go_at_call 36; refine KN.out.mono ?_; rintro r w1 ⟨rfl, rfl⟩)
  refine wp_at (w := W2) HW.out.symm ?_
  go_upto_region 4 with (go_at_call 38; refine KV.out.mono ?_; clear KV; rintro r w3 ⟨rfl, d3, g3⟩)
  have HD3 : Hid (∃ bad, Rd 94 (w.heap.size + 1) (Vi.varT s) bad w3) := ⟨_, d3⟩
  have G3 := Lib.hid g3
  clear d3 g3 c2 KN HW
  have e2 : W2.heap.size ≤ w3.heap.size := G3.out.size
  have l2 : w.heap.size + 2 < W2.heap.size := (Array.getElem?_eq_some_iff.1 P2.out).1
  have hr3 : w3.heap[w.heap.size]? = some (.cells zc 25 (0, 0)) := (G3.out.block _ (by omega) (by simp)).trans R2.out
  have hp3 : w3.heap[w.heap.size + 1 + 1]? = some (.cells #[rdp (w.heap.size + 1)] 79 (0, 0)) := (G3.out.block _ (by omega) (by simp)).trans P2.out
  have hb3' : Below w.heap.size w w3 := H2.out.grown G3.out H2.out.size (fun k e => by cases e; omega)
  by_cases hM7 : M ≤ 7
  · have t7 : decide ((7 : Int) < (M : Int)) = false := decide_eq_false (by omega)
    obtain ⟨q, hq⟩ : ∃ q, q = w3.heap.size := ⟨_, rfl⟩
    obtain ⟨W4, hW4⟩ : ∃ W4, W4 = w3.alloc (.cells zc 25) := ⟨_, rfl⟩
    have b4 : Below w3.heap.size w3 W4 := by rw [hW4]; exact (Below.refl _ w3).alloc (Nat.le_refl _) _
    have hG : Gt w (w.heap.size + 1 + 1) q (w.heap.size + 1) (rdK 0 (Vi.varT s)).2.2 (.slice none 0 0) (.slice none 0 0) (rdK 0 (Vi.varT s)).1 (rdK 0 (Vi.varT s)).2.1 0 false W4 := by
      obtain ⟨bad, hd⟩ := HD3.out
      refine ⟨hb3'.trans (b4.mono hb3'.size), (b4.block _ (by omega)).trans hr3, (b4.block _ (by omega)).trans hp3, ⟨bad, (b4.block _ (by omega)).trans hd⟩, by rw [hW4, hq]; exact heap_alloc_new w3 _, World.ownsRow_nil _ _ _ _, World.ownsRow_nil _ _ _ _, fun k e => (by cases e), by omega, by omega, by omega, by omega⟩
    have HG := Lib.hid hG
    have HM7 := Lib.hid hM7
    have HW4 := Lib.hid hW4
    obtain ⟨p, hp⟩ : ∃ p, p = w.heap.size + 1 + 1 := ⟨_, rfl⟩
    obtain ⟨g, hg⟩ : ∃ g, g = w.heap.size + 1 := ⟨_, rfl⟩
    rw [← hp, ← hg] at HG
    rw [← hp]
    obtain ⟨t0, ht0⟩ : ∃ t0, t0 = Vi.varT s := ⟨_, rfl⟩
    rw [← ht0] at HG
    have HT0 := Lib.hid ht0
    have HSZ : Hid (∀ k, (rdK k t0).2.2.size ≤ 1048576 ∧ (Vi.varT (rdK k t0).2.2).size ≤ 1048576) := Lib.hid fun k => by
      have h1 := rdK_size k t0
      have h2 := varT_size (rdK k t0).2.2
      have h3 := varT_size s
      have := HS.out
      rw [← ht0] at h3
      omega
    clear HD3 G3 e2 l2 hr3 hp3 hb3' hG b4 hg hp R2 P2 H2 ht0 hM7
    go_upto_region 7 with fail
    rw [← hq]
    refine wp_at (w := W4) HW4.out.symm ?_
    go_wp2_with fail
    clear HW4 hW4 hq
    go_loopw [19] (fun i wr => ∃ (k : Nat) (vm vh : Value), i = .int .u64 k ∧ k ≤ M ∧ Hid (k = 0 → vm = .slice none 0 0 ∧ vh = .slice none 0 0) ∧ Hid (Gt w p q g (rdK k t0).2.2 vm vh (rdK k t0).1 (rdK k t0).2.1 0 false wr)) (fun i _ => M - (Go.RowKit.intOf i).toNat)
    case atStart => exact ⟨0, _, _, rfl, Nat.zero_le _, fun _ => ⟨rfl, rfl⟩, HG⟩
    case round =>
      obtain ⟨k, vm, vh, rfl, hk1, hNil, hP⟩ := hrel
      clear HG
      by_cases hlt : k < M
      · have t1 : decide ((k : Int) < (M : Int)) = true := decide_eq_true (by omega)
        have i3' : M ≤ 7 := HM7.out
        obtain ⟨ms, hms⟩ : ∃ ms, ms = (rdK k t0).1 := ⟨_, rfl⟩
        obtain ⟨hs, hhs⟩ : ∃ hs, hs = (rdK k t0).2.1 := ⟨_, rfl⟩
        obtain ⟨u, hu⟩ : ∃ u, u = (rdK k t0).2.2 := ⟨_, rfl⟩
        have hl1 : Hid (ms.length ≤ 7) := by show _ ≤ _; rw [hms, (rdK_len k t0).1]; omega
        have hl2 : Hid (hs.length ≤ 7) := by show _ ≤ _; rw [hhs, (rdK_len k t0).2]; omega
        have hz := HSZ.out k
        rw [← hu] at hz
        obtain ⟨x, hx⟩ : ∃ x, x = tkV u := ⟨_, rfl⟩
        obtain ⟨y, hy⟩ : ∃ y, y = tkV (Vi.varT u) := ⟨_, rfl⟩
        have HX : Hid ((rdK (k + 1) t0).1 = ms ++ [x] ∧ (rdK (k + 1) t0).2.1 = hs ++ [y] ∧ (rdK (k + 1) t0).2.2 = Vi.varT (Vi.varT u)) := by
          show _ ∧ _
          rw [hx, hy, hms, hhs, hu]; exact ⟨rfl, rfl, rfl⟩
        rw [← hms, ← hhs, ← hu] at hP
        have K1 : Hid (Calls Tryd.prog 37 #[.pointer (some ⟨p, 0, none⟩)] wr.drew fun r W' => r = .returned (.int .i64 x) ∧ Hid (Gt w p q g (Vi.varT u) vm vh ms hs 0 false W')) := by
          obtain ⟨bad, hd⟩ := hP.out.drew.rd
          refine (take_any p g u bad wr.drew hP.out.drew.pc hd (by omega)).mono ?_
          rintro r W' ⟨rfl, h1, h2⟩
          exact ⟨by rw [hx], hP.out.drew.take h1 h2⟩
        have K2 : Hid (∀ vm ms W, Gt w p q g (Vi.varT u) vm vh ms hs 0 false W → Calls Tryd.prog 37 #[.pointer (some ⟨p, 0, none⟩)] W fun r W' => r = .returned (.int .i64 y) ∧ Hid (Gt w p q g (Vi.varT (Vi.varT u)) vm vh ms hs 0 false W')) := Lib.hid fun vm ms W h => by
          obtain ⟨bad, hd⟩ := h.rd
          refine (take_any p g (Vi.varT u) bad W h.pc hd (by omega)).mono ?_
          rintro r W' ⟨rfl, h1, h2⟩
          exact ⟨by rw [hy], h.take h1 h2⟩
        have a0 : wr.cell? ⟨q, 0, none⟩ = some vm := cell_of_row _ _ 0 _ 25 (0, 0) hP.out.cq
        have H0 := Lib.hid hP
        clear hP hx hy hms hhs hu hz
        go_upto_region 9 with fail
        go_region_law (first
          | (refine step_append_lies _ (by rfl) _ _ 23 (by rfl) w.heap.size 3 i3 (.int .i64 0) 1 8 Tryd.underlying23 hi3 hz3 hs3 hb3 (by rfl) (by omega) vm ms.length (ms.map (Value.int .i64)) (by rfl) (by exact HOW.out) ⟨w5.heap.size, 0, none⟩ 1 1 [.int .i64 x] (by rfl) rfl (by exact HNEWS.out) (fun u hu => by simp at hu; subst hu; rfl) (by omega) (by have := hl1.out; unfold maxLen; omega) (by have := hl1.out; omega) (by exact HBS.out) (w5.heap.size + 1) (by simp) ?_; intro g4 cap w6 hown4 hgrow hat hlt4; obtain ⟨H6, q0, qf⟩ := HA.out.appM hown4 hgrow hat (by simp))
          | (go_simp; go_at_call 37; (with_reducible refine K1.out.mono ?_); clear K1; rintro r w5 ⟨rfl, H5⟩; have hA := H5.out.alloc (.cells #[.int .i64 x] 3); have HOW : Hid ((w5.alloc (.cells #[.int .i64 x] 3)).ownsRow w.heap.size 3 1 vm ms.length (ms.map (Value.int .i64))) := hA.om; have HBS : Hid (w.heap.size ≤ (w5.alloc (.cells #[.int .i64 x] 3)).heap.size) := hA.be.size; have HNEWS : Hid (∀ (i : Nat) (u : Value), [Value.int .i64 x][i]? = some u → (w5.alloc (.cells #[.int .i64 x] 3)).cell? ((⟨w5.heap.size, 0, none⟩ : Addr).add i) = some u) := news1 _ _ ; have HA := Lib.hid hA; have n0 : w5.cell? ⟨q, 0, none⟩ = some vm := cell_of_row _ _ 0 _ 25 (0, 0) H5.out.cq; have n1 : (w5.alloc (.cells #[.int .i64 x] 3)).cell? ⟨q, 0, none⟩ = some vm := cell_of_row _ _ 0 _ 25 (0, 0) HA.out.cq; clear hA))
        all_goals
          clear HOW HBS HNEWS HA n0 n1 hown4 hgrow hat hlt4 q0 qf H5 a0
          obtain ⟨w7, hw7⟩ : ∃ w7, w7 = w6.setCell ⟨q, 0, none⟩ (.slice (some ⟨g4, 0, none⟩) (ms.length + 1) cap) := ⟨_, rfl⟩
          rw [← hw7] at H6
          rw [← hw7]
          have H7 := Lib.hid H6
          have a1 : w7.cell? ⟨q, 1, none⟩ = some vh := cell_of_row _ _ 1 _ 25 (0, 0) H6.cq
          clear hw7 H6
          go_upto_region 10 with fail
          go_region_law (first
            | (refine step_append_lies _ (by rfl) _ _ 23 (by rfl) w.heap.size 3 i3 (.int .i64 0) 1 8 Tryd.underlying23 hi3 hz3 hs3 hb3 (by rfl) (by omega) vh hs.length (hs.map (Value.int .i64)) (by rfl) (by exact HOW.out) ⟨w8.heap.size, 0, none⟩ 1 1 [.int .i64 y] (by rfl) rfl (by exact HNEWS.out) (fun u hu => by simp at hu; subst hu; rfl) (by omega) (by have := hl2.out; unfold maxLen; omega) (by have := hl2.out; omega) (by exact HBS.out) (w8.heap.size + 1) (by simp) ?_; intro g5 cap5 w9 hown5 hgrow5 hat5 hlt5; obtain ⟨H9, q1, qg⟩ := HB.out.appH hown5 hgrow5 hat5 (by simp))
            | (go_simp; go_at_call 37; (with_reducible refine (K2.out _ _ _ H7.out.drew).mono ?_); rintro r w8 ⟨rfl, H8⟩; have hA := H8.out.alloc (.cells #[.int .i64 y] 3); have HOW : Hid ((w8.alloc (.cells #[.int .i64 y] 3)).ownsRow w.heap.size 3 1 vh hs.length (hs.map (Value.int .i64))) := hA.oh; have HBS : Hid (w.heap.size ≤ (w8.alloc (.cells #[.int .i64 y] 3)).heap.size) := hA.be.size; have HNEWS : Hid (∀ (i : Nat) (u : Value), [Value.int .i64 y][i]? = some u → (w8.alloc (.cells #[.int .i64 y] 3)).cell? ((⟨w8.heap.size, 0, none⟩ : Addr).add i) = some u) := news1 _ _ ; have HB := Lib.hid hA; have m0 : w8.cell? ⟨q, 1, none⟩ = some vh := cell_of_row _ _ 1 _ 25 (0, 0) H8.out.cq; have m1 : (w8.alloc (.cells #[.int .i64 y] 3)).cell? ⟨q, 1, none⟩ = some vh := cell_of_row _ _ 1 _ 25 (0, 0) HB.out.cq; clear hA))
          all_goals
            clear HOW HBS HNEWS HB m0 m1 hown5 hgrow5 hat5 hlt5 H8 a1
            obtain ⟨w10, hw10⟩ : ∃ w10, w10 = w9.setCell ⟨q, 1, none⟩ (.slice (some ⟨g5, 0, none⟩) (hs.length + 1) cap5) := ⟨_, rfl⟩
            rw [← hw10] at H9
            have H10 := Lib.hid H9
            rw [← hw10]
            clear hw10 H9 q1 qg
            go_wp2
            go_roundw
            case rel => exact ⟨k + 1, _, _, by go_num, by omega, (fun h => by omega), by rw [HX.out.1, HX.out.2.1, HX.out.2.2]; exact H10⟩
            case measure => simp [Go.RowKit.intOf]; omega
      · have hkt : k = M := by omega
        subst hkt
        have t1 : decide ((k : Int) < (k : Int)) = false := decide_eq_false (by omega)
        obtain ⟨ms, hms⟩ : ∃ ms, ms = (rdK k t0).1 := ⟨_, rfl⟩
        obtain ⟨hs, hhs⟩ : ∃ hs, hs = (rdK k t0).2.1 := ⟨_, rfl⟩
        obtain ⟨u, hu⟩ : ∃ u, u = (rdK k t0).2.2 := ⟨_, rfl⟩
        have hl1 : ms.length = k := by rw [hms]; exact (rdK_len k t0).1
        have hl2 : hs.length = k := by rw [hhs]; exact (rdK_len k t0).2
        have hz := HSZ.out k
        rw [← hu] at hz
        obtain ⟨x, hx⟩ : ∃ x, x = tkV u := ⟨_, rfl⟩
        obtain ⟨y, hy⟩ : ∃ y, y = tkV (Vi.varT u) := ⟨_, rfl⟩
        obtain ⟨f, hf⟩ : ∃ f, f = (y == 1) := ⟨_, rfl⟩
        obtain ⟨X, hX⟩ : ∃ X : Cf, X = ⟨ms, hs, x, f⟩ := ⟨_, rfl⟩
        have HGX : Hid (getX s = X) := by
          show _ = _
          rw [hX, hf, hx, hy, hms, hhs, hu, HT0.out, HM.out]; rfl
        rw [← hms, ← hhs, ← hu] at hP
        have K1 : Hid (Calls Tryd.prog 37 #[.pointer (some ⟨p, 0, none⟩)] wr fun r W' => r = .returned (.int .i64 x) ∧ Hid (Gt w p q g (Vi.varT u) vm vh ms hs 0 false W')) := by
          obtain ⟨bad, hd⟩ := hP.out.rd
          refine (take_any p g u bad wr hP.out.pc hd (by omega)).mono ?_
          rintro r W' ⟨rfl, h1, h2⟩
          exact ⟨by rw [hx], hP.out.take h1 h2⟩
        have K2 : Hid (∀ W, Gt w p q g (Vi.varT u) vm vh ms hs x false W → Calls Tryd.prog 37 #[.pointer (some ⟨p, 0, none⟩)] W fun r W' => r = .returned (.int .i64 y) ∧ Hid (Gt w p q g (Vi.varT (Vi.varT u)) vm vh ms hs x false W')) := Lib.hid fun W h => by
          obtain ⟨bad, hd⟩ := h.rd
          refine (take_any p g (Vi.varT u) bad W h.pc hd (by omega)).mono ?_
          rintro r W' ⟨rfl, h1, h2⟩
          exact ⟨by rw [hy], h.take h1 h2⟩
        have K3 : Hid (∀ W, Gt w p q g (Vi.varT (Vi.varT u)) vm vh ms hs x f W → Calls Tryd.prog 17 #[.agg #[vm, vh, .int .i64 x, .bool f]] W fun r W' => r = .returned (.tuple #[.string (if rightC X then putC X else ⟨#[]⟩), .bool (rightC X)]) ∧ Hid (Gt w p q g (Vi.varT (Vi.varT u)) vm vh ms hs x f W')) := Lib.hid fun W h => by
          have h7 := HM7.out
          rcases h.rows (by omega) with ⟨e1, e2, e3, e4⟩ | ⟨bm, cm, bh, ch, e3, e4, r1, r2, _⟩ | e1
          · have hr : rightC X = false := by rw [hX]; unfold rightC; rw [e1]; rfl
            rw [hr, e3, e4]
            refine (lput_nil x f W).mono ?_
            rintro r W' ⟨rfl, hb⟩
            rw [e3, e4] at h
            exact ⟨rfl, h.below hb⟩
          · have K := lput_any (c := X) (w := W) (bm := bm) (cm := cm) (bh := bh) (ch := ch) (by rw [hX]; exact r1) (by rw [hX]; exact r2) (by rw [hX]; show ms.length ≤ 7; omega) (by rw [hX]; show hs.length ≤ 7; omega)
            have e5 : cvl bm cm bh ch X = .agg #[vm, vh, .int .i64 x, .bool f] := by rw [hX, e3, e4]
            rw [e5] at K
            exact K.mono fun r W' ⟨q1, q2⟩ => ⟨q1, h.below q2⟩
          · have hk0 : k = 0 := by rw [e1] at hl1; exact hl1.symm
            obtain ⟨e3, e4⟩ := hNil.out hk0
            have hr : rightC X = false := by rw [hX]; unfold rightC; rw [e1]; rfl
            rw [hr, e3, e4]
            refine (lput_nil x f W).mono ?_
            rintro r W' ⟨rfl, hb⟩
            rw [e3, e4] at h
            exact ⟨rfl, h.below hb⟩
        have HROW : Hid (∀ W, Gt w p q g (Vi.varT (Vi.varT u)) vm vh ms hs x f W → rightC X = true → ∃ bm cm bh ch, #[vm, vh, .int .i64 x, .bool f] = cvc bm cm bh ch X ∧ Rw W bm cm X.m ∧ Rw W bh ch X.h ∧ w.heap.size ≤ bm ∧ w.heap.size ≤ bh ∧ bm ≠ bh) := Lib.hid fun W h hr => by
          have h0 : ms ≠ [] := fun e => by rw [hX] at hr; unfold rightC at hr; rw [e] at hr; cases hr
          rcases h.rows (by omega) with ⟨e1, _⟩ | ⟨bm, cm, bh, ch, e3, e4, r1, r2, r3⟩ | e1
          · exact absurd e1 h0
          · exact ⟨bm, cm, bh, ch, by rw [hX, e3, e4], by rw [hX]; exact r1, by rw [hX]; exact r2, r3⟩
          · exact absurd e1 h0
        have HOO : Hid (getO s = (rightC X && decide (putC X = s))) := by
          show _ = _
          unfold getO
          rw [HGX.out, ← HM.out, decide_eq_true HM7.out]; rfl
        obtain ⟨PP, hPP⟩ : ∃ PP : ByteArray, PP = (if rightC X then putC X else ⟨#[]⟩) := ⟨_, rfl⟩
        obtain ⟨O, hO⟩ : ∃ O, O = rightC X := ⟨_, rfl⟩
        rw [← hPP, ← hO] at K3
        rw [← hO] at HROW HOO hPP
        have HYF := Lib.hid hf
        have HPQ := Lib.hid hPP
        have hq2 : wr.cell? ⟨q, 2, none⟩ = some (.int .i64 0) := cell_of_row _ _ 2 _ 25 (0, 0) hP.out.cq
        clear hP hx hy hms hhs hu hz hNil hX hl1 hl2 HSZ HT0 hf hPP hO
        go_upto_region 13 with (go_at_call 37; (with_reducible refine K1.out.mono ?_); clear K1; rintro r w5 ⟨rfl, H5⟩; have c5 : w5.cell? ⟨q, 2, none⟩ = some (.int .i64 0) := cell_of_row _ _ 2 _ 25 (0, 0) H5.out.cq; have f5 : w5.frozen? ⟨q, 2, none⟩ = false := (by simp [World.frozen?, H5.out.cq]))
        obtain ⟨w6, hw6⟩ : ∃ w6, w6 = w5.setCell ⟨q, 2, none⟩ (.int .i64 x) := ⟨_, rfl⟩
        rw [← hw6]
        have H6 : Hid (Gt w p q g (Vi.varT u) vm vh ms hs x false w6) := by rw [hw6]; exact H5.out.setQ 2 _ rfl H5.out.om H5.out.oh H5.out.ne
        clear hw6 c5 f5 H5 hq2
        have hfy : (y == 1) = f := HYF.out.symm
        go_upto_region 14 with (go_at_call 37; (with_reducible refine (K2.out _ H6.out).mono ?_); clear K2; rintro r w7 ⟨rfl, H7⟩; have c5 : w7.cell? ⟨q, 3, none⟩ = some (.bool false) := cell_of_row _ _ 3 _ 25 (0, 0) H7.out.cq; have f5 : w7.frozen? ⟨q, 3, none⟩ = false := (by simp [World.frozen?, H7.out.cq]))
        obtain ⟨w8, hw8⟩ : ∃ w8, w8 = w7.setCell ⟨q, 3, none⟩ (.bool f) := ⟨_, rfl⟩
        rw [← hw8]
        have H8 : Hid (Gt w p q g (Vi.varT (Vi.varT u)) vm vh ms hs x f w8) := by rw [hw8]; exact H7.out.setQ 3 _ rfl H7.out.om H7.out.oh H7.out.ne
        clear hw8 c5 f5 H7 H6 hfy
        have hq := H8.out.cq
        go_upto_region 15 with (first
          | (refine wpList_load_cf rfl _ rfl _ q #[vm, vh, .int .i64 x, .bool f] rfl rfl hq ?_)
          | (go_at_call 17; (with_reducible refine (K3.out _ H8.out).mono ?_); clear K3; rintro r w9 ⟨rfl, H9⟩))
        have hr9 := H9.out.r
        have hq9 := H9.out.cq
        cases O
        · have HO : Hid (getO s = false) := by show _ = _; rw [HOO.out]; rfl
          have HR9 := Lib.hid hr9
          go_wp2_with (refine wpList_store_cf rfl _ _ rfl _ w.heap.size zc zc rfl (by simp [Value.oneCell']) rfl rfl hr9 rfl ?_)
          exact bodyPost_ret (v := .tuple #[.agg zc, .bool false]) (res18 _ _ w.heap.size _ rfl (setRow_heap _ _ _ _ 25 (0, 0) HR9.out) rfl) rfl ⟨_, by rw [HO.out], (fun _ => rfl), (fun h => by rw [HO.out] at h; cases h), H9.out.be.trans ⟨rfl, rfl, rfl, by simp, fun k hk => setRow_other _ _ _ _ (by omega)⟩⟩
        · have HP : Hid (PP = putC X) := HPQ.out
          clear HPQ
          by_cases hps : PP = s
          · have HO : Hid (getO s = true) := by show _ = _; rw [HOO.out, ← HP.out, decide_eq_true hps]; rfl
            have q1 : (PP.toList == s.toList) = true := by rw [hps]; exact beq_self_eq_true _
            clear hps HOO
            have HR9 := Lib.hid hr9
            obtain ⟨bm, cm, bh, ch, e1, r1, r2, l1, l2, ne⟩ := HROW.out _ H9.out rfl
            have HE := Lib.hid e1
            have HE2 := Lib.hid (And.intro r1 (And.intro r2 (And.intro l1 (And.intro l2 ne))))
            have HLT := Lib.hid (And.intro l1 l2)
            clear e1 r1 r2 l1 l2 ne HROW
            go_wp2_with (first
              | (refine wpList_load_cf rfl _ rfl _ q #[vm, vh, .int .i64 x, .bool f] rfl rfl hq9 ?_)
              | (refine wpList_store_cf rfl _ _ rfl _ w.heap.size #[vm, vh, .int .i64 x, .bool f] zc rfl (by rw [HE.out]; simp [Value.oneCell']) rfl rfl hr9 rfl ?_))
            obtain ⟨r1, r2, l1, l2, ne⟩ := HE2.out
            have n1 : bm ≠ w.heap.size := fun e => by
              obtain ⟨cur, h1, _⟩ := r1.ex
              rw [e, HR9.out] at h1; cases h1
            have n2 : bh ≠ w.heap.size := fun e => by
              obtain ⟨cur, h1, _⟩ := r2.ex
              rw [e, HR9.out] at h1; cases h1
            refine bodyPost_ret (v := .tuple #[.agg #[vm, vh, .int .i64 x, .bool f], .bool true]) (res18 _ _ w.heap.size _ rfl (setRow_heap _ _ _ _ 25 (0, 0) HR9.out) rfl) rfl ⟨_, by rw [HO.out], (fun h => by rw [HO.out] at h; cases h), fun _ => ⟨bm, cm, bh, ch, ?_, ?_, ?_, l1, l2, ne⟩, H9.out.be.trans ⟨rfl, rfl, rfl, by simp, fun k hk => setRow_other _ _ _ _ (by omega)⟩⟩
            · rw [HGX.out, HE.out]
            · rw [HGX.out]; exact r1.at (setRow_other _ _ _ _ n1)
            · rw [HGX.out]; exact r2.at (setRow_other _ _ _ _ n2)
          · have HO : Hid (getO s = false) := by show _ = _; rw [HOO.out, ← HP.out, decide_eq_false hps]; rfl
            have q1 : (PP.toList == s.toList) = false := beq_eq_false_iff_ne.2 fun e => hps (by rw [Lib.toList_data, Lib.toList_data] at e; exact ByteArray.ext (Array.toList_inj.1 e))
            clear hps HOO
            have HR9 := Lib.hid hr9
            go_wp2_with (refine wpList_store_cf rfl _ _ rfl _ w.heap.size zc zc rfl (by simp [Value.oneCell']) rfl rfl hr9 rfl ?_)
            exact bodyPost_ret (v := .tuple #[.agg zc, .bool false]) (res18 _ _ w.heap.size _ rfl (setRow_heap _ _ _ _ 25 (0, 0) HR9.out) rfl) rfl ⟨_, by rw [HO.out], (fun _ => rfl), (fun h => by rw [HO.out] at h; cases h), H9.out.be.trans ⟨rfl, rfl, rfl, by simp, fun k hk => setRow_other _ _ _ _ (by omega)⟩⟩
  · have t7 : decide ((7 : Int) < (M : Int)) = true := decide_eq_true (by omega)
    have HO : Hid (getO s = false) := by
      show _ = _
      unfold getO
      rw [← HM.out, decide_eq_false hM7]; rfl
    have HB3 := Lib.hid hb3'
    have HR3 := Lib.hid hr3
    clear HD3 G3 hp3 hM7
    go_wp2_with (refine wpList_store_cf rfl _ _ rfl _ w.heap.size zc zc rfl (by simp [Value.oneCell']) rfl rfl hr3 rfl ?_)
    exact bodyPost_ret (v := .tuple #[.agg zc, .bool false]) (res18 _ _ w.heap.size _ rfl (setRow_heap _ _ _ _ 25 (0, 0) HR3.out) rfl) rfl ⟨_, by rw [HO.out], (fun _ => rfl), (fun h => by rw [HO.out] at h; cases h), HB3.out.trans ⟨rfl, rfl, rfl, by simp, fun k hk => setRow_other _ _ _ _ (by omega)⟩⟩
end Go.Proofs.YtmencfmjmbbfhaaDoor
