/-
  The package's GetMsg: what it returns.
  Conditions: the text has at most 2^47 bytes.
-/
import Derived.Test.YtiikgfcfceldmaaRMi
namespace Go.Proofs.Ytiikgfcfceldmaa
open Go.RowKit
open Vi
set_option linter.unusedVariables false
set_option linter.unusedSimpArgs false

theorem new2 (u : ByteArray) (w : World) : Calls Try.prog 13 #[.string u] w fun q w' => q = .returned (.pointer (some ⟨w.heap.size, 0, none⟩)) ∧ Rd 73 w.heap.size u false w' ∧ Below w.heap.size w w' ∧ w'.heap.size = w.heap.size + 1 := by
  refine (new_any u w).mono ?_
  rintro q w' ⟨h1, rfl⟩
  exact ⟨h1, Rd.new w 73 u false, (Below.refl _ _).alloc (Nat.le_refl _) _, by simp⟩
theorem rnew2 (u : ByteArray) (w : World) : Calls Try.prog 14 #[.string u] w fun q w' => q = .returned (.pointer (some ⟨w.heap.size, 0, none⟩)) ∧ Rd 39 w.heap.size u false w' ∧ Below w.heap.size w w' ∧ w'.heap.size = w.heap.size + 1 := by
  refine (rnew_any u w).mono ?_
  rintro q w' ⟨h1, rfl⟩
  exact ⟨h1, Rd.new w 39 u false, (Below.refl _ _).alloc (Nat.le_refl _) _, by simp⟩
theorem ok2 (g : Nat) (T : ByteArray) (f : Bool) (w : World) (h : Rd 73 g T f w) : Calls Try.prog 17 #[.pointer (some ⟨g, 0, none⟩)] w fun q w' => q = .returned (.bool (!f)) ∧ w = w' := ok_any g T f w h
theorem left2 (g : Nat) (T : ByteArray) (f : Bool) (w : World) (h : Rd 73 g T f w) : Calls Try.prog 18 #[.pointer (some ⟨g, 0, none⟩)] w fun q w' => q = .returned (.int .i64 T.size) ∧ w = w' := left_any g T f w h

/-- Is a message got of the text? -/
def gok (s : ByteArray) : Bool := mAll s && mmayB (mPrs s none 0)
theorem may_at (s : ByteArray) (A : Option Addr) (c : Nat) : mmayB (mPrs s A c) = mmayB (mPrs s none 0) := rfl
def GMsg (s : ByteArray) (w : World) (q : Ending) (w' : World) : Prop :=
  ∃ M : Ms, q = .returned (.tuple #[mv M, .bool (gok s)]) ∧ Ents w'.heap.size M.A M.n M.es w' ∧ M.Wide ∧ Below w.heap.size w w' ∧ (gok s = true → ∃ A c, M = mPrs s A c) ∧ (gok s = false → M = mzz)
theorem mzz_wide : mzz.Wide := by
  constructor
  all_goals dsimp only
  all_goals first | omega | exact Nat.zero_le _ | (intro e he; cases he)
theorem gmsg_no {s : ByteArray} {w w' : World} (h : gok s = false) (hb : Below w.heap.size w w') : GMsg s w (.returned (.tuple #[mv mzz, .bool false])) w' :=
  by
  refine ⟨mzz, by rw [h], ⟨rfl, fun i e he => by cases he⟩, mzz_wide, hb, fun e => ?_, fun _ => rfl⟩
  rw [h] at e
  cases e
theorem gmsg_yes {s : ByteArray} {w w' : World} {A : Option Addr} {c : Nat} (hm : s.size ≤ 140737488351232) (h : gok s = true) (hb : Below w.heap.size w w') (hE : Ents w'.heap.size A (rN s) (gEs (rN s) (r10 s)) w') : GMsg s w (.returned (.tuple #[mv (mRd s A c), .bool true])) w' := by
  have ha : mAll s = true := by
    have h2 := h
    unfold gok at h2
    rw [Bool.and_eq_true] at h2
    exact h2.1
  obtain ⟨p1, p2, p3⟩ := mRd_parts s A c
  have hw := mRd_wide s A c hm
  have he := mRd_eq ha A c
  obtain ⟨M, hM⟩ : ∃ M, M = mRd s A c := ⟨_, rfl⟩
  rw [← hM] at p1 p2 p3 hw he ⊢
  refine ⟨M, by rw [h], ?_, hw, hb, fun _ => ⟨A, c, he⟩, fun e => ?_⟩
  · rw [p1, p2, p3]
    exact hE
  · rw [h] at e
    cases e
theorem gok_iff (s : ByteArray) (A : Option Addr) (c : Nat) : gok s = ((!mFR s && decide ((rT s).size = 0)) && mmayB (mRd s A c)) := by
  rw [mFR_eq]
  unfold gok
  by_cases h : mAll s = true
  · rw [mRd_eq h A c, may_at s A c]
  · have h2 : mAll s = false := by simpa using h
    rw [h2, Bool.false_and, Bool.false_and]
theorem heap_wrm (w : World) (g k : Nat) (M : Ms) (h : k ≠ g) : (wrm w g M).heap[k]? = w.heap[k]? := by
  have hs : ∀ (w : World) (i : Nat) (u : Value), (w.setCell ⟨g, i, none⟩ u).heap[k]? = w.heap[k]? := fun w i u => Below.heap_setCell w _ _ k (by simp; omega)
  unfold wrm
  rw [hs, hs, hs, hs, hs, hs, hs, hs, hs, hs, hs]
theorem size_wrm (w : World) (g : Nat) (M : Ms) : (wrm w g M).heap.size = w.heap.size := by
  simp [World.setCell]
theorem ents_wrm2 {w : World} {g B n : Nat} {A : Option Addr} {es : List En} (M : Ms) (h : Ents B A n es w) (hA : ∀ a, A = some a → a.block ≠ g) : Ents B A n es (wrm w g M) :=
  ⟨h.len, fun i e he => by
    obtain ⟨a, h1, h2, h3⟩ := h.at_ i e he
    refine ⟨a, h1, h2, fun j hj => ?_⟩
    rw [← h3 j hj]
    exact World.cell?_of_block (heap_wrm w g _ M (by rw [block_of_add, block_of_add]; exact hA a h1))⟩

set_option maxHeartbeats 8000000 in
set_option maxRecDepth 100000 in
theorem getMsg_any (s : ByteArray) (w : World) (hm : s.size ≤ 140737488351232) : Calls Try.prog 22 #[.string s] w (GMsg s w) := by
  obtain ⟨W0, hW0⟩ : ∃ W0, W0 = w.alloc (Obj.cells (mc mzz) 44) := ⟨_, rfl⟩
  have k0 : W0.heap[w.heap.size]? = some (.cells (mc mzz) 44 (0, 0)) := by rw [hW0]; exact heap_alloc_new w _
  have b0 : Below w.heap.size w W0 := by rw [hW0]; exact (Below.refl _ _).alloc (Nat.le_refl _) _
  have s0 : W0.heap.size = w.heap.size + 1 := by rw [hW0]; simp
  have KN := Lib.hid (new2 s W0)
  have KR := Lib.hid (fun (g : Nat) (W : World) (h : Rd 73 g s false W) => readMsg_any g s W h hm)
  have HM := Lib.hid hm
  have HW0 := Lib.hid hW0
  have HK0 := Lib.hid k0
  have HB0 := Lib.hid b0
  have HS0 := Lib.hid s0
  clear hW0 k0 b0 s0 hm
  go_enter Try.func22, Try.ntmps22
  go_wp2_with fail
  rw [← HW0.out]
  refine KN.out.mono ?_
  rintro q w1 ⟨rfl, R1, b1, s1⟩
  have HR1 := Lib.hid R1
  have HK1 : Hid (w1.heap[w.heap.size]? = some (.cells (mc mzz) 44 (0, 0))) := (b1.block _ (by have := HS0.out; omega)).trans HK0.out
  have HB1 : Hid (Below w.heap.size w w1) := HB0.out.trans (b1.mono HB0.out.size)
  clear R1 b1 s1
  go_wp2_with fail
  refine (KR.out _ _ HR1.out).mono ?_
  rintro q w2 ⟨A, c, rfl, hLo, hE, R2, g2⟩
  have HLO : Hid (∀ a, A = some a → a.block ≠ w.heap.size) := fun a ha => by have h1 := hLo a ha; have h2 := HB1.out.size; have h3 := (Array.getElem?_eq_some_iff.1 HK1.out).1; omega
  have hW1 : w.heap.size < W0.heap.size := by have := HS0.out; omega
  have HK2 : Hid (w2.heap[w.heap.size]? = some (.cells (mc mzz) 44 (0, 0))) := (g2.block _ (Array.getElem?_eq_some_iff.1 HK1.out).1 (by simp; omega)).trans HK1.out
  have HB2 : Hid (Below w.heap.size w w2) := HB1.out.grown g2 HB1.out.size (fun k hk => by injection hk with hk; omega)
  have HG := gok_iff s A c
  have HY : Hid (∀ W, Below w.heap.size w W → Ents W.heap.size A (rN s) (gEs (rN s) (r10 s)) W → gok s = true → GMsg s w (.returned (.tuple #[mv (mRd s A c), .bool true])) W) := fun W hb he hk => gmsg_yes HM.out hk hb he
  have HWD := Lib.hid (mRd_wide s A c HM.out)
  have HP := Lib.hid (mRd_parts s A c)
  obtain ⟨M, hMe⟩ : ∃ M, M = mRd s A c := ⟨_, rfl⟩
  rw [← hMe] at HG HY HWD HP ⊢
  obtain ⟨bf, hbf⟩ : ∃ bf, bf = mFR s := ⟨_, rfl⟩
  obtain ⟨st, hst⟩ : ∃ st, st = rT s := ⟨_, rfl⟩
  rw [← hbf, ← hst] at HG R2
  have HGG := Lib.hid HG
  obtain ⟨W2, hW2⟩ : ∃ W2, W2 = w2.alloc (Obj.cells (mc M) 44) := ⟨_, rfl⟩
  have bb : Below w2.heap.size w2 W2 := by rw [hW2]; exact (Below.refl _ _).alloc (Nat.le_refl _) _
  have HR3 : Hid (Rd 73 W0.heap.size st bf W2) := R2.below bb R2.lt
  have HK3 : Hid (W2.heap[w.heap.size]? = some (.cells (mc mzz) 44 (0, 0))) := (bb.block _ (Array.getElem?_eq_some_iff.1 HK2.out).1).trans HK2.out
  have HKM : Hid (W2.heap[w2.heap.size]? = some (.cells (mc M) 44 (0, 0))) := by show _ = _; rw [hW2]; exact heap_alloc_new w2 _
  have HB3 : Hid (Below w.heap.size w W2) := HB2.out.trans (bb.mono HB2.out.size)
  have HE3 : Hid (Ents W2.heap.size A (rN s) (gEs (rN s) (r10 s)) W2) := (hE.below bb).mr bb.size
  have HL2 : Hid (w2.heap.size < W2.heap.size) := (Array.getElem?_eq_some_iff.1 HKM.out).1
  have HW2 := Lib.hid hW2
  have KO := Lib.hid (ok2 _ _ _ _ HR3.out)
  have KL := Lib.hid (left2 _ _ _ _ HR3.out)
  have KM : Hid (Calls Try.prog 43 #[mv M] W2 fun q w' => q = .returned (.bool (mmayB M)) ∧ Below W2.heap.size W2 w') := mmay_any M W2 (by rw [HP.out.1, HP.out.2.1, HP.out.2.2]; exact HE3.out) HWD.out
  clear hE hLo R2 g2 hW1 HG hMe hbf hst hW2 bb KR KN HR1 HK1 HB1 HK2 HB2
  cases bf with
  | true =>
    have hk : gok s = false := by rw [HGG.out]; rfl
    have z0 : W2.cell? ⟨w.heap.size, 0, none⟩ = some (.int .i64 0) := cell_of_row W2 _ 0 _ 44 (0, 0) HK3.out
    have z1 : W2.cell? ⟨w.heap.size, 1, none⟩ = some (.int .i64 0) := cell_of_row W2 _ 1 _ 44 (0, 0) HK3.out
    have z2 : W2.cell? ⟨w.heap.size, 2, none⟩ = some (.int .i64 0) := cell_of_row W2 _ 2 _ 44 (0, 0) HK3.out
    have z3 : W2.cell? ⟨w.heap.size, 3, none⟩ = some (.int .u64 0) := cell_of_row W2 _ 3 _ 44 (0, 0) HK3.out
    have z4 : W2.cell? ⟨w.heap.size, 4, none⟩ = some (.int .u64 0) := cell_of_row W2 _ 4 _ 44 (0, 0) HK3.out
    have z5 : W2.cell? ⟨w.heap.size, 5, none⟩ = some (.int .u64 0) := cell_of_row W2 _ 5 _ 44 (0, 0) HK3.out
    have z6 : W2.cell? ⟨w.heap.size, 6, none⟩ = some (.int .u64 0) := cell_of_row W2 _ 6 _ 44 (0, 0) HK3.out
    have z7 : W2.cell? ⟨w.heap.size, 7, none⟩ = some (.int .u64 0) := cell_of_row W2 _ 7 _ 44 (0, 0) HK3.out
    have z8 : W2.cell? ⟨w.heap.size, 8, none⟩ = some (.bool false) := cell_of_row W2 _ 8 _ 44 (0, 0) HK3.out
    have z9 : W2.cell? ⟨w.heap.size, 9, none⟩ = some (.slice none 0 0) := cell_of_row W2 _ 9 _ 44 (0, 0) HK3.out
    have z10 : W2.cell? ⟨w.heap.size, 10, none⟩ = some (.string ⟨#[]⟩) := cell_of_row W2 _ 10 _ 44 (0, 0) HK3.out
    have fz : ∀ i, W2.frozen? ⟨w.heap.size, i, none⟩ = false := fun i => Md.of HK3.out
    go_wp2_with fail
    rw [← HW2.out]
    refine KO.out.mono ?_
    rintro q w3 ⟨rfl, rfl⟩
    go_wp2
    obtain ⟨WF, hWF⟩ : ∃ WF, WF = wrm W2 w.heap.size mzz := ⟨_, rfl⟩
    have hblk : WF.heap[w.heap.size]? = some (.cells (mc mzz) 44 (0, 0)) := by rw [hWF]; exact store_allm mzz HK3.out
    have hbF : Below w.heap.size w WF := by rw [hWF]; exact below_allm mzz HB3.out (Nat.le_refl _)
    unfold wrm at hWF
    rw [← hWF]
    have hWF2 := Lib.hid hWF
    clear hWF
    have f0 : WF.cell? ⟨w.heap.size, 0, none⟩ = some (.int .i64 0) := cell_of_row WF _ 0 _ 44 (0, 0) hblk
    have f1 : WF.cell? ⟨w.heap.size, 1, none⟩ = some (.int .i64 0) := cell_of_row WF _ 1 _ 44 (0, 0) hblk
    have f2 : WF.cell? ⟨w.heap.size, 2, none⟩ = some (.int .i64 0) := cell_of_row WF _ 2 _ 44 (0, 0) hblk
    have f3 : WF.cell? ⟨w.heap.size, 3, none⟩ = some (.int .u64 0) := cell_of_row WF _ 3 _ 44 (0, 0) hblk
    have f4 : WF.cell? ⟨w.heap.size, 4, none⟩ = some (.int .u64 0) := cell_of_row WF _ 4 _ 44 (0, 0) hblk
    have f5 : WF.cell? ⟨w.heap.size, 5, none⟩ = some (.int .u64 0) := cell_of_row WF _ 5 _ 44 (0, 0) hblk
    have f6 : WF.cell? ⟨w.heap.size, 6, none⟩ = some (.int .u64 0) := cell_of_row WF _ 6 _ 44 (0, 0) hblk
    have f7 : WF.cell? ⟨w.heap.size, 7, none⟩ = some (.int .u64 0) := cell_of_row WF _ 7 _ 44 (0, 0) hblk
    have f8 : WF.cell? ⟨w.heap.size, 8, none⟩ = some (.bool false) := cell_of_row WF _ 8 _ 44 (0, 0) hblk
    have f9 : WF.cell? ⟨w.heap.size, 9, none⟩ = some (.slice none 0 0) := cell_of_row WF _ 9 _ 44 (0, 0) hblk
    have f10 : WF.cell? ⟨w.heap.size, 10, none⟩ = some (.string ⟨#[]⟩) := cell_of_row WF _ 10 _ 44 (0, 0) hblk
    exact bodyPost_ret (v := .tuple #[mv mzz, .bool false]) (by simp [results, Try.results22, go_sem, f0, f1, f2, f3, f4, f5, f6, f7, f8, f9, f10]) rfl (gmsg_no hk hbF)
  | false =>
    by_cases hz : st.size = 0
    · have hd : decide (0 < (st.size : Int)) = false := decide_eq_false (by omega)
      have hd2 : ¬ 0 < st.size := by omega
      have hkk : gok s = mmayB M := by rw [HGG.out, decide_eq_true hz]; rfl
      have HKK := Lib.hid hkk
      obtain ⟨mb, hmb⟩ : ∃ mb, mb = mmayB M := ⟨_, rfl⟩
      rw [← hmb] at KM HKK
      clear hkk hmb
      have m0 : W2.cell? ⟨w2.heap.size, 0, none⟩ = some (.int .i64 M.kind) := cell_of_row W2 _ 0 _ 44 (0, 0) HKM.out
      have m1 : W2.cell? ⟨w2.heap.size, 1, none⟩ = some (.int .i64 M.frm) := cell_of_row W2 _ 1 _ 44 (0, 0) HKM.out
      have m2 : W2.cell? ⟨w2.heap.size, 2, none⟩ = some (.int .i64 M.dst) := cell_of_row W2 _ 2 _ 44 (0, 0) HKM.out
      have m3 : W2.cell? ⟨w2.heap.size, 3, none⟩ = some (.int .u64 M.term) := cell_of_row W2 _ 3 _ 44 (0, 0) HKM.out
      have m4 : W2.cell? ⟨w2.heap.size, 4, none⟩ = some (.int .u64 M.index) := cell_of_row W2 _ 4 _ 44 (0, 0) HKM.out
      have m5 : W2.cell? ⟨w2.heap.size, 5, none⟩ = some (.int .u64 M.prev) := cell_of_row W2 _ 5 _ 44 (0, 0) HKM.out
      have m6 : W2.cell? ⟨w2.heap.size, 6, none⟩ = some (.int .u64 M.commit) := cell_of_row W2 _ 6 _ 44 (0, 0) HKM.out
      have m7 : W2.cell? ⟨w2.heap.size, 7, none⟩ = some (.int .u64 M.mark) := cell_of_row W2 _ 7 _ 44 (0, 0) HKM.out
      have m8 : W2.cell? ⟨w2.heap.size, 8, none⟩ = some (.bool M.ok) := cell_of_row W2 _ 8 _ 44 (0, 0) HKM.out
      have m9 : W2.cell? ⟨w2.heap.size, 9, none⟩ = some (.slice M.A M.n M.c) := cell_of_row W2 _ 9 _ 44 (0, 0) HKM.out
      have m10 : W2.cell? ⟨w2.heap.size, 10, none⟩ = some (.string M.snap) := cell_of_row W2 _ 10 _ 44 (0, 0) HKM.out
      go_wp2_with fail
      rw [← HW2.out]
      refine KO.out.mono ?_
      rintro q w3 ⟨rfl, rfl⟩
      go_wp2_with fail
      refine KL.out.mono ?_
      rintro q w3 ⟨rfl, rfl⟩
      cases mb with
      | true =>
        go_wp2_with fail
        refine KM.out.mono ?_
        rintro q w4 ⟨rfl, b4⟩
        have HK4 : Hid (w4.heap[w.heap.size]? = some (.cells (mc mzz) 44 (0, 0))) := (b4.block _ (Array.getElem?_eq_some_iff.1 HK3.out).1).trans HK3.out
        have HM4 : Hid (w4.heap[w2.heap.size]? = some (.cells (mc M) 44 (0, 0))) := (b4.block _ HL2.out).trans HKM.out
        have HB4 : Hid (Below w.heap.size w w4) := HB3.out.trans (b4.mono HB3.out.size)
        have HE4 : Hid (Ents w4.heap.size A (rN s) (gEs (rN s) (r10 s)) w4) := (HE3.out.below b4).mr b4.size
        clear b4 m0 m1 m2 m3 m4 m5 m6 m7 m8 m9 m10
        have z0 : w4.cell? ⟨w.heap.size, 0, none⟩ = some (.int .i64 0) := cell_of_row w4 _ 0 _ 44 (0, 0) HK4.out
        have z1 : w4.cell? ⟨w.heap.size, 1, none⟩ = some (.int .i64 0) := cell_of_row w4 _ 1 _ 44 (0, 0) HK4.out
        have z2 : w4.cell? ⟨w.heap.size, 2, none⟩ = some (.int .i64 0) := cell_of_row w4 _ 2 _ 44 (0, 0) HK4.out
        have z3 : w4.cell? ⟨w.heap.size, 3, none⟩ = some (.int .u64 0) := cell_of_row w4 _ 3 _ 44 (0, 0) HK4.out
        have z4 : w4.cell? ⟨w.heap.size, 4, none⟩ = some (.int .u64 0) := cell_of_row w4 _ 4 _ 44 (0, 0) HK4.out
        have z5 : w4.cell? ⟨w.heap.size, 5, none⟩ = some (.int .u64 0) := cell_of_row w4 _ 5 _ 44 (0, 0) HK4.out
        have z6 : w4.cell? ⟨w.heap.size, 6, none⟩ = some (.int .u64 0) := cell_of_row w4 _ 6 _ 44 (0, 0) HK4.out
        have z7 : w4.cell? ⟨w.heap.size, 7, none⟩ = some (.int .u64 0) := cell_of_row w4 _ 7 _ 44 (0, 0) HK4.out
        have z8 : w4.cell? ⟨w.heap.size, 8, none⟩ = some (.bool false) := cell_of_row w4 _ 8 _ 44 (0, 0) HK4.out
        have z9 : w4.cell? ⟨w.heap.size, 9, none⟩ = some (.slice none 0 0) := cell_of_row w4 _ 9 _ 44 (0, 0) HK4.out
        have z10 : w4.cell? ⟨w.heap.size, 10, none⟩ = some (.string ⟨#[]⟩) := cell_of_row w4 _ 10 _ 44 (0, 0) HK4.out
        have fz : ∀ i, w4.frozen? ⟨w.heap.size, i, none⟩ = false := fun i => Md.of HK4.out
        have m0 : w4.cell? ⟨w2.heap.size, 0, none⟩ = some (.int .i64 M.kind) := cell_of_row w4 _ 0 _ 44 (0, 0) HM4.out
        have m1 : w4.cell? ⟨w2.heap.size, 1, none⟩ = some (.int .i64 M.frm) := cell_of_row w4 _ 1 _ 44 (0, 0) HM4.out
        have m2 : w4.cell? ⟨w2.heap.size, 2, none⟩ = some (.int .i64 M.dst) := cell_of_row w4 _ 2 _ 44 (0, 0) HM4.out
        have m3 : w4.cell? ⟨w2.heap.size, 3, none⟩ = some (.int .u64 M.term) := cell_of_row w4 _ 3 _ 44 (0, 0) HM4.out
        have m4 : w4.cell? ⟨w2.heap.size, 4, none⟩ = some (.int .u64 M.index) := cell_of_row w4 _ 4 _ 44 (0, 0) HM4.out
        have m5 : w4.cell? ⟨w2.heap.size, 5, none⟩ = some (.int .u64 M.prev) := cell_of_row w4 _ 5 _ 44 (0, 0) HM4.out
        have m6 : w4.cell? ⟨w2.heap.size, 6, none⟩ = some (.int .u64 M.commit) := cell_of_row w4 _ 6 _ 44 (0, 0) HM4.out
        have m7 : w4.cell? ⟨w2.heap.size, 7, none⟩ = some (.int .u64 M.mark) := cell_of_row w4 _ 7 _ 44 (0, 0) HM4.out
        have m8 : w4.cell? ⟨w2.heap.size, 8, none⟩ = some (.bool M.ok) := cell_of_row w4 _ 8 _ 44 (0, 0) HM4.out
        have m9 : w4.cell? ⟨w2.heap.size, 9, none⟩ = some (.slice M.A M.n M.c) := cell_of_row w4 _ 9 _ 44 (0, 0) HM4.out
        have m10 : w4.cell? ⟨w2.heap.size, 10, none⟩ = some (.string M.snap) := cell_of_row w4 _ 10 _ 44 (0, 0) HM4.out
        go_wp2
        obtain ⟨WF, hWF⟩ : ∃ WF, WF = wrm w4 w.heap.size M := ⟨_, rfl⟩
        have hblk : WF.heap[w.heap.size]? = some (.cells (mc M) 44 (0, 0)) := by rw [hWF]; exact store_allm M HK4.out
        have hbF : Below w.heap.size w WF := by rw [hWF]; exact below_allm M HB4.out (Nat.le_refl _)
        unfold wrm at hWF
        rw [← hWF]
        have hWF2 := Lib.hid hWF
        clear hWF
        have f0 : WF.cell? ⟨w.heap.size, 0, none⟩ = some (.int .i64 M.kind) := cell_of_row WF _ 0 _ 44 (0, 0) hblk
        have f1 : WF.cell? ⟨w.heap.size, 1, none⟩ = some (.int .i64 M.frm) := cell_of_row WF _ 1 _ 44 (0, 0) hblk
        have f2 : WF.cell? ⟨w.heap.size, 2, none⟩ = some (.int .i64 M.dst) := cell_of_row WF _ 2 _ 44 (0, 0) hblk
        have f3 : WF.cell? ⟨w.heap.size, 3, none⟩ = some (.int .u64 M.term) := cell_of_row WF _ 3 _ 44 (0, 0) hblk
        have f4 : WF.cell? ⟨w.heap.size, 4, none⟩ = some (.int .u64 M.index) := cell_of_row WF _ 4 _ 44 (0, 0) hblk
        have f5 : WF.cell? ⟨w.heap.size, 5, none⟩ = some (.int .u64 M.prev) := cell_of_row WF _ 5 _ 44 (0, 0) hblk
        have f6 : WF.cell? ⟨w.heap.size, 6, none⟩ = some (.int .u64 M.commit) := cell_of_row WF _ 6 _ 44 (0, 0) hblk
        have f7 : WF.cell? ⟨w.heap.size, 7, none⟩ = some (.int .u64 M.mark) := cell_of_row WF _ 7 _ 44 (0, 0) hblk
        have f8 : WF.cell? ⟨w.heap.size, 8, none⟩ = some (.bool M.ok) := cell_of_row WF _ 8 _ 44 (0, 0) hblk
        have f9 : WF.cell? ⟨w.heap.size, 9, none⟩ = some (.slice M.A M.n M.c) := cell_of_row WF _ 9 _ 44 (0, 0) hblk
        have f10 : WF.cell? ⟨w.heap.size, 10, none⟩ = some (.string M.snap) := cell_of_row WF _ 10 _ 44 (0, 0) hblk
        exact bodyPost_ret (v := .tuple #[mv M, .bool true]) (by simp [results, Try.results22, go_sem, f0, f1, f2, f3, f4, f5, f6, f7, f8, f9, f10]) rfl (HY.out _ hbF (by have hq := ents_wrm2 (g := w.heap.size) M HE4.out HLO.out; have hz := size_wrm w4 w.heap.size M; rw [← hz] at hq; unfold wrm at hq; rw [← hWF2.out] at hq; exact hq) HKK.out)
      | false =>
        go_wp2_with fail
        refine KM.out.mono ?_
        rintro q w4 ⟨rfl, b4⟩
        have HK4 : Hid (w4.heap[w.heap.size]? = some (.cells (mc mzz) 44 (0, 0))) := (b4.block _ (Array.getElem?_eq_some_iff.1 HK3.out).1).trans HK3.out
        have HB4 : Hid (Below w.heap.size w w4) := HB3.out.trans (b4.mono HB3.out.size)
        clear b4 m0 m1 m2 m3 m4 m5 m6 m7 m8 m9 m10
        have z0 : w4.cell? ⟨w.heap.size, 0, none⟩ = some (.int .i64 0) := cell_of_row w4 _ 0 _ 44 (0, 0) HK4.out
        have z1 : w4.cell? ⟨w.heap.size, 1, none⟩ = some (.int .i64 0) := cell_of_row w4 _ 1 _ 44 (0, 0) HK4.out
        have z2 : w4.cell? ⟨w.heap.size, 2, none⟩ = some (.int .i64 0) := cell_of_row w4 _ 2 _ 44 (0, 0) HK4.out
        have z3 : w4.cell? ⟨w.heap.size, 3, none⟩ = some (.int .u64 0) := cell_of_row w4 _ 3 _ 44 (0, 0) HK4.out
        have z4 : w4.cell? ⟨w.heap.size, 4, none⟩ = some (.int .u64 0) := cell_of_row w4 _ 4 _ 44 (0, 0) HK4.out
        have z5 : w4.cell? ⟨w.heap.size, 5, none⟩ = some (.int .u64 0) := cell_of_row w4 _ 5 _ 44 (0, 0) HK4.out
        have z6 : w4.cell? ⟨w.heap.size, 6, none⟩ = some (.int .u64 0) := cell_of_row w4 _ 6 _ 44 (0, 0) HK4.out
        have z7 : w4.cell? ⟨w.heap.size, 7, none⟩ = some (.int .u64 0) := cell_of_row w4 _ 7 _ 44 (0, 0) HK4.out
        have z8 : w4.cell? ⟨w.heap.size, 8, none⟩ = some (.bool false) := cell_of_row w4 _ 8 _ 44 (0, 0) HK4.out
        have z9 : w4.cell? ⟨w.heap.size, 9, none⟩ = some (.slice none 0 0) := cell_of_row w4 _ 9 _ 44 (0, 0) HK4.out
        have z10 : w4.cell? ⟨w.heap.size, 10, none⟩ = some (.string ⟨#[]⟩) := cell_of_row w4 _ 10 _ 44 (0, 0) HK4.out
        have fz : ∀ i, w4.frozen? ⟨w.heap.size, i, none⟩ = false := fun i => Md.of HK4.out
        go_wp2
        obtain ⟨WF, hWF⟩ : ∃ WF, WF = wrm w4 w.heap.size mzz := ⟨_, rfl⟩
        have hblk : WF.heap[w.heap.size]? = some (.cells (mc mzz) 44 (0, 0)) := by rw [hWF]; exact store_allm mzz HK4.out
        have hbF : Below w.heap.size w WF := by rw [hWF]; exact below_allm mzz HB4.out (Nat.le_refl _)
        unfold wrm at hWF
        rw [← hWF]
        have hWF2 := Lib.hid hWF
        clear hWF
        have f0 : WF.cell? ⟨w.heap.size, 0, none⟩ = some (.int .i64 0) := cell_of_row WF _ 0 _ 44 (0, 0) hblk
        have f1 : WF.cell? ⟨w.heap.size, 1, none⟩ = some (.int .i64 0) := cell_of_row WF _ 1 _ 44 (0, 0) hblk
        have f2 : WF.cell? ⟨w.heap.size, 2, none⟩ = some (.int .i64 0) := cell_of_row WF _ 2 _ 44 (0, 0) hblk
        have f3 : WF.cell? ⟨w.heap.size, 3, none⟩ = some (.int .u64 0) := cell_of_row WF _ 3 _ 44 (0, 0) hblk
        have f4 : WF.cell? ⟨w.heap.size, 4, none⟩ = some (.int .u64 0) := cell_of_row WF _ 4 _ 44 (0, 0) hblk
        have f5 : WF.cell? ⟨w.heap.size, 5, none⟩ = some (.int .u64 0) := cell_of_row WF _ 5 _ 44 (0, 0) hblk
        have f6 : WF.cell? ⟨w.heap.size, 6, none⟩ = some (.int .u64 0) := cell_of_row WF _ 6 _ 44 (0, 0) hblk
        have f7 : WF.cell? ⟨w.heap.size, 7, none⟩ = some (.int .u64 0) := cell_of_row WF _ 7 _ 44 (0, 0) hblk
        have f8 : WF.cell? ⟨w.heap.size, 8, none⟩ = some (.bool false) := cell_of_row WF _ 8 _ 44 (0, 0) hblk
        have f9 : WF.cell? ⟨w.heap.size, 9, none⟩ = some (.slice none 0 0) := cell_of_row WF _ 9 _ 44 (0, 0) hblk
        have f10 : WF.cell? ⟨w.heap.size, 10, none⟩ = some (.string ⟨#[]⟩) := cell_of_row WF _ 10 _ 44 (0, 0) hblk
        exact bodyPost_ret (v := .tuple #[mv mzz, .bool false]) (by simp [results, Try.results22, go_sem, f0, f1, f2, f3, f4, f5, f6, f7, f8, f9, f10]) rfl (gmsg_no HKK.out hbF)
    · have hd : decide (0 < (st.size : Int)) = true := decide_eq_true (by omega)
      have hd2 : 0 < st.size := by omega
      have hk : gok s = false := by rw [HGG.out, decide_eq_false hz]; rfl
      have z0 : W2.cell? ⟨w.heap.size, 0, none⟩ = some (.int .i64 0) := cell_of_row W2 _ 0 _ 44 (0, 0) HK3.out
      have z1 : W2.cell? ⟨w.heap.size, 1, none⟩ = some (.int .i64 0) := cell_of_row W2 _ 1 _ 44 (0, 0) HK3.out
      have z2 : W2.cell? ⟨w.heap.size, 2, none⟩ = some (.int .i64 0) := cell_of_row W2 _ 2 _ 44 (0, 0) HK3.out
      have z3 : W2.cell? ⟨w.heap.size, 3, none⟩ = some (.int .u64 0) := cell_of_row W2 _ 3 _ 44 (0, 0) HK3.out
      have z4 : W2.cell? ⟨w.heap.size, 4, none⟩ = some (.int .u64 0) := cell_of_row W2 _ 4 _ 44 (0, 0) HK3.out
      have z5 : W2.cell? ⟨w.heap.size, 5, none⟩ = some (.int .u64 0) := cell_of_row W2 _ 5 _ 44 (0, 0) HK3.out
      have z6 : W2.cell? ⟨w.heap.size, 6, none⟩ = some (.int .u64 0) := cell_of_row W2 _ 6 _ 44 (0, 0) HK3.out
      have z7 : W2.cell? ⟨w.heap.size, 7, none⟩ = some (.int .u64 0) := cell_of_row W2 _ 7 _ 44 (0, 0) HK3.out
      have z8 : W2.cell? ⟨w.heap.size, 8, none⟩ = some (.bool false) := cell_of_row W2 _ 8 _ 44 (0, 0) HK3.out
      have z9 : W2.cell? ⟨w.heap.size, 9, none⟩ = some (.slice none 0 0) := cell_of_row W2 _ 9 _ 44 (0, 0) HK3.out
      have z10 : W2.cell? ⟨w.heap.size, 10, none⟩ = some (.string ⟨#[]⟩) := cell_of_row W2 _ 10 _ 44 (0, 0) HK3.out
      have fz : ∀ i, W2.frozen? ⟨w.heap.size, i, none⟩ = false := fun i => Md.of HK3.out
      go_wp2_with fail
      rw [← HW2.out]
      refine KO.out.mono ?_
      rintro q w3 ⟨rfl, rfl⟩
      go_wp2_with fail
      refine KL.out.mono ?_
      rintro q w3 ⟨rfl, rfl⟩
      go_wp2
      obtain ⟨WF, hWF⟩ : ∃ WF, WF = wrm W2 w.heap.size mzz := ⟨_, rfl⟩
      have hblk : WF.heap[w.heap.size]? = some (.cells (mc mzz) 44 (0, 0)) := by rw [hWF]; exact store_allm mzz HK3.out
      have hbF : Below w.heap.size w WF := by rw [hWF]; exact below_allm mzz HB3.out (Nat.le_refl _)
      unfold wrm at hWF
      rw [← hWF]
      have hWF2 := Lib.hid hWF
      clear hWF
      have f0 : WF.cell? ⟨w.heap.size, 0, none⟩ = some (.int .i64 0) := cell_of_row WF _ 0 _ 44 (0, 0) hblk
      have f1 : WF.cell? ⟨w.heap.size, 1, none⟩ = some (.int .i64 0) := cell_of_row WF _ 1 _ 44 (0, 0) hblk
      have f2 : WF.cell? ⟨w.heap.size, 2, none⟩ = some (.int .i64 0) := cell_of_row WF _ 2 _ 44 (0, 0) hblk
      have f3 : WF.cell? ⟨w.heap.size, 3, none⟩ = some (.int .u64 0) := cell_of_row WF _ 3 _ 44 (0, 0) hblk
      have f4 : WF.cell? ⟨w.heap.size, 4, none⟩ = some (.int .u64 0) := cell_of_row WF _ 4 _ 44 (0, 0) hblk
      have f5 : WF.cell? ⟨w.heap.size, 5, none⟩ = some (.int .u64 0) := cell_of_row WF _ 5 _ 44 (0, 0) hblk
      have f6 : WF.cell? ⟨w.heap.size, 6, none⟩ = some (.int .u64 0) := cell_of_row WF _ 6 _ 44 (0, 0) hblk
      have f7 : WF.cell? ⟨w.heap.size, 7, none⟩ = some (.int .u64 0) := cell_of_row WF _ 7 _ 44 (0, 0) hblk
      have f8 : WF.cell? ⟨w.heap.size, 8, none⟩ = some (.bool false) := cell_of_row WF _ 8 _ 44 (0, 0) hblk
      have f9 : WF.cell? ⟨w.heap.size, 9, none⟩ = some (.slice none 0 0) := cell_of_row WF _ 9 _ 44 (0, 0) hblk
      have f10 : WF.cell? ⟨w.heap.size, 10, none⟩ = some (.string ⟨#[]⟩) := cell_of_row WF _ 10 _ 44 (0, 0) hblk
      exact bodyPost_ret (v := .tuple #[mv mzz, .bool false]) (by simp [results, Try.results22, go_sem, f0, f1, f2, f3, f4, f5, f6, f7, f8, f9, f10]) rfl (gmsg_no hk hbF)

end Go.Proofs.Ytiikgfcfceldmaa
