/-
  The package's PutSuper.
  Conditions: named in each theorem.
-/
import Derived.Test.YtdoombcihobejaaL2
import Derived.Deep.CutRange
import Derived.Laws.EntriesVeiled
namespace Go.Proofs.Ytdoombcihobejaa
open Go.RowKit Vi Sl
set_option linter.unusedVariables false
set_option linter.unusedSimpArgs false
theorem look_one {T E : TypeId} {g clock i : Nat} {es : Array MapEntry} (c : Int) (v : Value) {w : World} (hT : Try.prog.underlying T = some (.map 3 E)) (hb : w.heap[g]? = some (.map es clock))
    (hf : Instr.findNow (.int .i64) (.int .i64 c) es.toList 0 = some (some (i, v))) :
    (Instr.lookup T (.map (some g)) (.int .i64 c) false).run Try.prog w = .ok v w := by
  have hk : Try.prog.underlying 3 = some (.int .i64) := Try.underlying3
  have hc : (Instr.checkKey es.isEmpty 10000 3 (.int .i64 c)).run Try.prog w = .ok () w := MapKept.run_checkKey (k := .int .i64 c) hk (by simp [MapKept.IsKey]) es.isEmpty 9999
  simp [Instr.lookup, run_underlying hT, MapKept.run_getObj_map hb, hc, MapKept.run_findKey hk hf, Result.andThen]
/-- A call that holds its Super in a block of its own. -/
structure Pq (w : World) (s : Su) (W : World) : Prop where
  be : Below w.heap.size w W
  bx : W.heap[w.heap.size]? = some (.cells s.c 23 (0, 0))
  lt : w.heap.size < W.heap.size
theorem Pq.c0 {w W : World} {s : Su} (h : Pq w s W) : W.cell? ⟨w.heap.size, 0, none⟩ = some (.int .i64 s.v) := (su_cells h.bx).1
theorem Pq.drew {w W : World} {s : Su} (h : Pq w s W) : Pq w s W.drew := ⟨h.be.drew, h.bx, h.lt⟩
theorem Pq.below {w W W' : World} {s : Su} (h : Pq w s W) (hb : Below W.heap.size W W') : Pq w s W' :=
  ⟨h.be.trans (hb.mono h.be.size), (hb.block _ h.lt).trans h.bx, Nat.lt_of_lt_of_le h.lt hb.size⟩
theorem Pq.alloc {w W : World} {s : Su} (h : Pq w s W) (o : Obj) : Pq w s (W.alloc o) := h.below ((Below.refl _ _).alloc (Nat.le_refl _) _)
theorem Pq.set {w W : World} {s : Su} (h : Pq w s W) (c : Nat) (hc : w.heap.size < c) (v : Value) : Pq w s (W.setCell ⟨c, 0, none⟩ v) :=
  ⟨h.be.setCell (p := ⟨c, 0, none⟩) (by show w.heap.size ≤ c; omega) _, (heap_setCell_other W ⟨c, 0, none⟩ w.heap.size v (by simp; omega)).trans h.bx, by simpa using h.lt⟩
theorem puts_pq {w W : World} {s : Su} (h : Pq w s W) : Calls Try.prog 29 #[] W fun r w' => ∃ g, r = .returned (.map (some g)) ∧ Pq w s w' ∧ w'.heap[g]? = some (.map (two (fv 32) (fv 50)) 2) ∧ Below W.heap.size W w' :=
  (puts_any W).mono fun r w' ⟨h1, h2, h3, _⟩ => ⟨_, h1, h.below h3, h2, h3⟩
theorem fresh_wt (w : World) (B : Nat) (hB : B ≤ w.heap.size) : Wt B w.heap.size ⟨#[]⟩ (w.alloc (.cells #[.pointer none, .slice none 0 0] 74)) := by
  have h := Lib.fresh_isBuilder 74 5 w
  rcases h with h | h
  · obtain ⟨h1, v, h2, h3, h4⟩ := h
    refine .inl ⟨hB, v, h2, ?_, h4⟩
    obtain rfl : v = .slice none 0 0 := by
      have e := heap_alloc_new w (.cells #[.pointer none, .slice none 0 0] 74)
      rw [e] at h2
      simp at h2
      exact h2.symm
    exact World.ownsRow_nil _ _ _ _
  · obtain ⟨h1, v, h2, _⟩ := h
    have e := heap_alloc_new w (.cells #[.pointer none, .slice none 0 0] 74)
    rw [e] at h2
    simp at h2
/-- What is put so far: the Super, how its numbers are put, the writer. -/
structure Pw (w : World) (s : Su) (fn c b : Nat) (x : ByteArray) (W : World) : Prop where
  q : Pq w s W
  fc : W.heap[c]? = some (.cells #[fv fn] 66 (0, 0))
  wt : Wt b b x W
  l1 : w.heap.size < c
  l2 : c < b
  l3 : b ≤ W.heap.size
theorem Pw.step {w W W' : World} {s : Su} {fn c b : Nat} {x y : ByteArray} (h : Pw w s fn c b x W) (hs : Ws W b b y W') : Pw w s fn c b y W' :=
  ⟨⟨h.q.be.trans (hs.be.mono (by have := h.l1; have := h.l2; omega)), (hs.be.block _ (by have := h.l1; have := h.l2; omega)).trans h.q.bx, Nat.lt_of_lt_of_le h.q.lt hs.sw⟩, (hs.be.block _ h.l2).trans h.fc, hs.t, h.l1, h.l2, hs.sz⟩

set_option maxHeartbeats 1000000 in
set_option maxRecDepth 100000 in
theorem cnt12_any {w : World} {s : Su} {c b : Nat} {x : ByteArray} (n : Nat) (hn : n < 65536) (W : World) (h : Pw w s 32 c b x W) (hx : x.size ≤ 1000) :
    Calls Try.prog 30 #[.int .i64 n, .pointer (some ⟨c, 0, none⟩), .pointer (some ⟨b, 0, none⟩)] W fun e w' => e = .returned (.tuple #[]) ∧ Pw w s 32 c b (x ++ num 1 n 2) w' := by
  have hw : IntKind.u64.wrap (n : Int) = n := by rw [IntKind.wrap_u64]; omega
  have cc : W.cell? ⟨c, 0, none⟩ = some (fv 32) := cell_of_row W c 0 _ 66 (0, 0) h.fc
  have K : Hid (Calls Try.prog 32 #[.pointer (some ⟨b, 0, none⟩), .int .u64 n, .int .i64 2] W fun e w' => e = .returned (.tuple #[]) ∧ Pw w s 32 c b (x ++ num 1 n 2) w') := (number_any b b n 2 x W h.wt (by omega) h.l3 (by omega)).mono fun e w' ⟨h1, h2⟩ => ⟨h1, h.step h2⟩
  clear h hx hn
  go_enter Try.func30, Try.ntmps30
  go_wp2_with fail
  refine K.out.mono ?_
  rintro e w1 ⟨rfl, h1⟩
  go_wp2
  go_end0
  exact ⟨rfl, h1⟩
set_option maxHeartbeats 1000000 in
set_option maxRecDepth 100000 in
theorem cnt11_any {w : World} {s : Su} {c b : Nat} {x : ByteArray} (n : Nat) (hn : n < 65536) (W : World) (h : Pw w s 32 c b x W) (hx : x.size ≤ 1000) :
    Calls Try.prog 31 #[.int .i64 n, .pointer (some ⟨c, 0, none⟩), .pointer (some ⟨b, 0, none⟩)] W fun e w' => e = .returned (.tuple #[]) ∧ Pw w s 32 c b (x ++ num 1 n 1) w' := by
  have hw : IntKind.u64.wrap (n : Int) = n := by rw [IntKind.wrap_u64]; omega
  have cc : W.cell? ⟨c, 0, none⟩ = some (fv 32) := cell_of_row W c 0 _ 66 (0, 0) h.fc
  have K : Hid (Calls Try.prog 32 #[.pointer (some ⟨b, 0, none⟩), .int .u64 n, .int .i64 1] W fun e w' => e = .returned (.tuple #[]) ∧ Pw w s 32 c b (x ++ num 1 n 1) w') := (number_any b b n 1 x W h.wt (by omega) h.l3 (by omega)).mono fun e w' ⟨h1, h2⟩ => ⟨h1, h.step h2⟩
  clear h hx hn
  go_enter Try.func31, Try.ntmps31
  go_wp2_with fail
  refine K.out.mono ?_
  rintro e w1 ⟨rfl, h1⟩
  go_wp2
  go_end0
  exact ⟨rfl, h1⟩
set_option maxHeartbeats 1000000 in
set_option maxRecDepth 100000 in
theorem cnt22_any {w : World} {s : Su} {c b : Nat} {x : ByteArray} (n : Nat) (hn : n < 65536) (W : World) (h : Pw w s 50 c b x W) (hx : x.size ≤ 1000) :
    Calls Try.prog 30 #[.int .i64 n, .pointer (some ⟨c, 0, none⟩), .pointer (some ⟨b, 0, none⟩)] W fun e w' => e = .returned (.tuple #[]) ∧ Pw w s 50 c b (x ++ num 2 n 2) w' := by
  have hw : IntKind.u64.wrap (n : Int) = n := by rw [IntKind.wrap_u64]; omega
  have cc : W.cell? ⟨c, 0, none⟩ = some (fv 50) := cell_of_row W c 0 _ 66 (0, 0) h.fc
  have K : Hid (Calls Try.prog 50 #[.pointer (some ⟨b, 0, none⟩), .int .u64 n, .int .i64 2] W fun e w' => e = .returned (.tuple #[]) ∧ Pw w s 50 c b (x ++ num 2 n 2) w') := (wvar_any b b n 2 x W h.wt (by omega) h.l3 (by omega)).mono fun e w' ⟨h1, h2⟩ => ⟨h1, h.step h2⟩
  clear h hx hn
  go_enter Try.func30, Try.ntmps30
  go_wp2_with fail
  refine K.out.mono ?_
  rintro e w1 ⟨rfl, h1⟩
  go_wp2
  go_end0
  exact ⟨rfl, h1⟩
set_option maxHeartbeats 1000000 in
set_option maxRecDepth 100000 in
theorem cnt21_any {w : World} {s : Su} {c b : Nat} {x : ByteArray} (n : Nat) (hn : n < 65536) (W : World) (h : Pw w s 50 c b x W) (hx : x.size ≤ 1000) :
    Calls Try.prog 31 #[.int .i64 n, .pointer (some ⟨c, 0, none⟩), .pointer (some ⟨b, 0, none⟩)] W fun e w' => e = .returned (.tuple #[]) ∧ Pw w s 50 c b (x ++ num 2 n 1) w' := by
  have hw : IntKind.u64.wrap (n : Int) = n := by rw [IntKind.wrap_u64]; omega
  have cc : W.cell? ⟨c, 0, none⟩ = some (fv 50) := cell_of_row W c 0 _ 66 (0, 0) h.fc
  have K : Hid (Calls Try.prog 50 #[.pointer (some ⟨b, 0, none⟩), .int .u64 n, .int .i64 1] W fun e w' => e = .returned (.tuple #[]) ∧ Pw w s 50 c b (x ++ num 2 n 1) w') := (wvar_any b b n 1 x W h.wt (by omega) h.l3 (by omega)).mono fun e w' ⟨h1, h2⟩ => ⟨h1, h.step h2⟩
  clear h hx hn
  go_enter Try.func31, Try.ntmps31
  go_wp2_with fail
  refine K.out.mono ?_
  rintro e w1 ⟨rfl, h1⟩
  go_wp2
  go_end0
  exact ⟨rfl, h1⟩
theorem sup_steps1 (a1 a2 a3 a4 a5 a6 : Nat) : ((((((((⟨#[]⟩ : ByteArray) ++ fxB 1 1) ++ num 1 a1 2) ++ num 1 a2 2) ++ num 1 a3 1) ++ num 1 a4 1) ++ num 1 a5 1) ++ num 1 a6 1) = supB ⟨1, (a1 : Nat), (a2 : Nat), (a3 : Nat), (a4 : Nat), (a5 : Nat), (a6 : Nat)⟩ := by
  rw [empty_app]; unfold supB; simp only [Int.toNat_natCast]; rfl
set_option maxHeartbeats 4000000 in
set_option maxRecDepth 100000 in
theorem putSuperN1_any (a1 a2 a3 a4 a5 a6 : Nat) (w : World) (h : rgt ⟨1, (a1 : Nat), (a2 : Nat), (a3 : Nat), (a4 : Nat), (a5 : Nat), (a6 : Nat)⟩ = true) : Calls Try.prog 10 #[Su.val ⟨1, (a1 : Nat), (a2 : Nat), (a3 : Nat), (a4 : Nat), (a5 : Nat), (a6 : Nat)⟩] w fun e w' => e = .returned (.tuple #[.string (supB ⟨1, (a1 : Nat), (a2 : Nat), (a3 : Nat), (a4 : Nat), (a5 : Nat), (a6 : Nat)⟩), .bool true]) ∧ Below w.heap.size w w' := by
  obtain ⟨W, hW⟩ : ∃ W, W = sbx w ⟨1, (a1 : Nat), (a2 : Nat), (a3 : Nat), (a4 : Nat), (a5 : Nat), (a6 : Nat)⟩ := ⟨_, rfl⟩
  have hc := sbx_cells w ⟨1, (a1 : Nat), (a2 : Nat), (a3 : Nat), (a4 : Nat), (a5 : Nat), (a6 : Nat)⟩
  have hb := sbx_below w ⟨1, (a1 : Nat), (a2 : Nat), (a3 : Nat), (a4 : Nat), (a5 : Nat), (a6 : Nat)⟩
  have hsz : (sbx w ⟨1, (a1 : Nat), (a2 : Nat), (a3 : Nat), (a4 : Nat), (a5 : Nat), (a6 : Nat)⟩).heap.size = w.heap.size + 1 := by simp [sbx]
  rw [← hW] at hb hc hsz
  have HK := Lib.hid (fun (W : World) => right_any ⟨1, (a1 : Nat), (a2 : Nat), (a3 : Nat), (a4 : Nat), (a5 : Nat), (a6 : Nat)⟩ W)
  rw [h] at HK
  have HN := Lib.hid (sup_steps1 a1 a2 a3 a4 a5 a6)
  have HC := Lib.hid hc
  have HZ := Lib.hid hsz
  have HW := Lib.hid hW
  have HB := Lib.hid hb
  have HPS := Lib.hid (supB_size h).2
  obtain ⟨_, r1, r2, r3, r4, r5, r6, _⟩ := (rgt_iff _).1 h
  dsimp only at r1 r2 r3 r4 r5 r6
  have HR : Hid (a1 < 65536 ∧ a2 < 65536 ∧ a3 < 65536 ∧ a4 < 65536 ∧ a5 < 65536 ∧ a6 < 65536) := ⟨by omega, by omega, by omega, by omega, by omega, by omega⟩
  clear hb hW hc hsz r1 r2 r3 r4 r5 r6
  unfold sbx Su.val at *
  unfold Su.c at HW HK ⊢
  dsimp only at HW HK ⊢
  go_enter Try.func10, Try.ntmps10
  go_wp2_with fail
  rw [← HW.out]
  refine (HK.out _).mono ?_
  rintro e w1 ⟨rfl, b1⟩
  have hB1 := HB.out.trans (b1.mono HB.out.size)
  have hc1 : w1.heap[w.heap.size]? = some (.cells (Su.c ⟨1, (a1 : Nat), (a2 : Nat), (a3 : Nat), (a4 : Nat), (a5 : Nat), (a6 : Nat)⟩) 23 (0, 0)) := (b1.block _ (by have := HZ.out; omega)).trans HC.out
  have hlt : w.heap.size < w1.heap.size := (Array.getElem?_eq_some_iff.1 hc1).1
  have HQ1 : Hid (Pq w ⟨1, (a1 : Nat), (a2 : Nat), (a3 : Nat), (a4 : Nat), (a5 : Nat), (a6 : Nat)⟩ w1) := ⟨hB1, hc1, hlt⟩
  have c0 : w1.cell? ⟨w.heap.size, 0, none⟩ = some (.int .i64 1) := cell_of_row w1 _ 0 _ 23 (0, 0) hc1
  have KP := Lib.hid (fun (W : World) (hQ : Pq w ⟨1, (a1 : Nat), (a2 : Nat), (a3 : Nat), (a4 : Nat), (a5 : Nat), (a6 : Nat)⟩ W) => puts_pq hQ)
  clear HC HZ HW HB b1 hc1 hlt HK h hB1
  go_upto_region 3 with fail
  go_cut [4] from 8 to 46 (fun s4 wx => ∃ c, s4 = .pointer (some ⟨c, 0, none⟩) ∧ Pq w ⟨1, (a1 : Nat), (a2 : Nat), (a3 : Nat), (a4 : Nat), (a5 : Nat), (a6 : Nat)⟩ wx ∧ wx.heap[c]? = some (.cells #[fv 32] 66 (0, 0)) ∧ w.heap.size < c)
  case first =>
    refine wp_region_noPanic ?_
    refine wp_region_held_drew (S := (fun w' => w'.cell? ⟨w.heap.size, 0, none⟩ = some (.int .i64 1))) (by kernel_rfl) (by exact c0) (fun hHeld => ?_)
    refine wpAnyH_take (v := ?v1) (i := 1) rfl (by kernel_rfl) (by kernel_rfl) (by kernel_rfl) (fun _ _ _ h => h) (Or.inl ⟨by kernel_rfl, ?hy1⟩) (by assumption) ?rest1
    case hy1 => (intro w hSw; (try dsimp only at hSw); go_simp; first | done | (with_reducible rfl))
    try simp only [Act.put, List.setIfInBounds_toArray, List.set_cons_zero, List.set_cons_succ]
    refine wpAnyH_take (v := ?v2) (i := 2) rfl (by kernel_rfl) (by kernel_rfl) (by kernel_rfl) (fun _ _ _ h => h) (Or.inl ⟨by kernel_rfl, ?hy2⟩) (by assumption) ?rest2
    case hy2 => (intro w hSw; (try dsimp only at hSw); go_simp; first | done | (with_reducible rfl))
    try simp only [Act.put, List.setIfInBounds_toArray, List.set_cons_zero, List.set_cons_succ]
    have HQd : Hid (Pq w ⟨1, (a1 : Nat), (a2 : Nat), (a3 : Nat), (a4 : Nat), (a5 : Nat), (a6 : Nat)⟩ w1.drew) := Pq.drew HQ1.out
    refine wpAnyH_ready (rs := [0, 4]) (by kernel_rfl) (by simp) ?_
    refine AllReadyH.cons rfl (fun K hK => ?_) (AllReadyH.cons rfl (fun K hK => ?_) AllReadyH.nil)
    · go_simp
      go_at_call 29
      (with_reducible refine (KP.out _ HQd.out).mono ?_)
      rintro q w2 ⟨g2, rfl, HQ2, m2, b2⟩
      try go_wp2_with fail
      refine hK.out _ _ ?_ (fun hHeld => ?_)
      · exact HQ2.c0
      clear hK K
      try simp only [Act.put, List.setIfInBounds_toArray, List.set_cons_zero, List.set_cons_succ]
      refine wpAnyH_ready (rs := [3, 4]) (by kernel_rfl) (by simp) ?_
      refine AllReadyH.cons rfl (fun K hK => ?_) (AllReadyH.cons rfl (fun K hK => ?_) AllReadyH.nil)
      · have hl := look_one (T := 67) 1 (fv 32) Try.underlying67 m2 (two_1 _ _)
        go_simp
        refine hK.out _ _ ?_ (fun hHeld => ?_)
        · exact HQ2.c0
        clear hK K hl
        try simp only [Act.put, List.setIfInBounds_toArray, List.set_cons_zero, List.set_cons_succ]
        refine wpAnyH_ready (rs := [4]) (by kernel_rfl) (by simp) ?_
        refine AllReadyH.cons rfl (fun K hK => ?_) AllReadyH.nil
        go_simp
        refine hK.out _ _ ?_ (fun hHeld => ?_)
        · exact (HQ2.alloc _).c0
        clear hK K
        try simp only [Act.put, List.setIfInBounds_toArray, List.set_cons_zero, List.set_cons_succ]
        refine wpAnyH_ready (rs := [5]) (by kernel_rfl) (by simp) ?_
        refine AllReadyH.cons rfl (fun K hK => ?_) AllReadyH.nil
        go_simp
        refine hK.out _ _ ?_ (fun hHeld => ?_)
        · exact (HQ2.alloc _).c0
        clear hK K
        try simp only [Act.put, List.setIfInBounds_toArray, List.set_cons_zero, List.set_cons_succ]
        refine wpAnyH_done (by kernel_rfl) ?_ _
        refine NoPanic.normal ?_
        go_wp2_with fail
        go_meet
        exact ⟨_, rfl, HQ2.alloc _, heap_alloc_new w2 _, HQ2.lt⟩
      · go_simp
        refine hK.out _ _ ?_ (fun hHeld => ?_)
        · exact (HQ2.alloc _).c0
        clear hK K
        try simp only [Act.put, List.setIfInBounds_toArray, List.set_cons_zero, List.set_cons_succ]
        refine wpAnyH_ready (rs := [3]) (by kernel_rfl) (by simp) ?_
        refine AllReadyH.cons rfl (fun K hK => ?_) AllReadyH.nil
        have m2' : (w2.alloc (Obj.cells #[Value.nilFunc] 66)).heap[g2]? = some (.map (two (fv 32) (fv 50)) 2) := (Lib.alloc_old _ _ _ (Array.getElem?_eq_some_iff.1 m2).1).trans m2
        have hl := look_one (T := 67) 1 (fv 32) Try.underlying67 m2' (two_1 _ _)
        go_simp
        refine hK.out _ _ ?_ (fun hHeld => ?_)
        · exact (HQ2.alloc _).c0
        clear hK K hl
        try simp only [Act.put, List.setIfInBounds_toArray, List.set_cons_zero, List.set_cons_succ]
        refine wpAnyH_ready (rs := [5]) (by kernel_rfl) (by simp) ?_
        refine AllReadyH.cons rfl (fun K hK => ?_) AllReadyH.nil
        go_simp
        refine hK.out _ _ ?_ (fun hHeld => ?_)
        · exact (HQ2.alloc _).c0
        clear hK K
        try simp only [Act.put, List.setIfInBounds_toArray, List.set_cons_zero, List.set_cons_succ]
        refine wpAnyH_done (by kernel_rfl) ?_ _
        refine NoPanic.normal ?_
        go_wp2_with fail
        go_meet
        exact ⟨_, rfl, HQ2.alloc _, heap_alloc_new w2 _, HQ2.lt⟩
    · go_simp
      refine hK.out _ _ ?_ (fun hHeld => ?_)
      · exact (Pq.drew (Pq.alloc HQ1.out _)).c0
      clear hK K
      try simp only [Act.put, List.setIfInBounds_toArray, List.set_cons_zero, List.set_cons_succ]
      refine wpAnyH_ready (rs := [0]) (by kernel_rfl) (by simp) ?_
      refine AllReadyH.cons rfl (fun K hK => ?_) AllReadyH.nil
      go_simp
      go_at_call 29
      (with_reducible refine (KP.out _ (Pq.drew (Pq.alloc HQ1.out _))).mono ?_)
      rintro q w2 ⟨g2, rfl, HQ2, m2, b2⟩
      try go_wp2_with fail
      refine hK.out _ _ ?_ (fun hHeld => ?_)
      · exact HQ2.c0
      clear hK K
      try simp only [Act.put, List.setIfInBounds_toArray, List.set_cons_zero, List.set_cons_succ]
      refine wpAnyH_ready (rs := [3]) (by kernel_rfl) (by simp) ?_
      refine AllReadyH.cons rfl (fun K hK => ?_) AllReadyH.nil
      have hl := look_one (T := 67) 1 (fv 32) Try.underlying67 m2 (two_1 _ _)
      go_simp
      refine hK.out _ _ ?_ (fun hHeld => ?_)
      · exact HQ2.c0
      clear hK K hl
      try simp only [Act.put, List.setIfInBounds_toArray, List.set_cons_zero, List.set_cons_succ]
      have f2 : w2.heap[w1.heap.size]? = some (.cells #[.nilFunc] 66 (0, 0)) := (b2.block _ (by simp)).trans (heap_alloc_new w1 _)
      have z2 : w2.frozen? ⟨w1.heap.size, 0, none⟩ = false := frozen_of_row w2 w1.heap.size 0 _ 66 f2
      have y2 : w2.cell? ⟨w1.heap.size, 0, none⟩ = some .nilFunc := cell_of_row w2 w1.heap.size 0 _ 66 (0, 0) f2
      refine wpAnyH_ready (rs := [5]) (by kernel_rfl) (by simp) ?_
      refine AllReadyH.cons rfl (fun K hK => ?_) AllReadyH.nil
      go_simp
      refine hK.out _ _ ?_ (fun hHeld => ?_)
      · exact (HQ2.set _ HQ1.out.lt _).c0
      clear hK K
      try simp only [Act.put, List.setIfInBounds_toArray, List.set_cons_zero, List.set_cons_succ]
      refine wpAnyH_done (by kernel_rfl) ?_ _
      refine NoPanic.normal ?_
      go_wp2_with fail
      go_meet
      exact ⟨_, rfl, HQ2.set _ HQ1.out.lt _, heap_setCell_same w2 w1.heap.size 0 _ 66 _ f2, HQ1.out.lt⟩
  case rest =>
    obtain ⟨c, rfl, Q, fc, hlc⟩ := hcut
    have hcb : c < wc.heap.size := (Array.getElem?_eq_some_iff.1 fc).1
    have PW0 : Hid (Pw w ⟨1, (a1 : Nat), (a2 : Nat), (a3 : Nat), (a4 : Nat), (a5 : Nat), (a6 : Nat)⟩ 32 c wc.heap.size ⟨#[]⟩ (wc.alloc (.cells #[.pointer none, .slice none 0 0] 74))) :=
      ⟨Q.alloc _, (Lib.alloc_old _ _ _ hcb).trans fc, fresh_wt wc _ (Nat.le_refl _), hlc, hcb, by simp⟩
    obtain ⟨x0, x1, x2, x3, x4, x5, x6⟩ := su_cells Q.bx
    obtain ⟨z0, z1, z2, z3, z4, z5, z6⟩ := su_cells PW0.out.q.bx
    obtain ⟨V, hV⟩ : ∃ V, V = wc.alloc (.cells #[.pointer none, .slice none 0 0] 74) := ⟨_, rfl⟩
    rw [← hV] at PW0
    have HV := Lib.hid hV
    clear c0 HQ1 KP Q fc hlc hcb hV w1
    generalize hb : wc.heap.size = b at *
    have HBB := Lib.hid hb
    clear hb
    go_wp2_with fail
    rw [← HV.out, HBB.out]
    have KF : Hid (Calls Try.prog 32 #[.pointer (some ⟨b, 0, none⟩), .int .u64 1, .int .i64 1] V fun e w' => e = .returned (.tuple #[]) ∧ Pw w ⟨1, (a1 : Nat), (a2 : Nat), (a3 : Nat), (a4 : Nat), (a5 : Nat), (a6 : Nat)⟩ 32 c b ((⟨#[]⟩ : ByteArray) ++ fxB 1 1) w') := (number_any b b 1 1 ⟨#[]⟩ V PW0.out.wt (by decide) PW0.out.l3 (by omega)).mono fun e w' ⟨h1, h2⟩ => ⟨h1, PW0.out.step h2⟩
    refine KF.out.mono ?_
    rintro e y0 ⟨rfl, PW1⟩
    have HP1 := Lib.hid PW1
    clear KF PW0 HV PW1 x0 x1 x2 x3 x4 x5 x6 z0 z1 z2 z3 z4 z5 z6
    have hx0 : Hid (((⟨#[]⟩ : ByteArray) ++ fxB 1 1).size ≤ 1000) := by
      obtain ⟨r1, r2, r3, r4, r5, r6⟩ := HR.out
      have e0 : (fxB 1 1).size = 1 := fxB_size 1 1 (by omega)
      show _ ≤ _
      simp only [ByteArray.size_append, e0]
      have e9 : (ByteArray.mk #[]).size = 0 := rfl
      omega
    have KF := Lib.hid (cnt12_any a1 (by have := HR.out; omega) _ HP1.out hx0.out)
    obtain ⟨x0, x1, x2, x3, x4, x5, x6⟩ := su_cells HP1.out.q.bx
    go_wp2_with fail
    refine KF.out.mono ?_
    rintro e y1 ⟨rfl, PW1⟩
    have HP2 := Lib.hid PW1
    clear KF HP1 PW1 x0 x1 x2 x3 x4 x5 x6 hx0
    have hx1 : Hid ((((⟨#[]⟩ : ByteArray) ++ fxB 1 1) ++ num 1 a1 2).size ≤ 1000) := by
      obtain ⟨r1, r2, r3, r4, r5, r6⟩ := HR.out
      have e0 : (fxB 1 1).size = 1 := fxB_size 1 1 (by omega)
      have e1 := num_size 1 a1 2 (by omega) (by omega)
      show _ ≤ _
      simp only [ByteArray.size_append, e0]
      have e9 : (ByteArray.mk #[]).size = 0 := rfl
      omega
    have KF := Lib.hid (cnt12_any a2 (by have := HR.out; omega) _ HP2.out hx1.out)
    obtain ⟨x0, x1, x2, x3, x4, x5, x6⟩ := su_cells HP2.out.q.bx
    go_wp2_with fail
    refine KF.out.mono ?_
    rintro e y2 ⟨rfl, PW1⟩
    have HP3 := Lib.hid PW1
    clear KF HP2 PW1 x0 x1 x2 x3 x4 x5 x6 hx1
    have hx2 : Hid (((((⟨#[]⟩ : ByteArray) ++ fxB 1 1) ++ num 1 a1 2) ++ num 1 a2 2).size ≤ 1000) := by
      obtain ⟨r1, r2, r3, r4, r5, r6⟩ := HR.out
      have e0 : (fxB 1 1).size = 1 := fxB_size 1 1 (by omega)
      have e1 := num_size 1 a1 2 (by omega) (by omega)
      have e2 := num_size 1 a2 2 (by omega) (by omega)
      show _ ≤ _
      simp only [ByteArray.size_append, e0]
      have e9 : (ByteArray.mk #[]).size = 0 := rfl
      omega
    have KF := Lib.hid (cnt11_any a3 (by have := HR.out; omega) _ HP3.out hx2.out)
    obtain ⟨x0, x1, x2, x3, x4, x5, x6⟩ := su_cells HP3.out.q.bx
    go_wp2_with fail
    refine KF.out.mono ?_
    rintro e y3 ⟨rfl, PW1⟩
    have HP4 := Lib.hid PW1
    clear KF HP3 PW1 x0 x1 x2 x3 x4 x5 x6 hx2
    have hx3 : Hid ((((((⟨#[]⟩ : ByteArray) ++ fxB 1 1) ++ num 1 a1 2) ++ num 1 a2 2) ++ num 1 a3 1).size ≤ 1000) := by
      obtain ⟨r1, r2, r3, r4, r5, r6⟩ := HR.out
      have e0 : (fxB 1 1).size = 1 := fxB_size 1 1 (by omega)
      have e1 := num_size 1 a1 2 (by omega) (by omega)
      have e2 := num_size 1 a2 2 (by omega) (by omega)
      have e3 := num_size 1 a3 1 (by omega) (by omega)
      show _ ≤ _
      simp only [ByteArray.size_append, e0]
      have e9 : (ByteArray.mk #[]).size = 0 := rfl
      omega
    have KF := Lib.hid (cnt11_any a4 (by have := HR.out; omega) _ HP4.out hx3.out)
    obtain ⟨x0, x1, x2, x3, x4, x5, x6⟩ := su_cells HP4.out.q.bx
    go_wp2_with fail
    refine KF.out.mono ?_
    rintro e y4 ⟨rfl, PW1⟩
    have HP5 := Lib.hid PW1
    clear KF HP4 PW1 x0 x1 x2 x3 x4 x5 x6 hx3
    have hx4 : Hid (((((((⟨#[]⟩ : ByteArray) ++ fxB 1 1) ++ num 1 a1 2) ++ num 1 a2 2) ++ num 1 a3 1) ++ num 1 a4 1).size ≤ 1000) := by
      obtain ⟨r1, r2, r3, r4, r5, r6⟩ := HR.out
      have e0 : (fxB 1 1).size = 1 := fxB_size 1 1 (by omega)
      have e1 := num_size 1 a1 2 (by omega) (by omega)
      have e2 := num_size 1 a2 2 (by omega) (by omega)
      have e3 := num_size 1 a3 1 (by omega) (by omega)
      have e4 := num_size 1 a4 1 (by omega) (by omega)
      show _ ≤ _
      simp only [ByteArray.size_append, e0]
      have e9 : (ByteArray.mk #[]).size = 0 := rfl
      omega
    have KF := Lib.hid (cnt11_any a5 (by have := HR.out; omega) _ HP5.out hx4.out)
    obtain ⟨x0, x1, x2, x3, x4, x5, x6⟩ := su_cells HP5.out.q.bx
    go_wp2_with fail
    refine KF.out.mono ?_
    rintro e y5 ⟨rfl, PW1⟩
    have HP6 := Lib.hid PW1
    clear KF HP5 PW1 x0 x1 x2 x3 x4 x5 x6 hx4
    have hx5 : Hid ((((((((⟨#[]⟩ : ByteArray) ++ fxB 1 1) ++ num 1 a1 2) ++ num 1 a2 2) ++ num 1 a3 1) ++ num 1 a4 1) ++ num 1 a5 1).size ≤ 1000) := by
      obtain ⟨r1, r2, r3, r4, r5, r6⟩ := HR.out
      have e0 : (fxB 1 1).size = 1 := fxB_size 1 1 (by omega)
      have e1 := num_size 1 a1 2 (by omega) (by omega)
      have e2 := num_size 1 a2 2 (by omega) (by omega)
      have e3 := num_size 1 a3 1 (by omega) (by omega)
      have e4 := num_size 1 a4 1 (by omega) (by omega)
      have e5 := num_size 1 a5 1 (by omega) (by omega)
      show _ ≤ _
      simp only [ByteArray.size_append, e0]
      have e9 : (ByteArray.mk #[]).size = 0 := rfl
      omega
    have KF := Lib.hid (cnt11_any a6 (by have := HR.out; omega) _ HP6.out hx5.out)
    obtain ⟨x0, x1, x2, x3, x4, x5, x6⟩ := su_cells HP6.out.q.bx
    go_wp2_with fail
    refine KF.out.mono ?_
    rintro e y6 ⟨rfl, PW1⟩
    have HP7 := Lib.hid PW1
    clear KF HP6 PW1 x0 x1 x2 x3 x4 x5 x6 hx5
    have KS := Lib.hid (wstring b b _ _ HP7.out.wt (by rw [HN.out]; exact HPS.out))
    go_wp2_with fail
    refine KS.out.mono ?_
    rintro e y8 ⟨rfl, b8⟩
    have HF := Lib.hid (HP7.out.q.be.trans (b8.mono (by have := HP7.out.l1; have := HP7.out.l2; omega)))
    clear KS b8 HP7
    go_wp2
    go_ret2
    exact ⟨by rw [← HN.out]; rfl, HF.out⟩

theorem sup_steps2 (a1 a2 a3 a4 a5 a6 : Nat) : ((((((((⟨#[]⟩ : ByteArray) ++ fxB 2 1) ++ num 2 a1 2) ++ num 2 a2 2) ++ num 2 a3 1) ++ num 2 a4 1) ++ num 2 a5 1) ++ num 2 a6 1) = supB ⟨2, (a1 : Nat), (a2 : Nat), (a3 : Nat), (a4 : Nat), (a5 : Nat), (a6 : Nat)⟩ := by
  rw [empty_app]; unfold supB; simp only [Int.toNat_natCast]; rfl
set_option maxHeartbeats 4000000 in
set_option maxRecDepth 100000 in
theorem putSuperN2_any (a1 a2 a3 a4 a5 a6 : Nat) (w : World) (h : rgt ⟨2, (a1 : Nat), (a2 : Nat), (a3 : Nat), (a4 : Nat), (a5 : Nat), (a6 : Nat)⟩ = true) : Calls Try.prog 10 #[Su.val ⟨2, (a1 : Nat), (a2 : Nat), (a3 : Nat), (a4 : Nat), (a5 : Nat), (a6 : Nat)⟩] w fun e w' => e = .returned (.tuple #[.string (supB ⟨2, (a1 : Nat), (a2 : Nat), (a3 : Nat), (a4 : Nat), (a5 : Nat), (a6 : Nat)⟩), .bool true]) ∧ Below w.heap.size w w' := by
  obtain ⟨W, hW⟩ : ∃ W, W = sbx w ⟨2, (a1 : Nat), (a2 : Nat), (a3 : Nat), (a4 : Nat), (a5 : Nat), (a6 : Nat)⟩ := ⟨_, rfl⟩
  have hc := sbx_cells w ⟨2, (a1 : Nat), (a2 : Nat), (a3 : Nat), (a4 : Nat), (a5 : Nat), (a6 : Nat)⟩
  have hb := sbx_below w ⟨2, (a1 : Nat), (a2 : Nat), (a3 : Nat), (a4 : Nat), (a5 : Nat), (a6 : Nat)⟩
  have hsz : (sbx w ⟨2, (a1 : Nat), (a2 : Nat), (a3 : Nat), (a4 : Nat), (a5 : Nat), (a6 : Nat)⟩).heap.size = w.heap.size + 1 := by simp [sbx]
  rw [← hW] at hb hc hsz
  have HK := Lib.hid (fun (W : World) => right_any ⟨2, (a1 : Nat), (a2 : Nat), (a3 : Nat), (a4 : Nat), (a5 : Nat), (a6 : Nat)⟩ W)
  rw [h] at HK
  have HN := Lib.hid (sup_steps2 a1 a2 a3 a4 a5 a6)
  have HC := Lib.hid hc
  have HZ := Lib.hid hsz
  have HW := Lib.hid hW
  have HB := Lib.hid hb
  have HPS := Lib.hid (supB_size h).2
  obtain ⟨_, r1, r2, r3, r4, r5, r6, _⟩ := (rgt_iff _).1 h
  dsimp only at r1 r2 r3 r4 r5 r6
  have HR : Hid (a1 < 65536 ∧ a2 < 65536 ∧ a3 < 65536 ∧ a4 < 65536 ∧ a5 < 65536 ∧ a6 < 65536) := ⟨by omega, by omega, by omega, by omega, by omega, by omega⟩
  clear hb hW hc hsz r1 r2 r3 r4 r5 r6
  unfold sbx Su.val at *
  unfold Su.c at HW HK ⊢
  dsimp only at HW HK ⊢
  go_enter Try.func10, Try.ntmps10
  go_wp2_with fail
  rw [← HW.out]
  refine (HK.out _).mono ?_
  rintro e w1 ⟨rfl, b1⟩
  have hB1 := HB.out.trans (b1.mono HB.out.size)
  have hc1 : w1.heap[w.heap.size]? = some (.cells (Su.c ⟨2, (a1 : Nat), (a2 : Nat), (a3 : Nat), (a4 : Nat), (a5 : Nat), (a6 : Nat)⟩) 23 (0, 0)) := (b1.block _ (by have := HZ.out; omega)).trans HC.out
  have hlt : w.heap.size < w1.heap.size := (Array.getElem?_eq_some_iff.1 hc1).1
  have HQ1 : Hid (Pq w ⟨2, (a1 : Nat), (a2 : Nat), (a3 : Nat), (a4 : Nat), (a5 : Nat), (a6 : Nat)⟩ w1) := ⟨hB1, hc1, hlt⟩
  have c0 : w1.cell? ⟨w.heap.size, 0, none⟩ = some (.int .i64 2) := cell_of_row w1 _ 0 _ 23 (0, 0) hc1
  have KP := Lib.hid (fun (W : World) (hQ : Pq w ⟨2, (a1 : Nat), (a2 : Nat), (a3 : Nat), (a4 : Nat), (a5 : Nat), (a6 : Nat)⟩ W) => puts_pq hQ)
  clear HC HZ HW HB b1 hc1 hlt HK h hB1
  go_upto_region 3 with fail
  go_cut [4] from 8 to 46 (fun s4 wx => ∃ c, s4 = .pointer (some ⟨c, 0, none⟩) ∧ Pq w ⟨2, (a1 : Nat), (a2 : Nat), (a3 : Nat), (a4 : Nat), (a5 : Nat), (a6 : Nat)⟩ wx ∧ wx.heap[c]? = some (.cells #[fv 50] 66 (0, 0)) ∧ w.heap.size < c)
  case first =>
    refine wp_region_noPanic ?_
    refine wp_region_held_drew (S := (fun w' => w'.cell? ⟨w.heap.size, 0, none⟩ = some (.int .i64 2))) (by kernel_rfl) (by exact c0) (fun hHeld => ?_)
    refine wpAnyH_take (v := ?v1) (i := 1) rfl (by kernel_rfl) (by kernel_rfl) (by kernel_rfl) (fun _ _ _ h => h) (Or.inl ⟨by kernel_rfl, ?hy1⟩) (by assumption) ?rest1
    case hy1 => (intro w hSw; (try dsimp only at hSw); go_simp; first | done | (with_reducible rfl))
    try simp only [Act.put, List.setIfInBounds_toArray, List.set_cons_zero, List.set_cons_succ]
    refine wpAnyH_take (v := ?v2) (i := 2) rfl (by kernel_rfl) (by kernel_rfl) (by kernel_rfl) (fun _ _ _ h => h) (Or.inl ⟨by kernel_rfl, ?hy2⟩) (by assumption) ?rest2
    case hy2 => (intro w hSw; (try dsimp only at hSw); go_simp; first | done | (with_reducible rfl))
    try simp only [Act.put, List.setIfInBounds_toArray, List.set_cons_zero, List.set_cons_succ]
    have HQd : Hid (Pq w ⟨2, (a1 : Nat), (a2 : Nat), (a3 : Nat), (a4 : Nat), (a5 : Nat), (a6 : Nat)⟩ w1.drew) := Pq.drew HQ1.out
    refine wpAnyH_ready (rs := [0, 4]) (by kernel_rfl) (by simp) ?_
    refine AllReadyH.cons rfl (fun K hK => ?_) (AllReadyH.cons rfl (fun K hK => ?_) AllReadyH.nil)
    · go_simp
      go_at_call 29
      (with_reducible refine (KP.out _ HQd.out).mono ?_)
      rintro q w2 ⟨g2, rfl, HQ2, m2, b2⟩
      try go_wp2_with fail
      refine hK.out _ _ ?_ (fun hHeld => ?_)
      · exact HQ2.c0
      clear hK K
      try simp only [Act.put, List.setIfInBounds_toArray, List.set_cons_zero, List.set_cons_succ]
      refine wpAnyH_ready (rs := [3, 4]) (by kernel_rfl) (by simp) ?_
      refine AllReadyH.cons rfl (fun K hK => ?_) (AllReadyH.cons rfl (fun K hK => ?_) AllReadyH.nil)
      · have hl := look_one (T := 67) 2 (fv 50) Try.underlying67 m2 (two_2 _ _)
        go_simp
        refine hK.out _ _ ?_ (fun hHeld => ?_)
        · exact HQ2.c0
        clear hK K hl
        try simp only [Act.put, List.setIfInBounds_toArray, List.set_cons_zero, List.set_cons_succ]
        refine wpAnyH_ready (rs := [4]) (by kernel_rfl) (by simp) ?_
        refine AllReadyH.cons rfl (fun K hK => ?_) AllReadyH.nil
        go_simp
        refine hK.out _ _ ?_ (fun hHeld => ?_)
        · exact (HQ2.alloc _).c0
        clear hK K
        try simp only [Act.put, List.setIfInBounds_toArray, List.set_cons_zero, List.set_cons_succ]
        refine wpAnyH_ready (rs := [5]) (by kernel_rfl) (by simp) ?_
        refine AllReadyH.cons rfl (fun K hK => ?_) AllReadyH.nil
        go_simp
        refine hK.out _ _ ?_ (fun hHeld => ?_)
        · exact (HQ2.alloc _).c0
        clear hK K
        try simp only [Act.put, List.setIfInBounds_toArray, List.set_cons_zero, List.set_cons_succ]
        refine wpAnyH_done (by kernel_rfl) ?_ _
        refine NoPanic.normal ?_
        go_wp2_with fail
        go_meet
        exact ⟨_, rfl, HQ2.alloc _, heap_alloc_new w2 _, HQ2.lt⟩
      · go_simp
        refine hK.out _ _ ?_ (fun hHeld => ?_)
        · exact (HQ2.alloc _).c0
        clear hK K
        try simp only [Act.put, List.setIfInBounds_toArray, List.set_cons_zero, List.set_cons_succ]
        refine wpAnyH_ready (rs := [3]) (by kernel_rfl) (by simp) ?_
        refine AllReadyH.cons rfl (fun K hK => ?_) AllReadyH.nil
        have m2' : (w2.alloc (Obj.cells #[Value.nilFunc] 66)).heap[g2]? = some (.map (two (fv 32) (fv 50)) 2) := (Lib.alloc_old _ _ _ (Array.getElem?_eq_some_iff.1 m2).1).trans m2
        have hl := look_one (T := 67) 2 (fv 50) Try.underlying67 m2' (two_2 _ _)
        go_simp
        refine hK.out _ _ ?_ (fun hHeld => ?_)
        · exact (HQ2.alloc _).c0
        clear hK K hl
        try simp only [Act.put, List.setIfInBounds_toArray, List.set_cons_zero, List.set_cons_succ]
        refine wpAnyH_ready (rs := [5]) (by kernel_rfl) (by simp) ?_
        refine AllReadyH.cons rfl (fun K hK => ?_) AllReadyH.nil
        go_simp
        refine hK.out _ _ ?_ (fun hHeld => ?_)
        · exact (HQ2.alloc _).c0
        clear hK K
        try simp only [Act.put, List.setIfInBounds_toArray, List.set_cons_zero, List.set_cons_succ]
        refine wpAnyH_done (by kernel_rfl) ?_ _
        refine NoPanic.normal ?_
        go_wp2_with fail
        go_meet
        exact ⟨_, rfl, HQ2.alloc _, heap_alloc_new w2 _, HQ2.lt⟩
    · go_simp
      refine hK.out _ _ ?_ (fun hHeld => ?_)
      · exact (Pq.drew (Pq.alloc HQ1.out _)).c0
      clear hK K
      try simp only [Act.put, List.setIfInBounds_toArray, List.set_cons_zero, List.set_cons_succ]
      refine wpAnyH_ready (rs := [0]) (by kernel_rfl) (by simp) ?_
      refine AllReadyH.cons rfl (fun K hK => ?_) AllReadyH.nil
      go_simp
      go_at_call 29
      (with_reducible refine (KP.out _ (Pq.drew (Pq.alloc HQ1.out _))).mono ?_)
      rintro q w2 ⟨g2, rfl, HQ2, m2, b2⟩
      try go_wp2_with fail
      refine hK.out _ _ ?_ (fun hHeld => ?_)
      · exact HQ2.c0
      clear hK K
      try simp only [Act.put, List.setIfInBounds_toArray, List.set_cons_zero, List.set_cons_succ]
      refine wpAnyH_ready (rs := [3]) (by kernel_rfl) (by simp) ?_
      refine AllReadyH.cons rfl (fun K hK => ?_) AllReadyH.nil
      have hl := look_one (T := 67) 2 (fv 50) Try.underlying67 m2 (two_2 _ _)
      go_simp
      refine hK.out _ _ ?_ (fun hHeld => ?_)
      · exact HQ2.c0
      clear hK K hl
      try simp only [Act.put, List.setIfInBounds_toArray, List.set_cons_zero, List.set_cons_succ]
      have f2 : w2.heap[w1.heap.size]? = some (.cells #[.nilFunc] 66 (0, 0)) := (b2.block _ (by simp)).trans (heap_alloc_new w1 _)
      have z2 : w2.frozen? ⟨w1.heap.size, 0, none⟩ = false := frozen_of_row w2 w1.heap.size 0 _ 66 f2
      have y2 : w2.cell? ⟨w1.heap.size, 0, none⟩ = some .nilFunc := cell_of_row w2 w1.heap.size 0 _ 66 (0, 0) f2
      refine wpAnyH_ready (rs := [5]) (by kernel_rfl) (by simp) ?_
      refine AllReadyH.cons rfl (fun K hK => ?_) AllReadyH.nil
      go_simp
      refine hK.out _ _ ?_ (fun hHeld => ?_)
      · exact (HQ2.set _ HQ1.out.lt _).c0
      clear hK K
      try simp only [Act.put, List.setIfInBounds_toArray, List.set_cons_zero, List.set_cons_succ]
      refine wpAnyH_done (by kernel_rfl) ?_ _
      refine NoPanic.normal ?_
      go_wp2_with fail
      go_meet
      exact ⟨_, rfl, HQ2.set _ HQ1.out.lt _, heap_setCell_same w2 w1.heap.size 0 _ 66 _ f2, HQ1.out.lt⟩
  case rest =>
    obtain ⟨c, rfl, Q, fc, hlc⟩ := hcut
    have hcb : c < wc.heap.size := (Array.getElem?_eq_some_iff.1 fc).1
    have PW0 : Hid (Pw w ⟨2, (a1 : Nat), (a2 : Nat), (a3 : Nat), (a4 : Nat), (a5 : Nat), (a6 : Nat)⟩ 50 c wc.heap.size ⟨#[]⟩ (wc.alloc (.cells #[.pointer none, .slice none 0 0] 74))) :=
      ⟨Q.alloc _, (Lib.alloc_old _ _ _ hcb).trans fc, fresh_wt wc _ (Nat.le_refl _), hlc, hcb, by simp⟩
    obtain ⟨x0, x1, x2, x3, x4, x5, x6⟩ := su_cells Q.bx
    obtain ⟨z0, z1, z2, z3, z4, z5, z6⟩ := su_cells PW0.out.q.bx
    obtain ⟨V, hV⟩ : ∃ V, V = wc.alloc (.cells #[.pointer none, .slice none 0 0] 74) := ⟨_, rfl⟩
    rw [← hV] at PW0
    have HV := Lib.hid hV
    clear c0 HQ1 KP Q fc hlc hcb hV w1
    generalize hb : wc.heap.size = b at *
    have HBB := Lib.hid hb
    clear hb
    go_wp2_with fail
    rw [← HV.out, HBB.out]
    have KF : Hid (Calls Try.prog 32 #[.pointer (some ⟨b, 0, none⟩), .int .u64 2, .int .i64 1] V fun e w' => e = .returned (.tuple #[]) ∧ Pw w ⟨2, (a1 : Nat), (a2 : Nat), (a3 : Nat), (a4 : Nat), (a5 : Nat), (a6 : Nat)⟩ 50 c b ((⟨#[]⟩ : ByteArray) ++ fxB 2 1) w') := (number_any b b 2 1 ⟨#[]⟩ V PW0.out.wt (by decide) PW0.out.l3 (by omega)).mono fun e w' ⟨h1, h2⟩ => ⟨h1, PW0.out.step h2⟩
    refine KF.out.mono ?_
    rintro e y0 ⟨rfl, PW1⟩
    have HP1 := Lib.hid PW1
    clear KF PW0 HV PW1 x0 x1 x2 x3 x4 x5 x6 z0 z1 z2 z3 z4 z5 z6
    have hx0 : Hid (((⟨#[]⟩ : ByteArray) ++ fxB 2 1).size ≤ 1000) := by
      obtain ⟨r1, r2, r3, r4, r5, r6⟩ := HR.out
      have e0 : (fxB 2 1).size = 1 := fxB_size 2 1 (by omega)
      show _ ≤ _
      simp only [ByteArray.size_append, e0]
      have e9 : (ByteArray.mk #[]).size = 0 := rfl
      omega
    have KF := Lib.hid (cnt22_any a1 (by have := HR.out; omega) _ HP1.out hx0.out)
    obtain ⟨x0, x1, x2, x3, x4, x5, x6⟩ := su_cells HP1.out.q.bx
    go_wp2_with fail
    refine KF.out.mono ?_
    rintro e y1 ⟨rfl, PW1⟩
    have HP2 := Lib.hid PW1
    clear KF HP1 PW1 x0 x1 x2 x3 x4 x5 x6 hx0
    have hx1 : Hid ((((⟨#[]⟩ : ByteArray) ++ fxB 2 1) ++ num 2 a1 2).size ≤ 1000) := by
      obtain ⟨r1, r2, r3, r4, r5, r6⟩ := HR.out
      have e0 : (fxB 2 1).size = 1 := fxB_size 2 1 (by omega)
      have e1 := num_size 2 a1 2 (by omega) (by omega)
      show _ ≤ _
      simp only [ByteArray.size_append, e0]
      have e9 : (ByteArray.mk #[]).size = 0 := rfl
      omega
    have KF := Lib.hid (cnt22_any a2 (by have := HR.out; omega) _ HP2.out hx1.out)
    obtain ⟨x0, x1, x2, x3, x4, x5, x6⟩ := su_cells HP2.out.q.bx
    go_wp2_with fail
    refine KF.out.mono ?_
    rintro e y2 ⟨rfl, PW1⟩
    have HP3 := Lib.hid PW1
    clear KF HP2 PW1 x0 x1 x2 x3 x4 x5 x6 hx1
    have hx2 : Hid (((((⟨#[]⟩ : ByteArray) ++ fxB 2 1) ++ num 2 a1 2) ++ num 2 a2 2).size ≤ 1000) := by
      obtain ⟨r1, r2, r3, r4, r5, r6⟩ := HR.out
      have e0 : (fxB 2 1).size = 1 := fxB_size 2 1 (by omega)
      have e1 := num_size 2 a1 2 (by omega) (by omega)
      have e2 := num_size 2 a2 2 (by omega) (by omega)
      show _ ≤ _
      simp only [ByteArray.size_append, e0]
      have e9 : (ByteArray.mk #[]).size = 0 := rfl
      omega
    have KF := Lib.hid (cnt21_any a3 (by have := HR.out; omega) _ HP3.out hx2.out)
    obtain ⟨x0, x1, x2, x3, x4, x5, x6⟩ := su_cells HP3.out.q.bx
    go_wp2_with fail
    refine KF.out.mono ?_
    rintro e y3 ⟨rfl, PW1⟩
    have HP4 := Lib.hid PW1
    clear KF HP3 PW1 x0 x1 x2 x3 x4 x5 x6 hx2
    have hx3 : Hid ((((((⟨#[]⟩ : ByteArray) ++ fxB 2 1) ++ num 2 a1 2) ++ num 2 a2 2) ++ num 2 a3 1).size ≤ 1000) := by
      obtain ⟨r1, r2, r3, r4, r5, r6⟩ := HR.out
      have e0 : (fxB 2 1).size = 1 := fxB_size 2 1 (by omega)
      have e1 := num_size 2 a1 2 (by omega) (by omega)
      have e2 := num_size 2 a2 2 (by omega) (by omega)
      have e3 := num_size 2 a3 1 (by omega) (by omega)
      show _ ≤ _
      simp only [ByteArray.size_append, e0]
      have e9 : (ByteArray.mk #[]).size = 0 := rfl
      omega
    have KF := Lib.hid (cnt21_any a4 (by have := HR.out; omega) _ HP4.out hx3.out)
    obtain ⟨x0, x1, x2, x3, x4, x5, x6⟩ := su_cells HP4.out.q.bx
    go_wp2_with fail
    refine KF.out.mono ?_
    rintro e y4 ⟨rfl, PW1⟩
    have HP5 := Lib.hid PW1
    clear KF HP4 PW1 x0 x1 x2 x3 x4 x5 x6 hx3
    have hx4 : Hid (((((((⟨#[]⟩ : ByteArray) ++ fxB 2 1) ++ num 2 a1 2) ++ num 2 a2 2) ++ num 2 a3 1) ++ num 2 a4 1).size ≤ 1000) := by
      obtain ⟨r1, r2, r3, r4, r5, r6⟩ := HR.out
      have e0 : (fxB 2 1).size = 1 := fxB_size 2 1 (by omega)
      have e1 := num_size 2 a1 2 (by omega) (by omega)
      have e2 := num_size 2 a2 2 (by omega) (by omega)
      have e3 := num_size 2 a3 1 (by omega) (by omega)
      have e4 := num_size 2 a4 1 (by omega) (by omega)
      show _ ≤ _
      simp only [ByteArray.size_append, e0]
      have e9 : (ByteArray.mk #[]).size = 0 := rfl
      omega
    have KF := Lib.hid (cnt21_any a5 (by have := HR.out; omega) _ HP5.out hx4.out)
    obtain ⟨x0, x1, x2, x3, x4, x5, x6⟩ := su_cells HP5.out.q.bx
    go_wp2_with fail
    refine KF.out.mono ?_
    rintro e y5 ⟨rfl, PW1⟩
    have HP6 := Lib.hid PW1
    clear KF HP5 PW1 x0 x1 x2 x3 x4 x5 x6 hx4
    have hx5 : Hid ((((((((⟨#[]⟩ : ByteArray) ++ fxB 2 1) ++ num 2 a1 2) ++ num 2 a2 2) ++ num 2 a3 1) ++ num 2 a4 1) ++ num 2 a5 1).size ≤ 1000) := by
      obtain ⟨r1, r2, r3, r4, r5, r6⟩ := HR.out
      have e0 : (fxB 2 1).size = 1 := fxB_size 2 1 (by omega)
      have e1 := num_size 2 a1 2 (by omega) (by omega)
      have e2 := num_size 2 a2 2 (by omega) (by omega)
      have e3 := num_size 2 a3 1 (by omega) (by omega)
      have e4 := num_size 2 a4 1 (by omega) (by omega)
      have e5 := num_size 2 a5 1 (by omega) (by omega)
      show _ ≤ _
      simp only [ByteArray.size_append, e0]
      have e9 : (ByteArray.mk #[]).size = 0 := rfl
      omega
    have KF := Lib.hid (cnt21_any a6 (by have := HR.out; omega) _ HP6.out hx5.out)
    obtain ⟨x0, x1, x2, x3, x4, x5, x6⟩ := su_cells HP6.out.q.bx
    go_wp2_with fail
    refine KF.out.mono ?_
    rintro e y6 ⟨rfl, PW1⟩
    have HP7 := Lib.hid PW1
    clear KF HP6 PW1 x0 x1 x2 x3 x4 x5 x6 hx5
    have KS := Lib.hid (wstring b b _ _ HP7.out.wt (by rw [HN.out]; exact HPS.out))
    go_wp2_with fail
    refine KS.out.mono ?_
    rintro e y8 ⟨rfl, b8⟩
    have HF := Lib.hid (HP7.out.q.be.trans (b8.mono (by have := HP7.out.l1; have := HP7.out.l2; omega)))
    clear KS b8 HP7
    go_wp2
    go_ret2
    exact ⟨by rw [← HN.out]; rfl, HF.out⟩

theorem putSuper_no (s : Su) (w : World) (h : rgt s = false) : Calls Try.prog 10 #[s.val] w fun e w' => e = .returned (.tuple #[.string ⟨#[]⟩, .bool false]) ∧ Below w.heap.size w w' := by
  obtain ⟨W, hW⟩ : ∃ W, W = sbx w s := ⟨_, rfl⟩
  have hb := sbx_below w s
  have HK := Lib.hid (fun (W : World) => right_any s W)
  rw [h] at HK
  rw [← hW] at hb
  have HW := Lib.hid hW
  have HB := Lib.hid hb
  have hc := sbx_cells w s
  rw [← hW] at hc
  have HC := Lib.hid hc
  clear hb hW h hc
  unfold sbx Su.val Su.c at *
  go_enter Try.func10, Try.ntmps10
  go_wp2_with fail
  rw [← HW.out]
  refine (HK.out _).mono ?_
  rintro e w1 ⟨rfl, b1⟩
  have HB1 := Lib.hid (HB.out.trans (b1.mono HB.out.size))
  go_wp2
  go_ret2
  exact ⟨rfl, HB1.out⟩
theorem putSuper_any (s : Su) (w : World) : Calls Try.prog 10 #[s.val] w fun e w' => e = .returned (.tuple #[.string (supS s), .bool (rgt s)]) ∧ Below w.heap.size w w' := by
  unfold supS
  cases h : rgt s with
  | false => exact putSuper_no s w h
  | true =>
    rw [if_pos rfl]
    obtain ⟨v, sn, lg, ar, hf, gl, sp⟩ := s
    obtain ⟨h1, h2, h3, h4, h5, h6, h7, _⟩ := (rgt_iff _).1 h
    dsimp only at h1 h2 h3 h4 h5 h6 h7
    obtain ⟨a, rfl⟩ := Int.eq_ofNat_of_zero_le (by omega : 0 ≤ sn)
    obtain ⟨b, rfl⟩ := Int.eq_ofNat_of_zero_le (by omega : 0 ≤ lg)
    obtain ⟨c, rfl⟩ := Int.eq_ofNat_of_zero_le (by omega : 0 ≤ ar)
    obtain ⟨d, rfl⟩ := Int.eq_ofNat_of_zero_le (by omega : 0 ≤ hf)
    obtain ⟨e, rfl⟩ := Int.eq_ofNat_of_zero_le (by omega : 0 ≤ gl)
    obtain ⟨f, rfl⟩ := Int.eq_ofNat_of_zero_le (by omega : 0 ≤ sp)
    rcases (by omega : v = 1 ∨ v = 2) with rfl | rfl
    · exact putSuperN1_any a b c d e f w h
    · exact putSuperN2_any a b c d e f w h
end Go.Proofs.Ytdoombcihobejaa