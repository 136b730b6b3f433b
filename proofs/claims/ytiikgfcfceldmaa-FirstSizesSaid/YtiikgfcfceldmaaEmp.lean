/-
  A message out of no bytes: there is none.
  Conditions: none.
-/
import Derived.Test.YtiikgfcfceldmaaRGet
import Derived.Test.YtiikgfcfceldmaaNState
namespace Go.Proofs.Ytiikgfcfceldmaa
open Go.RowKit
open Vi
set_option linter.unusedVariables false
set_option linter.unusedSimpArgs false

/-- What stands in the midst of reading a message where nothing is left. -/
structure Mq (w0 : World) (g : Nat) (b : Bool) (w : World) : Prop where
  hr : Rd 73 g ⟨#[]⟩ b w
  fn : w.heap[w0.heap.size + 1]? = some (.cells #[.func (.func 35) #[.pointer (some ⟨g, 0, none⟩)] #[]] 74 (0, 0))
  res : w.heap[w0.heap.size]? = some (.cells (mc mzz) 44 (0, 0))
  fr : w0.grownBy w (some g)
  lg : g < w0.heap.size
/-- .. with the message in block p. -/
structure My (w0 : World) (g p : Nat) (b : Bool) (w : World) : Prop where
  q : Mq w0 g b w
  al : w.heap[p]? = some (.cells (mc mzz) 44 (0, 0))
  lp : w0.heap.size + 1 < p
section
variable {w0 w w1 : World} {g p : Nat} {b b' : Bool}
theorem Mq.step (h : Mq w0 g b w) (hx : Rd 73 g ⟨#[]⟩ b' w1) (hf : w.grownBy w1 (some g)) : Mq w0 g b' w1 := by
  have h1 := h.lg
  exact ⟨hx, (hf.block _ (Array.getElem?_eq_some_iff.1 h.fn).1 (by simp; omega)).trans h.fn, (hf.block _ (Array.getElem?_eq_some_iff.1 h.res).1 (by simp; omega)).trans h.res, h.fr.trans hf, h.lg⟩
theorem Mq.below (h : Mq w0 g b w) (hb : Below w.heap.size w w1) : Mq w0 g b w1 :=
  ⟨h.hr.below hb h.hr.lt, (hb.block _ (Array.getElem?_eq_some_iff.1 h.fn).1).trans h.fn, (hb.block _ (Array.getElem?_eq_some_iff.1 h.res).1).trans h.res, gb_below h.fr hb, h.lg⟩
theorem Mq.drew (h : Mq w0 g b w) : Mq w0 g b w.drew := ⟨h.hr, h.fn, h.res, gb_below h.fr (Below.refl _ _).drew, h.lg⟩
theorem Mq.fcell (h : Mq w0 g b w) : w.cell? ⟨w0.heap.size + 1, 0, none⟩ = some (.func (.func 35) #[.pointer (some ⟨g, 0, none⟩)] #[]) := cell_of_row w _ 0 _ 74 (0, 0) h.fn
theorem Mq.fcella (h : Mq w0 g b w) (o : Obj) : (w.alloc o).cell? ⟨w0.heap.size + 1, 0, none⟩ = some (.func (.func 35) #[.pointer (some ⟨g, 0, none⟩)] #[]) := (h.below ((Below.refl _ _).alloc (Nat.le_refl _) _)).fcell
theorem Mq.toY (h : Mq w0 g b w) : My w0 g w.heap.size b (w.alloc (.cells (mc mzz) 44)) :=
  ⟨h.below ((Below.refl _ _).alloc (Nat.le_refl _) _), heap_alloc_new w _, (Array.getElem?_eq_some_iff.1 h.fn).1⟩
theorem My.step (h : My w0 g p b w) (hx : Rd 73 g ⟨#[]⟩ b' w1) (hf : w.grownBy w1 (some g)) : My w0 g p b' w1 := by
  have h1 := h.q.lg
  have h2 := h.lp
  exact ⟨h.q.step hx hf, (hf.block _ (Array.getElem?_eq_some_iff.1 h.al).1 (by simp; omega)).trans h.al, h.lp⟩
theorem My.drew (h : My w0 g p b w) : My w0 g p b w.drew := ⟨h.q.drew, h.al, h.lp⟩
theorem My.fz (h : My w0 g p b w) (i : Nat) : w.frozen? ⟨p, i, none⟩ = false := Md.of h.al
theorem My.cell (h : My w0 g p b w) (i : Nat) : w.cell? ⟨p, i, none⟩ = (mc mzz)[i]? := cell_of_row w _ i _ 44 (0, 0) h.al
theorem My.set (h : My w0 g p b w) (i : Nat) (v : Value) (he : (mc mzz).setIfInBounds i v = mc mzz) : My w0 g p b (w.setCell ⟨p, i, none⟩ v) := by
  have h1 := h.q.lg
  have h2 := h.lp
  refine ⟨⟨rd_set h.q.hr (by simp; omega), ?_, ?_, gb_set h.q.fr (by simp; omega), h.q.lg⟩, ?_, h.lp⟩
  · rw [Below.heap_setCell _ _ _ _ (by simp; omega)]; exact h.q.fn
  · rw [Below.heap_setCell _ _ _ _ (by simp; omega)]; exact h.q.res
  · have h3 := set_blk h.al i v
    rw [he] at h3
    exact h3
theorem rd_allm {T r : Nat} {s : ByteArray} (E : Ms) (h : Rd T g s b w) (hr : r ≠ g) : Rd T g s b (wrm w r E) :=
  rd_set (rd_set (rd_set (rd_set (rd_set (rd_set (rd_set (rd_set (rd_set (rd_set (rd_set h hr) hr) hr) hr) hr) hr) hr) hr) hr) hr) hr
theorem gb_allm {r : Nat} (E : Ms) (h : w0.grownBy w (some g)) (hr : w0.heap.size ≤ r) : w0.grownBy (wrm w r E) (some g) :=
  gb_set (gb_set (gb_set (gb_set (gb_set (gb_set (gb_set (gb_set (gb_set (gb_set (gb_set h hr) hr) hr) hr) hr) hr) hr) hr) hr) hr) hr
theorem My.sets (h : My w0 g p b w) : My w0 g p b (wrm w p mzz) := by
  have h1 := h.q.lg
  have h2 := h.lp
  have hB : Below (w0.heap.size + 2) w (wrm w p mzz) := below_allm mzz (Below.refl _ _) (by omega)
  exact ⟨⟨rd_allm mzz h.q.hr (by omega), (hB.block _ (by omega)).trans h.q.fn, (hB.block _ (by omega)).trans h.q.res, gb_allm mzz h.q.fr (by omega), h.q.lg⟩, store_allm mzz h.al, h.lp⟩
end
theorem fix_nil (k : Int) (hk : 1 ≤ k) : fixV ⟨#[]⟩ k = 0 ∧ fixT ⟨#[]⟩ k = ⟨#[]⟩ ∧ hasF ⟨#[]⟩ k = false := by
  have e : hasF ⟨#[]⟩ k = false := decide_eq_false (by show ¬ (0 ≤ k ∧ k ≤ 8 ∧ k ≤ ((0 : Nat) : Int)); omega)
  unfold fixV fixT
  rw [e, if_neg (by decide), if_neg (by decide)]
  exact ⟨rfl, rfl, rfl⟩
section
variable (w0 : World) (g p : Nat) (b : Bool) (k : Int) (w : World)
theorem mq_fix (h : Mq w0 g b w) (hk : 1 ≤ k) :
    Calls Try.prog 35 #[.pointer (some ⟨g, 0, none⟩), .int .i64 k] w fun q w' => q = .returned (.int .u64 0) ∧ Mq w0 g true w' ∧ w'.cell? ⟨w0.heap.size + 1, 0, none⟩ = some (.func (.func 35) #[.pointer (some ⟨g, 0, none⟩)] #[]) ∧ w.grownBy w' (some g) := by
  obtain ⟨e1, e2, e3⟩ := fix_nil k hk
  refine (fixedr_any g ⟨#[]⟩ b k w h.hr (by show 0 ≤ _; omega)).mono fun q w' ⟨h1, h2, h3⟩ => ?_
  rw [e1] at h1
  rw [e2, e3, Bool.not_false, Bool.or_true] at h2
  exact ⟨h1, h.step h2 h3, (h.step h2 h3).fcell, h3⟩
set_option maxHeartbeats 400000 in
set_option maxRecDepth 100000 in
theorem mq_small (h : Mq w0 g b w) :
    Calls Try.prog 64 #[.pointer (some ⟨w0.heap.size + 1, 0, none⟩)] w fun q w' => q = .returned (.int .i64 0) ∧ Mq w0 g true w' ∧ w'.cell? ⟨w0.heap.size + 1, 0, none⟩ = some (.func (.func 35) #[.pointer (some ⟨g, 0, none⟩)] #[]) ∧ w.grownBy w' (some g) := by
  have c := h.fcell
  have K := Lib.hid (mq_fix w0 g b 1 w h (by omega))
  clear h
  go_enter Try.func64, Try.ntmps64
  go_wp2_with (go_at_call 35; (with_reducible refine K.out.mono ?_); rintro q w1 ⟨rfl, h1⟩)
  go_ret
  exact ⟨rfl, h1⟩
theorem my_fix (h : My w0 g p b w) (hk : 1 ≤ k) :
    Calls Try.prog 35 #[.pointer (some ⟨g, 0, none⟩), .int .i64 k] w fun q w' => q = .returned (.int .u64 0) ∧ My w0 g p true w' ∧ w'.cell? ⟨w0.heap.size + 1, 0, none⟩ = some (.func (.func 35) #[.pointer (some ⟨g, 0, none⟩)] #[]) :=
  (mq_fix w0 g b k w h.q hk).mono fun q w' ⟨h1, h2, h3, h4⟩ => ⟨h1, h.step h2.hr h4, h3⟩
theorem my_small (h : My w0 g p b w) :
    Calls Try.prog 64 #[.pointer (some ⟨w0.heap.size + 1, 0, none⟩)] w fun q w' => q = .returned (.int .i64 0) ∧ My w0 g p true w' ∧ w'.cell? ⟨w0.heap.size + 1, 0, none⟩ = some (.func (.func 35) #[.pointer (some ⟨g, 0, none⟩)] #[]) :=
  (mq_small w0 g b w h.q).mono fun q w' ⟨h1, h2, h3, h4⟩ => ⟨h1, h.step h2.hr h4, h3⟩
theorem my_byt (h : My w0 g p b w) :
    Calls Try.prog 36 #[.pointer (some ⟨g, 0, none⟩), .int .i64 0] w fun q w' => q = .returned (.string ⟨#[]⟩) ∧ My w0 g p b w' ∧ w'.cell? ⟨w0.heap.size + 1, 0, none⟩ = some (.func (.func 35) #[.pointer (some ⟨g, 0, none⟩)] #[]) := by
  have e1 : bytV ⟨#[]⟩ 0 = ⟨#[]⟩ := by decide +kernel
  have e2 : bytT ⟨#[]⟩ 0 = ⟨#[]⟩ := by decide +kernel
  have e3 : hasB ⟨#[]⟩ 0 = true := by decide +kernel
  refine (bytes_any g ⟨#[]⟩ b 0 w h.q.hr (by show 0 ≤ _; omega)).mono fun q w' ⟨h1, h2, h3⟩ => ?_
  rw [e1] at h1
  rw [e2, e3, Bool.not_true, Bool.or_false] at h2
  exact ⟨h1, h.step h2 h3, (h.step h2 h3).q.fcell⟩
end
set_option maxHeartbeats 400000 in
theorem bit63 (w : World) : Calls Try.prog 63 #[.bool false] w fun q w' => q = .returned (.int .i64 0) ∧ w' = w := by
  go_enter Try.func63, Try.ntmps63
  go_wp2
  go_ret
  exact ⟨rfl, rfl⟩

set_option maxHeartbeats 16000000 in
set_option maxRecDepth 100000 in
theorem readMsg_nil (g : Nat) (bad : Bool) (w : World) (h : Rd 73 g ⟨#[]⟩ bad w) :
    Calls Try.prog 48 #[.pointer (some ⟨g, 0, none⟩)] w fun q w' => q = .returned (mv mzz) ∧ Rd 73 g ⟨#[]⟩ true w' ∧ w.grownBy w' (some g) := by
  have hmf : ∀ (fn : Fn) (first cap : Array Value) (w : World), (Instr.makeFunc fn first cap).run Try.prog w = .ok (.func fn first cap) w := fun _ _ _ _ => rfl
  have hlt := h.lt
  obtain ⟨W0, hW0⟩ : ∃ W0, W0 = (w.alloc (Obj.cells (mc mzz) 44)).alloc (Obj.cells #[.func (.func 35) #[.pointer (some ⟨g, 0, none⟩)] #[]] 74) := ⟨_, rfl⟩
  have G0 : Mq w g bad W0 := by
    have k0 : W0.heap[w.heap.size]? = some (.cells (mc mzz) 44 (0, 0)) := by
      rw [hW0]; exact (Lib.alloc_old _ _ _ (by simp)).trans (heap_alloc_new w _)
    have k1 : W0.heap[w.heap.size + 1]? = some (.cells #[.func (.func 35) #[.pointer (some ⟨g, 0, none⟩)] #[]] 74 (0, 0)) := by
      have h := heap_alloc_new (w.alloc (Obj.cells (mc mzz) 44)) (Obj.cells #[.func (.func 35) #[.pointer (some ⟨g, 0, none⟩)] #[]] 74)
      rw [show (w.alloc (Obj.cells (mc mzz) 44)).heap.size = w.heap.size + 1 by simp] at h
      rw [hW0]; exact h
    have hb : Below w.heap.size w W0 := by rw [hW0]; exact ((Below.refl _ _).alloc (Nat.le_refl _) _).alloc (by simp) _
    exact ⟨h.below hb hlt, k1, k0, grownBy_below hb _, hlt⟩
  have KS := Lib.hid (mq_small w g)
  have KF := Lib.hid (mq_fix w g)
  have KSy := Lib.hid (my_small w g)
  have KFy := Lib.hid (my_fix w g)
  have KBy := Lib.hid (my_byt w g)
  have HW0 := Lib.hid hW0
  have Gd := G0.drew
  have c0 := G0.fcell
  clear hW0 h
  go_enter Try.func48, Try.ntmps48
  go_upto_region 3 with fail
  rw [← HW0.out]
  go_cut [6] from 8 to 60 (fun s6 wx => ∃ p, s6 = .pointer (some ⟨p, 0, none⟩) ∧ My w g p true wx)
  case first =>
    refine wp_region_noPanic ?_
    refine wp_region_held_drew (S := (fun w' => w'.cell? ⟨w.heap.size + 1, 0, none⟩ = some (.func (.func 35) #[.pointer (some ⟨g, 0, none⟩)] #[]))) (by kernel_rfl) (by exact c0) (fun hHeld => ?_)
    refine wpAnyH_take (v := ?v0) (i := 0) rfl (by kernel_rfl) (by kernel_rfl) (by kernel_rfl) (fun _ _ _ h => h) (Or.inl ⟨by kernel_rfl, ?hy0⟩) (by assumption) ?rest0
    case hy0 => (intro w hSw; (try dsimp only at hSw); go_simp; first | done | (with_reducible rfl))
    try simp only [Act.put, List.setIfInBounds_toArray, List.set_cons_zero, List.set_cons_succ]
    refine wpAnyH_take (v := ?v2) (i := 2) rfl (by kernel_rfl) (by kernel_rfl) (by kernel_rfl) (fun _ _ _ h => h) (Or.inl ⟨by kernel_rfl, ?hy2⟩) (by assumption) ?rest2
    case hy2 => (intro w hSw; (try dsimp only at hSw); go_simp; first | done | (with_reducible rfl))
    try simp only [Act.put, List.setIfInBounds_toArray, List.set_cons_zero, List.set_cons_succ]
    refine wpAnyH_take (v := ?v4) (i := 4) rfl (by kernel_rfl) (by kernel_rfl) (by kernel_rfl) (fun _ _ _ h => h) (Or.inl ⟨by kernel_rfl, ?hy4⟩) (by assumption) ?rest4
    case hy4 => (intro w hSw; (try dsimp only at hSw); go_simp; first | done | (with_reducible rfl))
    try simp only [Act.put, List.setIfInBounds_toArray, List.set_cons_zero, List.set_cons_succ]
    refine wpAnyH_take (v := ?v6) (i := 6) rfl (by kernel_rfl) (by kernel_rfl) (by kernel_rfl) (fun _ _ _ h => h) (Or.inl ⟨by kernel_rfl, ?hy6⟩) (by assumption) ?rest6
    case hy6 => (intro w hSw; (try dsimp only at hSw); go_simp; first | done | (with_reducible rfl))
    try simp only [Act.put, List.setIfInBounds_toArray, List.set_cons_zero, List.set_cons_succ]
    refine wpAnyH_take (v := ?v8) (i := 8) rfl (by kernel_rfl) (by kernel_rfl) (by kernel_rfl) (fun _ _ _ h => h) (Or.inl ⟨by kernel_rfl, ?hy8⟩) (by assumption) ?rest8
    case hy8 => (intro w hSw; (try dsimp only at hSw); go_simp; first | done | (with_reducible rfl))
    try simp only [Act.put, List.setIfInBounds_toArray, List.set_cons_zero, List.set_cons_succ]
    refine wpAnyH_take (v := ?v10) (i := 10) rfl (by kernel_rfl) (by kernel_rfl) (by kernel_rfl) (fun _ _ _ h => h) (Or.inl ⟨by kernel_rfl, ?hy10⟩) (by assumption) ?rest10
    case hy10 => (intro w hSw; (try dsimp only at hSw); go_simp; first | done | (with_reducible rfl))
    try simp only [Act.put, List.setIfInBounds_toArray, List.set_cons_zero, List.set_cons_succ]
    refine wpAnyH_take (v := ?v12) (i := 12) rfl (by kernel_rfl) (by kernel_rfl) (by kernel_rfl) (fun _ _ _ h => h) (Or.inl ⟨by kernel_rfl, ?hy12⟩) (by assumption) ?rest12
    case hy12 => (intro w hSw; (try dsimp only at hSw); go_simp; first | done | (with_reducible rfl))
    try simp only [Act.put, List.setIfInBounds_toArray, List.set_cons_zero, List.set_cons_succ]
    refine wpAnyH_take (v := ?v14) (i := 14) rfl (by kernel_rfl) (by kernel_rfl) (by kernel_rfl) (fun _ _ _ h => h) (Or.inl ⟨by kernel_rfl, ?hy14⟩) (by assumption) ?rest14
    case hy14 => (intro w hSw; (try dsimp only at hSw); go_simp; first | done | (with_reducible rfl))
    try simp only [Act.put, List.setIfInBounds_toArray, List.set_cons_zero, List.set_cons_succ]
    have Gi := G0
    have G0 := Gd
    refine wpAnyH_ready (rs := [1, 17]) (by kernel_rfl) (by simp) ?_
    refine AllReadyH.cons rfl (fun K hK => ?_) (AllReadyH.cons rfl (fun K hK => ?_) AllReadyH.nil)
    · go_simp
      go_at_call 64
      (with_reducible refine (KS.out _ _ G0).mono ?_)
      rintro q w1 ⟨rfl, G1, c1, _⟩
      try go_wp2_with fail
      refine hK.out _ _ ?_ (fun hHeld => ?_)
      · exact c1
      clear hK K
      try simp only [Act.put, List.setIfInBounds_toArray, List.set_cons_zero, List.set_cons_succ]
      refine wpAnyH_ready (rs := [3, 17]) (by kernel_rfl) (by simp) ?_
      refine AllReadyH.cons rfl (fun K hK => ?_) (AllReadyH.cons rfl (fun K hK => ?_) AllReadyH.nil)
      · go_simp
        go_at_call 64
        (with_reducible refine (KS.out _ _ G1).mono ?_)
        rintro q w2 ⟨rfl, G2, c2, _⟩
        try go_wp2_with fail
        refine hK.out _ _ ?_ (fun hHeld => ?_)
        · exact c2
        clear hK K
        try simp only [Act.put, List.setIfInBounds_toArray, List.set_cons_zero, List.set_cons_succ]
        refine wpAnyH_ready (rs := [5, 17]) (by kernel_rfl) (by simp) ?_
        refine AllReadyH.cons rfl (fun K hK => ?_) (AllReadyH.cons rfl (fun K hK => ?_) AllReadyH.nil)
        · go_simp
          go_at_call 64
          (with_reducible refine (KS.out _ _ G2).mono ?_)
          rintro q w3 ⟨rfl, G3, c3, _⟩
          try go_wp2_with fail
          refine hK.out _ _ ?_ (fun hHeld => ?_)
          · exact c3
          clear hK K
          try simp only [Act.put, List.setIfInBounds_toArray, List.set_cons_zero, List.set_cons_succ]
          refine wpAnyH_ready (rs := [7, 17]) (by kernel_rfl) (by simp) ?_
          refine AllReadyH.cons rfl (fun K hK => ?_) (AllReadyH.cons rfl (fun K hK => ?_) AllReadyH.nil)
          · go_simp
            go_at_call 35
            (with_reducible refine (KF.out _ _ _ G3 (by omega)).mono ?_)
            rintro q w4 ⟨rfl, G4, c4, _⟩
            try go_wp2_with fail
            refine hK.out _ _ ?_ (fun hHeld => ?_)
            · exact c4
            clear hK K
            try simp only [Act.put, List.setIfInBounds_toArray, List.set_cons_zero, List.set_cons_succ]
            refine wpAnyH_ready (rs := [9, 17]) (by kernel_rfl) (by simp) ?_
            refine AllReadyH.cons rfl (fun K hK => ?_) (AllReadyH.cons rfl (fun K hK => ?_) AllReadyH.nil)
            · go_simp
              go_at_call 35
              (with_reducible refine (KF.out _ _ _ G4 (by omega)).mono ?_)
              rintro q w5 ⟨rfl, G5, c5, _⟩
              try go_wp2_with fail
              refine hK.out _ _ ?_ (fun hHeld => ?_)
              · exact c5
              clear hK K
              try simp only [Act.put, List.setIfInBounds_toArray, List.set_cons_zero, List.set_cons_succ]
              refine wpAnyH_ready (rs := [11, 17]) (by kernel_rfl) (by simp) ?_
              refine AllReadyH.cons rfl (fun K hK => ?_) (AllReadyH.cons rfl (fun K hK => ?_) AllReadyH.nil)
              · go_simp
                go_at_call 35
                (with_reducible refine (KF.out _ _ _ G5 (by omega)).mono ?_)
                rintro q w6 ⟨rfl, G6, c6, _⟩
                try go_wp2_with fail
                refine hK.out _ _ ?_ (fun hHeld => ?_)
                · exact c6
                clear hK K
                try simp only [Act.put, List.setIfInBounds_toArray, List.set_cons_zero, List.set_cons_succ]
                refine wpAnyH_ready (rs := [13, 17]) (by kernel_rfl) (by simp) ?_
                refine AllReadyH.cons rfl (fun K hK => ?_) (AllReadyH.cons rfl (fun K hK => ?_) AllReadyH.nil)
                · go_simp
                  go_at_call 35
                  (with_reducible refine (KF.out _ _ _ G6 (by omega)).mono ?_)
                  rintro q w7 ⟨rfl, G7, c7, _⟩
                  try go_wp2_with fail
                  refine hK.out _ _ ?_ (fun hHeld => ?_)
                  · exact c7
                  clear hK K
                  try simp only [Act.put, List.setIfInBounds_toArray, List.set_cons_zero, List.set_cons_succ]
                  refine wpAnyH_ready (rs := [15, 17]) (by kernel_rfl) (by simp) ?_
                  refine AllReadyH.cons rfl (fun K hK => ?_) (AllReadyH.cons rfl (fun K hK => ?_) AllReadyH.nil)
                  · go_simp
                    go_at_call 35
                    (with_reducible refine (KF.out _ _ _ G7 (by omega)).mono ?_)
                    rintro q w8 ⟨rfl, G8, c8, _⟩
                    try go_wp2_with fail
                    refine hK.out _ _ ?_ (fun hHeld => ?_)
                    · exact c8
                    clear hK K
                    try simp only [Act.put, List.setIfInBounds_toArray, List.set_cons_zero, List.set_cons_succ]
                    refine wpAnyH_take (v := ?vn_16) (i := 16) rfl (by kernel_rfl) (by kernel_rfl) (by kernel_rfl) (fun _ _ _ h => h) (Or.inl ⟨by kernel_rfl, ?hyn_16⟩) (by assumption) ?restn_16
                    case hyn_16 => (intro w hSw; (try dsimp only at hSw); go_simp; first | done | (with_reducible rfl))
                    try simp only [Act.put, List.setIfInBounds_toArray, List.set_cons_zero, List.set_cons_succ]
                    refine wpAnyH_ready (rs := [17]) (by kernel_rfl) (by simp) ?_
                    refine AllReadyH.cons rfl (fun K hK => ?_) AllReadyH.nil
                    go_simp
                    refine hK.out _ _ ?_ (fun hHeld => ?_)
                    · exact Mq.fcella G8 _
                    clear hK K
                    try simp only [Act.put, List.setIfInBounds_toArray, List.set_cons_zero, List.set_cons_succ]
                    have G8y := Mq.toY G8
                    refine wpAnyH_ready (rs := [18]) (by kernel_rfl) (by simp) ?_
                    refine AllReadyH.cons rfl (fun K hK => ?_) AllReadyH.nil
                    go_simp
                    refine hK.out _ _ ?_ (fun hHeld => ?_)
                    · exact G8y.q.fcell
                    clear hK K
                    try simp only [Act.put, List.setIfInBounds_toArray, List.set_cons_zero, List.set_cons_succ]
                    refine wpAnyH_done (by kernel_rfl) ?_ _
                    refine NoPanic.normal ?_
                    go_wp2_with fail
                    go_meet
                    exact ⟨_, rfl, G8y⟩
                  · go_simp
                    refine hK.out _ _ ?_ (fun hHeld => ?_)
                    · exact Mq.fcella G7 _
                    clear hK K
                    try simp only [Act.put, List.setIfInBounds_toArray, List.set_cons_zero, List.set_cons_succ]
                    have G7y := Mq.toY G7
                    refine wpAnyH_ready (rs := [15]) (by kernel_rfl) (by simp) ?_
                    refine AllReadyH.cons rfl (fun K hK => ?_) AllReadyH.nil
                    go_simp
                    go_at_call 35
                    (with_reducible refine (KFy.out _ _ _ _ G7y (by omega)).mono ?_)
                    rintro q w8y ⟨rfl, G8y, c8y⟩
                    try go_wp2_with fail
                    refine hK.out _ _ ?_ (fun hHeld => ?_)
                    · exact c8y
                    clear hK K
                    try simp only [Act.put, List.setIfInBounds_toArray, List.set_cons_zero, List.set_cons_succ]
                    refine wpAnyH_take (v := ?vb7_16) (i := 16) rfl (by kernel_rfl) (by kernel_rfl) (by kernel_rfl) (fun _ _ _ h => h) (Or.inl ⟨by kernel_rfl, ?hyb7_16⟩) (by assumption) ?restb7_16
                    case hyb7_16 => (intro w hSw; (try dsimp only at hSw); go_simp; first | done | (with_reducible rfl))
                    try simp only [Act.put, List.setIfInBounds_toArray, List.set_cons_zero, List.set_cons_succ]
                    have e0 : w8y.cell? ⟨w7.heap.size, 0, none⟩ = some (.int .i64 0) := G8y.cell 0
                    have e1 : w8y.cell? ⟨w7.heap.size, 1, none⟩ = some (.int .i64 0) := G8y.cell 1
                    have e2 : w8y.cell? ⟨w7.heap.size, 2, none⟩ = some (.int .i64 0) := G8y.cell 2
                    have e3 : w8y.cell? ⟨w7.heap.size, 3, none⟩ = some (.int .u64 0) := G8y.cell 3
                    have e4 : w8y.cell? ⟨w7.heap.size, 4, none⟩ = some (.int .u64 0) := G8y.cell 4
                    have e5 : w8y.cell? ⟨w7.heap.size, 5, none⟩ = some (.int .u64 0) := G8y.cell 5
                    have e6 : w8y.cell? ⟨w7.heap.size, 6, none⟩ = some (.int .u64 0) := G8y.cell 6
                    have e7 : w8y.cell? ⟨w7.heap.size, 7, none⟩ = some (.int .u64 0) := G8y.cell 7
                    have e8 : w8y.cell? ⟨w7.heap.size, 8, none⟩ = some (.bool false) := G8y.cell 8
                    have e9 : w8y.cell? ⟨w7.heap.size, 9, none⟩ = some (.slice none 0 0) := G8y.cell 9
                    have e10 : w8y.cell? ⟨w7.heap.size, 10, none⟩ = some (.string ⟨#[]⟩) := G8y.cell 10
                    have fz := G8y.fz
                    refine wpAnyH_ready (rs := [18]) (by kernel_rfl) (by simp) ?_
                    refine AllReadyH.cons rfl (fun K hK => ?_) AllReadyH.nil
                    go_simp
                    refine hK.out _ _ ?_ (fun hHeld => ?_)
                    · exact G8y.sets.q.fcell
                    clear hK K
                    try simp only [Act.put, List.setIfInBounds_toArray, List.set_cons_zero, List.set_cons_succ]
                    refine wpAnyH_done (by kernel_rfl) ?_ _
                    refine NoPanic.normal ?_
                    go_wp2_with fail
                    go_meet
                    exact ⟨_, rfl, G8y.sets⟩
                · go_simp
                  refine hK.out _ _ ?_ (fun hHeld => ?_)
                  · exact Mq.fcella G6 _
                  clear hK K
                  try simp only [Act.put, List.setIfInBounds_toArray, List.set_cons_zero, List.set_cons_succ]
                  have G6y := Mq.toY G6
                  refine wpAnyH_ready (rs := [13]) (by kernel_rfl) (by simp) ?_
                  refine AllReadyH.cons rfl (fun K hK => ?_) AllReadyH.nil
                  go_simp
                  go_at_call 35
                  (with_reducible refine (KFy.out _ _ _ _ G6y (by omega)).mono ?_)
                  rintro q w7y ⟨rfl, G7y, c7y⟩
                  try go_wp2_with fail
                  refine hK.out _ _ ?_ (fun hHeld => ?_)
                  · exact c7y
                  clear hK K
                  try simp only [Act.put, List.setIfInBounds_toArray, List.set_cons_zero, List.set_cons_succ]
                  refine wpAnyH_ready (rs := [15]) (by kernel_rfl) (by simp) ?_
                  refine AllReadyH.cons rfl (fun K hK => ?_) AllReadyH.nil
                  go_simp
                  go_at_call 35
                  (with_reducible refine (KFy.out _ _ _ _ G7y (by omega)).mono ?_)
                  rintro q w8y ⟨rfl, G8y, c8y⟩
                  try go_wp2_with fail
                  refine hK.out _ _ ?_ (fun hHeld => ?_)
                  · exact c8y
                  clear hK K
                  try simp only [Act.put, List.setIfInBounds_toArray, List.set_cons_zero, List.set_cons_succ]
                  refine wpAnyH_take (v := ?vb6_16) (i := 16) rfl (by kernel_rfl) (by kernel_rfl) (by kernel_rfl) (fun _ _ _ h => h) (Or.inl ⟨by kernel_rfl, ?hyb6_16⟩) (by assumption) ?restb6_16
                  case hyb6_16 => (intro w hSw; (try dsimp only at hSw); go_simp; first | done | (with_reducible rfl))
                  try simp only [Act.put, List.setIfInBounds_toArray, List.set_cons_zero, List.set_cons_succ]
                  have e0 : w8y.cell? ⟨w6.heap.size, 0, none⟩ = some (.int .i64 0) := G8y.cell 0
                  have e1 : w8y.cell? ⟨w6.heap.size, 1, none⟩ = some (.int .i64 0) := G8y.cell 1
                  have e2 : w8y.cell? ⟨w6.heap.size, 2, none⟩ = some (.int .i64 0) := G8y.cell 2
                  have e3 : w8y.cell? ⟨w6.heap.size, 3, none⟩ = some (.int .u64 0) := G8y.cell 3
                  have e4 : w8y.cell? ⟨w6.heap.size, 4, none⟩ = some (.int .u64 0) := G8y.cell 4
                  have e5 : w8y.cell? ⟨w6.heap.size, 5, none⟩ = some (.int .u64 0) := G8y.cell 5
                  have e6 : w8y.cell? ⟨w6.heap.size, 6, none⟩ = some (.int .u64 0) := G8y.cell 6
                  have e7 : w8y.cell? ⟨w6.heap.size, 7, none⟩ = some (.int .u64 0) := G8y.cell 7
                  have e8 : w8y.cell? ⟨w6.heap.size, 8, none⟩ = some (.bool false) := G8y.cell 8
                  have e9 : w8y.cell? ⟨w6.heap.size, 9, none⟩ = some (.slice none 0 0) := G8y.cell 9
                  have e10 : w8y.cell? ⟨w6.heap.size, 10, none⟩ = some (.string ⟨#[]⟩) := G8y.cell 10
                  have fz := G8y.fz
                  refine wpAnyH_ready (rs := [18]) (by kernel_rfl) (by simp) ?_
                  refine AllReadyH.cons rfl (fun K hK => ?_) AllReadyH.nil
                  go_simp
                  refine hK.out _ _ ?_ (fun hHeld => ?_)
                  · exact G8y.sets.q.fcell
                  clear hK K
                  try simp only [Act.put, List.setIfInBounds_toArray, List.set_cons_zero, List.set_cons_succ]
                  refine wpAnyH_done (by kernel_rfl) ?_ _
                  refine NoPanic.normal ?_
                  go_wp2_with fail
                  go_meet
                  exact ⟨_, rfl, G8y.sets⟩
              · go_simp
                refine hK.out _ _ ?_ (fun hHeld => ?_)
                · exact Mq.fcella G5 _
                clear hK K
                try simp only [Act.put, List.setIfInBounds_toArray, List.set_cons_zero, List.set_cons_succ]
                have G5y := Mq.toY G5
                refine wpAnyH_ready (rs := [11]) (by kernel_rfl) (by simp) ?_
                refine AllReadyH.cons rfl (fun K hK => ?_) AllReadyH.nil
                go_simp
                go_at_call 35
                (with_reducible refine (KFy.out _ _ _ _ G5y (by omega)).mono ?_)
                rintro q w6y ⟨rfl, G6y, c6y⟩
                try go_wp2_with fail
                refine hK.out _ _ ?_ (fun hHeld => ?_)
                · exact c6y
                clear hK K
                try simp only [Act.put, List.setIfInBounds_toArray, List.set_cons_zero, List.set_cons_succ]
                refine wpAnyH_ready (rs := [13]) (by kernel_rfl) (by simp) ?_
                refine AllReadyH.cons rfl (fun K hK => ?_) AllReadyH.nil
                go_simp
                go_at_call 35
                (with_reducible refine (KFy.out _ _ _ _ G6y (by omega)).mono ?_)
                rintro q w7y ⟨rfl, G7y, c7y⟩
                try go_wp2_with fail
                refine hK.out _ _ ?_ (fun hHeld => ?_)
                · exact c7y
                clear hK K
                try simp only [Act.put, List.setIfInBounds_toArray, List.set_cons_zero, List.set_cons_succ]
                refine wpAnyH_ready (rs := [15]) (by kernel_rfl) (by simp) ?_
                refine AllReadyH.cons rfl (fun K hK => ?_) AllReadyH.nil
                go_simp
                go_at_call 35
                (with_reducible refine (KFy.out _ _ _ _ G7y (by omega)).mono ?_)
                rintro q w8y ⟨rfl, G8y, c8y⟩
                try go_wp2_with fail
                refine hK.out _ _ ?_ (fun hHeld => ?_)
                · exact c8y
                clear hK K
                try simp only [Act.put, List.setIfInBounds_toArray, List.set_cons_zero, List.set_cons_succ]
                refine wpAnyH_take (v := ?vb5_16) (i := 16) rfl (by kernel_rfl) (by kernel_rfl) (by kernel_rfl) (fun _ _ _ h => h) (Or.inl ⟨by kernel_rfl, ?hyb5_16⟩) (by assumption) ?restb5_16
                case hyb5_16 => (intro w hSw; (try dsimp only at hSw); go_simp; first | done | (with_reducible rfl))
                try simp only [Act.put, List.setIfInBounds_toArray, List.set_cons_zero, List.set_cons_succ]
                have e0 : w8y.cell? ⟨w5.heap.size, 0, none⟩ = some (.int .i64 0) := G8y.cell 0
                have e1 : w8y.cell? ⟨w5.heap.size, 1, none⟩ = some (.int .i64 0) := G8y.cell 1
                have e2 : w8y.cell? ⟨w5.heap.size, 2, none⟩ = some (.int .i64 0) := G8y.cell 2
                have e3 : w8y.cell? ⟨w5.heap.size, 3, none⟩ = some (.int .u64 0) := G8y.cell 3
                have e4 : w8y.cell? ⟨w5.heap.size, 4, none⟩ = some (.int .u64 0) := G8y.cell 4
                have e5 : w8y.cell? ⟨w5.heap.size, 5, none⟩ = some (.int .u64 0) := G8y.cell 5
                have e6 : w8y.cell? ⟨w5.heap.size, 6, none⟩ = some (.int .u64 0) := G8y.cell 6
                have e7 : w8y.cell? ⟨w5.heap.size, 7, none⟩ = some (.int .u64 0) := G8y.cell 7
                have e8 : w8y.cell? ⟨w5.heap.size, 8, none⟩ = some (.bool false) := G8y.cell 8
                have e9 : w8y.cell? ⟨w5.heap.size, 9, none⟩ = some (.slice none 0 0) := G8y.cell 9
                have e10 : w8y.cell? ⟨w5.heap.size, 10, none⟩ = some (.string ⟨#[]⟩) := G8y.cell 10
                have fz := G8y.fz
                refine wpAnyH_ready (rs := [18]) (by kernel_rfl) (by simp) ?_
                refine AllReadyH.cons rfl (fun K hK => ?_) AllReadyH.nil
                go_simp
                refine hK.out _ _ ?_ (fun hHeld => ?_)
                · exact G8y.sets.q.fcell
                clear hK K
                try simp only [Act.put, List.setIfInBounds_toArray, List.set_cons_zero, List.set_cons_succ]
                refine wpAnyH_done (by kernel_rfl) ?_ _
                refine NoPanic.normal ?_
                go_wp2_with fail
                go_meet
                exact ⟨_, rfl, G8y.sets⟩
            · go_simp
              refine hK.out _ _ ?_ (fun hHeld => ?_)
              · exact Mq.fcella G4 _
              clear hK K
              try simp only [Act.put, List.setIfInBounds_toArray, List.set_cons_zero, List.set_cons_succ]
              have G4y := Mq.toY G4
              refine wpAnyH_ready (rs := [9]) (by kernel_rfl) (by simp) ?_
              refine AllReadyH.cons rfl (fun K hK => ?_) AllReadyH.nil
              go_simp
              go_at_call 35
              (with_reducible refine (KFy.out _ _ _ _ G4y (by omega)).mono ?_)
              rintro q w5y ⟨rfl, G5y, c5y⟩
              try go_wp2_with fail
              refine hK.out _ _ ?_ (fun hHeld => ?_)
              · exact c5y
              clear hK K
              try simp only [Act.put, List.setIfInBounds_toArray, List.set_cons_zero, List.set_cons_succ]
              refine wpAnyH_ready (rs := [11]) (by kernel_rfl) (by simp) ?_
              refine AllReadyH.cons rfl (fun K hK => ?_) AllReadyH.nil
              go_simp
              go_at_call 35
              (with_reducible refine (KFy.out _ _ _ _ G5y (by omega)).mono ?_)
              rintro q w6y ⟨rfl, G6y, c6y⟩
              try go_wp2_with fail
              refine hK.out _ _ ?_ (fun hHeld => ?_)
              · exact c6y
              clear hK K
              try simp only [Act.put, List.setIfInBounds_toArray, List.set_cons_zero, List.set_cons_succ]
              refine wpAnyH_ready (rs := [13]) (by kernel_rfl) (by simp) ?_
              refine AllReadyH.cons rfl (fun K hK => ?_) AllReadyH.nil
              go_simp
              go_at_call 35
              (with_reducible refine (KFy.out _ _ _ _ G6y (by omega)).mono ?_)
              rintro q w7y ⟨rfl, G7y, c7y⟩
              try go_wp2_with fail
              refine hK.out _ _ ?_ (fun hHeld => ?_)
              · exact c7y
              clear hK K
              try simp only [Act.put, List.setIfInBounds_toArray, List.set_cons_zero, List.set_cons_succ]
              refine wpAnyH_ready (rs := [15]) (by kernel_rfl) (by simp) ?_
              refine AllReadyH.cons rfl (fun K hK => ?_) AllReadyH.nil
              go_simp
              go_at_call 35
              (with_reducible refine (KFy.out _ _ _ _ G7y (by omega)).mono ?_)
              rintro q w8y ⟨rfl, G8y, c8y⟩
              try go_wp2_with fail
              refine hK.out _ _ ?_ (fun hHeld => ?_)
              · exact c8y
              clear hK K
              try simp only [Act.put, List.setIfInBounds_toArray, List.set_cons_zero, List.set_cons_succ]
              refine wpAnyH_take (v := ?vb4_16) (i := 16) rfl (by kernel_rfl) (by kernel_rfl) (by kernel_rfl) (fun _ _ _ h => h) (Or.inl ⟨by kernel_rfl, ?hyb4_16⟩) (by assumption) ?restb4_16
              case hyb4_16 => (intro w hSw; (try dsimp only at hSw); go_simp; first | done | (with_reducible rfl))
              try simp only [Act.put, List.setIfInBounds_toArray, List.set_cons_zero, List.set_cons_succ]
              have e0 : w8y.cell? ⟨w4.heap.size, 0, none⟩ = some (.int .i64 0) := G8y.cell 0
              have e1 : w8y.cell? ⟨w4.heap.size, 1, none⟩ = some (.int .i64 0) := G8y.cell 1
              have e2 : w8y.cell? ⟨w4.heap.size, 2, none⟩ = some (.int .i64 0) := G8y.cell 2
              have e3 : w8y.cell? ⟨w4.heap.size, 3, none⟩ = some (.int .u64 0) := G8y.cell 3
              have e4 : w8y.cell? ⟨w4.heap.size, 4, none⟩ = some (.int .u64 0) := G8y.cell 4
              have e5 : w8y.cell? ⟨w4.heap.size, 5, none⟩ = some (.int .u64 0) := G8y.cell 5
              have e6 : w8y.cell? ⟨w4.heap.size, 6, none⟩ = some (.int .u64 0) := G8y.cell 6
              have e7 : w8y.cell? ⟨w4.heap.size, 7, none⟩ = some (.int .u64 0) := G8y.cell 7
              have e8 : w8y.cell? ⟨w4.heap.size, 8, none⟩ = some (.bool false) := G8y.cell 8
              have e9 : w8y.cell? ⟨w4.heap.size, 9, none⟩ = some (.slice none 0 0) := G8y.cell 9
              have e10 : w8y.cell? ⟨w4.heap.size, 10, none⟩ = some (.string ⟨#[]⟩) := G8y.cell 10
              have fz := G8y.fz
              refine wpAnyH_ready (rs := [18]) (by kernel_rfl) (by simp) ?_
              refine AllReadyH.cons rfl (fun K hK => ?_) AllReadyH.nil
              go_simp
              refine hK.out _ _ ?_ (fun hHeld => ?_)
              · exact G8y.sets.q.fcell
              clear hK K
              try simp only [Act.put, List.setIfInBounds_toArray, List.set_cons_zero, List.set_cons_succ]
              refine wpAnyH_done (by kernel_rfl) ?_ _
              refine NoPanic.normal ?_
              go_wp2_with fail
              go_meet
              exact ⟨_, rfl, G8y.sets⟩
          · go_simp
            refine hK.out _ _ ?_ (fun hHeld => ?_)
            · exact Mq.fcella G3 _
            clear hK K
            try simp only [Act.put, List.setIfInBounds_toArray, List.set_cons_zero, List.set_cons_succ]
            have G3y := Mq.toY G3
            refine wpAnyH_ready (rs := [7]) (by kernel_rfl) (by simp) ?_
            refine AllReadyH.cons rfl (fun K hK => ?_) AllReadyH.nil
            go_simp
            go_at_call 35
            (with_reducible refine (KFy.out _ _ _ _ G3y (by omega)).mono ?_)
            rintro q w4y ⟨rfl, G4y, c4y⟩
            try go_wp2_with fail
            refine hK.out _ _ ?_ (fun hHeld => ?_)
            · exact c4y
            clear hK K
            try simp only [Act.put, List.setIfInBounds_toArray, List.set_cons_zero, List.set_cons_succ]
            refine wpAnyH_ready (rs := [9]) (by kernel_rfl) (by simp) ?_
            refine AllReadyH.cons rfl (fun K hK => ?_) AllReadyH.nil
            go_simp
            go_at_call 35
            (with_reducible refine (KFy.out _ _ _ _ G4y (by omega)).mono ?_)
            rintro q w5y ⟨rfl, G5y, c5y⟩
            try go_wp2_with fail
            refine hK.out _ _ ?_ (fun hHeld => ?_)
            · exact c5y
            clear hK K
            try simp only [Act.put, List.setIfInBounds_toArray, List.set_cons_zero, List.set_cons_succ]
            refine wpAnyH_ready (rs := [11]) (by kernel_rfl) (by simp) ?_
            refine AllReadyH.cons rfl (fun K hK => ?_) AllReadyH.nil
            go_simp
            go_at_call 35
            (with_reducible refine (KFy.out _ _ _ _ G5y (by omega)).mono ?_)
            rintro q w6y ⟨rfl, G6y, c6y⟩
            try go_wp2_with fail
            refine hK.out _ _ ?_ (fun hHeld => ?_)
            · exact c6y
            clear hK K
            try simp only [Act.put, List.setIfInBounds_toArray, List.set_cons_zero, List.set_cons_succ]
            refine wpAnyH_ready (rs := [13]) (by kernel_rfl) (by simp) ?_
            refine AllReadyH.cons rfl (fun K hK => ?_) AllReadyH.nil
            go_simp
            go_at_call 35
            (with_reducible refine (KFy.out _ _ _ _ G6y (by omega)).mono ?_)
            rintro q w7y ⟨rfl, G7y, c7y⟩
            try go_wp2_with fail
            refine hK.out _ _ ?_ (fun hHeld => ?_)
            · exact c7y
            clear hK K
            try simp only [Act.put, List.setIfInBounds_toArray, List.set_cons_zero, List.set_cons_succ]
            refine wpAnyH_ready (rs := [15]) (by kernel_rfl) (by simp) ?_
            refine AllReadyH.cons rfl (fun K hK => ?_) AllReadyH.nil
            go_simp
            go_at_call 35
            (with_reducible refine (KFy.out _ _ _ _ G7y (by omega)).mono ?_)
            rintro q w8y ⟨rfl, G8y, c8y⟩
            try go_wp2_with fail
            refine hK.out _ _ ?_ (fun hHeld => ?_)
            · exact c8y
            clear hK K
            try simp only [Act.put, List.setIfInBounds_toArray, List.set_cons_zero, List.set_cons_succ]
            refine wpAnyH_take (v := ?vb3_16) (i := 16) rfl (by kernel_rfl) (by kernel_rfl) (by kernel_rfl) (fun _ _ _ h => h) (Or.inl ⟨by kernel_rfl, ?hyb3_16⟩) (by assumption) ?restb3_16
            case hyb3_16 => (intro w hSw; (try dsimp only at hSw); go_simp; first | done | (with_reducible rfl))
            try simp only [Act.put, List.setIfInBounds_toArray, List.set_cons_zero, List.set_cons_succ]
            have e0 : w8y.cell? ⟨w3.heap.size, 0, none⟩ = some (.int .i64 0) := G8y.cell 0
            have e1 : w8y.cell? ⟨w3.heap.size, 1, none⟩ = some (.int .i64 0) := G8y.cell 1
            have e2 : w8y.cell? ⟨w3.heap.size, 2, none⟩ = some (.int .i64 0) := G8y.cell 2
            have e3 : w8y.cell? ⟨w3.heap.size, 3, none⟩ = some (.int .u64 0) := G8y.cell 3
            have e4 : w8y.cell? ⟨w3.heap.size, 4, none⟩ = some (.int .u64 0) := G8y.cell 4
            have e5 : w8y.cell? ⟨w3.heap.size, 5, none⟩ = some (.int .u64 0) := G8y.cell 5
            have e6 : w8y.cell? ⟨w3.heap.size, 6, none⟩ = some (.int .u64 0) := G8y.cell 6
            have e7 : w8y.cell? ⟨w3.heap.size, 7, none⟩ = some (.int .u64 0) := G8y.cell 7
            have e8 : w8y.cell? ⟨w3.heap.size, 8, none⟩ = some (.bool false) := G8y.cell 8
            have e9 : w8y.cell? ⟨w3.heap.size, 9, none⟩ = some (.slice none 0 0) := G8y.cell 9
            have e10 : w8y.cell? ⟨w3.heap.size, 10, none⟩ = some (.string ⟨#[]⟩) := G8y.cell 10
            have fz := G8y.fz
            refine wpAnyH_ready (rs := [18]) (by kernel_rfl) (by simp) ?_
            refine AllReadyH.cons rfl (fun K hK => ?_) AllReadyH.nil
            go_simp
            refine hK.out _ _ ?_ (fun hHeld => ?_)
            · exact G8y.sets.q.fcell
            clear hK K
            try simp only [Act.put, List.setIfInBounds_toArray, List.set_cons_zero, List.set_cons_succ]
            refine wpAnyH_done (by kernel_rfl) ?_ _
            refine NoPanic.normal ?_
            go_wp2_with fail
            go_meet
            exact ⟨_, rfl, G8y.sets⟩
        · go_simp
          refine hK.out _ _ ?_ (fun hHeld => ?_)
          · exact Mq.fcella G2 _
          clear hK K
          try simp only [Act.put, List.setIfInBounds_toArray, List.set_cons_zero, List.set_cons_succ]
          have G2y := Mq.toY G2
          refine wpAnyH_ready (rs := [5]) (by kernel_rfl) (by simp) ?_
          refine AllReadyH.cons rfl (fun K hK => ?_) AllReadyH.nil
          go_simp
          go_at_call 64
          (with_reducible refine (KSy.out _ _ _ G2y).mono ?_)
          rintro q w3y ⟨rfl, G3y, c3y⟩
          try go_wp2_with fail
          refine hK.out _ _ ?_ (fun hHeld => ?_)
          · exact c3y
          clear hK K
          try simp only [Act.put, List.setIfInBounds_toArray, List.set_cons_zero, List.set_cons_succ]
          refine wpAnyH_ready (rs := [7]) (by kernel_rfl) (by simp) ?_
          refine AllReadyH.cons rfl (fun K hK => ?_) AllReadyH.nil
          go_simp
          go_at_call 35
          (with_reducible refine (KFy.out _ _ _ _ G3y (by omega)).mono ?_)
          rintro q w4y ⟨rfl, G4y, c4y⟩
          try go_wp2_with fail
          refine hK.out _ _ ?_ (fun hHeld => ?_)
          · exact c4y
          clear hK K
          try simp only [Act.put, List.setIfInBounds_toArray, List.set_cons_zero, List.set_cons_succ]
          refine wpAnyH_ready (rs := [9]) (by kernel_rfl) (by simp) ?_
          refine AllReadyH.cons rfl (fun K hK => ?_) AllReadyH.nil
          go_simp
          go_at_call 35
          (with_reducible refine (KFy.out _ _ _ _ G4y (by omega)).mono ?_)
          rintro q w5y ⟨rfl, G5y, c5y⟩
          try go_wp2_with fail
          refine hK.out _ _ ?_ (fun hHeld => ?_)
          · exact c5y
          clear hK K
          try simp only [Act.put, List.setIfInBounds_toArray, List.set_cons_zero, List.set_cons_succ]
          refine wpAnyH_ready (rs := [11]) (by kernel_rfl) (by simp) ?_
          refine AllReadyH.cons rfl (fun K hK => ?_) AllReadyH.nil
          go_simp
          go_at_call 35
          (with_reducible refine (KFy.out _ _ _ _ G5y (by omega)).mono ?_)
          rintro q w6y ⟨rfl, G6y, c6y⟩
          try go_wp2_with fail
          refine hK.out _ _ ?_ (fun hHeld => ?_)
          · exact c6y
          clear hK K
          try simp only [Act.put, List.setIfInBounds_toArray, List.set_cons_zero, List.set_cons_succ]
          refine wpAnyH_ready (rs := [13]) (by kernel_rfl) (by simp) ?_
          refine AllReadyH.cons rfl (fun K hK => ?_) AllReadyH.nil
          go_simp
          go_at_call 35
          (with_reducible refine (KFy.out _ _ _ _ G6y (by omega)).mono ?_)
          rintro q w7y ⟨rfl, G7y, c7y⟩
          try go_wp2_with fail
          refine hK.out _ _ ?_ (fun hHeld => ?_)
          · exact c7y
          clear hK K
          try simp only [Act.put, List.setIfInBounds_toArray, List.set_cons_zero, List.set_cons_succ]
          refine wpAnyH_ready (rs := [15]) (by kernel_rfl) (by simp) ?_
          refine AllReadyH.cons rfl (fun K hK => ?_) AllReadyH.nil
          go_simp
          go_at_call 35
          (with_reducible refine (KFy.out _ _ _ _ G7y (by omega)).mono ?_)
          rintro q w8y ⟨rfl, G8y, c8y⟩
          try go_wp2_with fail
          refine hK.out _ _ ?_ (fun hHeld => ?_)
          · exact c8y
          clear hK K
          try simp only [Act.put, List.setIfInBounds_toArray, List.set_cons_zero, List.set_cons_succ]
          refine wpAnyH_take (v := ?vb2_16) (i := 16) rfl (by kernel_rfl) (by kernel_rfl) (by kernel_rfl) (fun _ _ _ h => h) (Or.inl ⟨by kernel_rfl, ?hyb2_16⟩) (by assumption) ?restb2_16
          case hyb2_16 => (intro w hSw; (try dsimp only at hSw); go_simp; first | done | (with_reducible rfl))
          try simp only [Act.put, List.setIfInBounds_toArray, List.set_cons_zero, List.set_cons_succ]
          have e0 : w8y.cell? ⟨w2.heap.size, 0, none⟩ = some (.int .i64 0) := G8y.cell 0
          have e1 : w8y.cell? ⟨w2.heap.size, 1, none⟩ = some (.int .i64 0) := G8y.cell 1
          have e2 : w8y.cell? ⟨w2.heap.size, 2, none⟩ = some (.int .i64 0) := G8y.cell 2
          have e3 : w8y.cell? ⟨w2.heap.size, 3, none⟩ = some (.int .u64 0) := G8y.cell 3
          have e4 : w8y.cell? ⟨w2.heap.size, 4, none⟩ = some (.int .u64 0) := G8y.cell 4
          have e5 : w8y.cell? ⟨w2.heap.size, 5, none⟩ = some (.int .u64 0) := G8y.cell 5
          have e6 : w8y.cell? ⟨w2.heap.size, 6, none⟩ = some (.int .u64 0) := G8y.cell 6
          have e7 : w8y.cell? ⟨w2.heap.size, 7, none⟩ = some (.int .u64 0) := G8y.cell 7
          have e8 : w8y.cell? ⟨w2.heap.size, 8, none⟩ = some (.bool false) := G8y.cell 8
          have e9 : w8y.cell? ⟨w2.heap.size, 9, none⟩ = some (.slice none 0 0) := G8y.cell 9
          have e10 : w8y.cell? ⟨w2.heap.size, 10, none⟩ = some (.string ⟨#[]⟩) := G8y.cell 10
          have fz := G8y.fz
          refine wpAnyH_ready (rs := [18]) (by kernel_rfl) (by simp) ?_
          refine AllReadyH.cons rfl (fun K hK => ?_) AllReadyH.nil
          go_simp
          refine hK.out _ _ ?_ (fun hHeld => ?_)
          · exact G8y.sets.q.fcell
          clear hK K
          try simp only [Act.put, List.setIfInBounds_toArray, List.set_cons_zero, List.set_cons_succ]
          refine wpAnyH_done (by kernel_rfl) ?_ _
          refine NoPanic.normal ?_
          go_wp2_with fail
          go_meet
          exact ⟨_, rfl, G8y.sets⟩
      · go_simp
        refine hK.out _ _ ?_ (fun hHeld => ?_)
        · exact Mq.fcella G1 _
        clear hK K
        try simp only [Act.put, List.setIfInBounds_toArray, List.set_cons_zero, List.set_cons_succ]
        have G1y := Mq.toY G1
        refine wpAnyH_ready (rs := [3]) (by kernel_rfl) (by simp) ?_
        refine AllReadyH.cons rfl (fun K hK => ?_) AllReadyH.nil
        go_simp
        go_at_call 64
        (with_reducible refine (KSy.out _ _ _ G1y).mono ?_)
        rintro q w2y ⟨rfl, G2y, c2y⟩
        try go_wp2_with fail
        refine hK.out _ _ ?_ (fun hHeld => ?_)
        · exact c2y
        clear hK K
        try simp only [Act.put, List.setIfInBounds_toArray, List.set_cons_zero, List.set_cons_succ]
        refine wpAnyH_ready (rs := [5]) (by kernel_rfl) (by simp) ?_
        refine AllReadyH.cons rfl (fun K hK => ?_) AllReadyH.nil
        go_simp
        go_at_call 64
        (with_reducible refine (KSy.out _ _ _ G2y).mono ?_)
        rintro q w3y ⟨rfl, G3y, c3y⟩
        try go_wp2_with fail
        refine hK.out _ _ ?_ (fun hHeld => ?_)
        · exact c3y
        clear hK K
        try simp only [Act.put, List.setIfInBounds_toArray, List.set_cons_zero, List.set_cons_succ]
        refine wpAnyH_ready (rs := [7]) (by kernel_rfl) (by simp) ?_
        refine AllReadyH.cons rfl (fun K hK => ?_) AllReadyH.nil
        go_simp
        go_at_call 35
        (with_reducible refine (KFy.out _ _ _ _ G3y (by omega)).mono ?_)
        rintro q w4y ⟨rfl, G4y, c4y⟩
        try go_wp2_with fail
        refine hK.out _ _ ?_ (fun hHeld => ?_)
        · exact c4y
        clear hK K
        try simp only [Act.put, List.setIfInBounds_toArray, List.set_cons_zero, List.set_cons_succ]
        refine wpAnyH_ready (rs := [9]) (by kernel_rfl) (by simp) ?_
        refine AllReadyH.cons rfl (fun K hK => ?_) AllReadyH.nil
        go_simp
        go_at_call 35
        (with_reducible refine (KFy.out _ _ _ _ G4y (by omega)).mono ?_)
        rintro q w5y ⟨rfl, G5y, c5y⟩
        try go_wp2_with fail
        refine hK.out _ _ ?_ (fun hHeld => ?_)
        · exact c5y
        clear hK K
        try simp only [Act.put, List.setIfInBounds_toArray, List.set_cons_zero, List.set_cons_succ]
        refine wpAnyH_ready (rs := [11]) (by kernel_rfl) (by simp) ?_
        refine AllReadyH.cons rfl (fun K hK => ?_) AllReadyH.nil
        go_simp
        go_at_call 35
        (with_reducible refine (KFy.out _ _ _ _ G5y (by omega)).mono ?_)
        rintro q w6y ⟨rfl, G6y, c6y⟩
        try go_wp2_with fail
        refine hK.out _ _ ?_ (fun hHeld => ?_)
        · exact c6y
        clear hK K
        try simp only [Act.put, List.setIfInBounds_toArray, List.set_cons_zero, List.set_cons_succ]
        refine wpAnyH_ready (rs := [13]) (by kernel_rfl) (by simp) ?_
        refine AllReadyH.cons rfl (fun K hK => ?_) AllReadyH.nil
        go_simp
        go_at_call 35
        (with_reducible refine (KFy.out _ _ _ _ G6y (by omega)).mono ?_)
        rintro q w7y ⟨rfl, G7y, c7y⟩
        try go_wp2_with fail
        refine hK.out _ _ ?_ (fun hHeld => ?_)
        · exact c7y
        clear hK K
        try simp only [Act.put, List.setIfInBounds_toArray, List.set_cons_zero, List.set_cons_succ]
        refine wpAnyH_ready (rs := [15]) (by kernel_rfl) (by simp) ?_
        refine AllReadyH.cons rfl (fun K hK => ?_) AllReadyH.nil
        go_simp
        go_at_call 35
        (with_reducible refine (KFy.out _ _ _ _ G7y (by omega)).mono ?_)
        rintro q w8y ⟨rfl, G8y, c8y⟩
        try go_wp2_with fail
        refine hK.out _ _ ?_ (fun hHeld => ?_)
        · exact c8y
        clear hK K
        try simp only [Act.put, List.setIfInBounds_toArray, List.set_cons_zero, List.set_cons_succ]
        refine wpAnyH_take (v := ?vb1_16) (i := 16) rfl (by kernel_rfl) (by kernel_rfl) (by kernel_rfl) (fun _ _ _ h => h) (Or.inl ⟨by kernel_rfl, ?hyb1_16⟩) (by assumption) ?restb1_16
        case hyb1_16 => (intro w hSw; (try dsimp only at hSw); go_simp; first | done | (with_reducible rfl))
        try simp only [Act.put, List.setIfInBounds_toArray, List.set_cons_zero, List.set_cons_succ]
        have e0 : w8y.cell? ⟨w1.heap.size, 0, none⟩ = some (.int .i64 0) := G8y.cell 0
        have e1 : w8y.cell? ⟨w1.heap.size, 1, none⟩ = some (.int .i64 0) := G8y.cell 1
        have e2 : w8y.cell? ⟨w1.heap.size, 2, none⟩ = some (.int .i64 0) := G8y.cell 2
        have e3 : w8y.cell? ⟨w1.heap.size, 3, none⟩ = some (.int .u64 0) := G8y.cell 3
        have e4 : w8y.cell? ⟨w1.heap.size, 4, none⟩ = some (.int .u64 0) := G8y.cell 4
        have e5 : w8y.cell? ⟨w1.heap.size, 5, none⟩ = some (.int .u64 0) := G8y.cell 5
        have e6 : w8y.cell? ⟨w1.heap.size, 6, none⟩ = some (.int .u64 0) := G8y.cell 6
        have e7 : w8y.cell? ⟨w1.heap.size, 7, none⟩ = some (.int .u64 0) := G8y.cell 7
        have e8 : w8y.cell? ⟨w1.heap.size, 8, none⟩ = some (.bool false) := G8y.cell 8
        have e9 : w8y.cell? ⟨w1.heap.size, 9, none⟩ = some (.slice none 0 0) := G8y.cell 9
        have e10 : w8y.cell? ⟨w1.heap.size, 10, none⟩ = some (.string ⟨#[]⟩) := G8y.cell 10
        have fz := G8y.fz
        refine wpAnyH_ready (rs := [18]) (by kernel_rfl) (by simp) ?_
        refine AllReadyH.cons rfl (fun K hK => ?_) AllReadyH.nil
        go_simp
        refine hK.out _ _ ?_ (fun hHeld => ?_)
        · exact G8y.sets.q.fcell
        clear hK K
        try simp only [Act.put, List.setIfInBounds_toArray, List.set_cons_zero, List.set_cons_succ]
        refine wpAnyH_done (by kernel_rfl) ?_ _
        refine NoPanic.normal ?_
        go_wp2_with fail
        go_meet
        exact ⟨_, rfl, G8y.sets⟩
    · go_simp
      refine hK.out _ _ ?_ (fun hHeld => ?_)
      · exact Mq.fcella G0 _
      clear hK K
      try simp only [Act.put, List.setIfInBounds_toArray, List.set_cons_zero, List.set_cons_succ]
      have G0y := (Mq.toY Gi).drew
      refine wpAnyH_ready (rs := [1]) (by kernel_rfl) (by simp) ?_
      refine AllReadyH.cons rfl (fun K hK => ?_) AllReadyH.nil
      go_simp
      go_at_call 64
      (with_reducible refine (KSy.out _ _ _ G0y).mono ?_)
      rintro q w1y ⟨rfl, G1y, c1y⟩
      try go_wp2_with fail
      refine hK.out _ _ ?_ (fun hHeld => ?_)
      · exact c1y
      clear hK K
      try simp only [Act.put, List.setIfInBounds_toArray, List.set_cons_zero, List.set_cons_succ]
      refine wpAnyH_ready (rs := [3]) (by kernel_rfl) (by simp) ?_
      refine AllReadyH.cons rfl (fun K hK => ?_) AllReadyH.nil
      go_simp
      go_at_call 64
      (with_reducible refine (KSy.out _ _ _ G1y).mono ?_)
      rintro q w2y ⟨rfl, G2y, c2y⟩
      try go_wp2_with fail
      refine hK.out _ _ ?_ (fun hHeld => ?_)
      · exact c2y
      clear hK K
      try simp only [Act.put, List.setIfInBounds_toArray, List.set_cons_zero, List.set_cons_succ]
      refine wpAnyH_ready (rs := [5]) (by kernel_rfl) (by simp) ?_
      refine AllReadyH.cons rfl (fun K hK => ?_) AllReadyH.nil
      go_simp
      go_at_call 64
      (with_reducible refine (KSy.out _ _ _ G2y).mono ?_)
      rintro q w3y ⟨rfl, G3y, c3y⟩
      try go_wp2_with fail
      refine hK.out _ _ ?_ (fun hHeld => ?_)
      · exact c3y
      clear hK K
      try simp only [Act.put, List.setIfInBounds_toArray, List.set_cons_zero, List.set_cons_succ]
      refine wpAnyH_ready (rs := [7]) (by kernel_rfl) (by simp) ?_
      refine AllReadyH.cons rfl (fun K hK => ?_) AllReadyH.nil
      go_simp
      go_at_call 35
      (with_reducible refine (KFy.out _ _ _ _ G3y (by omega)).mono ?_)
      rintro q w4y ⟨rfl, G4y, c4y⟩
      try go_wp2_with fail
      refine hK.out _ _ ?_ (fun hHeld => ?_)
      · exact c4y
      clear hK K
      try simp only [Act.put, List.setIfInBounds_toArray, List.set_cons_zero, List.set_cons_succ]
      refine wpAnyH_ready (rs := [9]) (by kernel_rfl) (by simp) ?_
      refine AllReadyH.cons rfl (fun K hK => ?_) AllReadyH.nil
      go_simp
      go_at_call 35
      (with_reducible refine (KFy.out _ _ _ _ G4y (by omega)).mono ?_)
      rintro q w5y ⟨rfl, G5y, c5y⟩
      try go_wp2_with fail
      refine hK.out _ _ ?_ (fun hHeld => ?_)
      · exact c5y
      clear hK K
      try simp only [Act.put, List.setIfInBounds_toArray, List.set_cons_zero, List.set_cons_succ]
      refine wpAnyH_ready (rs := [11]) (by kernel_rfl) (by simp) ?_
      refine AllReadyH.cons rfl (fun K hK => ?_) AllReadyH.nil
      go_simp
      go_at_call 35
      (with_reducible refine (KFy.out _ _ _ _ G5y (by omega)).mono ?_)
      rintro q w6y ⟨rfl, G6y, c6y⟩
      try go_wp2_with fail
      refine hK.out _ _ ?_ (fun hHeld => ?_)
      · exact c6y
      clear hK K
      try simp only [Act.put, List.setIfInBounds_toArray, List.set_cons_zero, List.set_cons_succ]
      refine wpAnyH_ready (rs := [13]) (by kernel_rfl) (by simp) ?_
      refine AllReadyH.cons rfl (fun K hK => ?_) AllReadyH.nil
      go_simp
      go_at_call 35
      (with_reducible refine (KFy.out _ _ _ _ G6y (by omega)).mono ?_)
      rintro q w7y ⟨rfl, G7y, c7y⟩
      try go_wp2_with fail
      refine hK.out _ _ ?_ (fun hHeld => ?_)
      · exact c7y
      clear hK K
      try simp only [Act.put, List.setIfInBounds_toArray, List.set_cons_zero, List.set_cons_succ]
      refine wpAnyH_ready (rs := [15]) (by kernel_rfl) (by simp) ?_
      refine AllReadyH.cons rfl (fun K hK => ?_) AllReadyH.nil
      go_simp
      go_at_call 35
      (with_reducible refine (KFy.out _ _ _ _ G7y (by omega)).mono ?_)
      rintro q w8y ⟨rfl, G8y, c8y⟩
      try go_wp2_with fail
      refine hK.out _ _ ?_ (fun hHeld => ?_)
      · exact c8y
      clear hK K
      try simp only [Act.put, List.setIfInBounds_toArray, List.set_cons_zero, List.set_cons_succ]
      refine wpAnyH_take (v := ?vb0_16) (i := 16) rfl (by kernel_rfl) (by kernel_rfl) (by kernel_rfl) (fun _ _ _ h => h) (Or.inl ⟨by kernel_rfl, ?hyb0_16⟩) (by assumption) ?restb0_16
      case hyb0_16 => (intro w hSw; (try dsimp only at hSw); go_simp; first | done | (with_reducible rfl))
      try simp only [Act.put, List.setIfInBounds_toArray, List.set_cons_zero, List.set_cons_succ]
      have e0 : w8y.cell? ⟨W0.heap.size, 0, none⟩ = some (.int .i64 0) := G8y.cell 0
      have e1 : w8y.cell? ⟨W0.heap.size, 1, none⟩ = some (.int .i64 0) := G8y.cell 1
      have e2 : w8y.cell? ⟨W0.heap.size, 2, none⟩ = some (.int .i64 0) := G8y.cell 2
      have e3 : w8y.cell? ⟨W0.heap.size, 3, none⟩ = some (.int .u64 0) := G8y.cell 3
      have e4 : w8y.cell? ⟨W0.heap.size, 4, none⟩ = some (.int .u64 0) := G8y.cell 4
      have e5 : w8y.cell? ⟨W0.heap.size, 5, none⟩ = some (.int .u64 0) := G8y.cell 5
      have e6 : w8y.cell? ⟨W0.heap.size, 6, none⟩ = some (.int .u64 0) := G8y.cell 6
      have e7 : w8y.cell? ⟨W0.heap.size, 7, none⟩ = some (.int .u64 0) := G8y.cell 7
      have e8 : w8y.cell? ⟨W0.heap.size, 8, none⟩ = some (.bool false) := G8y.cell 8
      have e9 : w8y.cell? ⟨W0.heap.size, 9, none⟩ = some (.slice none 0 0) := G8y.cell 9
      have e10 : w8y.cell? ⟨W0.heap.size, 10, none⟩ = some (.string ⟨#[]⟩) := G8y.cell 10
      have fz := G8y.fz
      refine wpAnyH_ready (rs := [18]) (by kernel_rfl) (by simp) ?_
      refine AllReadyH.cons rfl (fun K hK => ?_) AllReadyH.nil
      go_simp
      refine hK.out _ _ ?_ (fun hHeld => ?_)
      · exact G8y.sets.q.fcell
      clear hK K
      try simp only [Act.put, List.setIfInBounds_toArray, List.set_cons_zero, List.set_cons_succ]
      refine wpAnyH_done (by kernel_rfl) ?_ _
      refine NoPanic.normal ?_
      go_wp2_with fail
      go_meet
      exact ⟨_, rfl, G8y.sets⟩
  case rest =>
    obtain ⟨p, rfl, G⟩ := hcut
    clear hmf G0 HW0 KS KF Gd c0
    have hlg := G.q.lg
    go_upto_region 9 with (first
      | (go_at_call 64; (with_reducible refine (KSy.out _ _ _ G).mono ?_); rintro q w1 ⟨rfl, G1, _⟩; have u8 : w1.cell? ⟨p, 8, none⟩ = some (.bool false) := G1.cell 8; have fz8 := G1.fz 8; have G2 : My w g p true (w1.setCell ⟨p, 8, none⟩ (.bool false)) := G1.set 8 _ rfl)
      | (go_at_call 63; (with_reducible refine (bit63 _).mono ?_); rintro q w2 ⟨rfl, rfl⟩)
      | (go_at_call 64; (with_reducible refine (KSy.out _ _ _ G2).mono ?_); rintro q w3 ⟨rfl, G3, _⟩))
    have c3 := G3.q.fcell
    clear G G1 G2 u8 fz8 KSy
    go_loop [44] (fun i => i = .int .i64 0) (fun _ => 0)
    case atStart => rfl
    case round =>
      subst hrel
      go_upto_region 13 with (first
        | (go_at_call 35; (with_reducible refine (KFy.out _ _ _ _ G3 (by omega)).mono ?_); rintro q w4 ⟨rfl, G4, c4⟩)
        | (go_at_call 36; (with_reducible refine (KBy.out _ _ _ G4).mono ?_); rintro q w5 ⟨rfl, G5, _⟩; have u10 : w5.cell? ⟨p, 10, none⟩ = some (.string ⟨#[]⟩) := G5.cell 10; have fz10 := G5.fz 10))
      have G6 : My w g p true (w5.setCell ⟨p, 10, none⟩ (.string ⟨#[]⟩)) := G5.set 10 _ rfl
      obtain ⟨W6, hW6⟩ : ∃ W6, W6 = w5.setCell ⟨p, 10, none⟩ (.string ⟨#[]⟩) := ⟨_, rfl⟩
      rw [← hW6] at G6 ⊢
      clear hW6 G3 G4 G5 c3 c4 u10 fz10 KFy KBy
      have p0 : W6.cell? ⟨p, 0, none⟩ = some (.int .i64 0) := G6.cell 0
      have z0 : W6.cell? ⟨w.heap.size, 0, none⟩ = some (.int .i64 0) := cell_of_row W6 _ 0 _ 44 (0, 0) G6.q.res
      have p1 : W6.cell? ⟨p, 1, none⟩ = some (.int .i64 0) := G6.cell 1
      have z1 : W6.cell? ⟨w.heap.size, 1, none⟩ = some (.int .i64 0) := cell_of_row W6 _ 1 _ 44 (0, 0) G6.q.res
      have p2 : W6.cell? ⟨p, 2, none⟩ = some (.int .i64 0) := G6.cell 2
      have z2 : W6.cell? ⟨w.heap.size, 2, none⟩ = some (.int .i64 0) := cell_of_row W6 _ 2 _ 44 (0, 0) G6.q.res
      have p3 : W6.cell? ⟨p, 3, none⟩ = some (.int .u64 0) := G6.cell 3
      have z3 : W6.cell? ⟨w.heap.size, 3, none⟩ = some (.int .u64 0) := cell_of_row W6 _ 3 _ 44 (0, 0) G6.q.res
      have p4 : W6.cell? ⟨p, 4, none⟩ = some (.int .u64 0) := G6.cell 4
      have z4 : W6.cell? ⟨w.heap.size, 4, none⟩ = some (.int .u64 0) := cell_of_row W6 _ 4 _ 44 (0, 0) G6.q.res
      have p5 : W6.cell? ⟨p, 5, none⟩ = some (.int .u64 0) := G6.cell 5
      have z5 : W6.cell? ⟨w.heap.size, 5, none⟩ = some (.int .u64 0) := cell_of_row W6 _ 5 _ 44 (0, 0) G6.q.res
      have p6 : W6.cell? ⟨p, 6, none⟩ = some (.int .u64 0) := G6.cell 6
      have z6 : W6.cell? ⟨w.heap.size, 6, none⟩ = some (.int .u64 0) := cell_of_row W6 _ 6 _ 44 (0, 0) G6.q.res
      have p7 : W6.cell? ⟨p, 7, none⟩ = some (.int .u64 0) := G6.cell 7
      have z7 : W6.cell? ⟨w.heap.size, 7, none⟩ = some (.int .u64 0) := cell_of_row W6 _ 7 _ 44 (0, 0) G6.q.res
      have p8 : W6.cell? ⟨p, 8, none⟩ = some (.bool false) := G6.cell 8
      have z8 : W6.cell? ⟨w.heap.size, 8, none⟩ = some (.bool false) := cell_of_row W6 _ 8 _ 44 (0, 0) G6.q.res
      have p9 : W6.cell? ⟨p, 9, none⟩ = some (.slice none 0 0) := G6.cell 9
      have z9 : W6.cell? ⟨w.heap.size, 9, none⟩ = some (.slice none 0 0) := cell_of_row W6 _ 9 _ 44 (0, 0) G6.q.res
      have p10 : W6.cell? ⟨p, 10, none⟩ = some (.string ⟨#[]⟩) := G6.cell 10
      have z10 : W6.cell? ⟨w.heap.size, 10, none⟩ = some (.string ⟨#[]⟩) := cell_of_row W6 _ 10 _ 44 (0, 0) G6.q.res
      have fz : ∀ i, W6.frozen? ⟨w.heap.size, i, none⟩ = false := fun i => Md.of G6.q.res
      go_wp2
      obtain ⟨WF, hWF⟩ : ∃ WF, WF = (((((((((((W6.setCell ⟨w.heap.size, 0, none⟩ (.int .i64 0)).setCell ⟨w.heap.size, 1, none⟩ (.int .i64 0)).setCell ⟨w.heap.size, 2, none⟩ (.int .i64 0)).setCell ⟨w.heap.size, 3, none⟩ (.int .u64 0)).setCell ⟨w.heap.size, 4, none⟩ (.int .u64 0)).setCell ⟨w.heap.size, 5, none⟩ (.int .u64 0)).setCell ⟨w.heap.size, 6, none⟩ (.int .u64 0)).setCell ⟨w.heap.size, 7, none⟩ (.int .u64 0)).setCell ⟨w.heap.size, 8, none⟩ (.bool false)).setCell ⟨w.heap.size, 9, none⟩ (.slice none 0 0)).setCell ⟨w.heap.size, 10, none⟩ (.string ⟨#[]⟩)) := ⟨_, rfl⟩
      rw [← hWF]
      have hblk : WF.heap[w.heap.size]? = some (.cells (mc mzz) 44 (0, 0)) := by rw [hWF]; exact store_allm mzz G6.q.res
      have f0 : WF.cell? ⟨w.heap.size, 0, none⟩ = some (.int .i64 0) := cell_of_row WF _ 0 _ 44 (0, 0) hblk
      have f1 : WF.cell? ⟨w.heap.size, 1, none⟩ = some (.int .i64 0) := cell_of_row WF _ 1 _ 44 (0, 0) hblk
      have f2 : WF.cell? ⟨w.heap.size, 2, none⟩ = some (.int .i64 0) := cell_of_row WF _ 2 _ 44 (0, 0) hblk
      have f3 : WF.cell? ⟨w.heap.size, 3, none⟩ = some (.int .u64 0) := cell_of_row WF _ 3 _ 44 (0, 0) hblk
      have f4 : WF.cell? ⟨w.heap.size, 4, none⟩ = some (.int .u64 0) := cell_of_row WF _ 4 _ 44 (0, 0) hblk
      have f5 : WF.cell? ⟨w.heap.size, 5, none⟩ = some (.int .u64 0) := cell_of_row WF _ 5 _ 44 (0, 0) hblk
      have f6 : WF.cell? ⟨w.heap.size, 6, none⟩ = some (.int .u64 0) := cell_of_row WF _ 6 _ 44 (0, 0) hblk
      have f7 : WF.cell? ⟨w.heap.size, 7, none⟩ = some (.int .u64 0) := cell_of_row WF _ 7 _ 44 (0, 0) hblk
      have f8 : WF.cell? ⟨w.heap.size, 8, none⟩ = some (.bool false) := cell_of_row WF _ 8 _ 44 (0, 0) hblk
      have f9 : WF.cell? ⟨w.heap.size, 9, none⟩ = some (.slice none 0 0) := cell_of_row WF _ 9 _ 44 (0, 0) hblk
      have f10 : WF.cell? ⟨w.heap.size, 10, none⟩ = some (.string ⟨#[]⟩) := cell_of_row WF _ 10 _ 44 (0, 0) hblk
      exact bodyPost_ret (v := mv mzz) (by simp [results, Try.results48, go_sem, f0, f1, f2, f3, f4, f5, f6, f7, f8, f9, f10]) rfl ⟨rfl, by rw [hWF]; exact rd_allm mzz G6.q.hr (by omega), by rw [hWF]; exact gb_allm mzz G6.q.fr (Nat.le_refl _)⟩
end Go.Proofs.Ytiikgfcfceldmaa
