/-
  FirstBack, walked: true for every input.
  Conditions: what came in is as its types say.
-/
import Derived.Test.YtiikgfcfceldmaaBkM
import Derived.Laws.AppendOwnNone
namespace Go.Proofs.Ytiikgfcfceldmaa
open Go.RowKit
set_option linter.unusedVariables false
set_option linter.unusedSimpArgs false
theorem putS_le5 {e : En} (ok : e.Ok) : (putS e).size ≤ 110 := by
  unfold putS
  split
  · rename_i h
    rw [pb_size (few_of ok (mayB_right h))]; exact Nat.le_refl _
  · exact Nat.zero_le _
/-- An entry that lies. -/
structure EnS (b : Nat) (X : En) (W : World) : Prop where
  x : W.heap[b]? = some (.cells (ec X) 24 (0, 0))
theorem EnS.on {b : Nat} {X : En} {W W1 : World} (h : EnS b X W) (hb : Below W.heap.size W W1) : EnS b X W1 := ⟨(hb.block _ (Array.getElem?_eq_some_iff.1 h.x).1).trans h.x⟩
theorem EnS.gr {b g : Nat} {X : En} {W W1 : World} (h : EnS b X W) (hb : W.grownBy W1 (some g)) (hg : b ≠ g) : EnS b X W1 := ⟨(hb.block _ (Array.getElem?_eq_some_iff.1 h.x).1 (by intro e; injection e with e; exact hg e)).trans h.x⟩
theorem EnS.all {b : Nat} {X : En} {W : World} (h : EnS b X W) : EnS b X W ∧ W.cell? ⟨b, 0, none⟩ = some (.int .u64 X.term) ∧ W.cell? ⟨b, 1, none⟩ = some (.int .u64 X.index) ∧ W.cell? ⟨b, 2, none⟩ = some (.int .i64 X.kind) ∧ W.cell? ⟨b, 3, none⟩ = some (.int .u64 X.client) ∧ W.cell? ⟨b, 4, none⟩ = some (.int .u64 X.seq) ∧ W.cell? ⟨b, 5, none⟩ = some (.int .u64 X.block) ∧ W.cell? ⟨b, 6, none⟩ = some (.int .u64 X.many) ∧ W.cell? ⟨b, 7, none⟩ = some (.int .i64 X.node) ∧ W.cell? ⟨b, 8, none⟩ = some (.int .i64 X.level) ∧ W.cell? ⟨b, 9, none⟩ = some (.string X.data) ∧ W.cell? ⟨b, 10, none⟩ = some (.string X.old) :=
  ⟨h, cell_of_row W _ 0 _ 24 (0, 0) h.x, cell_of_row W _ 1 _ 24 (0, 0) h.x, cell_of_row W _ 2 _ 24 (0, 0) h.x, cell_of_row W _ 3 _ 24 (0, 0) h.x, cell_of_row W _ 4 _ 24 (0, 0) h.x, cell_of_row W _ 5 _ 24 (0, 0) h.x, cell_of_row W _ 6 _ 24 (0, 0) h.x, cell_of_row W _ 7 _ 24 (0, 0) h.x, cell_of_row W _ 8 _ 24 (0, 0) h.x, cell_of_row W _ 9 _ 24 (0, 0) h.x, cell_of_row W _ 10 _ 24 (0, 0) h.x⟩
theorem note4 (m : Ms) (LA : Option Addr) (ln lc : Nat) (L : List (En × Bool)) (w : World) (h : NoteIn w m LA ln L) :
    Calls Try.prog 20 #[nvv m true LA ln lc] w fun r w' => ∃ M : Ms, r = .returned (mv M) ∧ Ents w'.heap.size M.A M.n M.es w' ∧ M.Wide ∧ mrightB M = true ∧ M.es.length = M.n ∧ Below w.heap.size w w' := by
  refine (note_yes m LA ln lc L w h.md h.ok h.ll).mono ?_
  rintro r w' ⟨A, c, n, hr, hl, hE, hb⟩
  have hrt := nm_right m L A n c h.ok hl h.wd.i0 h.wd.i1 h.wd.p0 h.wd.p1 h.wd.c0 h.wd.c1 h.wd.m0 h.wd.m1 h.wd.s1
  have hN : NoteOut m L (nm m L A n c) w' := by
    refine ⟨nm_right m L A n c h.ok hl h.wd.i0 h.wd.i1 h.wd.p0 h.wd.p1 h.wd.c0 h.wd.c1 h.wd.m0 h.wd.m1 h.wd.s1, hE, (nfrom _).1, (nfrom _).2, (nfrom _).1, (nfrom _).2, (nkind _).1, (nkind _).2, ?_, fun e he => nes_mem h.ok he, rfl, (ite0 h.wd.i0 h.wd.i1 (by omega)).1, (ite0 h.wd.i0 h.wd.i1 (by omega)).2, (ite0 h.wd.p0 h.wd.p1 (by omega)).1, (ite0 h.wd.p0 h.wd.p1 (by omega)).2, (ite0 h.wd.c0 h.wd.c1 (by omega)).1, (ite0 h.wd.c0 h.wd.c1 (by omega)).2, (ite0 h.wd.m0 h.wd.m1 (by omega)).1, (ite0 h.wd.m0 h.wd.m1 (by omega)).2, ?_⟩
    · have := nes_length m L A n c
      rw [hl] at this
      show (n : Int) ≤ 10
      omega
    · show (if hasT (mfl (m.kind % 10 + 1)).data.toList 115 then cut200 m.snap else ⟨#[]⟩ : ByteArray).size ≤ 200
      split
      · exact cut200_size _ h.wd.s1
      · exact Nat.zero_le _
  have hw := hN.wide h.wd
  refine ⟨nm m L A n c, hr, hE, hw, hrt, ?_, hb⟩
  have hes : (nm m L A n c).n = n := by simp only [nm, npart]
  rw [hes]
  exact hl
theorem gok_put {M : Ms} (wd : M.Wide) (hm : mmayB M = true) (hl : M.es.length = M.n) : gok (pbm M) = true ∧ (∀ k, k < (pbm M).size → gok ((pbm M).extract 0 k) = false) ∧ (∀ t : ByteArray, 0 < t.size → gok (pbm M ++ t) = false) ∧ (∀ A c, msameB M (mPrs (pbm M) A c) = true) := by
  obtain ⟨h1, h2⟩ := mAll_put M wd hm hl
  have h3 : mmayB (mPrs (pbm M) none 0) = true := by rw [← may_at (pbm M) M.A M.c, h2]; exact hm
  refine ⟨by unfold gok; rw [h1, h3]; rfl, fun k hk => by unfold gok; rw [mAll_cut _ k hk h1]; rfl, fun t ht => by unfold gok; rw [mAll_long _ t ht h1]; rfl, fun A c => ?_⟩
  have h4 : msameB (mPrs (pbm M) M.A M.c) (mPrs (pbm M) A c) = true := by
    rw [mPrs_at (pbm M) M.A M.c, mPrs_at (pbm M) A c]
    exact msame_at _ _ _ _ _
  rw [h2] at h4
  exact h4
theorem takeHL5 {P : Program} {ops : Array Oper} {Q : Exit → Act → World → Prop} {S : World → Prop} {fuel : Nat} {listed : Array Bool} {a : Act} {w : World} (hQ : ∀ (c : _) (a : Act) (d : Option Tmp) (v : Value) (w : World), Q (.panic c) (a.put d v) w → Q (.panic c) a w) (hS : S w) (i : Nat) {oi : Oper} {v : Value} (hi : ops[i]? = some oi)
    (hs : Region.noSelect ops = true) (hf : Region.free .any ops listed i = true) (hr : (Region.ready .any ops listed).contains i = true) (hy : YieldsIf P ops S oi v a)
    (h : wpAnyH P .any ops Q S fuel (listed.setIfInBounds i true) (a.put oi.dst v) w) : wpAnyH P .any ops Q S (fuel + 1) listed a w :=
  wpAnyH_take hi hs hf hr (fun c a w h => hQ c a _ _ w h) hy hS h
/-- The law's own row, as a slice. -/
def Kept (B m : Nat) (Ex : Nat → En) (Ob : Nat → Bool) (k g : Nat) (A : Option Addr) (W : World) : Prop := 0 < m → A = some ⟨g, 0, none⟩ ∧ B ≤ g ∧ Mrow g m Ex Ob k W
set_option maxHeartbeats 2000000 in
set_option maxRecDepth 100000 in
theorem lback_any (LA : Option Addr) (n lc : Nat) (L : List (En × Bool)) (m0 : Ms) (own : Bool) (NA : Option Addr) (nn nc : Nat) (NL : List (En × Bool)) (cut : Nat) (w : World)
    (hM : Mades w.heap.size LA n L w) (hok : ∀ p ∈ L, p.1.Ok) (hn : (n : Int) ≤ 9223372036854775807) (hnc : n ≤ lc) (hA : LA = none → n = 0 ∧ lc = 0) (hlc : lc ≤ 9223372036854775807) (hN : NoteIn w m0 NA nn NL) (hcu : cut < 65536) :
    Calls Try.prog 5 #[.slice LA n lc, nvv m0 own NA nn nc, .int .u16 cut] w fun r w' => r = .returned (.bool true) ∧ Below w.heap.size w w' := by
  obtain ⟨W0, hW0⟩ : ∃ W0, W0 = w.alloc (Obj.cells (nvc m0 own NA nn nc) 47) := ⟨_, rfl⟩
  have b0 : Below w.heap.size w W0 := by rw [hW0]; exact (Below.refl _ _).alloc (Nat.le_refl _) _
  have k0 : W0.heap[w.heap.size]? = some (.cells (nvc m0 own NA nn nc) 47 (0, 0)) := by rw [hW0]; exact heap_alloc_new w _
  have KE := Lib.hid (fun (W : World) => examples_any W)
  obtain ⟨m, hm⟩ : ∃ m : Nat, (m : Int) = min (n : Int) 5 := ⟨min n 5, by omega⟩
  have hmm : min (n : Int) 5 = (m : Int) := hm.symm
  have hmn : m ≤ n := by omega
  have hm5 : m ≤ 5 := by omega
  have hmc : m ≤ lc := by omega
  obtain ⟨Ex, Ob, hL, hEx⟩ : ∃ (Ex : Nat → En) (Ob : Nat → Bool), (∀ i, i < m → (L.take m)[i]? = some (Ex i, Ob i)) ∧ (∀ i, (Ex i).Ok) := by
    refine ⟨fun i => if h : i < L.length then (L[i]).1 else ezz, fun i => if h : i < L.length then (L[i]).2 else false, fun i hi => ?_, fun i => ?_⟩
    · have hl : i < L.length := by rw [hM.len]; omega
      dsimp only
      rw [List.getElem?_take, if_pos hi, List.getElem?_eq_getElem hl, dif_pos hl, dif_pos hl]
    · dsimp only
      split
      · exact hok _ (List.getElem_mem _)
      · constructor <;> decide
  have hll : (L.take m).length = m := by rw [List.length_take, hM.len]; omega
  have HMA := Lib.hid hM
  have HW0 := Lib.hid hW0
  have HB0 := Lib.hid b0
  have HK0 := Lib.hid k0
  have HLL := Lib.hid hll
  have HL := Lib.hid hL
  have HEX := Lib.hid hEx
  have HNI := Lib.hid hN
  obtain ⟨i26, hi26, hz26, hs26, hb26⟩ := info_parts (show (Try.prog.info? 26).map (fun i => (i.zero, i.size, i.bytes)) = some (some (mdv ezz false), 12, 112) by kernel_rfl)
  clear hM hok hW0 b0 k0 hll hL hEx hN hm
  go_enter Try.func5, Try.ntmps5
  go_wp2_with fail
  rw [← HW0.out]
  refine (KE.out _).mono ?_
  rintro q w1 ⟨rfl, b1⟩
  have HB1 : Hid (Below w.heap.size w w1) := HB0.out.trans (b1.mono HB0.out.size)
  have HK1 : Hid (w1.heap[w.heap.size]? = some (.cells (nvc m0 own NA nn nc) 47 (0, 0))) := (b1.block _ (Array.getElem?_eq_some_iff.1 HK0.out).1).trans HK0.out
  clear b1
  go_upto_region 5 with fail
  go_cut [0] from 27 to 32 (fun s wx => ∃ (g cap : Nat) (A : Option Addr), s = .slice A m cap ∧ Kept (w.heap.size + 1) m Ex Ob 0 g A wx ∧ Below w1.heap.size w1 wx)
  case first =>
    have hown : w1.ownsRow w1.heap.size 26 12 (.slice none 0 0) 0 [] := ⟨rfl, .inl ⟨rfl, rfl⟩⟩
    have HS1 : Hid (w.heap.size + 1 ≤ w1.heap.size) := (Array.getElem?_eq_some_iff.1 HK1.out).1
    cases LA with
    | none =>
      obtain ⟨rfl, rfl⟩ := hA rfl
      have hm0 : m = 0 := by omega
      subst hm0
      have HOW := Lib.hid hown
      clear hown hA
      go_wp2_with (at_builtin; refine wpList_append_own_none rfl _ _ 45 rfl w1.heap.size 26 i26 12 Try.underlying45 hi26 (.slice none 0 0) 0 [] rfl HOW.out rfl ?_)
      go_meet
      exact ⟨0, 0, none, rfl, fun h => absurd h (by omega), Below.refl _ _⟩
    | some a =>
      have hnews := mades_news (HMA.out) hmn
      have HOW := Lib.hid hown
      have HLF : Hid ((flatM (L.take m)).length = m * 12) := by show _ = _; rw [flatM_length, HLL.out]
      have HNW : Hid (∀ j u, (flatM (L.take m))[j]? = some u → w1.cell? (a.add j) = some u) := fun j u hj => by
        have h1 := hnews j u hj
        exact (HB1.out.cell (World.block_lt_of_cell? _ _ h1)).trans h1
      have HON := Lib.hid (flatM_one (L.take m))
      clear hown hA hnews
      go_wp2_with (at_builtin; refine wpList_append_own_at _ rfl _ _ 45 rfl w1.heap.size 26 i26 (mdv ezz false) 12 112 Try.underlying45 hi26 hz26 hs26 hb26 rfl (by omega) (.slice none 0 0) 0 [] rfl HOW.out a m lc (flatM (L.take m)) rfl HLF.out HNW.out HON.out (by unfold maxLen; omega) (by omega) (Nat.le_refl _) ?_; intro v' w2 hown1 hgrow hnil hat)
      go_meet
      rw [Nat.zero_add, List.nil_append] at hown1
      have hbel : Below w1.heap.size w1 w2 := ⟨hgrow.os, hgrow.tape, hgrow.output, hgrow.size, fun k hk => hgrow.block k hk (by simp [Value.ownBlock])⟩
      rcases hown1.2 with ⟨rfl, h0⟩ | ⟨g, cap, cur, rfl, hg, _⟩
      · exact ⟨0, 0, none, by rw [h0], fun h => absurd h (by omega), hbel⟩
      · exact ⟨g, cap, some ⟨g, 0, none⟩, rfl, fun h => ⟨rfl, Nat.le_trans HS1.out hg, mrow_of_own hown1 HLL.out HL.out⟩, hbel⟩
  case rest =>
    obtain ⟨g, cap, A, rfl, hkept, bc⟩ := hcut
    have HS1 : Hid (w.heap.size + 1 ≤ w1.heap.size) := (Array.getElem?_eq_some_iff.1 HK1.out).1
    have HBC : Hid (Below w.heap.size w wc) := HB1.out.trans (bc.mono HB1.out.size)
    have HKC : Hid (wc.heap[w.heap.size]? = some (.cells (nvc m0 own NA nn nc) 47 (0, 0))) := (bc.block _ (Array.getElem?_eq_some_iff.1 HK1.out).1).trans HK1.out
    have HSC : Hid (w.heap.size + 1 ≤ wc.heap.size) := Nat.le_trans HS1.out bc.size
    have HPU : Hid (∀ i, (putS (mk (Ex i))).size ≤ 1000) := fun i => Nat.le_trans (putS_le5 (mk_facts (Ex i) (HEX.out i)).1) (by omega)
    have HKEPT := Lib.hid hkept
    clear hkept bc hA HMA HL HLL hi26 hz26 hs26 hb26 hmm hmn hmc hn hnc hlc
    go_wp2
    go_loopw [8, 9] (fun s i wr => ∃ k : Nat, k ≤ m ∧ i = .int .i64 k ∧ s = .string (catE Ex k) ∧ Kept (w.heap.size + 1) m Ex Ob k g A wr ∧ Below (w.heap.size + 1) wc wr) (fun _ i _ => m - (intOf i).toNat)
    case atStart => exact ⟨0, by omega, rfl, rfl, HKEPT.out, Below.refl _ _⟩
    case round =>
      obtain ⟨k, hk, rfl, rfl, hkp, hBr⟩ := hrel
      by_cases hlt : k < m
      · obtain ⟨rfl, hg, row⟩ := hkp (by omega)
        obtain ⟨e, he⟩ : ∃ e, e = Ex k := ⟨_, rfl⟩
        have hek : e.Ok := by rw [he]; exact HEX.out k
        obtain ⟨X, hX⟩ : ∃ X, X = mk e := ⟨_, rfl⟩
        obtain ⟨xok, xr, _⟩ := mk_facts e hek
        rw [← hX] at xok xr
        obtain ⟨P, hP⟩ : ∃ P, P = putS X := ⟨_, rfl⟩
        have hPz : P.size ≤ 1000 := by rw [hP, hX, he]; exact HPU.out k
        have hcz := catE_size Ex HPU.out k
        have HCAT : Hid (catE Ex (k + 1) = catE Ex k ++ P) := by show _ = _; rw [hP, hX, he]; rfl
        obtain ⟨F, hF⟩ : ∃ F, F = catE Ex k := ⟨_, rfl⟩
        rw [← hF] at hcz HCAT ⊢
        have hcell : ∀ W, Mrow g m Ex Ob k W → ∀ j, j < 12 → W.cell? ⟨g, k * 12 + j, none⟩ = (mdc e (Ob k))[j]? := fun W hW j hj => by rw [hW.at_ k hlt j hj, if_neg (by omega), he]
        have hat : ∀ W, Mrow g m Ex Ob (k + 1) W → ∀ j, j < 12 → W.cell? ⟨g, k * 12 + j, none⟩ = (mdc e true)[j]? := fun W hW j hj => by rw [hW.at_ k hlt j hj, if_pos (by omega), he]
        obtain ⟨V, hV⟩ : ∃ V, V = wr.setCell ⟨g, k * 12 + 11, none⟩ (.bool true) := ⟨_, rfl⟩
        have rowV : Mrow g m Ex Ob (k + 1) V := by rw [hV]; exact row.set hlt
        have HBV : Hid (Below (w.heap.size + 1) wc V) := by show Below _ _ _; rw [hV]; exact hBr.setCell (p := ⟨g, k * 12 + 11, none⟩) hg _
        have c11 : wr.cell? ⟨g, k * 12 + 11, none⟩ = some (.bool (Ob k)) := hcell wr row 11 (by omega)
        have fz : ∀ i, wr.frozen? ⟨g, i, none⟩ = false := row.free
        have hatV := hat V rowV
        have a0 : V.cell? ⟨g, k * 12, none⟩ = some (.int .u64 e.term) := hatV 0 (by omega)
        have a1 : V.cell? ⟨g, k * 12 + 1, none⟩ = some (.int .u64 e.index) := hatV 1 (by omega)
        have a2 : V.cell? ⟨g, k * 12 + 2, none⟩ = some (.int .i64 e.kind) := hatV 2 (by omega)
        have a3 : V.cell? ⟨g, k * 12 + 3, none⟩ = some (.int .u64 e.client) := hatV 3 (by omega)
        have a4 : V.cell? ⟨g, k * 12 + 4, none⟩ = some (.int .u64 e.seq) := hatV 4 (by omega)
        have a5 : V.cell? ⟨g, k * 12 + 5, none⟩ = some (.int .u64 e.block) := hatV 5 (by omega)
        have a6 : V.cell? ⟨g, k * 12 + 6, none⟩ = some (.int .u64 e.many) := hatV 6 (by omega)
        have a7 : V.cell? ⟨g, k * 12 + 7, none⟩ = some (.int .i64 e.node) := hatV 7 (by omega)
        have a8 : V.cell? ⟨g, k * 12 + 8, none⟩ = some (.int .i64 e.level) := hatV 8 (by omega)
        have a9 : V.cell? ⟨g, k * 12 + 9, none⟩ = some (.string e.data) := hatV 9 (by omega)
        have a10 : V.cell? ⟨g, k * 12 + 10, none⟩ = some (.string e.old) := hatV 10 (by omega)
        have a11 : V.cell? ⟨g, k * 12 + 11, none⟩ = some (.bool true) := hatV 11 (by omega)
        have HG := Lib.hid hg
        have HV := Lib.hid hV
        have ROW := Lib.hid rowV
        have hadd : ¬ 9223372036854775807 < F.size + P.size := by omega
        have hm1 : lvl X.kind = 1 → mayB X = true := fun h => by unfold mayB; rw [xr, h]; rfl
        have hm2 : lvl X.kind = 2 → mayB X = false := fun h => by unfold mayB; rw [xr, h]; rfl
        clear row hkp hBr he hF hcell hatV rowV hV hg xr
        by_cases hlv : lvl X.kind = 1
        · have hm1 := hm1 hlv
          clear hm2
          have mbv : mayB X = true := hm1
          have KX : Hid (∀ W, Calls Try.prog 10 #[mdv e true] W fun r w' => r = .returned (ev X) ∧ Below W.heap.size W w') := fun W => by rw [hX]; exact made_yes e W hek
          have KP : Hid (∀ W, Calls Try.prog 9 #[ev X] W fun q w' => q = .returned (.tuple #[.string P, .bool true]) ∧ Below W.heap.size W w') := fun W => (put_any X W xok).mono fun q w' ⟨h1, h2⟩ => ⟨by rw [h1, hP, mbv], h2⟩
          have KL : Hid (∀ W, Calls Try.prog 25 #[ev X] W fun q w' => q = .returned (.int .i64 1) ∧ Below W.heap.size W w') := fun W => (level_any X W).mono fun q w' ⟨h1, h2⟩ => ⟨by rw [h1, hlv], h2⟩
          clear hX hek xok hP mbv hlv hm1
          go_upto_region 10 with fail
          rw [← HV.out]
          clear fz c11
          go_wp2_with fail
          refine (KX.out _).mono ?_
          rintro q w3 ⟨rfl, b3⟩
          go_wp2_with fail
          refine (KP.out _).mono ?_
          rintro q w4 ⟨rfl, b4⟩
          have b34 := b3.trans (b4.mono b3.size)
          have row4 : Mrow g m Ex Ob (k + 1) w4 := ROW.out.on (b34.block _ ROW.out.lt)
          have HB4 : Hid (Below (w.heap.size + 1) wc w4) := HBV.out.trans (b34.mono (Nat.le_trans HSC.out HBV.out.size))
          have hat4 := hat w4 row4
          have ROW4 := Lib.hid row4
          clear b3 b4 b34 row4 a0 a1 a2 a3 a4 a5 a6 a7 a8 a9 a10 a11
          have a0 : w4.cell? ⟨g, k * 12, none⟩ = some (.int .u64 e.term) := hat4 0 (by omega)
          have a1 : w4.cell? ⟨g, k * 12 + 1, none⟩ = some (.int .u64 e.index) := hat4 1 (by omega)
          have a2 : w4.cell? ⟨g, k * 12 + 2, none⟩ = some (.int .i64 e.kind) := hat4 2 (by omega)
          have a3 : w4.cell? ⟨g, k * 12 + 3, none⟩ = some (.int .u64 e.client) := hat4 3 (by omega)
          have a4 : w4.cell? ⟨g, k * 12 + 4, none⟩ = some (.int .u64 e.seq) := hat4 4 (by omega)
          have a5 : w4.cell? ⟨g, k * 12 + 5, none⟩ = some (.int .u64 e.block) := hat4 5 (by omega)
          have a6 : w4.cell? ⟨g, k * 12 + 6, none⟩ = some (.int .u64 e.many) := hat4 6 (by omega)
          have a7 : w4.cell? ⟨g, k * 12 + 7, none⟩ = some (.int .i64 e.node) := hat4 7 (by omega)
          have a8 : w4.cell? ⟨g, k * 12 + 8, none⟩ = some (.int .i64 e.level) := hat4 8 (by omega)
          have a9 : w4.cell? ⟨g, k * 12 + 9, none⟩ = some (.string e.data) := hat4 9 (by omega)
          have a10 : w4.cell? ⟨g, k * 12 + 10, none⟩ = some (.string e.old) := hat4 10 (by omega)
          have a11 : w4.cell? ⟨g, k * 12 + 11, none⟩ = some (.bool true) := hat4 11 (by omega)
          clear hat4
          go_wp2_with fail
          refine (KX.out _).mono ?_
          rintro q w5 ⟨rfl, b5⟩
          go_wp2_with fail
          refine (KL.out _).mono ?_
          rintro q w6 ⟨rfl, b6⟩
          have b56 := b5.trans (b6.mono b5.size)
          have row6 : Mrow g m Ex Ob (k + 1) w6 := ROW4.out.on (b56.block _ ROW4.out.lt)
          have HB6 : Hid (Below (w.heap.size + 1) wc w6) := HB4.out.trans (b56.mono (Nat.le_trans HSC.out HB4.out.size))
          have ROW6 := Lib.hid row6
          clear b5 b6 b56 row6 a0 a1 a2 a3 a4 a5 a6 a7 a8 a9 a10 a11 hat
          go_wp2
          go_roundw
          case rel => exact ⟨k + 1, by omega, by go_num, by rw [HCAT.out], fun _ => ⟨rfl, HG.out, ROW6.out⟩, HB6.out⟩
          case measure => simp [intOf]; omega
        · have hlv : lvl X.kind = 2 := by unfold lvl at hlv ⊢; split at hlv <;> first | (rename_i h; rw [if_pos h]) | exact absurd rfl hlv
          have hm2 := hm2 hlv
          clear hm1
          have mbv : mayB X = false := hm2
          have KX : Hid (∀ W, Calls Try.prog 10 #[mdv e true] W fun r w' => r = .returned (ev X) ∧ Below W.heap.size W w') := fun W => by rw [hX]; exact made_yes e W hek
          have KP : Hid (∀ W, Calls Try.prog 9 #[ev X] W fun q w' => q = .returned (.tuple #[.string P, .bool false]) ∧ Below W.heap.size W w') := fun W => (put_any X W xok).mono fun q w' ⟨h1, h2⟩ => ⟨by rw [h1, hP, mbv], h2⟩
          have KL : Hid (∀ W, Calls Try.prog 25 #[ev X] W fun q w' => q = .returned (.int .i64 2) ∧ Below W.heap.size W w') := fun W => (level_any X W).mono fun q w' ⟨h1, h2⟩ => ⟨by rw [h1, hlv], h2⟩
          clear hX hek xok hP mbv hlv hm2
          go_upto_region 10 with fail
          rw [← HV.out]
          clear fz c11
          go_wp2_with fail
          refine (KX.out _).mono ?_
          rintro q w3 ⟨rfl, b3⟩
          go_wp2_with fail
          refine (KP.out _).mono ?_
          rintro q w4 ⟨rfl, b4⟩
          have b34 := b3.trans (b4.mono b3.size)
          have row4 : Mrow g m Ex Ob (k + 1) w4 := ROW.out.on (b34.block _ ROW.out.lt)
          have HB4 : Hid (Below (w.heap.size + 1) wc w4) := HBV.out.trans (b34.mono (Nat.le_trans HSC.out HBV.out.size))
          have hat4 := hat w4 row4
          have ROW4 := Lib.hid row4
          clear b3 b4 b34 row4 a0 a1 a2 a3 a4 a5 a6 a7 a8 a9 a10 a11
          have a0 : w4.cell? ⟨g, k * 12, none⟩ = some (.int .u64 e.term) := hat4 0 (by omega)
          have a1 : w4.cell? ⟨g, k * 12 + 1, none⟩ = some (.int .u64 e.index) := hat4 1 (by omega)
          have a2 : w4.cell? ⟨g, k * 12 + 2, none⟩ = some (.int .i64 e.kind) := hat4 2 (by omega)
          have a3 : w4.cell? ⟨g, k * 12 + 3, none⟩ = some (.int .u64 e.client) := hat4 3 (by omega)
          have a4 : w4.cell? ⟨g, k * 12 + 4, none⟩ = some (.int .u64 e.seq) := hat4 4 (by omega)
          have a5 : w4.cell? ⟨g, k * 12 + 5, none⟩ = some (.int .u64 e.block) := hat4 5 (by omega)
          have a6 : w4.cell? ⟨g, k * 12 + 6, none⟩ = some (.int .u64 e.many) := hat4 6 (by omega)
          have a7 : w4.cell? ⟨g, k * 12 + 7, none⟩ = some (.int .i64 e.node) := hat4 7 (by omega)
          have a8 : w4.cell? ⟨g, k * 12 + 8, none⟩ = some (.int .i64 e.level) := hat4 8 (by omega)
          have a9 : w4.cell? ⟨g, k * 12 + 9, none⟩ = some (.string e.data) := hat4 9 (by omega)
          have a10 : w4.cell? ⟨g, k * 12 + 10, none⟩ = some (.string e.old) := hat4 10 (by omega)
          have a11 : w4.cell? ⟨g, k * 12 + 11, none⟩ = some (.bool true) := hat4 11 (by omega)
          clear hat4
          go_wp2_with fail
          refine (KX.out _).mono ?_
          rintro q w5 ⟨rfl, b5⟩
          go_wp2_with fail
          refine (KL.out _).mono ?_
          rintro q w6 ⟨rfl, b6⟩
          have b56 := b5.trans (b6.mono b5.size)
          have row6 : Mrow g m Ex Ob (k + 1) w6 := ROW4.out.on (b56.block _ ROW4.out.lt)
          have HB6 : Hid (Below (w.heap.size + 1) wc w6) := HB4.out.trans (b56.mono (Nat.le_trans HSC.out HB4.out.size))
          have ROW6 := Lib.hid row6
          clear b5 b6 b56 row6 a0 a1 a2 a3 a4 a5 a6 a7 a8 a9 a10 a11 hat
          go_wp2
          go_roundw
          case rel => exact ⟨k + 1, by omega, by go_num, by rw [HCAT.out], fun _ => ⟨rfl, HG.out, ROW6.out⟩, HB6.out⟩
          case measure => simp [intOf]; omega
      · have hkm : k = m := by omega
        subst hkm
        have HKP := Lib.hid hkp
        have HBR := Lib.hid hBr
        have HCR : Hid (catE Ex k = restE Ex 0 k) := catE_rest Ex k
        have hcz := catE_size Ex HPU.out k
        clear hkp hBr hk hlt
        obtain ⟨wl, rfl⟩ : ∃ wl, wl = wr := ⟨_, rfl⟩
        go_wp2_with fail
        rw [HCR.out]
        refine (new2 _ _).mono ?_
        rintro q w3 ⟨rfl, r3, b3, z3⟩
        have HR3 := Lib.hid r3
        have HB3 : Hid (Below (w.heap.size + 1) wc w3) := HBR.out.trans (b3.mono (Nat.le_trans HSC.out HBR.out.size))
        have HK3 : Hid (0 < k → A = some ⟨g, 0, none⟩ ∧ g < wl.heap.size ∧ Mrow g k Ex Ob k w3) := fun h => by
          obtain ⟨h1, h2, h3⟩ := HKP.out h
          exact ⟨h1, h3.lt, h3.on (b3.block _ h3.lt)⟩
        have HG2 : Hid (w.heap.size + 1 ≤ wl.heap.size) := Nat.le_trans HSC.out HBR.out.size
        clear r3 b3 z3 hcz
        go_wp2
        go_loopw [13] (fun i wx => ∃ d j : Nat, d + j = k ∧ i = .int .i64 d ∧ Rd 73 wl.heap.size (restE Ex d j) false wx ∧ (0 < k → Mrow g k Ex Ob k wx) ∧ Below (w.heap.size + 1) wc wx) (fun i _ => k - (intOf i).toNat)
        case atStart => exact ⟨0, k, by omega, rfl, HR3.out, fun h => (HK3.out h).2.2, HB3.out⟩
        case round =>
          obtain ⟨d, j, hdj, rfl, hrd, hrow, hBx⟩ := hrel
          by_cases hlt2 : d < k
          · obtain ⟨j, rfl⟩ : ∃ j', j = j' + 1 := ⟨j - 1, by omega⟩
            obtain ⟨rfl, hgl, _⟩ := HK3.out (by omega)
            have row := hrow (by omega)
            obtain ⟨e, he⟩ : ∃ e, e = Ex d := ⟨_, rfl⟩
            have hek : e.Ok := by rw [he]; exact HEX.out d
            obtain ⟨X, hX⟩ : ∃ X, X = mk e := ⟨_, rfl⟩
            obtain ⟨xok, xr, _⟩ := mk_facts e hek
            rw [← hX] at xok xr
            have KX : Hid (∀ W, Calls Try.prog 10 #[mdv e true] W fun r w' => r = .returned (ev X) ∧ Below W.heap.size W w') := fun W => by rw [hX]; exact made_yes e W hek
            obtain ⟨P, hP⟩ : ∃ P, P = putS X := ⟨_, rfl⟩
            obtain ⟨R, hR⟩ : ∃ R, R = restE Ex (d + 1) j := ⟨_, rfl⟩
            obtain ⟨U, hU⟩ : ∃ U, U = P ++ R := ⟨_, rfl⟩
            have hUe : restE Ex d (j + 1) = U := by rw [hU, hR, hP, hX, he]; rfl
            have hUz : U.size ≤ 281474976710656 := by
              have := restE_size Ex HPU.out (j + 1) d
              rw [hUe] at this
              omega
            rw [hUe] at hrd
            have hat : ∀ j, j < 12 → wr.cell? ⟨g, d * 12 + j, none⟩ = (mdc e true)[j]? := fun j hj => by rw [row.at_ d hlt2 j hj, if_pos hlt2, he]
            have a0 : wr.cell? ⟨g, d * 12, none⟩ = some (.int .u64 e.term) := hat 0 (by omega)
            have a1 : wr.cell? ⟨g, d * 12 + 1, none⟩ = some (.int .u64 e.index) := hat 1 (by omega)
            have a2 : wr.cell? ⟨g, d * 12 + 2, none⟩ = some (.int .i64 e.kind) := hat 2 (by omega)
            have a3 : wr.cell? ⟨g, d * 12 + 3, none⟩ = some (.int .u64 e.client) := hat 3 (by omega)
            have a4 : wr.cell? ⟨g, d * 12 + 4, none⟩ = some (.int .u64 e.seq) := hat 4 (by omega)
            have a5 : wr.cell? ⟨g, d * 12 + 5, none⟩ = some (.int .u64 e.block) := hat 5 (by omega)
            have a6 : wr.cell? ⟨g, d * 12 + 6, none⟩ = some (.int .u64 e.many) := hat 6 (by omega)
            have a7 : wr.cell? ⟨g, d * 12 + 7, none⟩ = some (.int .i64 e.node) := hat 7 (by omega)
            have a8 : wr.cell? ⟨g, d * 12 + 8, none⟩ = some (.int .i64 e.level) := hat 8 (by omega)
            have a9 : wr.cell? ⟨g, d * 12 + 9, none⟩ = some (.string e.data) := hat 9 (by omega)
            have a10 : wr.cell? ⟨g, d * 12 + 10, none⟩ = some (.string e.old) := hat 10 (by omega)
            have a11 : wr.cell? ⟨g, d * 12 + 11, none⟩ = some (.bool true) := hat 11 (by omega)
            have HRR := Lib.hid hR
            have HRD := Lib.hid hrd
            have ROW := Lib.hid row
            have HBX := Lib.hid hBx
            have HGN : Hid (g ≠ wl.heap.size) := by show _ ≠ _; omega
            have hm1 : lvl X.kind = 1 → mayB X = true := fun h => by unfold mayB; rw [xr, h]; rfl
            have hm2 : lvl X.kind = 2 → mayB X = false := fun h => by unfold mayB; rw [xr, h]; rfl
            have hne : ∀ V, (binOp .neq 24 (ev X) (ev X)).run Try.prog V = .ok (.bool false) V := fun V => by rw [neq_entry, (sameB_iff X X).2 rfl]; rfl
            clear hX hek hUe hR hrd hrow row hBx he hat xr hgl
            go_wp2_with fail
            refine (KX.out _).mono ?_
            rintro q w5 ⟨rfl, b5⟩
            clear a0 a1 a2 a3 a4 a5 a6 a7 a8 a9 a10 a11
            obtain ⟨V, hV⟩ : ∃ V, V = w5.alloc (Obj.cells (ec X) 24) := ⟨_, rfl⟩
            have bb : Below w5.heap.size w5 V := by rw [hV]; exact (Below.refl _ _).alloc (Nat.le_refl _) _
            have b5V := b5.trans (bb.mono b5.size)
            have HX5 : Hid (V.heap[w5.heap.size]? = some (.cells (ec X) 24 (0, 0))) := by show _ = _; rw [hV]; exact heap_alloc_new w5 _
            have HRD5 : Hid (Rd 73 wl.heap.size U false V) := HRD.out.below b5V HRD.out.lt
            have ROW5 : Hid (Mrow g k Ex Ob k V) := ROW.out.on (b5V.block _ ROW.out.lt)
            have HBV : Hid (Below (w.heap.size + 1) wc V) := HBX.out.trans (b5V.mono (Nat.le_trans HSC.out HBX.out.size))
            have HNE : Hid (w5.heap.size ≠ wl.heap.size) := by show _ ≠ _; have h1 := HRD.out.lt; have h2 := b5.size; omega
            have HV := Lib.hid hV
            clear b5 bb b5V hV
            go_upto_region 21 with fail
            rw [← HV.out]
            by_cases hlv : lvl X.kind = 1
            · have hm1 := hm1 hlv
              clear hm2
              have mbv : mayB X = true := hm1
              have KL : Hid (∀ W, Calls Try.prog 25 #[ev X] W fun q w' => q = .returned (.int .i64 1) ∧ Below W.heap.size W w') := fun W => (level_any X W).mono fun q w' ⟨h1, h2⟩ => ⟨by rw [h1, hlv], h2⟩
              have hPp : P = pb X := by rw [hP]; unfold putS; rw [if_pos mbv]
              have hgot := got_put xok mbv R
              rw [← hPp, ← hU] at hgot
              have KG : Hid (∀ W, Rd 73 wl.heap.size U false W → Calls Try.prog 15 #[.pointer (some ⟨wl.heap.size, 0, none⟩)] W fun q w' => q = .returned (ev X) ∧ Rd 73 wl.heap.size R false w' ∧ W.grownBy w' (some wl.heap.size)) := fun W hr => (get_any _ U false W hr hUz).mono fun q w' ⟨h1, h2, h3⟩ => ⟨by rw [h1]; show Ending.returned (ev (getE U)) = _; rw [hgot.2.1], by have h4 : Rd 73 wl.heap.size (getT U) (false || !getO U) w' := h2; rw [hgot.2.2, hgot.1] at h4; exact h4, h3⟩
              clear hPp hgot
              clear mbv hlv hU hP xok hm1
              refine wp_region_noPanic ?_
              refine wp_region_held_drew (S := (fun w' => EnS w5.heap.size X w' ∧ w'.cell? ⟨w5.heap.size, 0, none⟩ = some (.int .u64 X.term) ∧ w'.cell? ⟨w5.heap.size, 1, none⟩ = some (.int .u64 X.index) ∧ w'.cell? ⟨w5.heap.size, 2, none⟩ = some (.int .i64 X.kind) ∧ w'.cell? ⟨w5.heap.size, 3, none⟩ = some (.int .u64 X.client) ∧ w'.cell? ⟨w5.heap.size, 4, none⟩ = some (.int .u64 X.seq) ∧ w'.cell? ⟨w5.heap.size, 5, none⟩ = some (.int .u64 X.block) ∧ w'.cell? ⟨w5.heap.size, 6, none⟩ = some (.int .u64 X.many) ∧ w'.cell? ⟨w5.heap.size, 7, none⟩ = some (.int .i64 X.node) ∧ w'.cell? ⟨w5.heap.size, 8, none⟩ = some (.int .i64 X.level) ∧ w'.cell? ⟨w5.heap.size, 9, none⟩ = some (.string X.data) ∧ w'.cell? ⟨w5.heap.size, 10, none⟩ = some (.string X.old))) (by kernel_rfl) ((EnS.mk (show V.drew.heap[_]? = _ from HX5.out)).all) (fun hHeld => ?_)
              refine takeHL5 (fun _ _ _ _ _ h => h) (by assumption) 0 (v := ?vL10) rfl (by kernel_rfl) (by kernel_rfl) (by kernel_rfl) (Or.inl ⟨by kernel_rfl, ?hyL10⟩) ?restL10
              case hyL10 => (intro w hSw; (try dsimp only at hSw); go_simp; first | done | (with_reducible rfl))
              try simp only [List.getElem_toArray, List.getElem_cons_succ, List.getElem_cons_zero]
              try simp only [Act.put, List.setIfInBounds_toArray, List.set_cons_zero, List.set_cons_succ]
              refine wpAnyH_ready (rs := [1]) (by kernel_rfl) (by simp) ?_
              refine AllReadyH.cons rfl (fun K hK => ?_) AllReadyH.nil
              go_simp
              (go_at_call 25; (with_reducible refine (KL.out _).mono ?_); rintro q w6 ⟨rfl, b6⟩; try go_wp2_with fail)
              refine hK.out _ _ ?_ (fun hHeld => ?_)
              · exact (hHeld.1.on b6).all
              clear hK K
              try simp only [Act.put, List.setIfInBounds_toArray, List.set_cons_zero, List.set_cons_succ]
              refine takeHL5 (fun _ _ _ _ _ h => h) (by assumption) 2 (v := ?vL12) rfl (by kernel_rfl) (by kernel_rfl) (by kernel_rfl) (Or.inl ⟨by kernel_rfl, ?hyL12⟩) ?restL12
              case hyL12 => (intro w hSw; (try dsimp only at hSw); go_simp; first | done | (with_reducible rfl))
              try simp only [List.getElem_toArray, List.getElem_cons_succ, List.getElem_cons_zero]
              try simp only [Act.put, List.setIfInBounds_toArray, List.set_cons_zero, List.set_cons_succ]
              refine takeHL5 (fun _ _ _ _ _ h => h) (by assumption) 3 (v := ?vL13) rfl (by kernel_rfl) (by kernel_rfl) (by kernel_rfl) (Or.inl ⟨by kernel_rfl, ?hyL13⟩) ?restL13
              case hyL13 => (intro w hSw; (try dsimp only at hSw); go_simp; first | done | (with_reducible rfl))
              try simp only [List.getElem_toArray, List.getElem_cons_succ, List.getElem_cons_zero]
              try simp only [Act.put, List.setIfInBounds_toArray, List.set_cons_zero, List.set_cons_succ]
              refine takeHL5 (fun _ _ _ _ _ h => h) (by assumption) 4 (v := ?vL14) rfl (by kernel_rfl) (by kernel_rfl) (by kernel_rfl) (Or.inl ⟨by kernel_rfl, ?hyL14⟩) ?restL14
              case hyL14 => (intro w hSw; (try dsimp only at hSw); go_simp; first | done | (with_reducible rfl))
              try simp only [List.getElem_toArray, List.getElem_cons_succ, List.getElem_cons_zero]
              try simp only [Act.put, List.setIfInBounds_toArray, List.set_cons_zero, List.set_cons_succ]
              refine takeHL5 (fun _ _ _ _ _ h => h) (by assumption) 6 (v := ?vL16) rfl (by kernel_rfl) (by kernel_rfl) (by kernel_rfl) (Or.inl ⟨by kernel_rfl, ?hyL16⟩) ?restL16
              case hyL16 => (intro w hSw; (try dsimp only at hSw); go_simp; first | done | (with_reducible rfl))
              try simp only [List.getElem_toArray, List.getElem_cons_succ, List.getElem_cons_zero]
              try simp only [Act.put, List.setIfInBounds_toArray, List.set_cons_zero, List.set_cons_succ]
              refine wpAnyH_ready (rs := [5]) (by kernel_rfl) (by simp) ?_
              refine AllReadyH.cons rfl (fun K hK => ?_) AllReadyH.nil
              go_simp
              (go_at_call 15; (with_reducible refine (KG.out _ (HRD5.out.drew.below b6 HRD5.out.drew.lt)).mono ?_); rintro q w7 ⟨rfl, r7, g7⟩; try go_wp2_with fail)
              refine hK.out _ _ ?_ (fun hHeld => ?_)
              · exact (hHeld.1.gr g7 HNE.out).all
              clear hK K
              try simp only [Act.put, List.setIfInBounds_toArray, List.set_cons_zero, List.set_cons_succ]
              refine takeHL5 (fun _ _ _ _ _ h => h) (by assumption) 7 (v := ?vL17) rfl (by kernel_rfl) (by kernel_rfl) (by kernel_rfl) (Or.inl ⟨by kernel_rfl, ?hyL17⟩) ?restL17
              case hyL17 => (intro w hSw; (try dsimp only at hSw); go_simp; first | done | (with_reducible rfl))
              try simp only [List.getElem_toArray, List.getElem_cons_succ, List.getElem_cons_zero]
              try simp only [Act.put, List.setIfInBounds_toArray, List.set_cons_zero, List.set_cons_succ]
              refine takeHL5 (fun _ _ _ _ _ h => h) (by assumption) 8 (v := ?vL18) rfl (by kernel_rfl) (by kernel_rfl) (by kernel_rfl) (Or.inl ⟨by kernel_rfl, ?hyL18⟩) ?restL18
              case hyL18 => (intro w hSw; (try dsimp only at hSw); go_simp; first | done | (with_reducible rfl))
              try simp only [List.getElem_toArray, List.getElem_cons_succ, List.getElem_cons_zero]
              try simp only [Act.put, List.setIfInBounds_toArray, List.set_cons_zero, List.set_cons_succ]
              refine wpAnyH_done (by kernel_rfl) ?_ _
              refine NoPanic.normal ?_
              have HB7 : Hid (Below (w.heap.size + 1) wc w7) := below_grownBy (HBV.out.drew.trans (b6.mono (Nat.le_trans HSC.out HBV.out.size))) g7 (Nat.le_trans HSC.out (Nat.le_trans HBV.out.size b6.size)) HG2.out
              have ROW7 : Hid (Mrow g k Ex Ob k w7) := ROW5.out.on ((g7.block _ (Nat.lt_of_lt_of_le ROW5.out.lt b6.size) (by have := HGN.out; simp; omega)).trans (b6.block _ ROW5.out.lt))
              have HR7 := Lib.hid r7
              clear b6 r7 g7 hHeld
              go_wp2
              go_roundw
              case rel => exact ⟨d + 1, j, by omega, by go_num, by rw [← HRR.out]; exact HR7.out, fun _ => ROW7.out, HB7.out⟩
              case measure => simp [intOf]; omega
            · have hlv : lvl X.kind = 2 := by unfold lvl at hlv ⊢; split at hlv <;> first | (rename_i h; rw [if_pos h]) | exact absurd rfl hlv
              have hm2 := hm2 hlv
              clear hm1
              have mbv : mayB X = false := hm2
              have KL : Hid (∀ W, Calls Try.prog 25 #[ev X] W fun q w' => q = .returned (.int .i64 2) ∧ Below W.heap.size W w') := fun W => (level_any X W).mono fun q w' ⟨h1, h2⟩ => ⟨by rw [h1, hlv], h2⟩
              have HUR : Hid (U = R) := by show _ = _; rw [hU, hP]; unfold putS; rw [if_neg (by rw [mbv]; decide)]; exact emp_l R
              clear mbv hlv hU hP xok hm2
              refine wp_region_noPanic ?_
              refine wp_region_held_drew (S := (fun w' => EnS w5.heap.size X w' ∧ w'.cell? ⟨w5.heap.size, 0, none⟩ = some (.int .u64 X.term) ∧ w'.cell? ⟨w5.heap.size, 1, none⟩ = some (.int .u64 X.index) ∧ w'.cell? ⟨w5.heap.size, 2, none⟩ = some (.int .i64 X.kind) ∧ w'.cell? ⟨w5.heap.size, 3, none⟩ = some (.int .u64 X.client) ∧ w'.cell? ⟨w5.heap.size, 4, none⟩ = some (.int .u64 X.seq) ∧ w'.cell? ⟨w5.heap.size, 5, none⟩ = some (.int .u64 X.block) ∧ w'.cell? ⟨w5.heap.size, 6, none⟩ = some (.int .u64 X.many) ∧ w'.cell? ⟨w5.heap.size, 7, none⟩ = some (.int .i64 X.node) ∧ w'.cell? ⟨w5.heap.size, 8, none⟩ = some (.int .i64 X.level) ∧ w'.cell? ⟨w5.heap.size, 9, none⟩ = some (.string X.data) ∧ w'.cell? ⟨w5.heap.size, 10, none⟩ = some (.string X.old))) (by kernel_rfl) ((EnS.mk (show V.drew.heap[_]? = _ from HX5.out)).all) (fun hHeld => ?_)
              refine takeHL5 (fun _ _ _ _ _ h => h) (by assumption) 0 (v := ?vL20) rfl (by kernel_rfl) (by kernel_rfl) (by kernel_rfl) (Or.inl ⟨by kernel_rfl, ?hyL20⟩) ?restL20
              case hyL20 => (intro w hSw; (try dsimp only at hSw); go_simp; first | done | (with_reducible rfl))
              try simp only [List.getElem_toArray, List.getElem_cons_succ, List.getElem_cons_zero]
              try simp only [Act.put, List.setIfInBounds_toArray, List.set_cons_zero, List.set_cons_succ]
              refine wpAnyH_ready (rs := [1]) (by kernel_rfl) (by simp) ?_
              refine AllReadyH.cons rfl (fun K hK => ?_) AllReadyH.nil
              go_simp
              (go_at_call 25; (with_reducible refine (KL.out _).mono ?_); rintro q w6 ⟨rfl, b6⟩; try go_wp2_with fail)
              refine hK.out _ _ ?_ (fun hHeld => ?_)
              · exact (hHeld.1.on b6).all
              clear hK K
              try simp only [Act.put, List.setIfInBounds_toArray, List.set_cons_zero, List.set_cons_succ]
              refine takeHL5 (fun _ _ _ _ _ h => h) (by assumption) 2 (v := ?vL22) rfl (by kernel_rfl) (by kernel_rfl) (by kernel_rfl) (Or.inl ⟨by kernel_rfl, ?hyL22⟩) ?restL22
              case hyL22 => (intro w hSw; (try dsimp only at hSw); go_simp; first | done | (with_reducible rfl))
              try simp only [List.getElem_toArray, List.getElem_cons_succ, List.getElem_cons_zero]
              try simp only [Act.put, List.setIfInBounds_toArray, List.set_cons_zero, List.set_cons_succ]
              refine takeHL5 (fun _ _ _ _ _ h => h) (by assumption) 3 (v := ?vL23) rfl (by kernel_rfl) (by kernel_rfl) (by kernel_rfl) (Or.inl ⟨by kernel_rfl, ?hyL23⟩) ?restL23
              case hyL23 => (intro w hSw; (try dsimp only at hSw); go_simp; first | done | (with_reducible rfl))
              try simp only [List.getElem_toArray, List.getElem_cons_succ, List.getElem_cons_zero]
              try simp only [Act.put, List.setIfInBounds_toArray, List.set_cons_zero, List.set_cons_succ]
              refine takeHL5 (fun _ _ _ _ _ h => h) (by assumption) 4 (v := undef) rfl (by kernel_rfl) (by kernel_rfl) (by kernel_rfl) (Or.inr ⟨by kernel_rfl, rfl⟩) ?_
              simp only [List.getElem_toArray, List.getElem_cons_succ, List.getElem_cons_zero]
              try simp only [Act.put, List.setIfInBounds_toArray, List.set_cons_zero, List.set_cons_succ]
              refine takeHL5 (fun _ _ _ _ _ h => h) (by assumption) 6 (v := undef) rfl (by kernel_rfl) (by kernel_rfl) (by kernel_rfl) (Or.inr ⟨by kernel_rfl, rfl⟩) ?_
              simp only [List.getElem_toArray, List.getElem_cons_succ, List.getElem_cons_zero]
              try simp only [Act.put, List.setIfInBounds_toArray, List.set_cons_zero, List.set_cons_succ]
              refine wpAnyH_ready (rs := [5]) (by kernel_rfl) (by simp) ?_
              refine AllReadyH.cons rfl (fun K hK => ?_) AllReadyH.nil
              go_simp
              refine hK.out _ _ ?_ (fun hHeld => ?_)
              · assumption
              clear hK K
              try simp only [Act.put, List.setIfInBounds_toArray, List.set_cons_zero, List.set_cons_succ]
              refine takeHL5 (fun _ _ _ _ _ h => h) (by assumption) 7 (v := undef) rfl (by kernel_rfl) (by kernel_rfl) (by kernel_rfl) (Or.inr ⟨by kernel_rfl, rfl⟩) ?_
              simp only [List.getElem_toArray, List.getElem_cons_succ, List.getElem_cons_zero]
              try simp only [Act.put, List.setIfInBounds_toArray, List.set_cons_zero, List.set_cons_succ]
              refine takeHL5 (fun _ _ _ _ _ h => h) (by assumption) 8 (v := ?vL28) rfl (by kernel_rfl) (by kernel_rfl) (by kernel_rfl) (Or.inl ⟨by kernel_rfl, ?hyL28⟩) ?restL28
              case hyL28 => (intro w hSw; (try dsimp only at hSw); go_simp; first | done | (with_reducible rfl))
              try simp only [List.getElem_toArray, List.getElem_cons_succ, List.getElem_cons_zero]
              try simp only [Act.put, List.setIfInBounds_toArray, List.set_cons_zero, List.set_cons_succ]
              refine wpAnyH_done (by kernel_rfl) ?_ _
              refine NoPanic.normal ?_
              have HB7 : Hid (Below (w.heap.size + 1) wc w6) := HBV.out.drew.trans (b6.mono (Nat.le_trans HSC.out HBV.out.size))
              have ROW7 : Hid (Mrow g k Ex Ob k w6) := ROW5.out.on (b6.block _ ROW5.out.lt)
              have r7 : Rd 73 wl.heap.size R false w6 := by have h := HRD5.out.drew.below b6 HRD5.out.drew.lt; rw [HUR.out] at h; exact h
              have HR7 := Lib.hid r7
              clear b6 r7
              go_wp2
              go_roundw
              case rel => exact ⟨d + 1, j, by omega, by go_num, by rw [← HRR.out]; exact HR7.out, fun _ => ROW7.out, HB7.out⟩
              case measure => simp [intOf]; omega
          · have hj0 : j = 0 := by omega
            subst hj0
            have hdk : d = k := by omega
            subst hdk
            have HRE : Hid (Rd 73 wl.heap.size ⟨#[]⟩ false wr) := hrd
            have HBX := Lib.hid hBx
            have HKX : Hid (wr.heap[w.heap.size]? = some (.cells (nvc m0 own NA nn nc) 47 (0, 0))) := (hBx.block _ (by omega)).trans HKC.out
            have HBE : Hid (Below w.heap.size w wr) := HBC.out.trans ⟨hBx.os, hBx.tape, hBx.output, hBx.size, fun i hi => hBx.block i (by omega)⟩
            clear hrd hrow hBx hlt2 hdj
            have n0 : wr.cell? ⟨w.heap.size, 0, none⟩ = some (.int .i64 m0.kind) := cell_of_row wr _ 0 _ 47 (0, 0) HKX.out
            have n1 : wr.cell? ⟨w.heap.size, 1, none⟩ = some (.int .i64 m0.frm) := cell_of_row wr _ 1 _ 47 (0, 0) HKX.out
            have n2 : wr.cell? ⟨w.heap.size, 2, none⟩ = some (.int .i64 m0.dst) := cell_of_row wr _ 2 _ 47 (0, 0) HKX.out
            have n3 : wr.cell? ⟨w.heap.size, 3, none⟩ = some (.int .u64 m0.term) := cell_of_row wr _ 3 _ 47 (0, 0) HKX.out
            have n4 : wr.cell? ⟨w.heap.size, 4, none⟩ = some (.int .u64 m0.index) := cell_of_row wr _ 4 _ 47 (0, 0) HKX.out
            have n5 : wr.cell? ⟨w.heap.size, 5, none⟩ = some (.int .u64 m0.prev) := cell_of_row wr _ 5 _ 47 (0, 0) HKX.out
            have n6 : wr.cell? ⟨w.heap.size, 6, none⟩ = some (.int .u64 m0.commit) := cell_of_row wr _ 6 _ 47 (0, 0) HKX.out
            have n7 : wr.cell? ⟨w.heap.size, 7, none⟩ = some (.int .u64 m0.mark) := cell_of_row wr _ 7 _ 47 (0, 0) HKX.out
            have n8 : wr.cell? ⟨w.heap.size, 8, none⟩ = some (.bool m0.ok) := cell_of_row wr _ 8 _ 47 (0, 0) HKX.out
            have n9 : wr.cell? ⟨w.heap.size, 9, none⟩ = some (.slice m0.A m0.n m0.c) := cell_of_row wr _ 9 _ 47 (0, 0) HKX.out
            have n10 : wr.cell? ⟨w.heap.size, 10, none⟩ = some (.string m0.snap) := cell_of_row wr _ 10 _ 47 (0, 0) HKX.out
            have n11 : wr.cell? ⟨w.heap.size, 11, none⟩ = some (.bool own) := cell_of_row wr _ 11 _ 47 (0, 0) HKX.out
            have n12 : wr.cell? ⟨w.heap.size, 12, none⟩ = some (.slice NA nn nc) := cell_of_row wr _ 12 _ 47 (0, 0) HKX.out
            have fzn : ∀ i, wr.frozen? ⟨w.heap.size, i, none⟩ = false := fun i => Md.of HKX.out
            obtain ⟨V, hV⟩ : ∃ V, V = wr.setCell ⟨w.heap.size, 11, none⟩ (.bool true) := ⟨_, rfl⟩
            have HKV : Hid (V.heap[w.heap.size]? = some (.cells (nvc m0 true NA nn nc) 47 (0, 0))) := by show _ = _; rw [hV]; exact set_blk HKX.out 11 _
            have HB_V : Hid (Below w.heap.size w V) := by show Below _ _ _; rw [hV]; exact HBE.out.setCell (p := ⟨w.heap.size, 11, none⟩) (Nat.le_refl _) _
            have HR_V : Hid (Rd 73 wl.heap.size ⟨#[]⟩ false V) := by show Rd _ _ _ _ _; rw [hV]; exact (Below.heap_setCell _ _ _ _ (by have := HG2.out; simp; omega)).trans HRE.out
            have HV := Lib.hid hV
            have KN := Lib.hid (fun (W : World) (hb : Below w.heap.size w W) => note4 m0 NA nn nc NL W (HNI.out.on hb))
            clear hV
            go_upto_region 24 with fail
            rw [← HV.out]
            clear fzn n0 n1 n2 n3 n4 n5 n6 n7 n8 n9 n10 n11 n12
            have n0 : V.cell? ⟨w.heap.size, 0, none⟩ = some (.int .i64 m0.kind) := cell_of_row V _ 0 _ 47 (0, 0) HKV.out
            have n1 : V.cell? ⟨w.heap.size, 1, none⟩ = some (.int .i64 m0.frm) := cell_of_row V _ 1 _ 47 (0, 0) HKV.out
            have n2 : V.cell? ⟨w.heap.size, 2, none⟩ = some (.int .i64 m0.dst) := cell_of_row V _ 2 _ 47 (0, 0) HKV.out
            have n3 : V.cell? ⟨w.heap.size, 3, none⟩ = some (.int .u64 m0.term) := cell_of_row V _ 3 _ 47 (0, 0) HKV.out
            have n4 : V.cell? ⟨w.heap.size, 4, none⟩ = some (.int .u64 m0.index) := cell_of_row V _ 4 _ 47 (0, 0) HKV.out
            have n5 : V.cell? ⟨w.heap.size, 5, none⟩ = some (.int .u64 m0.prev) := cell_of_row V _ 5 _ 47 (0, 0) HKV.out
            have n6 : V.cell? ⟨w.heap.size, 6, none⟩ = some (.int .u64 m0.commit) := cell_of_row V _ 6 _ 47 (0, 0) HKV.out
            have n7 : V.cell? ⟨w.heap.size, 7, none⟩ = some (.int .u64 m0.mark) := cell_of_row V _ 7 _ 47 (0, 0) HKV.out
            have n8 : V.cell? ⟨w.heap.size, 8, none⟩ = some (.bool m0.ok) := cell_of_row V _ 8 _ 47 (0, 0) HKV.out
            have n9 : V.cell? ⟨w.heap.size, 9, none⟩ = some (.slice m0.A m0.n m0.c) := cell_of_row V _ 9 _ 47 (0, 0) HKV.out
            have n10 : V.cell? ⟨w.heap.size, 10, none⟩ = some (.string m0.snap) := cell_of_row V _ 10 _ 47 (0, 0) HKV.out
            have n11 : V.cell? ⟨w.heap.size, 11, none⟩ = some (.bool true) := cell_of_row V _ 11 _ 47 (0, 0) HKV.out
            have n12 : V.cell? ⟨w.heap.size, 12, none⟩ = some (.slice NA nn nc) := cell_of_row V _ 12 _ 47 (0, 0) HKV.out
            go_wp2_with fail
            refine (KN.out _ HB_V.out).mono ?_
            rintro q w5 ⟨M, rfl, eM, wM, rM, lM, b⟩
            have HB_w5 : Hid (Below w.heap.size w w5) := HB_V.out.trans (b.mono HB_V.out.size)
            have HR_w5 : Hid (Rd 73 wl.heap.size ⟨#[]⟩ false w5) := HR_V.out.below b HR_V.out.lt
            have HEM0 := Lib.hid eM
            have HWM := Lib.hid wM
            have HRM := Lib.hid rM
            have HLM := Lib.hid lM
            have HNM := Lib.hid (wide_n wM)
            clear b eM wM rM lM n0 n1 n2 n3 n4 n5 n6 n7 n8 n9 n10 n11 n12
            obtain ⟨W5, hW5⟩ : ∃ W5, W5 = w5.alloc (Obj.cells (mc M) 44) := ⟨_, rfl⟩
            have b : Below w5.heap.size w5 W5 := by rw [hW5]; exact (Below.refl _ _).alloc (Nat.le_refl _) _
            have HB_W5 : Hid (Below w.heap.size w W5) := HB_w5.out.trans (b.mono HB_w5.out.size)
            have HR_W5 : Hid (Rd 73 wl.heap.size ⟨#[]⟩ false W5) := HR_w5.out.below b HR_w5.out.lt
            have HM_W5 : Hid (W5.heap[w5.heap.size]? = some (.cells (mc M) 44 (0, 0))) := by show _ = _; rw [hW5]; exact heap_alloc_new w5 _
            have HEM_W5 : Hid (Ents W5.heap.size M.A M.n M.es W5) := (HEM0.out.below b).mr b.size
            have HW_W5 := Lib.hid hW5
            clear b hW5
            go_upto_region 25 with fail
            rw [← HW_W5.out]
            have KP := Lib.hid (fun (W : World) (h : Ents W.heap.size M.A M.n M.es W) => putM_any M W h HWM.out)
            have KL := Lib.hid (fun (W : World) (h : Ents W.heap.size M.A M.n M.es W) => mlevel_any M W h HNM.out)
            have hbm := mlvl_bounds M
            by_cases hlv : mlvl M = 1
            · have hmay : mmayB M = true := by unfold mmayB; rw [HRM.out, hlv]; rfl
              have hput : putM M = pbm M := by unfold putM; rw [if_pos hmay]
              have hpz : (pbm M).size ≤ 100000 := by have h := putM_size HWM.out HLM.out; rw [hput] at h; exact h
              have hp1 : 0 < (pbm M).size := by rw [pbm_size (mfew_of HWM.out HRM.out) HLM.out]; omega
              obtain ⟨g1, g2, g3, g4⟩ := gok_put HWM.out hmay HLM.out
              rw [hput, hmay] at KP
              rw [hlv] at KL
              obtain ⟨P, hP⟩ : ∃ P, P = pbm M := ⟨_, rfl⟩
              rw [← hP] at KP hpz hp1 g1 g2 g3 g4
              obtain ⟨c, hc⟩ : ∃ c : Nat, c = cut % P.size := ⟨_, rfl⟩
              have hcl : c < P.size := by rw [hc]; exact Nat.mod_lt _ hp1
              have hrem : (cut : Int) % (P.size : Int) = c := by rw [hc]; exact (Int.natCast_emod _ _).symm
              have hrem2 : ((cut : Int)).tmod (P.size : Int) = c := by rw [Int.tmod_eq_emod_of_nonneg (by omega)]; exact hrem
              have hpl : ¬ P.toList = [] := fun h => by
                rw [ByteArray.toList_eq] at h
                have h2 := Lib.size_eq P
                rw [h, List.length_nil] at h2
                omega
              have hple : P.toList.isEmpty = false := by cases hq : P.toList with | nil => exact absurd hq hpl | cons a l => rfl
              have hnz : ¬ (P.size : Int) = 0 := by omega
              have hadd : ¬ 9223372036854775807 < P.size + 1 := by omega
              have G1 := Lib.hid g1
              have G2 := Lib.hid (g2 c hcl)
              obtain ⟨U, hU⟩ : ∃ U, U = P ++ (⟨#[0]⟩ : ByteArray) := ⟨_, rfl⟩
              have g3' := g3 ⟨#[0]⟩ (by decide)
              rw [← hU] at g3'
              have G3 := Lib.hid g3'
              have HU0 : Hid (P ++ (⟨#[0]⟩ : ByteArray) = U) := hU.symm
              have h01 : (⟨#[0]⟩ : ByteArray).size = 1 := rfl
              have HUZ : Hid (U.size ≤ 140737488351232) := by show _ ≤ _; rw [hU, ByteArray.size_append, h01]; omega
              have G4 := Lib.hid g4
              have KG : Hid (∀ (U : ByteArray) (W : World), U.size ≤ 140737488351232 → Calls Try.prog 22 #[.string U] W (GMsg U W)) := fun U W h => getMsg_any U W h
              clear hput hP hc g1 g2 g3 g4 hlv hbm hmay hU g3' h01
              have x0 : W5.cell? ⟨w5.heap.size, 0, none⟩ = some (.int .i64 M.kind) := cell_of_row W5 _ 0 _ 44 (0, 0) HM_W5.out
              have x1 : W5.cell? ⟨w5.heap.size, 1, none⟩ = some (.int .i64 M.frm) := cell_of_row W5 _ 1 _ 44 (0, 0) HM_W5.out
              have x2 : W5.cell? ⟨w5.heap.size, 2, none⟩ = some (.int .i64 M.dst) := cell_of_row W5 _ 2 _ 44 (0, 0) HM_W5.out
              have x3 : W5.cell? ⟨w5.heap.size, 3, none⟩ = some (.int .u64 M.term) := cell_of_row W5 _ 3 _ 44 (0, 0) HM_W5.out
              have x4 : W5.cell? ⟨w5.heap.size, 4, none⟩ = some (.int .u64 M.index) := cell_of_row W5 _ 4 _ 44 (0, 0) HM_W5.out
              have x5 : W5.cell? ⟨w5.heap.size, 5, none⟩ = some (.int .u64 M.prev) := cell_of_row W5 _ 5 _ 44 (0, 0) HM_W5.out
              have x6 : W5.cell? ⟨w5.heap.size, 6, none⟩ = some (.int .u64 M.commit) := cell_of_row W5 _ 6 _ 44 (0, 0) HM_W5.out
              have x7 : W5.cell? ⟨w5.heap.size, 7, none⟩ = some (.int .u64 M.mark) := cell_of_row W5 _ 7 _ 44 (0, 0) HM_W5.out
              have x8 : W5.cell? ⟨w5.heap.size, 8, none⟩ = some (.bool M.ok) := cell_of_row W5 _ 8 _ 44 (0, 0) HM_W5.out
              have x9 : W5.cell? ⟨w5.heap.size, 9, none⟩ = some (.slice M.A M.n M.c) := cell_of_row W5 _ 9 _ 44 (0, 0) HM_W5.out
              have x10 : W5.cell? ⟨w5.heap.size, 10, none⟩ = some (.string M.snap) := cell_of_row W5 _ 10 _ 44 (0, 0) HM_W5.out
              go_wp2_with fail
              refine (KP.out _ HEM_W5.out).mono ?_
              rintro q w6 ⟨rfl, b⟩
              have HB_w6 : Hid (Below w.heap.size w w6) := HB_W5.out.trans (b.mono HB_W5.out.size)
              have HR_w6 : Hid (Rd 73 wl.heap.size ⟨#[]⟩ false w6) := HR_W5.out.below b HR_W5.out.lt
              have HM_w6 : Hid (w6.heap[w5.heap.size]? = some (.cells (mc M) 44 (0, 0))) := (b.block _ (Array.getElem?_eq_some_iff.1 HM_W5.out).1).trans HM_W5.out
              have HEM_w6 : Hid (Ents w6.heap.size M.A M.n M.es w6) := (HEM_W5.out.below b).mr b.size
              clear b x0 x1 x2 x3 x4 x5 x6 x7 x8 x9 x10
              have x0 : w6.cell? ⟨w5.heap.size, 0, none⟩ = some (.int .i64 M.kind) := cell_of_row w6 _ 0 _ 44 (0, 0) HM_w6.out
              have x1 : w6.cell? ⟨w5.heap.size, 1, none⟩ = some (.int .i64 M.frm) := cell_of_row w6 _ 1 _ 44 (0, 0) HM_w6.out
              have x2 : w6.cell? ⟨w5.heap.size, 2, none⟩ = some (.int .i64 M.dst) := cell_of_row w6 _ 2 _ 44 (0, 0) HM_w6.out
              have x3 : w6.cell? ⟨w5.heap.size, 3, none⟩ = some (.int .u64 M.term) := cell_of_row w6 _ 3 _ 44 (0, 0) HM_w6.out
              have x4 : w6.cell? ⟨w5.heap.size, 4, none⟩ = some (.int .u64 M.index) := cell_of_row w6 _ 4 _ 44 (0, 0) HM_w6.out
              have x5 : w6.cell? ⟨w5.heap.size, 5, none⟩ = some (.int .u64 M.prev) := cell_of_row w6 _ 5 _ 44 (0, 0) HM_w6.out
              have x6 : w6.cell? ⟨w5.heap.size, 6, none⟩ = some (.int .u64 M.commit) := cell_of_row w6 _ 6 _ 44 (0, 0) HM_w6.out
              have x7 : w6.cell? ⟨w5.heap.size, 7, none⟩ = some (.int .u64 M.mark) := cell_of_row w6 _ 7 _ 44 (0, 0) HM_w6.out
              have x8 : w6.cell? ⟨w5.heap.size, 8, none⟩ = some (.bool M.ok) := cell_of_row w6 _ 8 _ 44 (0, 0) HM_w6.out
              have x9 : w6.cell? ⟨w5.heap.size, 9, none⟩ = some (.slice M.A M.n M.c) := cell_of_row w6 _ 9 _ 44 (0, 0) HM_w6.out
              have x10 : w6.cell? ⟨w5.heap.size, 10, none⟩ = some (.string M.snap) := cell_of_row w6 _ 10 _ 44 (0, 0) HM_w6.out
              go_wp2_with fail
              refine (KL.out _ HEM_w6.out).mono ?_
              rintro q w7 ⟨rfl, b⟩
              have HB_w7 : Hid (Below w.heap.size w w7) := HB_w6.out.trans (b.mono HB_w6.out.size)
              have HR_w7 : Hid (Rd 73 wl.heap.size ⟨#[]⟩ false w7) := HR_w6.out.below b HR_w6.out.lt
              have HM_w7 : Hid (w7.heap[w5.heap.size]? = some (.cells (mc M) 44 (0, 0))) := (b.block _ (Array.getElem?_eq_some_iff.1 HM_w6.out).1).trans HM_w6.out
              have HEM_w7 : Hid (Ents w7.heap.size M.A M.n M.es w7) := (HEM_w6.out.below b).mr b.size
              clear b x0 x1 x2 x3 x4 x5 x6 x7 x8 x9 x10
              go_wp2_with fail
              refine (KG.out P _ (by omega)).mono ?_
              rintro q w8 ⟨M1, rfl, e1, wd1, b, f1, _⟩
              have HB_w8 : Hid (Below w.heap.size w w8) := HB_w7.out.trans (b.mono HB_w7.out.size)
              have HR_w8 : Hid (Rd 73 wl.heap.size ⟨#[]⟩ false w8) := HR_w7.out.below b HR_w7.out.lt
              have HM_w8 : Hid (w8.heap[w5.heap.size]? = some (.cells (mc M) 44 (0, 0))) := (b.block _ (Array.getElem?_eq_some_iff.1 HM_w7.out).1).trans HM_w7.out
              have HEM_w8 : Hid (Ents w8.heap.size M.A M.n M.es w8) := (HEM_w7.out.below b).mr b.size
              have HSAME : Hid (msameB M M1 = true) := by
                show _ = _
                obtain ⟨A', c', h⟩ := f1 G1.out
                rw [h]
                exact G4.out A' c'
              have HE10 := Lib.hid e1
              have HN1 := Lib.hid (wide_n wd1)
              rw [G1.out]
              clear b e1 wd1 f1
              obtain ⟨W8, hW8⟩ : ∃ W8, W8 = w8.alloc (Obj.cells (mc M1) 44) := ⟨_, rfl⟩
              have b : Below w8.heap.size w8 W8 := by rw [hW8]; exact (Below.refl _ _).alloc (Nat.le_refl _) _
              have HB_W8 : Hid (Below w.heap.size w W8) := HB_w8.out.trans (b.mono HB_w8.out.size)
              have HR_W8 : Hid (Rd 73 wl.heap.size ⟨#[]⟩ false W8) := HR_w8.out.below b HR_w8.out.lt
              have HN_W8 : Hid (W8.heap[w8.heap.size]? = some (.cells (mc M1) 44 (0, 0))) := by show _ = _; rw [hW8]; exact heap_alloc_new w8 _
              have HEN_W8 : Hid (Ents W8.heap.size M1.A M1.n M1.es W8) := (HE10.out.below b).mr b.size
              have HM_W8 : Hid (W8.heap[w5.heap.size]? = some (.cells (mc M) 44 (0, 0))) := (b.block _ (Array.getElem?_eq_some_iff.1 HM_w8.out).1).trans HM_w8.out
              have HEM_W8 : Hid (Ents W8.heap.size M.A M.n M.es W8) := (HEM_w8.out.below b).mr b.size
              have HW_W8 := Lib.hid hW8
              clear b hW8
              go_upto_region 31 with fail
              rw [← HW_W8.out]
              go_wp2_with fail
              refine (KG.out (P.extract 0 c) _ (by rw [ByteArray.size_extract]; omega)).mono ?_
              rintro q w9 ⟨M2, rfl, e2, wd2, b, _, f2⟩
              have HB_w9 : Hid (Below w.heap.size w w9) := HB_W8.out.trans (b.mono HB_W8.out.size)
              have HR_w9 : Hid (Rd 73 wl.heap.size ⟨#[]⟩ false w9) := HR_W8.out.below b HR_W8.out.lt
              have HM_w9 : Hid (w9.heap[w5.heap.size]? = some (.cells (mc M) 44 (0, 0))) := (b.block _ (Array.getElem?_eq_some_iff.1 HM_W8.out).1).trans HM_W8.out
              have HEM_w9 : Hid (Ents w9.heap.size M.A M.n M.es w9) := (HEM_W8.out.below b).mr b.size
              have HN_w9 : Hid (w9.heap[w8.heap.size]? = some (.cells (mc M1) 44 (0, 0))) := (b.block _ (Array.getElem?_eq_some_iff.1 HN_W8.out).1).trans HN_W8.out
              have HEN_w9 : Hid (Ents w9.heap.size M1.A M1.n M1.es w9) := (HEN_W8.out.below b).mr b.size
              rw [G2.out]
              have HE20 := Lib.hid e2
              clear b e2 wd2 f2
              obtain ⟨W9, hW9⟩ : ∃ W9, W9 = w9.alloc (Obj.cells (mc M2) 44) := ⟨_, rfl⟩
              have b : Below w9.heap.size w9 W9 := by rw [hW9]; exact (Below.refl _ _).alloc (Nat.le_refl _) _
              have HB_W9 : Hid (Below w.heap.size w W9) := HB_w9.out.trans (b.mono HB_w9.out.size)
              have HR_W9 : Hid (Rd 73 wl.heap.size ⟨#[]⟩ false W9) := HR_w9.out.below b HR_w9.out.lt
              have HQ_W9 : Hid (W9.heap[w9.heap.size]? = some (.cells (mc M2) 44 (0, 0))) := by show _ = _; rw [hW9]; exact heap_alloc_new w9 _
              have HEQ_W9 : Hid (Ents W9.heap.size M2.A M2.n M2.es W9) := (HE20.out.below b).mr b.size
              have HM_W9 : Hid (W9.heap[w5.heap.size]? = some (.cells (mc M) 44 (0, 0))) := (b.block _ (Array.getElem?_eq_some_iff.1 HM_w9.out).1).trans HM_w9.out
              have HEM_W9 : Hid (Ents W9.heap.size M.A M.n M.es W9) := (HEM_w9.out.below b).mr b.size
              have HN_W9 : Hid (W9.heap[w8.heap.size]? = some (.cells (mc M1) 44 (0, 0))) := (b.block _ (Array.getElem?_eq_some_iff.1 HN_w9.out).1).trans HN_w9.out
              have HEN_W9 : Hid (Ents W9.heap.size M1.A M1.n M1.es W9) := (HEN_w9.out.below b).mr b.size
              have HW_W9 := Lib.hid hW9
              clear b hW9
              go_upto_region 32 with fail
              rw [← HW_W9.out]
              go_wp2_with fail
              rw [HU0.out]
              refine (KG.out U _ HUZ.out).mono ?_
              rintro q w10 ⟨M3, rfl, e3, wd3, b, _, f3⟩
              have HB_w10 : Hid (Below w.heap.size w w10) := HB_W9.out.trans (b.mono HB_W9.out.size)
              have HR_w10 : Hid (Rd 73 wl.heap.size ⟨#[]⟩ false w10) := HR_W9.out.below b HR_W9.out.lt
              have HM_w10 : Hid (w10.heap[w5.heap.size]? = some (.cells (mc M) 44 (0, 0))) := (b.block _ (Array.getElem?_eq_some_iff.1 HM_W9.out).1).trans HM_W9.out
              have HEM_w10 : Hid (Ents w10.heap.size M.A M.n M.es w10) := (HEM_W9.out.below b).mr b.size
              have HN_w10 : Hid (w10.heap[w8.heap.size]? = some (.cells (mc M1) 44 (0, 0))) := (b.block _ (Array.getElem?_eq_some_iff.1 HN_W9.out).1).trans HN_W9.out
              have HEN_w10 : Hid (Ents w10.heap.size M1.A M1.n M1.es w10) := (HEN_W9.out.below b).mr b.size
              rw [G3.out]
              have HE30 := Lib.hid e3
              clear b e3 wd3 f3
              obtain ⟨W10, hW10⟩ : ∃ W10, W10 = w10.alloc (Obj.cells (mc M3) 44) := ⟨_, rfl⟩
              have b : Below w10.heap.size w10 W10 := by rw [hW10]; exact (Below.refl _ _).alloc (Nat.le_refl _) _
              have HB_W10 : Hid (Below w.heap.size w W10) := HB_w10.out.trans (b.mono HB_w10.out.size)
              have HR_W10 : Hid (Rd 73 wl.heap.size ⟨#[]⟩ false W10) := HR_w10.out.below b HR_w10.out.lt
              have HS_W10 : Hid (W10.heap[w10.heap.size]? = some (.cells (mc M3) 44 (0, 0))) := by show _ = _; rw [hW10]; exact heap_alloc_new w10 _
              have HES_W10 : Hid (Ents W10.heap.size M3.A M3.n M3.es W10) := (HE30.out.below b).mr b.size
              have HM_W10 : Hid (W10.heap[w5.heap.size]? = some (.cells (mc M) 44 (0, 0))) := (b.block _ (Array.getElem?_eq_some_iff.1 HM_w10.out).1).trans HM_w10.out
              have HEM_W10 : Hid (Ents W10.heap.size M.A M.n M.es W10) := (HEM_w10.out.below b).mr b.size
              have HN_W10 : Hid (W10.heap[w8.heap.size]? = some (.cells (mc M1) 44 (0, 0))) := (b.block _ (Array.getElem?_eq_some_iff.1 HN_w10.out).1).trans HN_w10.out
              have HEN_W10 : Hid (Ents W10.heap.size M1.A M1.n M1.es W10) := (HEN_w10.out.below b).mr b.size
              have HW_W10 := Lib.hid hW10
              clear b hW10
              go_upto_region 33 with fail
              rw [← HW_W10.out]
              have KM : Hid (Calls Try.prog 27 #[mv M, mv M1] W10 fun r w' => r = .returned (.bool true) ∧ Below W10.heap.size W10 w') := by
                refine (msame_any M M1 W10 HEM_W10.out HEN_W10.out HNM.out HN1.out).mono fun r w' ⟨h1, h2⟩ => ⟨?_, h2⟩
                rw [h1, HSAME.out]
              have x0 : W10.cell? ⟨w5.heap.size, 0, none⟩ = some (.int .i64 M.kind) := cell_of_row W10 _ 0 _ 44 (0, 0) HM_W10.out
              have x1 : W10.cell? ⟨w5.heap.size, 1, none⟩ = some (.int .i64 M.frm) := cell_of_row W10 _ 1 _ 44 (0, 0) HM_W10.out
              have x2 : W10.cell? ⟨w5.heap.size, 2, none⟩ = some (.int .i64 M.dst) := cell_of_row W10 _ 2 _ 44 (0, 0) HM_W10.out
              have x3 : W10.cell? ⟨w5.heap.size, 3, none⟩ = some (.int .u64 M.term) := cell_of_row W10 _ 3 _ 44 (0, 0) HM_W10.out
              have x4 : W10.cell? ⟨w5.heap.size, 4, none⟩ = some (.int .u64 M.index) := cell_of_row W10 _ 4 _ 44 (0, 0) HM_W10.out
              have x5 : W10.cell? ⟨w5.heap.size, 5, none⟩ = some (.int .u64 M.prev) := cell_of_row W10 _ 5 _ 44 (0, 0) HM_W10.out
              have x6 : W10.cell? ⟨w5.heap.size, 6, none⟩ = some (.int .u64 M.commit) := cell_of_row W10 _ 6 _ 44 (0, 0) HM_W10.out
              have x7 : W10.cell? ⟨w5.heap.size, 7, none⟩ = some (.int .u64 M.mark) := cell_of_row W10 _ 7 _ 44 (0, 0) HM_W10.out
              have x8 : W10.cell? ⟨w5.heap.size, 8, none⟩ = some (.bool M.ok) := cell_of_row W10 _ 8 _ 44 (0, 0) HM_W10.out
              have x9 : W10.cell? ⟨w5.heap.size, 9, none⟩ = some (.slice M.A M.n M.c) := cell_of_row W10 _ 9 _ 44 (0, 0) HM_W10.out
              have x10 : W10.cell? ⟨w5.heap.size, 10, none⟩ = some (.string M.snap) := cell_of_row W10 _ 10 _ 44 (0, 0) HM_W10.out
              have y0 : W10.cell? ⟨w8.heap.size, 0, none⟩ = some (.int .i64 M1.kind) := cell_of_row W10 _ 0 _ 44 (0, 0) HN_W10.out
              have y1 : W10.cell? ⟨w8.heap.size, 1, none⟩ = some (.int .i64 M1.frm) := cell_of_row W10 _ 1 _ 44 (0, 0) HN_W10.out
              have y2 : W10.cell? ⟨w8.heap.size, 2, none⟩ = some (.int .i64 M1.dst) := cell_of_row W10 _ 2 _ 44 (0, 0) HN_W10.out
              have y3 : W10.cell? ⟨w8.heap.size, 3, none⟩ = some (.int .u64 M1.term) := cell_of_row W10 _ 3 _ 44 (0, 0) HN_W10.out
              have y4 : W10.cell? ⟨w8.heap.size, 4, none⟩ = some (.int .u64 M1.index) := cell_of_row W10 _ 4 _ 44 (0, 0) HN_W10.out
              have y5 : W10.cell? ⟨w8.heap.size, 5, none⟩ = some (.int .u64 M1.prev) := cell_of_row W10 _ 5 _ 44 (0, 0) HN_W10.out
              have y6 : W10.cell? ⟨w8.heap.size, 6, none⟩ = some (.int .u64 M1.commit) := cell_of_row W10 _ 6 _ 44 (0, 0) HN_W10.out
              have y7 : W10.cell? ⟨w8.heap.size, 7, none⟩ = some (.int .u64 M1.mark) := cell_of_row W10 _ 7 _ 44 (0, 0) HN_W10.out
              have y8 : W10.cell? ⟨w8.heap.size, 8, none⟩ = some (.bool M1.ok) := cell_of_row W10 _ 8 _ 44 (0, 0) HN_W10.out
              have y9 : W10.cell? ⟨w8.heap.size, 9, none⟩ = some (.slice M1.A M1.n M1.c) := cell_of_row W10 _ 9 _ 44 (0, 0) HN_W10.out
              have y10 : W10.cell? ⟨w8.heap.size, 10, none⟩ = some (.string M1.snap) := cell_of_row W10 _ 10 _ 44 (0, 0) HN_W10.out
              go_wp2_with fail
              refine KM.out.mono ?_
              rintro q w11 ⟨rfl, b⟩
              have HB_w11 : Hid (Below w.heap.size w w11) := HB_W10.out.trans (b.mono HB_W10.out.size)
              have HR_w11 : Hid (Rd 73 wl.heap.size ⟨#[]⟩ false w11) := HR_W10.out.below b HR_W10.out.lt
              clear b x0 x1 x2 x3 x4 x5 x6 x7 x8 x9 x10 y0 y1 y2 y3 y4 y5 y6 y7 y8 y9 y10
              go_wp2_with fail
              refine (ok2 _ _ _ _ HR_w11.out).mono ?_
              rintro q w12 ⟨rfl, rfl⟩
              go_wp2_with fail
              refine (left2 _ _ _ _ HR_w11.out).mono ?_
              rintro q w12 ⟨rfl, rfl⟩
              go_wp2
              go_ret
              exact ⟨rfl, HB_w11.out⟩
            · have hl2 : mlvl M = 2 := by omega
              have hmay : mmayB M = false := by unfold mmayB; rw [hl2]; simp
              have hput : putM M = ⟨#[]⟩ := by unfold putM; rw [hmay]; rfl
              rw [hput, hmay] at KP
              rw [hl2] at KL
              clear hput hmay hl2 hlv hbm
              have x0 : W5.cell? ⟨w5.heap.size, 0, none⟩ = some (.int .i64 M.kind) := cell_of_row W5 _ 0 _ 44 (0, 0) HM_W5.out
              have x1 : W5.cell? ⟨w5.heap.size, 1, none⟩ = some (.int .i64 M.frm) := cell_of_row W5 _ 1 _ 44 (0, 0) HM_W5.out
              have x2 : W5.cell? ⟨w5.heap.size, 2, none⟩ = some (.int .i64 M.dst) := cell_of_row W5 _ 2 _ 44 (0, 0) HM_W5.out
              have x3 : W5.cell? ⟨w5.heap.size, 3, none⟩ = some (.int .u64 M.term) := cell_of_row W5 _ 3 _ 44 (0, 0) HM_W5.out
              have x4 : W5.cell? ⟨w5.heap.size, 4, none⟩ = some (.int .u64 M.index) := cell_of_row W5 _ 4 _ 44 (0, 0) HM_W5.out
              have x5 : W5.cell? ⟨w5.heap.size, 5, none⟩ = some (.int .u64 M.prev) := cell_of_row W5 _ 5 _ 44 (0, 0) HM_W5.out
              have x6 : W5.cell? ⟨w5.heap.size, 6, none⟩ = some (.int .u64 M.commit) := cell_of_row W5 _ 6 _ 44 (0, 0) HM_W5.out
              have x7 : W5.cell? ⟨w5.heap.size, 7, none⟩ = some (.int .u64 M.mark) := cell_of_row W5 _ 7 _ 44 (0, 0) HM_W5.out
              have x8 : W5.cell? ⟨w5.heap.size, 8, none⟩ = some (.bool M.ok) := cell_of_row W5 _ 8 _ 44 (0, 0) HM_W5.out
              have x9 : W5.cell? ⟨w5.heap.size, 9, none⟩ = some (.slice M.A M.n M.c) := cell_of_row W5 _ 9 _ 44 (0, 0) HM_W5.out
              have x10 : W5.cell? ⟨w5.heap.size, 10, none⟩ = some (.string M.snap) := cell_of_row W5 _ 10 _ 44 (0, 0) HM_W5.out
              go_wp2_with fail
              refine (KP.out _ HEM_W5.out).mono ?_
              rintro q w6 ⟨rfl, b⟩
              have HB_w6 : Hid (Below w.heap.size w w6) := HB_W5.out.trans (b.mono HB_W5.out.size)
              have HR_w6 : Hid (Rd 73 wl.heap.size ⟨#[]⟩ false w6) := HR_W5.out.below b HR_W5.out.lt
              have HM_w6 : Hid (w6.heap[w5.heap.size]? = some (.cells (mc M) 44 (0, 0))) := (b.block _ (Array.getElem?_eq_some_iff.1 HM_W5.out).1).trans HM_W5.out
              have HEM_w6 : Hid (Ents w6.heap.size M.A M.n M.es w6) := (HEM_W5.out.below b).mr b.size
              clear b x0 x1 x2 x3 x4 x5 x6 x7 x8 x9 x10
              have x0 : w6.cell? ⟨w5.heap.size, 0, none⟩ = some (.int .i64 M.kind) := cell_of_row w6 _ 0 _ 44 (0, 0) HM_w6.out
              have x1 : w6.cell? ⟨w5.heap.size, 1, none⟩ = some (.int .i64 M.frm) := cell_of_row w6 _ 1 _ 44 (0, 0) HM_w6.out
              have x2 : w6.cell? ⟨w5.heap.size, 2, none⟩ = some (.int .i64 M.dst) := cell_of_row w6 _ 2 _ 44 (0, 0) HM_w6.out
              have x3 : w6.cell? ⟨w5.heap.size, 3, none⟩ = some (.int .u64 M.term) := cell_of_row w6 _ 3 _ 44 (0, 0) HM_w6.out
              have x4 : w6.cell? ⟨w5.heap.size, 4, none⟩ = some (.int .u64 M.index) := cell_of_row w6 _ 4 _ 44 (0, 0) HM_w6.out
              have x5 : w6.cell? ⟨w5.heap.size, 5, none⟩ = some (.int .u64 M.prev) := cell_of_row w6 _ 5 _ 44 (0, 0) HM_w6.out
              have x6 : w6.cell? ⟨w5.heap.size, 6, none⟩ = some (.int .u64 M.commit) := cell_of_row w6 _ 6 _ 44 (0, 0) HM_w6.out
              have x7 : w6.cell? ⟨w5.heap.size, 7, none⟩ = some (.int .u64 M.mark) := cell_of_row w6 _ 7 _ 44 (0, 0) HM_w6.out
              have x8 : w6.cell? ⟨w5.heap.size, 8, none⟩ = some (.bool M.ok) := cell_of_row w6 _ 8 _ 44 (0, 0) HM_w6.out
              have x9 : w6.cell? ⟨w5.heap.size, 9, none⟩ = some (.slice M.A M.n M.c) := cell_of_row w6 _ 9 _ 44 (0, 0) HM_w6.out
              have x10 : w6.cell? ⟨w5.heap.size, 10, none⟩ = some (.string M.snap) := cell_of_row w6 _ 10 _ 44 (0, 0) HM_w6.out
              go_wp2_with fail
              refine (KL.out _ HEM_w6.out).mono ?_
              rintro q w7 ⟨rfl, b⟩
              have HB_w7 : Hid (Below w.heap.size w w7) := HB_w6.out.trans (b.mono HB_w6.out.size)
              have HR_w7 : Hid (Rd 73 wl.heap.size ⟨#[]⟩ false w7) := HR_w6.out.below b HR_w6.out.lt
              have HM_w7 : Hid (w7.heap[w5.heap.size]? = some (.cells (mc M) 44 (0, 0))) := (b.block _ (Array.getElem?_eq_some_iff.1 HM_w6.out).1).trans HM_w6.out
              have HEM_w7 : Hid (Ents w7.heap.size M.A M.n M.es w7) := (HEM_w6.out.below b).mr b.size
              clear b x0 x1 x2 x3 x4 x5 x6 x7 x8 x9 x10
              go_wp2
              go_ret
              exact ⟨rfl, HB_w7.out⟩
end Go.Proofs.Ytiikgfcfceldmaa
