/-
  SecondBack: for every input the law's function returns true, and leaves what was there as it was.
  Conditions: named in each theorem.
-/
import Derived.Test.YtmalcldpihpfpaaGreatSMid
import Derived.Test.YtmalcldpihpfpaaGreatLEntries
import Derived.Test.YtmalcldpihpfpaaGreatMSame2
import Derived.Laws.AppendOwnNone
import Derived.Test.YtmalcldpihpfpaaGreatRows
import Derived.Test.YtmalcldpihpfpaaGreatOpenN
import Derived.WalkKit
import Derived.ProofKit
import Derived.OpenShut
import Derived.ShutString
import Derived.ChangeOld
import Derived.Below
import Derived.SizedLaws
namespace Go.Proofs.YtmalcldpihpfpaaGreat
open Go.RowKit

set_option linter.unusedVariables false
set_option linter.unusedSimpArgs false
/-- The cells of made entries, one behind the other. -/
def flatM (L : List (En × Bool)) : List Value := L.flatMap fun p => (mdc p.1 p.2).toList
theorem flatM_length (L : List (En × Bool)) : (flatM L).length = L.length * 12 := by
  induction L with
  | nil => rfl
  | cons p L ih =>
    show ((mdc p.1 p.2).toList ++ flatM L).length = _
    rw [List.length_append, ih]
    show 12 + L.length * 12 = (L.length + 1) * 12
    omega
theorem flatM_get (L : List (En × Bool)) (i : Nat) (p : En × Bool) (h : L[i]? = some p) (j : Nat) (hj : j < 12) : (flatM L)[i * 12 + j]? = (mdc p.1 p.2)[j]? := by
  induction L generalizing i with
  | nil => cases h
  | cons a L ih =>
    have e1 : flatM (a :: L) = (mdc a.1 a.2).toList ++ flatM L := rfl
    rw [e1]
    cases i with
    | zero =>
      have : a = p := Option.some.inj h
      subst this
      rw [List.getElem?_append_left (by show 0 * 12 + j < 12; omega), Nat.zero_mul, Nat.zero_add]
      rw [Array.getElem?_toList]
    | succ i =>
      have hl : (mdc a.1 a.2).toList.length = 12 := rfl
      rw [List.getElem?_append_right (by rw [hl]; omega), hl, show (i + 1) * 12 + j - 12 = i * 12 + j by omega]
      exact ih i h
theorem flatM_one (L : List (En × Bool)) : ∀ u ∈ flatM L, u.oneCell' = true := by
  intro u hu
  unfold flatM at hu
  rw [List.mem_flatMap] at hu
  obtain ⟨p, _, hp⟩ := hu
  simp only [Array.toList] at hp
  simp at hp
  rcases hp with rfl | rfl | rfl | rfl | rfl | rfl | rfl | rfl | rfl | rfl | rfl | rfl <;> rfl
theorem mades_news {B : Nat} {a : Addr} {n m : Nat} {L : List (En × Bool)} {w : World} (h : Mades B (some a) n L w) (hm : m ≤ n) : ∀ j u, (flatM (L.take m))[j]? = some u → w.cell? (a.add j) = some u := by
  intro j u hj
  have hl := flatM_length (L.take m)
  have hlt : j < (L.take m).length * 12 := by rw [← hl]; exact (List.getElem?_eq_some_iff.1 hj).1
  have hi : j / 12 < (L.take m).length := by omega
  obtain ⟨p, hp⟩ : ∃ p, (L.take m)[j / 12]? = some p := ⟨_, List.getElem?_eq_getElem hi⟩
  have hp2 : L[j / 12]? = some p := by
    rw [List.getElem?_take] at hp
    split at hp
    · exact hp
    · cases hp
  obtain ⟨a', ha, _, hc⟩ := h.at_ (j / 12) p hp2
  cases ha
  have h1 := hc (j % 12) (Nat.mod_lt _ (by omega))
  rw [Addr.add_add] at h1
  have h2 := flatM_get (L.take m) (j / 12) p hp (j % 12) (Nat.mod_lt _ (by omega))
  have e1 : j / 12 * 12 + j % 12 = j := by omega
  rw [e1] at h1 h2
  rw [h1, ← h2, hj]
/-- A row of block g: m made entries, of which the first k are made right. -/
structure Mrow (g m : Nat) (Ex : Nat → En) (Ob : Nat → Bool) (k : Nat) (W : World) : Prop where
  blk : ∃ cur, W.heap[g]? = some (.cells cur 26 (0, 0))
  at_ : ∀ i, i < m → ∀ j, j < 12 → W.cell? ⟨g, i * 12 + j, none⟩ = (mdc (Ex i) (if i < k then true else Ob i))[j]?
theorem Mrow.lt {g m k : Nat} {Ex : Nat → En} {Ob : Nat → Bool} {W : World} (h : Mrow g m Ex Ob k W) : g < W.heap.size := by
  obtain ⟨cur, hc⟩ := h.blk
  exact (Array.getElem?_eq_some_iff.1 hc).1
theorem Mrow.on {g m k : Nat} {Ex : Nat → En} {Ob : Nat → Bool} {W W' : World} (h : Mrow g m Ex Ob k W) (hb : W'.heap[g]? = W.heap[g]?) : Mrow g m Ex Ob k W' := by
  obtain ⟨cur, hc⟩ := h.blk
  refine ⟨⟨cur, hb.trans hc⟩, fun i hi j hj => ?_⟩
  rw [← h.at_ i hi j hj]
  exact World.cell?_of_block hb
theorem Mrow.free {g m k : Nat} {Ex : Nat → En} {Ob : Nat → Bool} {W : World} (h : Mrow g m Ex Ob k W) (i : Nat) : W.frozen? ⟨g, i, none⟩ = false := by
  obtain ⟨cur, hc⟩ := h.blk
  exact Lib.frozen_of_heap hc i
theorem Mrow.set {g m k : Nat} {Ex : Nat → En} {Ob : Nat → Bool} {W : World} (h : Mrow g m Ex Ob k W) (hk : k < m) : Mrow g m Ex Ob (k + 1) (W.setCell ⟨g, k * 12 + 11, none⟩ (.bool true)) := by
  obtain ⟨cur, hc⟩ := h.blk
  refine ⟨⟨_, set_blk hc (k * 12 + 11) _⟩, fun i hi j hj => ?_⟩
  by_cases e : i * 12 + j = k * 12 + 11
  · have e1 : i = k := by omega
    have e2 : j = 11 := by omega
    subst e1 e2
    rw [if_pos (by omega)]
    exact World.cell?_setCell_same _ _ _ (h.at_ i hi 11 (by omega))
  · rw [World.cell?_setCell_other _ _ _ _ (by intro hh; injection hh with h1 h2 h3; exact e h2.symm), h.at_ i hi j hj]
    by_cases hik : i = k
    · subst hik
      rw [if_neg (by omega), if_pos (by omega)]
      match j, hj with
      | 0, _ => rfl
      | 1, _ => rfl
      | 2, _ => rfl
      | 3, _ => rfl
      | 4, _ => rfl
      | 5, _ => rfl
      | 6, _ => rfl
      | 7, _ => rfl
      | 8, _ => rfl
      | 9, _ => rfl
      | 10, _ => rfl
      | 11, _ => omega
      | j + 12, h => omega
    · have e3 : (i < k) ↔ (i < k + 1) := by omega
      simp only [e3]
theorem mrow_of_own {w : World} {B m g cap : Nat} {L : List (En × Bool)} {Ex : Nat → En} {Ob : Nat → Bool} (h : w.ownsRow B 26 12 (.slice (some ⟨g, 0, none⟩) m cap) m (flatM L)) (hl : L.length = m) (hL : ∀ i, i < m → L[i]? = some (Ex i, Ob i)) : Mrow g m Ex Ob 0 w := by
  refine ⟨?_, fun i hi j hj => ?_⟩
  · rcases h.2 with ⟨h1, _⟩ | ⟨g', c', cur, h1, _, h2, _⟩
    · cases h1
    · injection h1 with h3
      injection h3 with h3
      injection h3 with h3
      subst h3
      exact ⟨cur, h2⟩
  · have h1 := h.cellAt (g := g) (i * 12 + j) (by omega)
    rw [flatM_get L i _ (hL i hi) j hj] at h1
    rw [if_neg (by omega)]
    exact h1
/-- The texts of the entries from place k on: j of them. -/
def restE (Ex : Nat → En) : Nat → Nat → ByteArray
  | _, 0 => ⟨#[]⟩
  | k, j + 1 => putS (mk (Ex k)) ++ restE Ex (k + 1) j
def catX (Ex : Nat → En) : Nat → ByteArray
  | 0 => ⟨#[]⟩
  | k + 1 => catX Ex k ++ putS (mk (Ex k))
theorem emp_l (s : ByteArray) : (⟨#[]⟩ : ByteArray) ++ s = s := by apply ByteArray.ext; simp
theorem emp_r (s : ByteArray) : s ++ (⟨#[]⟩ : ByteArray) = s := by apply ByteArray.ext; simp
theorem restE_snoc (Ex : Nat → En) : ∀ j k, restE Ex k (j + 1) = restE Ex k j ++ putS (mk (Ex (k + j)))
  | 0, k => by
    show putS (mk (Ex k)) ++ ⟨#[]⟩ = ⟨#[]⟩ ++ putS (mk (Ex k))
    rw [emp_l, emp_r]
  | j + 1, k => by
    show putS (mk (Ex k)) ++ restE Ex (k + 1) (j + 1) = putS (mk (Ex k)) ++ restE Ex (k + 1) j ++ _
    rw [restE_snoc Ex j (k + 1), show k + 1 + j = k + (j + 1) by omega, Vi.append_assoc3]
theorem catX_rest (Ex : Nat → En) : ∀ j, catX Ex j = restE Ex 0 j
  | 0 => rfl
  | j + 1 => by
    rw [restE_snoc, Nat.zero_add]
    show catX Ex j ++ _ = _
    rw [catX_rest Ex j]
theorem catX_size (Ex : Nat → En) (h : ∀ i, (putS (mk (Ex i))).size ≤ 1000) : ∀ k, (catX Ex k).size ≤ 1000 * k
  | 0 => Nat.le_refl _
  | k + 1 => by
    show (catX Ex k ++ putS (mk (Ex k))).size ≤ _
    rw [ByteArray.size_append]
    have h1 := catX_size Ex h k
    have h2 := h k
    omega
theorem restE_size (Ex : Nat → En) (h : ∀ i, (putS (mk (Ex i))).size ≤ 1000) : ∀ j k, (restE Ex k j).size ≤ 1000 * j
  | 0, _ => Nat.le_refl _
  | j + 1, k => by
    show (putS (mk (Ex k)) ++ restE Ex (k + 1) j).size ≤ _
    rw [ByteArray.size_append]
    have h1 := restE_size Ex h j (k + 1)
    have h2 := h k
    omega
end Go.Proofs.YtmalcldpihpfpaaGreat
namespace Go.Proofs.YtmalcldpihpfpaaGreat
open Go.RowKit
open Vi
set_option linter.unusedVariables false
set_option linter.unusedSimpArgs false
/-- An entry that lies. -/
structure EnS (b : Nat) (X : En) (W : World) : Prop where
  x : W.heap[b]? = some (.cells (ec X) 24 (0, 0))
theorem EnS.on {b : Nat} {X : En} {W W1 : World} (h : EnS b X W) (hb : Below W.heap.size W W1) : EnS b X W1 := ⟨(hb.block _ (Array.getElem?_eq_some_iff.1 h.x).1).trans h.x⟩
theorem EnS.gr {b g : Nat} {X : En} {W W1 : World} (h : EnS b X W) (hb : W.grownBy W1 (some g)) (hg : b ≠ g) : EnS b X W1 := ⟨(hb.block _ (Array.getElem?_eq_some_iff.1 h.x).1 (by intro e; injection e with e; exact hg e)).trans h.x⟩
theorem EnS.all {b : Nat} {X : En} {W : World} (h : EnS b X W) : EnS b X W ∧ W.cell? ⟨b, 0, none⟩ = some (.int .u64 X.term) ∧ W.cell? ⟨b, 1, none⟩ = some (.int .u64 X.index) ∧ W.cell? ⟨b, 2, none⟩ = some (.int .i64 X.kind) ∧ W.cell? ⟨b, 3, none⟩ = some (.int .u64 X.client) ∧ W.cell? ⟨b, 4, none⟩ = some (.int .u64 X.seq) ∧ W.cell? ⟨b, 5, none⟩ = some (.int .u64 X.block) ∧ W.cell? ⟨b, 6, none⟩ = some (.int .u64 X.many) ∧ W.cell? ⟨b, 7, none⟩ = some (.int .i64 X.node) ∧ W.cell? ⟨b, 8, none⟩ = some (.int .i64 X.level) ∧ W.cell? ⟨b, 9, none⟩ = some (.string X.data) ∧ W.cell? ⟨b, 10, none⟩ = some (.string X.old) :=
  ⟨h, cell_of_row W _ 0 _ 24 (0, 0) h.x, cell_of_row W _ 1 _ 24 (0, 0) h.x, cell_of_row W _ 2 _ 24 (0, 0) h.x, cell_of_row W _ 3 _ 24 (0, 0) h.x, cell_of_row W _ 4 _ 24 (0, 0) h.x, cell_of_row W _ 5 _ 24 (0, 0) h.x, cell_of_row W _ 6 _ 24 (0, 0) h.x, cell_of_row W _ 7 _ 24 (0, 0) h.x, cell_of_row W _ 8 _ 24 (0, 0) h.x, cell_of_row W _ 9 _ 24 (0, 0) h.x, cell_of_row W _ 10 _ 24 (0, 0) h.x⟩
theorem note4 (m : Ms) (LA : Option Addr) (ln lc : Nat) (L : List (En × Bool)) (w : World) (h : NoteIn w m LA ln L) :
    Calls Tryz.prog 21 #[nvv m true LA ln lc] w fun r w' => ∃ M : Ms, r = .returned (mv M) ∧ Ents w'.heap.size M.A M.n M.es w' ∧ M.Wide ∧ mrightB M = true ∧ M.es.length = M.n ∧ Below w.heap.size w w' := by
  refine (note_yes m LA ln lc L w h.md h.ok h.ll).mono ?_
  rintro r w' ⟨A, c, n, hr, hl, hE, hb⟩
  have hrt := nm_right m L A n c h.ok hl h.wd.i0 h.wd.i1 h.wd.p0 h.wd.p1 h.wd.c0 h.wd.c1 h.wd.m0 h.wd.m1 h.wd.s1
  have hN : NoteOut m L (nm m L A n c) w' := by
    refine ⟨nm_right m L A n c h.ok hl h.wd.i0 h.wd.i1 h.wd.p0 h.wd.p1 h.wd.c0 h.wd.c1 h.wd.m0 h.wd.m1 h.wd.s1, hE, (nfrom _).1, (nfrom _).2, (nfrom _).1, (nfrom _).2, (nkind _).1, (nkind _).2, ?_, fun e he => nes_mem h.ok he, rfl, (ite0 h.wd.i0 h.wd.i1 (by omega)).1, (ite0 h.wd.i0 h.wd.i1 (by omega)).2, (ite0 h.wd.p0 h.wd.p1 (by omega)).1, (ite0 h.wd.p0 h.wd.p1 (by omega)).2, (ite0 h.wd.c0 h.wd.c1 (by omega)).1, (ite0 h.wd.c0 h.wd.c1 (by omega)).2, (ite0 h.wd.m0 h.wd.m1 (by omega)).1, (ite0 h.wd.m0 h.wd.m1 (by omega)).2, ?_⟩
    · have := nes_length m L A n c
      rw [hl] at this
      show (n : Int) ≤ 10
      omega
    · show (if hasT (mfl (m.kind % 10 + 1)).data.toList 115 then cut200 m.snap else ⟨#[]⟩ : ByteArray).size ≤ 200
      split
      · exact cut200_size _ h.wd.s1
      · exact Nat.zero_le _
  have hw := hN.wide h.wd
  refine ⟨nm m L A n c, hr, hE, hw, hrt, ?_, hb⟩
  have hes : (nm m L A n c).n = n := by simp only [nm, npart]
  rw [hes]
  exact hl
theorem gok_of {u : ByteArray} (h : gok u = true) : mRd u false = ((mRd u false).1, ⟨#[]⟩, false) ∧ mrightB ((mRd u false).1.at_ none 0) = true := by
  unfold gok at h
  simp only [Bool.and_eq_true, decide_eq_true_eq] at h
  obtain ⟨g1, g2, g3⟩ := h
  have e1 : (mRd u false).2.2 = false := by simpa using g1
  have e2 : (mRd u false).2.1 = ⟨#[]⟩ := (size0 _).1 g2
  exact ⟨Prod.ext rfl (Prod.ext e2 e1), g3⟩
theorem gok_put {M : Ms} (wd : M.Wide) (hm : mrightB M = true) (hl : M.es.length = M.n) : gok (sbM M.pl) = true ∧ (∀ k, k < (sbM M.pl).size → gok ((sbM M.pl).extract 0 k) = false) ∧ (∀ t : ByteArray, 0 < t.size → gok (sbM M.pl ++ t) = false) ∧ (∀ A c, msameB M (mPrs (sbM M.pl) A c) = true) := by
  have fw := mfew_of wd hl hm
  have ok := wide_pl wd
  have e0 : sbM M.pl ++ ⟨#[]⟩ = sbM M.pl := by apply ByteArray.ext; simp
  have h0 := (mRd_put ok fw ⟨#[]⟩).1
  rw [e0] at h0
  have hr : mrightB (M.pl.at_ none 0) = true := by
    have e := pl_at M hl
    rw [← right_at M.pl M.A M.c, e]; exact hm
  refine ⟨?_, fun k hk => ?_, fun t ht => ?_, fun A c => ?_⟩
  · unfold gok
    rw [h0]
    show (!false && (decide ((⟨#[]⟩ : ByteArray).size = 0) && mrightB (M.pl.at_ none 0))) = true
    rw [hr]; rfl
  · cases hg : gok ((sbM M.pl).extract 0 k) with
    | false => rfl
    | true =>
      exfalso
      have hz : (sbM M.pl).size ≤ 1000000 := by
        have h1 := secM_le ok fw 11 (Nat.le_refl _)
        have h2 := putB_le 0 (by omega)
        show (secU mF M.pl 11 ++ putB 0).size ≤ _
        rw [ByteArray.size_append]
        omega
      obtain ⟨g1, g2⟩ := gok_of hg
      obtain ⟨u, hu⟩ : ∃ u, u = (sbM M.pl).extract 0 k := ⟨_, rfl⟩
      have huz : u.size = k := by rw [hu, ByteArray.size_extract]; omega
      obtain ⟨Y, hY⟩ : ∃ Y, Y = (mRd u false).1 := ⟨_, rfl⟩
      rw [← hu, ← hY] at g1 g2
      have hw := mRd_wide u (by omega)
      rw [← hY] at hw
      have fy : MFew Y := mfew_of (wide_at hw.1 none 0 (by omega)) rfl g2
      have hs := (mRd_sound hw.1 fy g1).2
      have e1 : sbM Y ++ ⟨#[]⟩ = sbM Y := by apply ByteArray.ext; simp
      rw [e1] at hs
      obtain ⟨r, hrr⟩ : ∃ r, r = (sbM M.pl).extract k (sbM M.pl).size := ⟨_, rfl⟩
      have hcat : sbM Y ++ r = sbM M.pl := by
        rw [← hs, hu, hrr]
        apply nums_inj
        rw [nums_append, nums_extract, nums_extract, List.drop_zero, Nat.sub_zero]
        have : (List.drop k (nums (sbM M.pl))).take ((sbM M.pl).size - k) = List.drop k (nums (sbM M.pl)) := List.take_of_length_le (by rw [List.length_drop, nums_length]; omega)
        rw [this, List.take_append_drop]
      have h3 := (mRd_put hw.1 fy r).1
      rw [hcat, h0] at h3
      have h4 : (⟨#[]⟩ : ByteArray) = r := congrArg (fun x => x.2.1) h3
      have h5 : r.size = (sbM M.pl).size - k := by rw [hrr, ByteArray.size_extract]; omega
      rw [← h4] at h5
      have h6 : (⟨#[]⟩ : ByteArray).size = 0 := rfl
      omega
  · unfold gok
    rw [(mRd_put ok fw t).1]
    show (!false && (decide (t.size = 0) && _)) = false
    rw [decide_eq_false (by omega)]; rfl
  · have h4 := msame_at (M.pl.at_ none 0) M.A A M.c c
    have e1 : ({ M.pl.at_ none 0 with A := M.A, c := M.c } : Ms) = M := pl_at M hl
    have e2 : ({ M.pl.at_ none 0 with A := A, c := c } : Ms) = mPrs (sbM M.pl) A c := by
      unfold mPrs
      rw [h0]
      rfl
    rw [e1, e2] at h4
    exact h4
/-- The law's own row, as a slice. -/
def Kept (B m : Nat) (Ex : Nat → En) (Ob : Nat → Bool) (k g : Nat) (A : Option Addr) (W : World) : Prop := 0 < m → A = some ⟨g, 0, none⟩ ∧ B ≤ g ∧ Mrow g m Ex Ob k W
set_option maxHeartbeats 2000000 in
set_option maxRecDepth 100000 in
theorem lback_any (LA : Option Addr) (n lc : Nat) (L : List (En × Bool)) (m0 : Ms) (own : Bool) (NA : Option Addr) (nn nc : Nat) (NL : List (En × Bool)) (cut : Nat) (w : World)
    (hM : Mades w.heap.size LA n L w) (hok : ∀ p ∈ L, p.1.Ok) (hn : (n : Int) ≤ 9223372036854775807) (hnc : n ≤ lc) (hA : LA = none → n = 0 ∧ lc = 0) (hlc : lc ≤ 9223372036854775807) (hN : NoteIn w m0 NA nn NL) (hcu : cut < 65536) :
    Calls Tryz.prog 5 #[.slice LA n lc, nvv m0 own NA nn nc, .int .u16 cut] w fun r w' => r = .returned (.bool true) ∧ Below w.heap.size w w' := by
  obtain ⟨W0, hW0⟩ : ∃ W0, W0 = w.alloc (Obj.cells (nvc m0 own NA nn nc) 47) := ⟨_, rfl⟩
  have b0 : Below w.heap.size w W0 := by rw [hW0]; exact (Below.refl _ _).alloc (Nat.le_refl _) _
  have k0 : W0.heap[w.heap.size]? = some (.cells (nvc m0 own NA nn nc) 47 (0, 0)) := by rw [hW0]; exact heap_alloc_new w _
  have KE := Lib.hid (fun (W : World) => examples_any W)
  obtain ⟨m, hm⟩ : ∃ m : Nat, (m : Int) = min (n : Int) 5 := ⟨min n 5, by omega⟩
  have hmm : min (n : Int) 5 = (m : Int) := hm.symm
  have hmn : m ≤ n := by omega
  have hm5 : m ≤ 5 := by omega
  have hmc : m ≤ lc := by omega
  obtain ⟨Ex, Ob, hL, hEx⟩ : ∃ (Ex : Nat → En) (Ob : Nat → Bool), (∀ i, i < m → (L.take m)[i]? = some (Ex i, Ob i)) ∧ (∀ i, (Ex i).Ok) := by
    refine ⟨fun i => if h : i < L.length then (L[i]).1 else ezz, fun i => if h : i < L.length then (L[i]).2 else false, fun i hi => ?_, fun i => ?_⟩
    · have hl : i < L.length := by rw [hM.len]; omega
      dsimp only
      rw [List.getElem?_take, if_pos hi, List.getElem?_eq_getElem hl, dif_pos hl, dif_pos hl]
    · dsimp only
      split
      · exact hok _ (List.getElem_mem _)
      · constructor <;> decide
  have hll : (L.take m).length = m := by rw [List.length_take, hM.len]; omega
  have HMA := Lib.hid hM
  have HW0 := Lib.hid hW0
  have HB0 := Lib.hid b0
  have HK0 := Lib.hid k0
  have HLL := Lib.hid hll
  have HL := Lib.hid hL
  have HEX := Lib.hid hEx
  have HNI := Lib.hid hN
  obtain ⟨i26, hi26, hz26, hs26, hb26⟩ := info_parts (show (Tryz.prog.info? 26).map (fun i => (i.zero, i.size, i.bytes)) = some (some (mdv ezz false), 12, 112) by kernel_rfl)
  clear hM hok hW0 b0 k0 hll hL hEx hN hm
  go_enter Tryz.func5, Tryz.ntmps5
  go_wp2_with fail
  rw [← HW0.out]
  refine (KE.out _).mono ?_
  rintro q w1 ⟨rfl, b1⟩
  have HB1 : Hid (Below w.heap.size w w1) := HB0.out.trans (b1.mono HB0.out.size)
  have HK1 : Hid (w1.heap[w.heap.size]? = some (.cells (nvc m0 own NA nn nc) 47 (0, 0))) := (b1.block _ (Array.getElem?_eq_some_iff.1 HK0.out).1).trans HK0.out
  clear b1
  go_upto_region 5 with fail
  go_cut [0] from 27 to 32 (fun s wx => ∃ (g cap : Nat) (A : Option Addr), s = .slice A m cap ∧ Kept (w.heap.size + 1) m Ex Ob 0 g A wx ∧ Below w1.heap.size w1 wx)
  case first =>
    have hown : w1.ownsRow w1.heap.size 26 12 (.slice none 0 0) 0 [] := ⟨rfl, .inl ⟨rfl, rfl⟩⟩
    have HS1 : Hid (w.heap.size + 1 ≤ w1.heap.size) := (Array.getElem?_eq_some_iff.1 HK1.out).1
    cases LA with
    | none =>
      obtain ⟨rfl, rfl⟩ := hA rfl
      have hm0 : m = 0 := by omega
      subst hm0
      have HOW := Lib.hid hown
      clear hown hA
      go_wp2_with (at_builtin; refine wpList_append_own_none rfl _ _ 45 rfl w1.heap.size 26 i26 12 Tryz.underlying45 hi26 (.slice none 0 0) 0 [] rfl HOW.out rfl ?_)
      go_meet
      exact ⟨0, 0, none, rfl, fun h => absurd h (by omega), Below.refl _ _⟩
    | some a =>
      have hnews := mades_news (HMA.out) hmn
      have HOW := Lib.hid hown
      have HLF : Hid ((flatM (L.take m)).length = m * 12) := by show _ = _; rw [flatM_length, HLL.out]
      have HNW : Hid (∀ j u, (flatM (L.take m))[j]? = some u → w1.cell? (a.add j) = some u) := fun j u hj => by
        have h1 := hnews j u hj
        exact (HB1.out.cell (World.block_lt_of_cell? _ _ h1)).trans h1
      have HON := Lib.hid (flatM_one (L.take m))
      clear hown hA hnews
      go_wp2_with (at_builtin; refine wpList_append_own_at _ rfl _ _ 45 rfl w1.heap.size 26 i26 (mdv ezz false) 12 112 Tryz.underlying45 hi26 hz26 hs26 hb26 rfl (by omega) (.slice none 0 0) 0 [] rfl HOW.out a m lc (flatM (L.take m)) rfl HLF.out HNW.out HON.out (by unfold maxLen; omega) (by omega) (Nat.le_refl _) ?_; intro v' w2 hown1 hgrow hnil hat)
      go_meet
      rw [Nat.zero_add, List.nil_append] at hown1
      have hbel : Below w1.heap.size w1 w2 := ⟨hgrow.os, hgrow.tape, hgrow.output, hgrow.size, fun k hk => hgrow.block k hk (by simp [Value.ownBlock])⟩
      rcases hown1.2 with ⟨rfl, h0⟩ | ⟨g, cap, cur, rfl, hg, _⟩
      · exact ⟨0, 0, none, by rw [h0], fun h => absurd h (by omega), hbel⟩
      · exact ⟨g, cap, some ⟨g, 0, none⟩, rfl, fun h => ⟨rfl, Nat.le_trans HS1.out hg, mrow_of_own hown1 HLL.out HL.out⟩, hbel⟩
  case rest =>
    obtain ⟨g, cap, A, rfl, hkept, bc⟩ := hcut
    have HS1 : Hid (w.heap.size + 1 ≤ w1.heap.size) := (Array.getElem?_eq_some_iff.1 HK1.out).1
    have HBC : Hid (Below w.heap.size w wc) := HB1.out.trans (bc.mono HB1.out.size)
    have HKC : Hid (wc.heap[w.heap.size]? = some (.cells (nvc m0 own NA nn nc) 47 (0, 0))) := (bc.block _ (Array.getElem?_eq_some_iff.1 HK1.out).1).trans HK1.out
    have HSC : Hid (w.heap.size + 1 ≤ wc.heap.size) := Nat.le_trans HS1.out bc.size
    have HPU : Hid (∀ i, (putS (mk (Ex i))).size ≤ 1000) := fun i => putS_le (mk_facts (Ex i) (HEX.out i)).1
    have HKEPT := Lib.hid hkept
    clear hkept bc hA HMA HL HLL hi26 hz26 hs26 hb26 hmm hmn hmc hn hnc hlc
    go_wp2
    go_loopw [8, 9] (fun s i wr => ∃ k : Nat, k ≤ m ∧ i = .int .i64 k ∧ s = .string (catX Ex k) ∧ Kept (w.heap.size + 1) m Ex Ob k g A wr ∧ Below (w.heap.size + 1) wc wr) (fun _ i _ => m - (intOf i).toNat)
    case atStart => exact ⟨0, by omega, rfl, rfl, HKEPT.out, Below.refl _ _⟩
    case round =>
      obtain ⟨k, hk, rfl, rfl, hkp, hBr⟩ := hrel
      by_cases hlt : k < m
      · obtain ⟨rfl, hg, row⟩ := hkp (by omega)
        obtain ⟨e, he⟩ : ∃ e, e = Ex k := ⟨_, rfl⟩
        have hek : e.Ok := by rw [he]; exact HEX.out k
        obtain ⟨X, hX⟩ : ∃ X, X = mk e := ⟨_, rfl⟩
        obtain ⟨xok, xr, _⟩ := mk_facts e hek
        rw [← hX] at xok xr
        obtain ⟨P, hP⟩ : ∃ P, P = putS X := ⟨_, rfl⟩
        have hPz : P.size ≤ 1000 := by rw [hP, hX, he]; exact HPU.out k
        have hcz := catX_size Ex HPU.out k
        have HCAT : Hid (catX Ex (k + 1) = catX Ex k ++ P) := by show _ = _; rw [hP, hX, he]; rfl
        obtain ⟨F, hF⟩ : ∃ F, F = catX Ex k := ⟨_, rfl⟩
        rw [← hF] at hcz HCAT ⊢
        have hcell : ∀ W, Mrow g m Ex Ob k W → ∀ j, j < 12 → W.cell? ⟨g, k * 12 + j, none⟩ = (mdc e (Ob k))[j]? := fun W hW j hj => by rw [hW.at_ k hlt j hj, if_neg (by omega), he]
        have hat : ∀ W, Mrow g m Ex Ob (k + 1) W → ∀ j, j < 12 → W.cell? ⟨g, k * 12 + j, none⟩ = (mdc e true)[j]? := fun W hW j hj => by rw [hW.at_ k hlt j hj, if_pos (by omega), he]
        obtain ⟨V, hV⟩ : ∃ V, V = wr.setCell ⟨g, k * 12 + 11, none⟩ (.bool true) := ⟨_, rfl⟩
        have rowV : Mrow g m Ex Ob (k + 1) V := by rw [hV]; exact row.set hlt
        have HBV : Hid (Below (w.heap.size + 1) wc V) := by show Below _ _ _; rw [hV]; exact hBr.setCell (p := ⟨g, k * 12 + 11, none⟩) hg _
        have c11 : wr.cell? ⟨g, k * 12 + 11, none⟩ = some (.bool (Ob k)) := hcell wr row 11 (by omega)
        have fz : ∀ i, wr.frozen? ⟨g, i, none⟩ = false := row.free
        have hatV := hat V rowV
        have a0 : V.cell? ⟨g, k * 12, none⟩ = some (.int .u64 e.term) := hatV 0 (by omega)
        have a1 : V.cell? ⟨g, k * 12 + 1, none⟩ = some (.int .u64 e.index) := hatV 1 (by omega)
        have a2 : V.cell? ⟨g, k * 12 + 2, none⟩ = some (.int .i64 e.kind) := hatV 2 (by omega)
        have a3 : V.cell? ⟨g, k * 12 + 3, none⟩ = some (.int .u64 e.client) := hatV 3 (by omega)
        have a4 : V.cell? ⟨g, k * 12 + 4, none⟩ = some (.int .u64 e.seq) := hatV 4 (by omega)
        have a5 : V.cell? ⟨g, k * 12 + 5, none⟩ = some (.int .u64 e.block) := hatV 5 (by omega)
        have a6 : V.cell? ⟨g, k * 12 + 6, none⟩ = some (.int .u64 e.many) := hatV 6 (by omega)
        have a7 : V.cell? ⟨g, k * 12 + 7, none⟩ = some (.int .i64 e.node) := hatV 7 (by omega)
        have a8 : V.cell? ⟨g, k * 12 + 8, none⟩ = some (.int .i64 e.level) := hatV 8 (by omega)
        have a9 : V.cell? ⟨g, k * 12 + 9, none⟩ = some (.string e.data) := hatV 9 (by omega)
        have a10 : V.cell? ⟨g, k * 12 + 10, none⟩ = some (.string e.old) := hatV 10 (by omega)
        have a11 : V.cell? ⟨g, k * 12 + 11, none⟩ = some (.bool true) := hatV 11 (by omega)
        have HG := Lib.hid hg
        have HV := Lib.hid hV
        have ROW := Lib.hid rowV
        have hadd : ¬ 9223372036854775807 < F.size + P.size := by omega
        clear row hkp hBr he hF hcell hatV rowV hV hg
        have KX : Hid (∀ W, Calls Tryz.prog 11 #[mdv e true] W fun r w' => r = .returned (ev X) ∧ Below W.heap.size W w') := fun W => by rw [hX]; exact made_yes e W hek
        have KP : Hid (∀ W, Calls Tryz.prog 10 #[ev X] W fun q w' => q = .returned (.tuple #[.string P, .bool true]) ∧ Below W.heap.size W w') := fun W => (put_any2 X W xok).mono fun q w' ⟨h1, h2⟩ => ⟨by rw [h1, hP, xr], h2⟩
        clear hX hek xok hP xr
        go_upto_region 10 with fail
        rw [← HV.out]
        clear fz c11
        go_wp2_with fail
        refine (KX.out _).mono ?_
        rintro q w3 ⟨rfl, b3⟩
        go_wp2_with fail
        refine (KP.out _).mono ?_
        rintro q w4 ⟨rfl, b4⟩
        have b34 := b3.trans (b4.mono b3.size)
        have row4 : Mrow g m Ex Ob (k + 1) w4 := ROW.out.on (b34.block _ ROW.out.lt)
        have HB4 : Hid (Below (w.heap.size + 1) wc w4) := HBV.out.trans (b34.mono (Nat.le_trans HSC.out HBV.out.size))
        have ROW4 := Lib.hid row4
        clear b3 b4 b34 row4 hat a0 a1 a2 a3 a4 a5 a6 a7 a8 a9 a10 a11
        go_wp2
        go_roundw
        case rel => exact ⟨k + 1, by omega, by go_num, by rw [HCAT.out], fun _ => ⟨rfl, HG.out, ROW4.out⟩, HB4.out⟩
        case measure => simp [intOf]; omega
      · have hkm : k = m := by omega
        subst hkm
        have HKP := Lib.hid hkp
        have HBR := Lib.hid hBr
        have HCR : Hid (catX Ex k = restE Ex 0 k) := catX_rest Ex k
        have hcz := catX_size Ex HPU.out k
        clear hkp hBr hk hlt
        obtain ⟨wl, rfl⟩ : ∃ wl, wl = wr := ⟨_, rfl⟩
        go_wp2_with fail
        rw [HCR.out]
        refine (new2 _ _).mono ?_
        rintro q w3 ⟨rfl, r3, b3, z3⟩
        have HR3 := Lib.hid r3
        have HB3 : Hid (Below (w.heap.size + 1) wc w3) := HBR.out.trans (b3.mono (Nat.le_trans HSC.out HBR.out.size))
        have HK3 : Hid (0 < k → A = some ⟨g, 0, none⟩ ∧ g < wl.heap.size ∧ Mrow g k Ex Ob k w3) := fun h => by
          obtain ⟨h1, h2, h3⟩ := HKP.out h
          exact ⟨h1, h3.lt, h3.on (b3.block _ h3.lt)⟩
        have HG2 : Hid (w.heap.size + 1 ≤ wl.heap.size) := Nat.le_trans HSC.out HBR.out.size
        clear r3 b3 z3 hcz
        go_wp2
        go_loopw [13] (fun i wx => ∃ d j : Nat, d + j = k ∧ i = .int .i64 d ∧ Rd 74 wl.heap.size (restE Ex d j) false wx ∧ (0 < k → Mrow g k Ex Ob k wx) ∧ Below (w.heap.size + 1) wc wx) (fun i _ => k - (intOf i).toNat)
        case atStart => exact ⟨0, k, by omega, rfl, HR3.out, fun h => (HK3.out h).2.2, HB3.out⟩
        case round =>
          obtain ⟨d, j, hdj, rfl, hrd, hrow, hBx⟩ := hrel
          by_cases hlt2 : d < k
          · obtain ⟨j, rfl⟩ : ∃ j', j = j' + 1 := ⟨j - 1, by omega⟩
            obtain ⟨rfl, hgl, _⟩ := HK3.out (by omega)
            have row := hrow (by omega)
            obtain ⟨e, he⟩ : ∃ e, e = Ex d := ⟨_, rfl⟩
            have hek : e.Ok := by rw [he]; exact HEX.out d
            obtain ⟨X, hX⟩ : ∃ X, X = mk e := ⟨_, rfl⟩
            obtain ⟨xok, xr, _⟩ := mk_facts e hek
            rw [← hX] at xok xr
            have KX : Hid (∀ W, Calls Tryz.prog 11 #[mdv e true] W fun r w' => r = .returned (ev X) ∧ Below W.heap.size W w') := fun W => by rw [hX]; exact made_yes e W hek
            obtain ⟨P, hP⟩ : ∃ P, P = putS X := ⟨_, rfl⟩
            obtain ⟨R, hR⟩ : ∃ R, R = restE Ex (d + 1) j := ⟨_, rfl⟩
            obtain ⟨U, hU⟩ : ∃ U, U = P ++ R := ⟨_, rfl⟩
            have hUe : restE Ex d (j + 1) = U := by rw [hU, hR, hP, hX, he]; rfl
            have hUz : U.size ≤ 281474976710656 := by
              have := restE_size Ex HPU.out (j + 1) d
              rw [hUe] at this
              omega
            rw [hUe] at hrd
            have hat : ∀ j, j < 12 → wr.cell? ⟨g, d * 12 + j, none⟩ = (mdc e true)[j]? := fun j hj => by rw [row.at_ d hlt2 j hj, if_pos hlt2, he]
            have a0 : wr.cell? ⟨g, d * 12, none⟩ = some (.int .u64 e.term) := hat 0 (by omega)
            have a1 : wr.cell? ⟨g, d * 12 + 1, none⟩ = some (.int .u64 e.index) := hat 1 (by omega)
            have a2 : wr.cell? ⟨g, d * 12 + 2, none⟩ = some (.int .i64 e.kind) := hat 2 (by omega)
            have a3 : wr.cell? ⟨g, d * 12 + 3, none⟩ = some (.int .u64 e.client) := hat 3 (by omega)
            have a4 : wr.cell? ⟨g, d * 12 + 4, none⟩ = some (.int .u64 e.seq) := hat 4 (by omega)
            have a5 : wr.cell? ⟨g, d * 12 + 5, none⟩ = some (.int .u64 e.block) := hat 5 (by omega)
            have a6 : wr.cell? ⟨g, d * 12 + 6, none⟩ = some (.int .u64 e.many) := hat 6 (by omega)
            have a7 : wr.cell? ⟨g, d * 12 + 7, none⟩ = some (.int .i64 e.node) := hat 7 (by omega)
            have a8 : wr.cell? ⟨g, d * 12 + 8, none⟩ = some (.int .i64 e.level) := hat 8 (by omega)
            have a9 : wr.cell? ⟨g, d * 12 + 9, none⟩ = some (.string e.data) := hat 9 (by omega)
            have a10 : wr.cell? ⟨g, d * 12 + 10, none⟩ = some (.string e.old) := hat 10 (by omega)
            have a11 : wr.cell? ⟨g, d * 12 + 11, none⟩ = some (.bool true) := hat 11 (by omega)
            have HRR := Lib.hid hR
            have HRD := Lib.hid hrd
            have ROW := Lib.hid row
            have HBX := Lib.hid hBx
            have HGN : Hid (g ≠ wl.heap.size) := by show _ ≠ _; omega
            have hne : ∀ V, (binOp .neq 24 (ev X) (ev X)).run Tryz.prog V = .ok (.bool false) V := fun V => by rw [neq_entry, (sameB_iff X X).2 rfl]; rfl
            clear hX hek hUe hR hrd hrow row hBx he hat hgl
            go_wp2_with fail
            refine (KX.out _).mono ?_
            rintro q w5 ⟨rfl, b5⟩
            clear a0 a1 a2 a3 a4 a5 a6 a7 a8 a9 a10 a11
            obtain ⟨V, hV⟩ : ∃ V, V = w5.alloc (Obj.cells (ec X) 24) := ⟨_, rfl⟩
            have bb : Below w5.heap.size w5 V := by rw [hV]; exact (Below.refl _ _).alloc (Nat.le_refl _) _
            have b5V := b5.trans (bb.mono b5.size)
            have HX5 : Hid (V.heap[w5.heap.size]? = some (.cells (ec X) 24 (0, 0))) := by show _ = _; rw [hV]; exact heap_alloc_new w5 _
            have HRD5 : Hid (Rd 74 wl.heap.size U false V) := HRD.out.below b5V HRD.out.lt
            have ROW5 : Hid (Mrow g k Ex Ob k V) := ROW.out.on (b5V.block _ ROW.out.lt)
            have HBV : Hid (Below (w.heap.size + 1) wc V) := HBX.out.trans (b5V.mono (Nat.le_trans HSC.out HBX.out.size))
            have HNE : Hid (w5.heap.size ≠ wl.heap.size) := by show _ ≠ _; have h1 := HRD.out.lt; have h2 := b5.size; omega
            have HV := Lib.hid hV
            clear b5 bb b5V hV
            go_upto_region 21 with fail
            rw [← HV.out]
            have hPp : P = sbE X := by rw [hP]; unfold putS; rw [if_pos xr]
            have hgot := gE_put xok xr R
            rw [← hPp, ← hU] at hgot
            have KG : Hid (∀ W, Rd 74 wl.heap.size U false W → EnS w5.heap.size X W → Calls Tryz.prog 16 #[.pointer (some ⟨wl.heap.size, 0, none⟩)] W fun q w' => q = .returned (ev X) ∧ Rd 74 wl.heap.size R false w' ∧ W.grownBy w' (some wl.heap.size) ∧ EnS w5.heap.size X w' ∧ w'.cell? ⟨w5.heap.size, 0, none⟩ = some (.int .u64 X.term) ∧ w'.cell? ⟨w5.heap.size, 1, none⟩ = some (.int .u64 X.index) ∧ w'.cell? ⟨w5.heap.size, 2, none⟩ = some (.int .i64 X.kind) ∧ w'.cell? ⟨w5.heap.size, 3, none⟩ = some (.int .u64 X.client) ∧ w'.cell? ⟨w5.heap.size, 4, none⟩ = some (.int .u64 X.seq) ∧ w'.cell? ⟨w5.heap.size, 5, none⟩ = some (.int .u64 X.block) ∧ w'.cell? ⟨w5.heap.size, 6, none⟩ = some (.int .u64 X.many) ∧ w'.cell? ⟨w5.heap.size, 7, none⟩ = some (.int .i64 X.node) ∧ w'.cell? ⟨w5.heap.size, 8, none⟩ = some (.int .i64 X.level) ∧ w'.cell? ⟨w5.heap.size, 9, none⟩ = some (.string X.data) ∧ w'.cell? ⟨w5.heap.size, 10, none⟩ = some (.string X.old)) := fun W hr hes => (getE_any _ U false W hr hUz).mono fun q w' ⟨h1, h2, h3⟩ => ⟨by rw [h1, hgot.1], by rw [hgot.2.1, hgot.2.2] at h2; exact h2, h3, (hes.gr h3 HNE.out).all⟩
            clear hPp hgot hU hP xok xr hUz
            have HES : Hid (EnS w5.heap.size X V.drew) := ⟨HX5.out⟩
            obtain ⟨_, e0, e1, e2, e3, e4, e5, e6, e7, e8, e9, e10⟩ := HES.out.all
            go_region_held3 (fun w' => EnS w5.heap.size X w' ∧ w'.cell? ⟨w5.heap.size, 0, none⟩ = some (.int .u64 X.term) ∧ w'.cell? ⟨w5.heap.size, 1, none⟩ = some (.int .u64 X.index) ∧ w'.cell? ⟨w5.heap.size, 2, none⟩ = some (.int .i64 X.kind) ∧ w'.cell? ⟨w5.heap.size, 3, none⟩ = some (.int .u64 X.client) ∧ w'.cell? ⟨w5.heap.size, 4, none⟩ = some (.int .u64 X.seq) ∧ w'.cell? ⟨w5.heap.size, 5, none⟩ = some (.int .u64 X.block) ∧ w'.cell? ⟨w5.heap.size, 6, none⟩ = some (.int .u64 X.many) ∧ w'.cell? ⟨w5.heap.size, 7, none⟩ = some (.int .i64 X.node) ∧ w'.cell? ⟨w5.heap.size, 8, none⟩ = some (.int .i64 X.level) ∧ w'.cell? ⟨w5.heap.size, 9, none⟩ = some (.string X.data) ∧ w'.cell? ⟨w5.heap.size, 10, none⟩ = some (.string X.old)) (first | exact HES.out.all | (refine ⟨?_, ?_, ?_, ?_, ?_, ?_, ?_, ?_, ?_, ?_, ?_, ?_⟩ <;> assumption)) (first
              | (go_at_call 16; (with_reducible refine (KG.out _ HRD5.out.drew HES.out).mono ?_); rintro q w7 ⟨rfl, r7, g7, y, y0, y1, y2, y3, y4, y5, y6, y7, y8, y9, y10⟩))
            have HB7 : Hid (Below (w.heap.size + 1) wc w7) := below_grownBy HBV.out.drew g7 (Nat.le_trans HSC.out HBV.out.size) HG2.out
            have ROW7 : Hid (Mrow g k Ex Ob k w7) := ROW5.out.on (g7.block _ ROW5.out.lt (by have := HGN.out; simp; omega))
            have HR7 := Lib.hid r7
            clear r7 g7
            go_wp2
            go_roundw
            case rel => exact ⟨d + 1, j, by omega, by go_num, by rw [← HRR.out]; exact HR7.out, fun _ => ROW7.out, HB7.out⟩
            case measure => simp [intOf]; omega
          · have hj0 : j = 0 := by omega
            subst hj0
            have hdk : d = k := by omega
            subst hdk
            have HRE : Hid (Rd 74 wl.heap.size ⟨#[]⟩ false wr) := hrd
            have HBX := Lib.hid hBx
            have HKX : Hid (wr.heap[w.heap.size]? = some (.cells (nvc m0 own NA nn nc) 47 (0, 0))) := (hBx.block _ (by omega)).trans HKC.out
            have HBE : Hid (Below w.heap.size w wr) := HBC.out.trans ⟨hBx.os, hBx.tape, hBx.output, hBx.size, fun i hi => hBx.block i (by omega)⟩
            clear hrd hrow hBx hlt2 hdj
            have n0 : wr.cell? ⟨w.heap.size, 0, none⟩ = some (.int .i64 m0.kind) := cell_of_row wr _ 0 _ 47 (0, 0) HKX.out
            have n1 : wr.cell? ⟨w.heap.size, 1, none⟩ = some (.int .i64 m0.frm) := cell_of_row wr _ 1 _ 47 (0, 0) HKX.out
            have n2 : wr.cell? ⟨w.heap.size, 2, none⟩ = some (.int .i64 m0.dst) := cell_of_row wr _ 2 _ 47 (0, 0) HKX.out
            have n3 : wr.cell? ⟨w.heap.size, 3, none⟩ = some (.int .u64 m0.term) := cell_of_row wr _ 3 _ 47 (0, 0) HKX.out
            have n4 : wr.cell? ⟨w.heap.size, 4, none⟩ = some (.int .u64 m0.index) := cell_of_row wr _ 4 _ 47 (0, 0) HKX.out
            have n5 : wr.cell? ⟨w.heap.size, 5, none⟩ = some (.int .u64 m0.prev) := cell_of_row wr _ 5 _ 47 (0, 0) HKX.out
            have n6 : wr.cell? ⟨w.heap.size, 6, none⟩ = some (.int .u64 m0.commit) := cell_of_row wr _ 6 _ 47 (0, 0) HKX.out
            have n7 : wr.cell? ⟨w.heap.size, 7, none⟩ = some (.int .u64 m0.mark) := cell_of_row wr _ 7 _ 47 (0, 0) HKX.out
            have n8 : wr.cell? ⟨w.heap.size, 8, none⟩ = some (.bool m0.ok) := cell_of_row wr _ 8 _ 47 (0, 0) HKX.out
            have n9 : wr.cell? ⟨w.heap.size, 9, none⟩ = some (.slice m0.A m0.n m0.c) := cell_of_row wr _ 9 _ 47 (0, 0) HKX.out
            have n10 : wr.cell? ⟨w.heap.size, 10, none⟩ = some (.string m0.snap) := cell_of_row wr _ 10 _ 47 (0, 0) HKX.out
            have n11 : wr.cell? ⟨w.heap.size, 11, none⟩ = some (.bool own) := cell_of_row wr _ 11 _ 47 (0, 0) HKX.out
            have n12 : wr.cell? ⟨w.heap.size, 12, none⟩ = some (.slice NA nn nc) := cell_of_row wr _ 12 _ 47 (0, 0) HKX.out
            have fzn : ∀ i, wr.frozen? ⟨w.heap.size, i, none⟩ = false := fun i => Md.of HKX.out
            obtain ⟨V, hV⟩ : ∃ V, V = wr.setCell ⟨w.heap.size, 11, none⟩ (.bool true) := ⟨_, rfl⟩
            have HKV : Hid (V.heap[w.heap.size]? = some (.cells (nvc m0 true NA nn nc) 47 (0, 0))) := by show _ = _; rw [hV]; exact set_blk HKX.out 11 _
            have HB_V : Hid (Below w.heap.size w V) := by show Below _ _ _; rw [hV]; exact HBE.out.setCell (p := ⟨w.heap.size, 11, none⟩) (Nat.le_refl _) _
            have HR_V : Hid (Rd 74 wl.heap.size ⟨#[]⟩ false V) := by show Rd _ _ _ _ _; rw [hV]; exact (Below.heap_setCell _ _ _ _ (by have := HG2.out; simp; omega)).trans HRE.out
            have HV := Lib.hid hV
            have KN := Lib.hid (fun (W : World) (hb : Below w.heap.size w W) => note4 m0 NA nn nc NL W (HNI.out.on hb))
            clear hV
            go_upto_region 24 with fail
            rw [← HV.out]
            clear fzn n0 n1 n2 n3 n4 n5 n6 n7 n8 n9 n10 n11 n12
            have n0 : V.cell? ⟨w.heap.size, 0, none⟩ = some (.int .i64 m0.kind) := cell_of_row V _ 0 _ 47 (0, 0) HKV.out
            have n1 : V.cell? ⟨w.heap.size, 1, none⟩ = some (.int .i64 m0.frm) := cell_of_row V _ 1 _ 47 (0, 0) HKV.out
            have n2 : V.cell? ⟨w.heap.size, 2, none⟩ = some (.int .i64 m0.dst) := cell_of_row V _ 2 _ 47 (0, 0) HKV.out
            have n3 : V.cell? ⟨w.heap.size, 3, none⟩ = some (.int .u64 m0.term) := cell_of_row V _ 3 _ 47 (0, 0) HKV.out
            have n4 : V.cell? ⟨w.heap.size, 4, none⟩ = some (.int .u64 m0.index) := cell_of_row V _ 4 _ 47 (0, 0) HKV.out
            have n5 : V.cell? ⟨w.heap.size, 5, none⟩ = some (.int .u64 m0.prev) := cell_of_row V _ 5 _ 47 (0, 0) HKV.out
            have n6 : V.cell? ⟨w.heap.size, 6, none⟩ = some (.int .u64 m0.commit) := cell_of_row V _ 6 _ 47 (0, 0) HKV.out
            have n7 : V.cell? ⟨w.heap.size, 7, none⟩ = some (.int .u64 m0.mark) := cell_of_row V _ 7 _ 47 (0, 0) HKV.out
            have n8 : V.cell? ⟨w.heap.size, 8, none⟩ = some (.bool m0.ok) := cell_of_row V _ 8 _ 47 (0, 0) HKV.out
            have n9 : V.cell? ⟨w.heap.size, 9, none⟩ = some (.slice m0.A m0.n m0.c) := cell_of_row V _ 9 _ 47 (0, 0) HKV.out
            have n10 : V.cell? ⟨w.heap.size, 10, none⟩ = some (.string m0.snap) := cell_of_row V _ 10 _ 47 (0, 0) HKV.out
            have n11 : V.cell? ⟨w.heap.size, 11, none⟩ = some (.bool true) := cell_of_row V _ 11 _ 47 (0, 0) HKV.out
            have n12 : V.cell? ⟨w.heap.size, 12, none⟩ = some (.slice NA nn nc) := cell_of_row V _ 12 _ 47 (0, 0) HKV.out
            go_wp2_with fail
            refine (KN.out _ HB_V.out).mono ?_
            rintro q w5 ⟨M, rfl, eM, wM, rM, lM, b⟩
            have HB_w5 : Hid (Below w.heap.size w w5) := HB_V.out.trans (b.mono HB_V.out.size)
            have HR_w5 : Hid (Rd 74 wl.heap.size ⟨#[]⟩ false w5) := HR_V.out.below b HR_V.out.lt
            have HEM0 := Lib.hid eM
            have HWM := Lib.hid wM
            have HRM := Lib.hid rM
            have HLM := Lib.hid lM
            have HNM := Lib.hid (wide_n wM)
            clear b eM wM rM lM n0 n1 n2 n3 n4 n5 n6 n7 n8 n9 n10 n11 n12
            obtain ⟨W5, hW5⟩ : ∃ W5, W5 = w5.alloc (Obj.cells (mc M) 44) := ⟨_, rfl⟩
            have b : Below w5.heap.size w5 W5 := by rw [hW5]; exact (Below.refl _ _).alloc (Nat.le_refl _) _
            have HB_W5 : Hid (Below w.heap.size w W5) := HB_w5.out.trans (b.mono HB_w5.out.size)
            have HR_W5 : Hid (Rd 74 wl.heap.size ⟨#[]⟩ false W5) := HR_w5.out.below b HR_w5.out.lt
            have HM_W5 : Hid (W5.heap[w5.heap.size]? = some (.cells (mc M) 44 (0, 0))) := by show _ = _; rw [hW5]; exact heap_alloc_new w5 _
            have HEM_W5 : Hid (Ents W5.heap.size M.A M.n M.es W5) := (HEM0.out.below b).mr b.size
            have HW_W5 := Lib.hid hW5
            clear b hW5
            go_upto_region 25 with fail
            rw [← HW_W5.out]
            have KP := Lib.hid (fun (W : World) (h : Ents W.heap.size M.A M.n M.es W) => putM_any M W h HWM.out)
            have hput : putX M = sbM M.pl := by unfold putX; rw [if_pos HRM.out]
            have hpz : (sbM M.pl).size ≤ 1000000 := by have h := putM_size HWM.out HLM.out; rw [hput] at h; exact h
            have hp1 : 0 < (sbM M.pl).size := by
              show 0 < (secU mF M.pl 11 ++ putB 0).size
              rw [ByteArray.size_append]
              have := putB_pos 0
              omega
            obtain ⟨g1, g2, g3, g4⟩ := gok_put HWM.out HRM.out HLM.out
            have hrm := HRM.out
            rw [hput, hrm] at KP
            obtain ⟨P, hP⟩ : ∃ P, P = sbM M.pl := ⟨_, rfl⟩
            rw [← hP] at KP hpz hp1 g1 g2 g3 g4
            obtain ⟨c, hc⟩ : ∃ c : Nat, c = cut % P.size := ⟨_, rfl⟩
            have hcl : c < P.size := by rw [hc]; exact Nat.mod_lt _ hp1
            have hrem : (cut : Int) % (P.size : Int) = c := by rw [hc]; exact (Int.natCast_emod _ _).symm
            have hrem2 : ((cut : Int)).tmod (P.size : Int) = c := by rw [Int.tmod_eq_emod_of_nonneg (by omega)]; exact hrem
            have hpl : ¬ P.toList = [] := fun h => by
              rw [ByteArray.toList_eq] at h
              have h2 := Lib.size_eq P
              rw [h, List.length_nil] at h2
              omega
            have hple : P.toList.isEmpty = false := by cases hq : P.toList with | nil => exact absurd hq hpl | cons a l => rfl
            have hnz : ¬ (P.size : Int) = 0 := by omega
            have hadd : ¬ 9223372036854775807 < P.size + 1 := by omega
            have G1 := Lib.hid g1
            have G2 := Lib.hid (g2 c hcl)
            obtain ⟨U, hU⟩ : ∃ U, U = P ++ (⟨#[0]⟩ : ByteArray) := ⟨_, rfl⟩
            have g3' := g3 ⟨#[0]⟩ (by decide)
            rw [← hU] at g3'
            have G3 := Lib.hid g3'
            have HU0 : Hid (P ++ (⟨#[0]⟩ : ByteArray) = U) := hU.symm
            have h01 : (⟨#[0]⟩ : ByteArray).size = 1 := rfl
            have HUZ : Hid (U.size ≤ 140737488351232) := by show _ ≤ _; rw [hU, ByteArray.size_append, h01]; omega
            have G4 := Lib.hid g4
            have KG : Hid (∀ (U : ByteArray) (W : World), U.size ≤ 140737488351232 → Calls Tryz.prog 23 #[.string U] W (GMsg U W)) := fun U W h => getMsg_any U W h
            clear hput hP hc g1 g2 g3 g4 hrm hU g3' h01
            have x0 : W5.cell? ⟨w5.heap.size, 0, none⟩ = some (.int .i64 M.kind) := cell_of_row W5 _ 0 _ 44 (0, 0) HM_W5.out
            have x1 : W5.cell? ⟨w5.heap.size, 1, none⟩ = some (.int .i64 M.frm) := cell_of_row W5 _ 1 _ 44 (0, 0) HM_W5.out
            have x2 : W5.cell? ⟨w5.heap.size, 2, none⟩ = some (.int .i64 M.dst) := cell_of_row W5 _ 2 _ 44 (0, 0) HM_W5.out
            have x3 : W5.cell? ⟨w5.heap.size, 3, none⟩ = some (.int .u64 M.term) := cell_of_row W5 _ 3 _ 44 (0, 0) HM_W5.out
            have x4 : W5.cell? ⟨w5.heap.size, 4, none⟩ = some (.int .u64 M.index) := cell_of_row W5 _ 4 _ 44 (0, 0) HM_W5.out
            have x5 : W5.cell? ⟨w5.heap.size, 5, none⟩ = some (.int .u64 M.prev) := cell_of_row W5 _ 5 _ 44 (0, 0) HM_W5.out
            have x6 : W5.cell? ⟨w5.heap.size, 6, none⟩ = some (.int .u64 M.commit) := cell_of_row W5 _ 6 _ 44 (0, 0) HM_W5.out
            have x7 : W5.cell? ⟨w5.heap.size, 7, none⟩ = some (.int .u64 M.mark) := cell_of_row W5 _ 7 _ 44 (0, 0) HM_W5.out
            have x8 : W5.cell? ⟨w5.heap.size, 8, none⟩ = some (.bool M.ok) := cell_of_row W5 _ 8 _ 44 (0, 0) HM_W5.out
            have x9 : W5.cell? ⟨w5.heap.size, 9, none⟩ = some (.slice M.A M.n M.c) := cell_of_row W5 _ 9 _ 44 (0, 0) HM_W5.out
            have x10 : W5.cell? ⟨w5.heap.size, 10, none⟩ = some (.string M.snap) := cell_of_row W5 _ 10 _ 44 (0, 0) HM_W5.out
            go_wp2_with fail
            refine (KP.out _ HEM_W5.out).mono ?_
            rintro q w6 ⟨rfl, b⟩
            have HB_w6 : Hid (Below w.heap.size w w6) := HB_W5.out.trans (b.mono HB_W5.out.size)
            have HR_w6 : Hid (Rd 74 wl.heap.size ⟨#[]⟩ false w6) := HR_W5.out.below b HR_W5.out.lt
            have HM_w6 : Hid (w6.heap[w5.heap.size]? = some (.cells (mc M) 44 (0, 0))) := (b.block _ (Array.getElem?_eq_some_iff.1 HM_W5.out).1).trans HM_W5.out
            have HEM_w6 : Hid (Ents w6.heap.size M.A M.n M.es w6) := (HEM_W5.out.below b).mr b.size
            clear b x0 x1 x2 x3 x4 x5 x6 x7 x8 x9 x10
            have x0 : w6.cell? ⟨w5.heap.size, 0, none⟩ = some (.int .i64 M.kind) := cell_of_row w6 _ 0 _ 44 (0, 0) HM_w6.out
            have x1 : w6.cell? ⟨w5.heap.size, 1, none⟩ = some (.int .i64 M.frm) := cell_of_row w6 _ 1 _ 44 (0, 0) HM_w6.out
            have x2 : w6.cell? ⟨w5.heap.size, 2, none⟩ = some (.int .i64 M.dst) := cell_of_row w6 _ 2 _ 44 (0, 0) HM_w6.out
            have x3 : w6.cell? ⟨w5.heap.size, 3, none⟩ = some (.int .u64 M.term) := cell_of_row w6 _ 3 _ 44 (0, 0) HM_w6.out
            have x4 : w6.cell? ⟨w5.heap.size, 4, none⟩ = some (.int .u64 M.index) := cell_of_row w6 _ 4 _ 44 (0, 0) HM_w6.out
            have x5 : w6.cell? ⟨w5.heap.size, 5, none⟩ = some (.int .u64 M.prev) := cell_of_row w6 _ 5 _ 44 (0, 0) HM_w6.out
            have x6 : w6.cell? ⟨w5.heap.size, 6, none⟩ = some (.int .u64 M.commit) := cell_of_row w6 _ 6 _ 44 (0, 0) HM_w6.out
            have x7 : w6.cell? ⟨w5.heap.size, 7, none⟩ = some (.int .u64 M.mark) := cell_of_row w6 _ 7 _ 44 (0, 0) HM_w6.out
            have x8 : w6.cell? ⟨w5.heap.size, 8, none⟩ = some (.bool M.ok) := cell_of_row w6 _ 8 _ 44 (0, 0) HM_w6.out
            have x9 : w6.cell? ⟨w5.heap.size, 9, none⟩ = some (.slice M.A M.n M.c) := cell_of_row w6 _ 9 _ 44 (0, 0) HM_w6.out
            have x10 : w6.cell? ⟨w5.heap.size, 10, none⟩ = some (.string M.snap) := cell_of_row w6 _ 10 _ 44 (0, 0) HM_w6.out
            go_wp2_with fail
            refine (KG.out P _ (by omega)).mono ?_
            rintro q w8 ⟨M1, rfl, e1, wd1, b, f1, _⟩
            have HB_w8 : Hid (Below w.heap.size w w8) := HB_w6.out.trans (b.mono HB_w6.out.size)
            have HR_w8 : Hid (Rd 74 wl.heap.size ⟨#[]⟩ false w8) := HR_w6.out.below b HR_w6.out.lt
            have HM_w8 : Hid (w8.heap[w5.heap.size]? = some (.cells (mc M) 44 (0, 0))) := (b.block _ (Array.getElem?_eq_some_iff.1 HM_w6.out).1).trans HM_w6.out
            have HEM_w8 : Hid (Ents w8.heap.size M.A M.n M.es w8) := (HEM_w6.out.below b).mr b.size
            have HSAME : Hid (msameB M M1 = true) := by
              show _ = _
              obtain ⟨A', c', h⟩ := f1 G1.out
              rw [h]
              exact G4.out A' c'
            have HE10 := Lib.hid e1
            have HN1 := Lib.hid (wide_n wd1)
            rw [G1.out]
            clear b e1 wd1 f1
            obtain ⟨W8, hW8⟩ : ∃ W8, W8 = w8.alloc (Obj.cells (mc M1) 44) := ⟨_, rfl⟩
            have b : Below w8.heap.size w8 W8 := by rw [hW8]; exact (Below.refl _ _).alloc (Nat.le_refl _) _
            have HB_W8 : Hid (Below w.heap.size w W8) := HB_w8.out.trans (b.mono HB_w8.out.size)
            have HR_W8 : Hid (Rd 74 wl.heap.size ⟨#[]⟩ false W8) := HR_w8.out.below b HR_w8.out.lt
            have HN_W8 : Hid (W8.heap[w8.heap.size]? = some (.cells (mc M1) 44 (0, 0))) := by show _ = _; rw [hW8]; exact heap_alloc_new w8 _
            have HEN_W8 : Hid (Ents W8.heap.size M1.A M1.n M1.es W8) := (HE10.out.below b).mr b.size
            have HM_W8 : Hid (W8.heap[w5.heap.size]? = some (.cells (mc M) 44 (0, 0))) := (b.block _ (Array.getElem?_eq_some_iff.1 HM_w8.out).1).trans HM_w8.out
            have HEM_W8 : Hid (Ents W8.heap.size M.A M.n M.es W8) := (HEM_w8.out.below b).mr b.size
            have HW_W8 := Lib.hid hW8
            clear b hW8
            go_upto_region 31 with fail
            rw [← HW_W8.out]
            go_wp2_with fail
            refine (KG.out (P.extract 0 c) _ (by rw [ByteArray.size_extract]; omega)).mono ?_
            rintro q w9 ⟨M2, rfl, e2, wd2, b, _, f2⟩
            have HB_w9 : Hid (Below w.heap.size w w9) := HB_W8.out.trans (b.mono HB_W8.out.size)
            have HR_w9 : Hid (Rd 74 wl.heap.size ⟨#[]⟩ false w9) := HR_W8.out.below b HR_W8.out.lt
            have HM_w9 : Hid (w9.heap[w5.heap.size]? = some (.cells (mc M) 44 (0, 0))) := (b.block _ (Array.getElem?_eq_some_iff.1 HM_W8.out).1).trans HM_W8.out
            have HEM_w9 : Hid (Ents w9.heap.size M.A M.n M.es w9) := (HEM_W8.out.below b).mr b.size
            have HN_w9 : Hid (w9.heap[w8.heap.size]? = some (.cells (mc M1) 44 (0, 0))) := (b.block _ (Array.getElem?_eq_some_iff.1 HN_W8.out).1).trans HN_W8.out
            have HEN_w9 : Hid (Ents w9.heap.size M1.A M1.n M1.es w9) := (HEN_W8.out.below b).mr b.size
            rw [G2.out]
            have HE20 := Lib.hid e2
            clear b e2 wd2 f2
            obtain ⟨W9, hW9⟩ : ∃ W9, W9 = w9.alloc (Obj.cells (mc M2) 44) := ⟨_, rfl⟩
            have b : Below w9.heap.size w9 W9 := by rw [hW9]; exact (Below.refl _ _).alloc (Nat.le_refl _) _
            have HB_W9 : Hid (Below w.heap.size w W9) := HB_w9.out.trans (b.mono HB_w9.out.size)
            have HR_W9 : Hid (Rd 74 wl.heap.size ⟨#[]⟩ false W9) := HR_w9.out.below b HR_w9.out.lt
            have HQ_W9 : Hid (W9.heap[w9.heap.size]? = some (.cells (mc M2) 44 (0, 0))) := by show _ = _; rw [hW9]; exact heap_alloc_new w9 _
            have HEQ_W9 : Hid (Ents W9.heap.size M2.A M2.n M2.es W9) := (HE20.out.below b).mr b.size
            have HM_W9 : Hid (W9.heap[w5.heap.size]? = some (.cells (mc M) 44 (0, 0))) := (b.block _ (Array.getElem?_eq_some_iff.1 HM_w9.out).1).trans HM_w9.out
            have HEM_W9 : Hid (Ents W9.heap.size M.A M.n M.es W9) := (HEM_w9.out.below b).mr b.size
            have HN_W9 : Hid (W9.heap[w8.heap.size]? = some (.cells (mc M1) 44 (0, 0))) := (b.block _ (Array.getElem?_eq_some_iff.1 HN_w9.out).1).trans HN_w9.out
            have HEN_W9 : Hid (Ents W9.heap.size M1.A M1.n M1.es W9) := (HEN_w9.out.below b).mr b.size
            have HW_W9 := Lib.hid hW9
            clear b hW9
            go_upto_region 32 with fail
            rw [← HW_W9.out]
            go_wp2_with fail
            rw [HU0.out]
            refine (KG.out U _ HUZ.out).mono ?_
            rintro q w10 ⟨M3, rfl, e3, wd3, b, _, f3⟩
            have HB_w10 : Hid (Below w.heap.size w w10) := HB_W9.out.trans (b.mono HB_W9.out.size)
            have HR_w10 : Hid (Rd 74 wl.heap.size ⟨#[]⟩ false w10) := HR_W9.out.below b HR_W9.out.lt
            have HM_w10 : Hid (w10.heap[w5.heap.size]? = some (.cells (mc M) 44 (0, 0))) := (b.block _ (Array.getElem?_eq_some_iff.1 HM_W9.out).1).trans HM_W9.out
            have HEM_w10 : Hid (Ents w10.heap.size M.A M.n M.es w10) := (HEM_W9.out.below b).mr b.size
            have HN_w10 : Hid (w10.heap[w8.heap.size]? = some (.cells (mc M1) 44 (0, 0))) := (b.block _ (Array.getElem?_eq_some_iff.1 HN_W9.out).1).trans HN_W9.out
            have HEN_w10 : Hid (Ents w10.heap.size M1.A M1.n M1.es w10) := (HEN_W9.out.below b).mr b.size
            rw [G3.out]
            have HE30 := Lib.hid e3
            clear b e3 wd3 f3
            obtain ⟨W10, hW10⟩ : ∃ W10, W10 = w10.alloc (Obj.cells (mc M3) 44) := ⟨_, rfl⟩
            have b : Below w10.heap.size w10 W10 := by rw [hW10]; exact (Below.refl _ _).alloc (Nat.le_refl _) _
            have HB_W10 : Hid (Below w.heap.size w W10) := HB_w10.out.trans (b.mono HB_w10.out.size)
            have HR_W10 : Hid (Rd 74 wl.heap.size ⟨#[]⟩ false W10) := HR_w10.out.below b HR_w10.out.lt
            have HS_W10 : Hid (W10.heap[w10.heap.size]? = some (.cells (mc M3) 44 (0, 0))) := by show _ = _; rw [hW10]; exact heap_alloc_new w10 _
            have HES_W10 : Hid (Ents W10.heap.size M3.A M3.n M3.es W10) := (HE30.out.below b).mr b.size
            have HM_W10 : Hid (W10.heap[w5.heap.size]? = some (.cells (mc M) 44 (0, 0))) := (b.block _ (Array.getElem?_eq_some_iff.1 HM_w10.out).1).trans HM_w10.out
            have HEM_W10 : Hid (Ents W10.heap.size M.A M.n M.es W10) := (HEM_w10.out.below b).mr b.size
            have HN_W10 : Hid (W10.heap[w8.heap.size]? = some (.cells (mc M1) 44 (0, 0))) := (b.block _ (Array.getElem?_eq_some_iff.1 HN_w10.out).1).trans HN_w10.out
            have HEN_W10 : Hid (Ents W10.heap.size M1.A M1.n M1.es W10) := (HEN_w10.out.below b).mr b.size
            have HW_W10 := Lib.hid hW10
            clear b hW10
            go_upto_region 33 with fail
            rw [← HW_W10.out]
            have KM : Hid (Calls Tryz.prog 27 #[mv M, mv M1] W10 fun r w' => r = .returned (.bool true) ∧ Below W10.heap.size W10 w') := by
              refine (msame_any M M1 W10 HEM_W10.out HEN_W10.out HNM.out HN1.out).mono fun r w' ⟨h1, h2⟩ => ⟨?_, h2⟩
              rw [h1, HSAME.out]
            have x0 : W10.cell? ⟨w5.heap.size, 0, none⟩ = some (.int .i64 M.kind) := cell_of_row W10 _ 0 _ 44 (0, 0) HM_W10.out
            have x1 : W10.cell? ⟨w5.heap.size, 1, none⟩ = some (.int .i64 M.frm) := cell_of_row W10 _ 1 _ 44 (0, 0) HM_W10.out
            have x2 : W10.cell? ⟨w5.heap.size, 2, none⟩ = some (.int .i64 M.dst) := cell_of_row W10 _ 2 _ 44 (0, 0) HM_W10.out
            have x3 : W10.cell? ⟨w5.heap.size, 3, none⟩ = some (.int .u64 M.term) := cell_of_row W10 _ 3 _ 44 (0, 0) HM_W10.out
            have x4 : W10.cell? ⟨w5.heap.size, 4, none⟩ = some (.int .u64 M.index) := cell_of_row W10 _ 4 _ 44 (0, 0) HM_W10.out
            have x5 : W10.cell? ⟨w5.heap.size, 5, none⟩ = some (.int .u64 M.prev) := cell_of_row W10 _ 5 _ 44 (0, 0) HM_W10.out
            have x6 : W10.cell? ⟨w5.heap.size, 6, none⟩ = some (.int .u64 M.commit) := cell_of_row W10 _ 6 _ 44 (0, 0) HM_W10.out
            have x7 : W10.cell? ⟨w5.heap.size, 7, none⟩ = some (.int .u64 M.mark) := cell_of_row W10 _ 7 _ 44 (0, 0) HM_W10.out
            have x8 : W10.cell? ⟨w5.heap.size, 8, none⟩ = some (.bool M.ok) := cell_of_row W10 _ 8 _ 44 (0, 0) HM_W10.out
            have x9 : W10.cell? ⟨w5.heap.size, 9, none⟩ = some (.slice M.A M.n M.c) := cell_of_row W10 _ 9 _ 44 (0, 0) HM_W10.out
            have x10 : W10.cell? ⟨w5.heap.size, 10, none⟩ = some (.string M.snap) := cell_of_row W10 _ 10 _ 44 (0, 0) HM_W10.out
            have y0 : W10.cell? ⟨w8.heap.size, 0, none⟩ = some (.int .i64 M1.kind) := cell_of_row W10 _ 0 _ 44 (0, 0) HN_W10.out
            have y1 : W10.cell? ⟨w8.heap.size, 1, none⟩ = some (.int .i64 M1.frm) := cell_of_row W10 _ 1 _ 44 (0, 0) HN_W10.out
            have y2 : W10.cell? ⟨w8.heap.size, 2, none⟩ = some (.int .i64 M1.dst) := cell_of_row W10 _ 2 _ 44 (0, 0) HN_W10.out
            have y3 : W10.cell? ⟨w8.heap.size, 3, none⟩ = some (.int .u64 M1.term) := cell_of_row W10 _ 3 _ 44 (0, 0) HN_W10.out
            have y4 : W10.cell? ⟨w8.heap.size, 4, none⟩ = some (.int .u64 M1.index) := cell_of_row W10 _ 4 _ 44 (0, 0) HN_W10.out
            have y5 : W10.cell? ⟨w8.heap.size, 5, none⟩ = some (.int .u64 M1.prev) := cell_of_row W10 _ 5 _ 44 (0, 0) HN_W10.out
            have y6 : W10.cell? ⟨w8.heap.size, 6, none⟩ = some (.int .u64 M1.commit) := cell_of_row W10 _ 6 _ 44 (0, 0) HN_W10.out
            have y7 : W10.cell? ⟨w8.heap.size, 7, none⟩ = some (.int .u64 M1.mark) := cell_of_row W10 _ 7 _ 44 (0, 0) HN_W10.out
            have y8 : W10.cell? ⟨w8.heap.size, 8, none⟩ = some (.bool M1.ok) := cell_of_row W10 _ 8 _ 44 (0, 0) HN_W10.out
            have y9 : W10.cell? ⟨w8.heap.size, 9, none⟩ = some (.slice M1.A M1.n M1.c) := cell_of_row W10 _ 9 _ 44 (0, 0) HN_W10.out
            have y10 : W10.cell? ⟨w8.heap.size, 10, none⟩ = some (.string M1.snap) := cell_of_row W10 _ 10 _ 44 (0, 0) HN_W10.out
            go_wp2_with fail
            refine KM.out.mono ?_
            rintro q w11 ⟨rfl, b⟩
            have HB_w11 : Hid (Below w.heap.size w w11) := HB_W10.out.trans (b.mono HB_W10.out.size)
            have HR_w11 : Hid (Rd 74 wl.heap.size ⟨#[]⟩ false w11) := HR_W10.out.below b HR_W10.out.lt
            clear b x0 x1 x2 x3 x4 x5 x6 x7 x8 x9 x10 y0 y1 y2 y3 y4 y5 y6 y7 y8 y9 y10
            go_wp2_with fail
            refine (ok2 _ _ _ _ HR_w11.out).mono ?_
            rintro q w12 ⟨rfl, rfl⟩
            go_wp2_with fail
            refine (left2 _ _ _ _ HR_w11.out).mono ?_
            rintro q w12 ⟨rfl, rfl⟩
            go_wp2
            go_ret
            exact ⟨rfl, HB_w11.out⟩
end Go.Proofs.YtmalcldpihpfpaaGreat
namespace Go.Proofs.YtmalcldpihpfpaaGreat
open Go.ChangeShapes Go.WideShapes Go.ChangeAt Go.RowKit
open Go.ChangeMaps (open_string shut_string)
set_option linter.unusedVariables false

theorem secondBack_own : ownKnob Tryz.prog.godebug = none := by kernel_rfl

set_option maxRecDepth 100000 in
theorem secondBack_lifted (os : Os) (started : os.Started) (H : Type) (enc : TypeId × Value → H) :
    ReturnsInHanded {} Tryz.checked os 5 .any (Rows.secondBackSpec.pre6 enc Tryz.prog Tryz.f5 Rows.secondBackRow.domain false) (Rows.secondBackSpec.post enc Tryz.prog Tryz.f5 false true false false) := by
  refine returnsInHanded_of_change_sized (C := Tryz.checked) secondBack_own started (by kernel_rfl) Tryz.func5
    (ChangeSpec.witness6 (enc := enc) (C := Tryz.checked) false ⟨#[], #[.slice none 0 0, .agg #[.int .i64 0, .int .i64 0, .int .i64 0, .int .u64 0, .int .u64 0, .int .u64 0, .int .u64 0, .int .u64 0, .bool false, .slice none 0 0, .string ByteArray.empty, .bool false, .slice none 0 0], .int .u16 0], []⟩ 8 (by kernel_rfl) (by kernel_rfl) (by kernel_rfl) (by kernel_rfl)) ?_
  intro W base args ds gs before hval0 hW hcnd hsz0 _
  have hval : ∀ (j : Nat) t v, Tryz.f5.params[j]? = some t → args[j]? = some v → Value.okWide Tryz.prog W .any base t v := hval0
  have hsz : (DataW.weightsEach Tryz.prog (Tryz.f5.params.toList ++ Rows.secondBackSpec.plain.varTypes Tryz.prog) (ds ++ gs)).all (· ≤ reachBytes) = true := hsz0
  have hW' := hW
  obtain ⟨p, q, hA0, hV, rfl, hfz, hnd⟩ := hW
  have hA : DataW.TrodAll enc Tryz.prog W 0 (fun _ => true) true Tryz.f5.params.toList args.toList ds p := hA0
  rw [Tryz.params5] at hA hval hsz
  obtain ⟨v0, vs0, d0, ds0, p0, q0, hargs, rfl, rfl, h0, r0⟩ := trodAll_cons hA
  obtain ⟨v1, vs1, d1, ds1, p1, q1, rfl, rfl, rfl, h1, r1⟩ := trodAll_cons r0
  obtain ⟨v2, vs2, d2, ds2, p2, q2, rfl, rfl, rfl, h2, r2⟩ := trodAll_cons r1
  obtain ⟨rfl, rfl, rfl⟩ := trodAll_nil r2
  obtain rfl : args = #[v0, v1, v2] := by cases args; simp_all
  obtain ⟨rfl, rfl⟩ := trodVars_none hV
  obtain ⟨A, len, cap, rfl⟩ := okWide_slice Tryz.underlying45 (hval 0 45 v0 rfl rfl)
  obtain ⟨m1, o1, A1, n1, c1, L1, rfl, k1⟩ := open_note (hval 1 47 v1 rfl rfl) h1 (fun n hn => of_decide_eq_true (List.all_eq_true.1 hsz n (DataW.weights_mem_each (j := 1) (t := 47) rfl rfl n hn)))
  obtain ⟨a2, rfl, rfl, rfl, w2⟩ := open_int Tryz.underlying54 (hval 2 54 v2 rfl rfl) h2
  have y2 := bounds_u16 w2
  obtain ⟨n2, rfl⟩ := Int.eq_ofNat_of_zero_le y2.1
  have z2 : n2 < 65536 := by omega
  have h0k := h0
  obtain ⟨fuel, hf0⟩ := h0
  have hf : DataW.trod enc Tryz.prog W 0 (fun _ => true) true fuel 45 [.slice A len cap] = some (d0, p0) := by simpa [Value.cells] using hf0
  obtain ⟨L, hM, hok, hn⟩ := open_mades hf (fun n hn => of_decide_eq_true (List.all_eq_true.1 hsz n (DataW.weights_mem_each (j := 0) (t := 45) rfl rfl n hn)))
  have hx : len ≤ cap ∧ (A = none → len = 0 ∧ cap = 0) ∧ cap ≤ 9223372036854775807 := by
    rcases Deep.open_slice Tryz.underlying45 hf with ⟨hcs, _⟩ | ⟨a, len', cap', m, n, D, Pl, hcs, _, hl, hm, _⟩
    · simp at hcs
      obtain ⟨rfl, rfl, rfl⟩ := hcs
      exact ⟨Nat.le_refl _, fun _ => ⟨rfl, rfl⟩, by omega⟩
    · simp at hcs
      obtain ⟨rfl, rfl, rfl⟩ := hcs
      exact ⟨hl, fun h => (by cases h), by unfold maxLen at hm; omega⟩
  clear hA0 hval0 hsz0
  simp only [List.append_nil] at hW'
  have hlt : ∀ x ∈ p0, x.block < W.heap.size := fun x hx => by simpa using hW'.lt x (by simp [hx])
  refine (lback_any A len cap L m1 o1 A1 n1 c1 L1 n2 W hM hok hn hx.1 hx.2.1 hx.2.2 k1 z2).mono fun e W' ⟨he, bel⟩ => ?_
  subst he
  exact ⟨_, rfl, _, _, _, [], _, [], hW', trodAll_mk1 (shut_bool Tryz.underlying4 _), (trodAll_cons_mk (Below.trod seat_laidOut (by kernel_rfl) (of_decide_eq_true (by kernel_rfl)) h0k bel hlt) (trodAll_cons_mk (Below.trod seat_laidOut (by kernel_rfl) (of_decide_eq_true (by kernel_rfl)) h1 bel (fun x hx => by simpa using hW'.lt x (by simp [hx]))) (trodAll_cons_mk (shut_int Tryz.underlying54 w2) trodAll_mk0))), rfl, bel.frame _, fun h => by cases h⟩

theorem secondBack_holds : Rows.SecondBackSaid :=
  OpenClaim.holds_of_wide 5 Tryz.f5 rfl rfl rfl rfl rfl rfl rfl ⟨rfl, rfl, rfl, rfl, rfl⟩ rfl rfl rfl rfl rfl (by kernel_rfl) Tryz.func5 (by kernel_rfl)
    (of_decide_eq_true (by kernel_rfl)) (by unfold Func.isWrapper; first | (rw [if_pos (by decide +kernel)]; kernel_rfl) | (rw [if_neg (by decide +kernel)]; exact ⟨rfl, rfl⟩))
    (fun os started H enc _ => secondBack_lifted os started H enc)

end Go.Proofs.YtmalcldpihpfpaaGreat
