/-
  SecondEntries, walked: true for every input.
  Conditions: what came in is as its types say.
-/
import Derived.Test.YtmalcldpihpfpaaGreatTMath
import Derived.Test.YtmalcldpihpfpaaGreatSGet
import Derived.Test.YtmalcldpihpfpaaGreatBend
namespace Go.Proofs.YtmalcldpihpfpaaGreat
open Go.RowKit
open Vi
set_option linter.unusedVariables false
set_option linter.unusedSimpArgs false

/-- What the law's made gives, right or as it is. -/
def mkO (e : En) (o : Bool) : En := if o then mk e else e
theorem made_any (e : En) (o : Bool) (w : World) (ok : e.Ok) : Calls Tryz.prog 11 #[mdv e o] w fun r w' => r = .returned (ev (mkO e o)) ∧ Below w.heap.size w w' := by
  cases o with
  | true => exact made_yes e w ok
  | false => exact made_no e w
theorem mkO_ok (e : En) (o : Bool) (ok : e.Ok) : (mkO e o).Ok := by
  cases o with
  | true => exact (mk_facts e ok).1
  | false => exact ok
/-- The law's own argument lies where it lay. -/
structure Lh (w0 : World) (e : En) (o : Bool) (w : World) : Prop where
  k : w.heap[w0.heap.size]? = some (.cells (mdc e o) 26 (0, 0))
  be : Below w0.heap.size w0 w
  sz : w0.heap.size ≤ w.heap.size
theorem Lh.on {w0 w w1 : World} {e : En} {o : Bool} (h : Lh w0 e o w) (hb : Below w.heap.size w w1) : Lh w0 e o w1 :=
  ⟨(hb.block _ (Array.getElem?_eq_some_iff.1 h.k).1).trans h.k, h.be.trans (hb.mono h.sz), Nat.le_trans h.sz hb.size⟩
theorem Lh.all {w0 w : World} {e : En} {o : Bool} (h : Lh w0 e o w) : Lh w0 e o w ∧ w.cell? ⟨w0.heap.size, 0, none⟩ = some (.int .u64 e.term) ∧ w.cell? ⟨w0.heap.size, 1, none⟩ = some (.int .u64 e.index) ∧ w.cell? ⟨w0.heap.size, 2, none⟩ = some (.int .i64 e.kind) ∧ w.cell? ⟨w0.heap.size, 3, none⟩ = some (.int .u64 e.client) ∧ w.cell? ⟨w0.heap.size, 4, none⟩ = some (.int .u64 e.seq) ∧ w.cell? ⟨w0.heap.size, 5, none⟩ = some (.int .u64 e.block) ∧ w.cell? ⟨w0.heap.size, 6, none⟩ = some (.int .u64 e.many) ∧ w.cell? ⟨w0.heap.size, 7, none⟩ = some (.int .i64 e.node) ∧ w.cell? ⟨w0.heap.size, 8, none⟩ = some (.int .i64 e.level) ∧ w.cell? ⟨w0.heap.size, 9, none⟩ = some (.string e.data) ∧ w.cell? ⟨w0.heap.size, 10, none⟩ = some (.string e.old) ∧ w.cell? ⟨w0.heap.size, 11, none⟩ = some (.bool o) := ⟨h, cell_of_row w _ 0 _ 26 (0, 0) h.k, cell_of_row w _ 1 _ 26 (0, 0) h.k, cell_of_row w _ 2 _ 26 (0, 0) h.k, cell_of_row w _ 3 _ 26 (0, 0) h.k, cell_of_row w _ 4 _ 26 (0, 0) h.k, cell_of_row w _ 5 _ 26 (0, 0) h.k, cell_of_row w _ 6 _ 26 (0, 0) h.k, cell_of_row w _ 7 _ 26 (0, 0) h.k, cell_of_row w _ 8 _ 26 (0, 0) h.k, cell_of_row w _ 9 _ 26 (0, 0) h.k, cell_of_row w _ 10 _ 26 (0, 0) h.k, cell_of_row w _ 11 _ 26 (0, 0) h.k⟩
theorem Lh.start (w : World) (e : En) (o : Bool) : Lh w e o (w.alloc (Obj.cells (mdc e o) 26)) := ⟨heap_alloc_new w _, (Below.refl _ _).alloc (Nat.le_refl _) _, by simp⟩
theorem fS_size (t : Nat) (E : En) (T : ByteArray) : (fS t E T).2.1.size ≤ T.size := by
  unfold fS
  split
  · show (if varV T = 0 then (⟨#[]⟩ : ByteArray) else varT T).size ≤ _
    split
    · exact Nat.zero_le _
    · exact varT_size T
  · show (if (texV T).size = 0 then (⟨#[]⟩ : ByteArray) else texT T).size ≤ _
    split
    · exact Nat.zero_le _
    · refine Nat.le_trans ?_ (varT_size T)
      unfold texT bytT
      split
      · rw [ByteArray.size_extract]; omega
      · exact Nat.zero_le _
theorem pk_ok : ∀ n last E T b, E.Ok → T.size ≤ 281474976710656 → (pk eF n last E T b).1.Ok
  | 0, _, _, _, _, h, _ => h
  | n + 1, last, E, T, b, h, hT => by
    unfold pk
    split
    · exact h
    · split
      · exact h
      · have h1 : (varT T).size ≤ 281474976710656 := Nat.le_trans (varT_size T) hT
        exact pk_ok n _ _ _ _ (fS_ok (t := varV T) h h1) (Nat.le_trans (fS_size _ _ _) h1)
theorem eR_ok (s : ByteArray) (b : Bool) (h : s.size ≤ 281474976710656) : (eR s b).1.Ok := pk_ok 12 0 ezz0 s b ezz_ok h
def getE (u : ByteArray) : En := gE u false
def getT (u : ByteArray) : ByteArray := gT u false
def getO (u : ByteArray) : Bool := gO u false
theorem put_any2 (e : En) (w : World) (ok : e.Ok) : Calls Tryz.prog 10 #[ev e] w fun q w' => q = .returned (.tuple #[.string (putS e), .bool (rightB e)]) ∧ Below w.heap.size w w' := putE_any e w ok
theorem rput_any2 (e : En) (w : World) (ok : e.Ok) : Calls Tryz.prog 12 #[ev e] w fun q w' => q = .returned (.tuple #[.string (putS e), .bool (rightB e)]) ∧ Below w.heap.size w w' := rputE_any e w ok
theorem get2 (g : Nat) (u : ByteArray) (w : World) (h : Rd 74 g u false w) (hm : u.size ≤ 281474976710656) : Calls Tryz.prog 16 #[.pointer (some ⟨g, 0, none⟩)] w fun q w' => q = .returned (ev (getE u)) ∧ Rd 74 g (getT u) (!getO u) w' ∧ w.grownBy w' (some g) := getE_any g u false w h hm
theorem rget2 (g : Nat) (u : ByteArray) (w : World) (h : Rd 39 g u false w) (hm : u.size ≤ 281474976710656) : Calls Tryz.prog 17 #[.pointer (some ⟨g, 0, none⟩)] w fun q w' => q = .returned (ev (getE u)) ∧ Rd 39 g (getT u) (!getO u) w' ∧ w.grownBy w' (some g) := rgetE_any g u false w h hm (by intro e; cases e) (eR_ok u false hm)
theorem new2 (u : ByteArray) (w : World) : Calls Tryz.prog 14 #[.string u] w fun q w' => q = .returned (.pointer (some ⟨w.heap.size, 0, none⟩)) ∧ Rd 74 w.heap.size u false w' ∧ Below w.heap.size w w' ∧ w'.heap.size = w.heap.size + 1 := by
  refine (new_any u w).mono ?_
  rintro q w' ⟨h1, rfl⟩
  exact ⟨h1, Rd.new w 74 u false, (Below.refl _ _).alloc (Nat.le_refl _) _, by simp⟩
theorem rnew2 (u : ByteArray) (w : World) : Calls Tryz.prog 15 #[.string u] w fun q w' => q = .returned (.pointer (some ⟨w.heap.size, 0, none⟩)) ∧ Rd 39 w.heap.size u false w' ∧ Below w.heap.size w w' ∧ w'.heap.size = w.heap.size + 1 := by
  refine (rnew_any u w).mono ?_
  rintro q w' ⟨h1, rfl⟩
  exact ⟨h1, Rd.new w 39 u false, (Below.refl _ _).alloc (Nat.le_refl _) _, by simp⟩
theorem ok2 (g : Nat) (T : ByteArray) (f : Bool) (w : World) (h : Rd 74 g T f w) : Calls Tryz.prog 18 #[.pointer (some ⟨g, 0, none⟩)] w fun q w' => q = .returned (.bool (!f)) ∧ w = w' := ok_any g T f w h
theorem left2 (g : Nat) (T : ByteArray) (f : Bool) (w : World) (h : Rd 74 g T f w) : Calls Tryz.prog 19 #[.pointer (some ⟨g, 0, none⟩)] w fun q w' => q = .returned (.int .i64 T.size) ∧ w = w' := left_any g T f w h

set_option maxHeartbeats 16000000 in
set_option maxRecDepth 100000 in
theorem lentries_any (e : En) (o : Bool) (s : ByteArray) (own : Bool) (at_ : Int) (by_ : Nat) (more : ByteArray) (w : World) (ok : e.Ok) (hs : s.size ≤ 140737488351232) (hat : -9223372036854775808 ≤ at_ ∧ at_ ≤ 9223372036854775807) (hby : by_ < 256) (hmo : more.size ≤ 140737488351232) :
    Calls Tryz.prog 3 #[mdv e o, .string s, .bool own, .int .i64 at_, .int .u8 by_, .string more] w fun r w' => r = .returned (.bool true) ∧ Below w.heap.size w w' := by
  obtain ⟨W0, hW0⟩ : ∃ W0, W0 = w.alloc (Obj.cells (mdc e o) 26) := ⟨_, rfl⟩
  have L0 : Lh w e o W0 := hW0 ▸ Lh.start w e o
  obtain ⟨X, hX⟩ : ∃ X, X = mkO e o := ⟨_, rfl⟩
  have hXok : X.Ok := hX ▸ mkO_ok e o ok
  obtain ⟨P, hP⟩ : ∃ P, P = putS X := ⟨_, rfl⟩
  obtain ⟨mb, hmb⟩ : ∃ mb, mb = rightB X := ⟨_, rfl⟩
  have hPs : P.size ≤ 1000 := hP ▸ putS_le hXok
  have KE := Lib.hid (fun (W : World) (h : Lh w e o W) => (examples_any W).mono fun r w' ⟨h1, h2⟩ => And.intro h1 (h.on h2).all)
  have KX := Lib.hid (fun (W : World) (h : Lh w e o W) => (made_any e o W ok).mono fun r w' ⟨h1, h2⟩ => And.intro (show r = Ending.returned (ev X) by rw [h1, hX]) (h.on h2).all)
  have KP := Lib.hid (fun (W : World) (h : Lh w e o W) => (put_any2 X W hXok).mono fun r w' ⟨h1, h2⟩ => And.intro (show r = Ending.returned (.tuple #[.string P, .bool mb]) by rw [h1, hP, hmb]) (h.on h2).all)
  have KR := Lib.hid (fun (W : World) (h : Lh w e o W) => (rput_any2 X W hXok).mono fun r w' ⟨h1, h2⟩ => And.intro (show r = Ending.returned (.tuple #[.string P, .bool mb]) by rw [h1, hP, hmb]) (h.on h2).all)
  have KB := Lib.hid (fun (W : World) => bend_any P at_ by_ W (by omega) hat hby)
  have HW0 := Lib.hid hW0
  have HL0 := Lib.hid L0
  have HPS := Lib.hid hPs
  have HS := Lib.hid hs
  have HMO := Lib.hid hmo
  have hadd : ∀ t : ByteArray, t.size = P.size → ¬ 9223372036854775807 < t.size + more.size := fun t ht => by omega
  clear hW0 L0 hX hXok hP hmb hPs ok hs hat hby hmo
  go_enter Tryz.func3, Tryz.ntmps3
  go_upto_region 6 with (first
    | (go_at_call 9; rw [← HW0.out]; (with_reducible refine (KE.out _ HL0.out).mono ?_); rintro r w1 ⟨rfl, L, a0, a1, a2, a3, a4, a5, a6, a7, a8, a9, a10, a11⟩)
    | (go_at_call 11; (with_reducible refine (KX.out _ (by assumption)).mono ?_); clear L a0 a1 a2 a3 a4 a5 a6 a7 a8 a9 a10 a11; rintro r w1 ⟨rfl, L, a0, a1, a2, a3, a4, a5, a6, a7, a8, a9, a10, a11⟩)
    | (go_at_call 10; (with_reducible refine (KP.out _ (by assumption)).mono ?_); clear L a0 a1 a2 a3 a4 a5 a6 a7 a8 a9 a10 a11; rintro r w1 ⟨rfl, L, a0, a1, a2, a3, a4, a5, a6, a7, a8, a9, a10, a11⟩)
    | (go_at_call 12; (with_reducible refine (KR.out _ (by assumption)).mono ?_); clear L a0 a1 a2 a3 a4 a5 a6 a7 a8 a9 a10 a11; rintro r w1 ⟨rfl, L, a0, a1, a2, a3, a4, a5, a6, a7, a8, a9, a10, a11⟩))
  clear a0 a1 a2 a3 a4 a5 a6 a7 a8 a9 a10 a11 KE KX KP KR HW0 HL0
  cases own with
  | true =>
    go_upto_region 8 with (go_at_call 13; (with_reducible refine (KB.out _).mono ?_); rintro r w2 ⟨t, rfl, ht, hb2⟩; have hta := hadd t ht; have HT := Lib.hid ht; have L2 := L.on hb2; clear hb2)
    obtain ⟨u, hu⟩ : ∃ u, u = t ++ more := ⟨_, rfl⟩
    rw [← hu]
    have HU : Hid (u.size ≤ 281474976710656) := by show u.size ≤ _; rw [hu, ByteArray.size_append, HT.out]; have := HPS.out; have := HMO.out; omega
    have HBE := Lib.hid L2.be
    have HSZ := Lib.hid L2.sz
    clear hu HT hta L2 L HPS HS HMO hadd KB
    obtain ⟨E, hE⟩ : ∃ E, E = getE u := ⟨_, rfl⟩
    obtain ⟨T, hT⟩ : ∃ T, T = getT u := ⟨_, rfl⟩
    obtain ⟨f, hf⟩ : ∃ f, f = !getO u := ⟨_, rfl⟩
    have KN := Lib.hid (fun (W : World) => new2 u W)
    have KM := Lib.hid (fun (W : World) => rnew2 u W)
    have KG := Lib.hid (fun (g : Nat) (W : World) (h : Rd 74 g u false W) => (get2 g u W h HU.out).mono fun r w' ⟨h1, h2, h3⟩ => (⟨by rw [h1, hE], by rw [hT, hf]; exact h2, h3⟩ : r = Ending.returned (ev E) ∧ Rd 74 g T f w' ∧ W.grownBy w' (some g)))
    have KH := Lib.hid (fun (g : Nat) (W : World) (h : Rd 39 g u false W) => (rget2 g u W h HU.out).mono fun r w' ⟨h1, h2, h3⟩ => (⟨by rw [h1, hE], by rw [hT, hf]; exact h2, h3⟩ : r = Ending.returned (ev E) ∧ Rd 39 g T f w' ∧ W.grownBy w' (some g)))
    clear hE hT hf
    go_upto_region 14 with (first
      | (go_at_call 14; (with_reducible refine (KN.out _).mono ?_); rintro r w5 ⟨rfl, R5, b5, z5⟩; have HB5 := Lib.hid b5; have HZ5 := Lib.hid z5; have HR5 := Lib.hid R5; clear b5 z5 R5)
      | (go_at_call 15; (with_reducible refine (KM.out _).mono ?_); rintro r w6 ⟨rfl, Z6, b6, z6⟩; have HR6 := Lib.hid (HR5.out.below b6 HR5.out.lt); have HB6 : Hid (Below w.heap.size w w6) := (HBE.out.trans (HB5.out.mono HSZ.out)).trans (b6.mono (Nat.le_trans HSZ.out HB5.out.size)); have HZ6 := Lib.hid Z6; have HN6 := Lib.hid z6; clear Z6 b6 z6)
      | (go_at_call 16; (with_reducible refine (KG.out _ _ HR6.out).mono ?_); rintro r w7 ⟨rfl, R7, g7⟩; have HR7 := Lib.hid R7; have HZ7 : Hid (Rd 39 w5.heap.size u false w7) := HZ6.out.grown g7 (by have := HZ5.out; simp; omega); have HB7 : Hid (Below w.heap.size w w7) := below_grownBy HB6.out g7 HB6.out.size HSZ.out; clear R7 g7)
      | (go_at_call 17; (with_reducible refine (KH.out _ _ (HZ7.out.below ((Below.refl _ _).alloc (Nat.le_refl _) _) HZ7.out.lt)).mono ?_); rintro r w8 ⟨rfl, Z8, g8⟩; have HB8 : Hid (Below w.heap.size w w8) := below_grownBy (HB7.out.alloc HB7.out.size _) g8 (HB7.out.alloc HB7.out.size _).size (Nat.le_trans HSZ.out (by have := HZ5.out; omega)); have HX8 : Hid (w8.heap[w7.heap.size]? = some (.cells (ec E) 24 (0, 0))) := (g8.block _ (by simp) (by have := HZ7.out.lt; simp; omega)).trans (heap_alloc_new w7 _); have HR8 : Hid (Rd 74 w2.heap.size T f w8) := (HR7.out.below ((Below.refl _ w7).alloc (Nat.le_refl _) _) HR7.out.lt).grown g8 (by have := HZ5.out; simp; omega); have HZ8 := Lib.hid Z8; clear Z8 g8))
    obtain ⟨W, hW⟩ : ∃ W, W = w8.alloc (Obj.cells (ec E) 24) := ⟨_, rfl⟩
    rw [← hW]
    have B9 : Below w8.heap.size w8 W := by rw [hW]; exact (Below.refl _ _).alloc (Nat.le_refl _) _
    have R9 : Rd 74 w2.heap.size T f W := HR8.out.below B9 HR8.out.lt
    have Z9 : Rd 39 w5.heap.size T f W := HZ8.out.below B9 HZ8.out.lt
    have X9 : W.heap[w7.heap.size]? = some (.cells (ec E) 24 (0, 0)) := (B9.block _ (Array.getElem?_eq_some_iff.1 HX8.out).1).trans HX8.out
    have Y9 : W.heap[w8.heap.size]? = some (.cells (ec E) 24 (0, 0)) := by rw [hW]; exact heap_alloc_new w8 _
    have HEND : Hid (Below w.heap.size w W) := HB8.out.trans (B9.mono HB8.out.size)
    have z0 := Z9.cell0
    have z1 := Z9.cell1
    have x0 : W.cell? ⟨w7.heap.size, 0, none⟩ = some (.int .u64 E.term) := cell_of_row W _ 0 _ 24 (0, 0) X9
    have x1 : W.cell? ⟨w7.heap.size, 1, none⟩ = some (.int .u64 E.index) := cell_of_row W _ 1 _ 24 (0, 0) X9
    have x2 : W.cell? ⟨w7.heap.size, 2, none⟩ = some (.int .i64 E.kind) := cell_of_row W _ 2 _ 24 (0, 0) X9
    have x3 : W.cell? ⟨w7.heap.size, 3, none⟩ = some (.int .u64 E.client) := cell_of_row W _ 3 _ 24 (0, 0) X9
    have x4 : W.cell? ⟨w7.heap.size, 4, none⟩ = some (.int .u64 E.seq) := cell_of_row W _ 4 _ 24 (0, 0) X9
    have x5 : W.cell? ⟨w7.heap.size, 5, none⟩ = some (.int .u64 E.block) := cell_of_row W _ 5 _ 24 (0, 0) X9
    have x6 : W.cell? ⟨w7.heap.size, 6, none⟩ = some (.int .u64 E.many) := cell_of_row W _ 6 _ 24 (0, 0) X9
    have x7 : W.cell? ⟨w7.heap.size, 7, none⟩ = some (.int .i64 E.node) := cell_of_row W _ 7 _ 24 (0, 0) X9
    have x8 : W.cell? ⟨w7.heap.size, 8, none⟩ = some (.int .i64 E.level) := cell_of_row W _ 8 _ 24 (0, 0) X9
    have x9 : W.cell? ⟨w7.heap.size, 9, none⟩ = some (.string E.data) := cell_of_row W _ 9 _ 24 (0, 0) X9
    have x10 : W.cell? ⟨w7.heap.size, 10, none⟩ = some (.string E.old) := cell_of_row W _ 10 _ 24 (0, 0) X9
    have y0 : W.cell? ⟨w8.heap.size, 0, none⟩ = some (.int .u64 E.term) := cell_of_row W _ 0 _ 24 (0, 0) Y9
    have y1 : W.cell? ⟨w8.heap.size, 1, none⟩ = some (.int .u64 E.index) := cell_of_row W _ 1 _ 24 (0, 0) Y9
    have y2 : W.cell? ⟨w8.heap.size, 2, none⟩ = some (.int .i64 E.kind) := cell_of_row W _ 2 _ 24 (0, 0) Y9
    have y3 : W.cell? ⟨w8.heap.size, 3, none⟩ = some (.int .u64 E.client) := cell_of_row W _ 3 _ 24 (0, 0) Y9
    have y4 : W.cell? ⟨w8.heap.size, 4, none⟩ = some (.int .u64 E.seq) := cell_of_row W _ 4 _ 24 (0, 0) Y9
    have y5 : W.cell? ⟨w8.heap.size, 5, none⟩ = some (.int .u64 E.block) := cell_of_row W _ 5 _ 24 (0, 0) Y9
    have y6 : W.cell? ⟨w8.heap.size, 6, none⟩ = some (.int .u64 E.many) := cell_of_row W _ 6 _ 24 (0, 0) Y9
    have y7 : W.cell? ⟨w8.heap.size, 7, none⟩ = some (.int .i64 E.node) := cell_of_row W _ 7 _ 24 (0, 0) Y9
    have y8 : W.cell? ⟨w8.heap.size, 8, none⟩ = some (.int .i64 E.level) := cell_of_row W _ 8 _ 24 (0, 0) Y9
    have y9 : W.cell? ⟨w8.heap.size, 9, none⟩ = some (.string E.data) := cell_of_row W _ 9 _ 24 (0, 0) Y9
    have y10 : W.cell? ⟨w8.heap.size, 10, none⟩ = some (.string E.old) := cell_of_row W _ 10 _ 24 (0, 0) Y9
    have hee : ∀ V, (binOp .eql 24 (ev E) (ev E)).run Tryz.prog V = .ok (.bool true) V := fun V => by rw [eql_entry, (sameB_iff E E).2 rfl]
    have RD := R9.drew
    have KO := Lib.hid (ok2 _ T f W.drew RD)
    have KL := Lib.hid (left2 _ T f W.drew RD)
    clear hW B9 R9 Z9 X9 Y9 HB5 HZ5 HR5 HR6 HB6 HZ6 HN6 HR7 HZ7 HB7 HB8 HX8 HR8 HZ8 KN KM KG KH RD
    cases f with
    | false =>
      go_region_held3 (fun W' => W'.cell? ⟨w7.heap.size, 0, none⟩ = some (.int .u64 E.term) ∧ W'.cell? ⟨w7.heap.size, 1, none⟩ = some (.int .u64 E.index) ∧ W'.cell? ⟨w7.heap.size, 2, none⟩ = some (.int .i64 E.kind) ∧ W'.cell? ⟨w7.heap.size, 3, none⟩ = some (.int .u64 E.client) ∧ W'.cell? ⟨w7.heap.size, 4, none⟩ = some (.int .u64 E.seq) ∧ W'.cell? ⟨w7.heap.size, 5, none⟩ = some (.int .u64 E.block) ∧ W'.cell? ⟨w7.heap.size, 6, none⟩ = some (.int .u64 E.many) ∧ W'.cell? ⟨w7.heap.size, 7, none⟩ = some (.int .i64 E.node) ∧ W'.cell? ⟨w7.heap.size, 8, none⟩ = some (.int .i64 E.level) ∧ W'.cell? ⟨w7.heap.size, 9, none⟩ = some (.string E.data) ∧ W'.cell? ⟨w7.heap.size, 10, none⟩ = some (.string E.old) ∧ W'.cell? ⟨w8.heap.size, 0, none⟩ = some (.int .u64 E.term) ∧ W'.cell? ⟨w8.heap.size, 1, none⟩ = some (.int .u64 E.index) ∧ W'.cell? ⟨w8.heap.size, 2, none⟩ = some (.int .i64 E.kind) ∧ W'.cell? ⟨w8.heap.size, 3, none⟩ = some (.int .u64 E.client) ∧ W'.cell? ⟨w8.heap.size, 4, none⟩ = some (.int .u64 E.seq) ∧ W'.cell? ⟨w8.heap.size, 5, none⟩ = some (.int .u64 E.block) ∧ W'.cell? ⟨w8.heap.size, 6, none⟩ = some (.int .u64 E.many) ∧ W'.cell? ⟨w8.heap.size, 7, none⟩ = some (.int .i64 E.node) ∧ W'.cell? ⟨w8.heap.size, 8, none⟩ = some (.int .i64 E.level) ∧ W'.cell? ⟨w8.heap.size, 9, none⟩ = some (.string E.data) ∧ W'.cell? ⟨w8.heap.size, 10, none⟩ = some (.string E.old) ∧ W'.cell? ⟨w5.heap.size, 0, none⟩ = some (.string T) ∧ W'.cell? ⟨w5.heap.size, 1, none⟩ = some (.bool false))
        (first | exact ⟨x0, x1, x2, x3, x4, x5, x6, x7, x8, x9, x10, y0, y1, y2, y3, y4, y5, y6, y7, y8, y9, y10, z0, z1⟩ | (refine ⟨?_, ?_, ?_, ?_, ?_, ?_, ?_, ?_, ?_, ?_, ?_, ?_, ?_, ?_, ?_, ?_, ?_, ?_, ?_, ?_, ?_, ?_, ?_, ?_⟩ <;> assumption))
        (first
          | (go_at_call 18; (with_reducible refine KO.out.mono ?_); rintro r w9 ⟨rfl, rfl⟩)
          | (go_at_call 19; (with_reducible refine KL.out.mono ?_); rintro r w9 ⟨rfl, rfl⟩))
      all_goals
        go_wp2
        go_ret
        exact ⟨rfl, HEND.out.drew⟩
    | true =>
      go_region_held3 (fun W' => W'.cell? ⟨w7.heap.size, 0, none⟩ = some (.int .u64 E.term) ∧ W'.cell? ⟨w7.heap.size, 1, none⟩ = some (.int .u64 E.index) ∧ W'.cell? ⟨w7.heap.size, 2, none⟩ = some (.int .i64 E.kind) ∧ W'.cell? ⟨w7.heap.size, 3, none⟩ = some (.int .u64 E.client) ∧ W'.cell? ⟨w7.heap.size, 4, none⟩ = some (.int .u64 E.seq) ∧ W'.cell? ⟨w7.heap.size, 5, none⟩ = some (.int .u64 E.block) ∧ W'.cell? ⟨w7.heap.size, 6, none⟩ = some (.int .u64 E.many) ∧ W'.cell? ⟨w7.heap.size, 7, none⟩ = some (.int .i64 E.node) ∧ W'.cell? ⟨w7.heap.size, 8, none⟩ = some (.int .i64 E.level) ∧ W'.cell? ⟨w7.heap.size, 9, none⟩ = some (.string E.data) ∧ W'.cell? ⟨w7.heap.size, 10, none⟩ = some (.string E.old) ∧ W'.cell? ⟨w8.heap.size, 0, none⟩ = some (.int .u64 E.term) ∧ W'.cell? ⟨w8.heap.size, 1, none⟩ = some (.int .u64 E.index) ∧ W'.cell? ⟨w8.heap.size, 2, none⟩ = some (.int .i64 E.kind) ∧ W'.cell? ⟨w8.heap.size, 3, none⟩ = some (.int .u64 E.client) ∧ W'.cell? ⟨w8.heap.size, 4, none⟩ = some (.int .u64 E.seq) ∧ W'.cell? ⟨w8.heap.size, 5, none⟩ = some (.int .u64 E.block) ∧ W'.cell? ⟨w8.heap.size, 6, none⟩ = some (.int .u64 E.many) ∧ W'.cell? ⟨w8.heap.size, 7, none⟩ = some (.int .i64 E.node) ∧ W'.cell? ⟨w8.heap.size, 8, none⟩ = some (.int .i64 E.level) ∧ W'.cell? ⟨w8.heap.size, 9, none⟩ = some (.string E.data) ∧ W'.cell? ⟨w8.heap.size, 10, none⟩ = some (.string E.old) ∧ W'.cell? ⟨w5.heap.size, 0, none⟩ = some (.string T) ∧ W'.cell? ⟨w5.heap.size, 1, none⟩ = some (.bool true))
        (first | exact ⟨x0, x1, x2, x3, x4, x5, x6, x7, x8, x9, x10, y0, y1, y2, y3, y4, y5, y6, y7, y8, y9, y10, z0, z1⟩ | (refine ⟨?_, ?_, ?_, ?_, ?_, ?_, ?_, ?_, ?_, ?_, ?_, ?_, ?_, ?_, ?_, ?_, ?_, ?_, ?_, ?_, ?_, ?_, ?_, ?_⟩ <;> assumption))
        (first
          | (go_at_call 18; (with_reducible refine KO.out.mono ?_); rintro r w9 ⟨rfl, rfl⟩)
          | (go_at_call 19; (with_reducible refine KL.out.mono ?_); rintro r w9 ⟨rfl, rfl⟩))
      all_goals
        go_wp2
        go_ret
        exact ⟨rfl, HEND.out.drew⟩
  | false =>
    go_upto_region 8 with fail
    obtain ⟨u, hu⟩ : ∃ u, u = s := ⟨_, rfl⟩
    rw [← hu]
    have HU : Hid (u.size ≤ 281474976710656) := by show u.size ≤ _; rw [hu]; have := HS.out; omega
    have HBE := Lib.hid L.be
    have HSZ := Lib.hid L.sz
    clear hu L HPS HS HMO hadd KB
    obtain ⟨E, hE⟩ : ∃ E, E = getE u := ⟨_, rfl⟩
    obtain ⟨T, hT⟩ : ∃ T, T = getT u := ⟨_, rfl⟩
    obtain ⟨f, hf⟩ : ∃ f, f = !getO u := ⟨_, rfl⟩
    have KN := Lib.hid (fun (W : World) => new2 u W)
    have KM := Lib.hid (fun (W : World) => rnew2 u W)
    have KG := Lib.hid (fun (g : Nat) (W : World) (h : Rd 74 g u false W) => (get2 g u W h HU.out).mono fun r w' ⟨h1, h2, h3⟩ => (⟨by rw [h1, hE], by rw [hT, hf]; exact h2, h3⟩ : r = Ending.returned (ev E) ∧ Rd 74 g T f w' ∧ W.grownBy w' (some g)))
    have KH := Lib.hid (fun (g : Nat) (W : World) (h : Rd 39 g u false W) => (rget2 g u W h HU.out).mono fun r w' ⟨h1, h2, h3⟩ => (⟨by rw [h1, hE], by rw [hT, hf]; exact h2, h3⟩ : r = Ending.returned (ev E) ∧ Rd 39 g T f w' ∧ W.grownBy w' (some g)))
    clear hE hT hf
    go_upto_region 14 with (first
      | (go_at_call 14; (with_reducible refine (KN.out _).mono ?_); rintro r w5 ⟨rfl, R5, b5, z5⟩; have HB5 := Lib.hid b5; have HZ5 := Lib.hid z5; have HR5 := Lib.hid R5; clear b5 z5 R5)
      | (go_at_call 15; (with_reducible refine (KM.out _).mono ?_); rintro r w6 ⟨rfl, Z6, b6, z6⟩; have HR6 := Lib.hid (HR5.out.below b6 HR5.out.lt); have HB6 : Hid (Below w.heap.size w w6) := (HBE.out.trans (HB5.out.mono HSZ.out)).trans (b6.mono (Nat.le_trans HSZ.out HB5.out.size)); have HZ6 := Lib.hid Z6; have HN6 := Lib.hid z6; clear Z6 b6 z6)
      | (go_at_call 16; (with_reducible refine (KG.out _ _ HR6.out).mono ?_); rintro r w7 ⟨rfl, R7, g7⟩; have HR7 := Lib.hid R7; have HZ7 : Hid (Rd 39 w5.heap.size u false w7) := HZ6.out.grown g7 (by have := HZ5.out; simp; omega); have HB7 : Hid (Below w.heap.size w w7) := below_grownBy HB6.out g7 HB6.out.size HSZ.out; clear R7 g7)
      | (go_at_call 17; (with_reducible refine (KH.out _ _ (HZ7.out.below ((Below.refl _ _).alloc (Nat.le_refl _) _) HZ7.out.lt)).mono ?_); rintro r w8 ⟨rfl, Z8, g8⟩; have HB8 : Hid (Below w.heap.size w w8) := below_grownBy (HB7.out.alloc HB7.out.size _) g8 (HB7.out.alloc HB7.out.size _).size (Nat.le_trans HSZ.out (by have := HZ5.out; omega)); have HX8 : Hid (w8.heap[w7.heap.size]? = some (.cells (ec E) 24 (0, 0))) := (g8.block _ (by simp) (by have := HZ7.out.lt; simp; omega)).trans (heap_alloc_new w7 _); have HR8 : Hid (Rd 74 w1.heap.size T f w8) := (HR7.out.below ((Below.refl _ w7).alloc (Nat.le_refl _) _) HR7.out.lt).grown g8 (by have := HZ5.out; simp; omega); have HZ8 := Lib.hid Z8; clear Z8 g8))
    obtain ⟨W, hW⟩ : ∃ W, W = w8.alloc (Obj.cells (ec E) 24) := ⟨_, rfl⟩
    rw [← hW]
    have B9 : Below w8.heap.size w8 W := by rw [hW]; exact (Below.refl _ _).alloc (Nat.le_refl _) _
    have R9 : Rd 74 w1.heap.size T f W := HR8.out.below B9 HR8.out.lt
    have Z9 : Rd 39 w5.heap.size T f W := HZ8.out.below B9 HZ8.out.lt
    have X9 : W.heap[w7.heap.size]? = some (.cells (ec E) 24 (0, 0)) := (B9.block _ (Array.getElem?_eq_some_iff.1 HX8.out).1).trans HX8.out
    have Y9 : W.heap[w8.heap.size]? = some (.cells (ec E) 24 (0, 0)) := by rw [hW]; exact heap_alloc_new w8 _
    have HEND : Hid (Below w.heap.size w W) := HB8.out.trans (B9.mono HB8.out.size)
    have z0 := Z9.cell0
    have z1 := Z9.cell1
    have x0 : W.cell? ⟨w7.heap.size, 0, none⟩ = some (.int .u64 E.term) := cell_of_row W _ 0 _ 24 (0, 0) X9
    have x1 : W.cell? ⟨w7.heap.size, 1, none⟩ = some (.int .u64 E.index) := cell_of_row W _ 1 _ 24 (0, 0) X9
    have x2 : W.cell? ⟨w7.heap.size, 2, none⟩ = some (.int .i64 E.kind) := cell_of_row W _ 2 _ 24 (0, 0) X9
    have x3 : W.cell? ⟨w7.heap.size, 3, none⟩ = some (.int .u64 E.client) := cell_of_row W _ 3 _ 24 (0, 0) X9
    have x4 : W.cell? ⟨w7.heap.size, 4, none⟩ = some (.int .u64 E.seq) := cell_of_row W _ 4 _ 24 (0, 0) X9
    have x5 : W.cell? ⟨w7.heap.size, 5, none⟩ = some (.int .u64 E.block) := cell_of_row W _ 5 _ 24 (0, 0) X9
    have x6 : W.cell? ⟨w7.heap.size, 6, none⟩ = some (.int .u64 E.many) := cell_of_row W _ 6 _ 24 (0, 0) X9
    have x7 : W.cell? ⟨w7.heap.size, 7, none⟩ = some (.int .i64 E.node) := cell_of_row W _ 7 _ 24 (0, 0) X9
    have x8 : W.cell? ⟨w7.heap.size, 8, none⟩ = some (.int .i64 E.level) := cell_of_row W _ 8 _ 24 (0, 0) X9
    have x9 : W.cell? ⟨w7.heap.size, 9, none⟩ = some (.string E.data) := cell_of_row W _ 9 _ 24 (0, 0) X9
    have x10 : W.cell? ⟨w7.heap.size, 10, none⟩ = some (.string E.old) := cell_of_row W _ 10 _ 24 (0, 0) X9
    have y0 : W.cell? ⟨w8.heap.size, 0, none⟩ = some (.int .u64 E.term) := cell_of_row W _ 0 _ 24 (0, 0) Y9
    have y1 : W.cell? ⟨w8.heap.size, 1, none⟩ = some (.int .u64 E.index) := cell_of_row W _ 1 _ 24 (0, 0) Y9
    have y2 : W.cell? ⟨w8.heap.size, 2, none⟩ = some (.int .i64 E.kind) := cell_of_row W _ 2 _ 24 (0, 0) Y9
    have y3 : W.cell? ⟨w8.heap.size, 3, none⟩ = some (.int .u64 E.client) := cell_of_row W _ 3 _ 24 (0, 0) Y9
    have y4 : W.cell? ⟨w8.heap.size, 4, none⟩ = some (.int .u64 E.seq) := cell_of_row W _ 4 _ 24 (0, 0) Y9
    have y5 : W.cell? ⟨w8.heap.size, 5, none⟩ = some (.int .u64 E.block) := cell_of_row W _ 5 _ 24 (0, 0) Y9
    have y6 : W.cell? ⟨w8.heap.size, 6, none⟩ = some (.int .u64 E.many) := cell_of_row W _ 6 _ 24 (0, 0) Y9
    have y7 : W.cell? ⟨w8.heap.size, 7, none⟩ = some (.int .i64 E.node) := cell_of_row W _ 7 _ 24 (0, 0) Y9
    have y8 : W.cell? ⟨w8.heap.size, 8, none⟩ = some (.int .i64 E.level) := cell_of_row W _ 8 _ 24 (0, 0) Y9
    have y9 : W.cell? ⟨w8.heap.size, 9, none⟩ = some (.string E.data) := cell_of_row W _ 9 _ 24 (0, 0) Y9
    have y10 : W.cell? ⟨w8.heap.size, 10, none⟩ = some (.string E.old) := cell_of_row W _ 10 _ 24 (0, 0) Y9
    have hee : ∀ V, (binOp .eql 24 (ev E) (ev E)).run Tryz.prog V = .ok (.bool true) V := fun V => by rw [eql_entry, (sameB_iff E E).2 rfl]
    have RD := R9.drew
    have KO := Lib.hid (ok2 _ T f W.drew RD)
    have KL := Lib.hid (left2 _ T f W.drew RD)
    clear hW B9 R9 Z9 X9 Y9 HB5 HZ5 HR5 HR6 HB6 HZ6 HN6 HR7 HZ7 HB7 HB8 HX8 HR8 HZ8 KN KM KG KH RD
    cases f with
    | false =>
      go_region_held3 (fun W' => W'.cell? ⟨w7.heap.size, 0, none⟩ = some (.int .u64 E.term) ∧ W'.cell? ⟨w7.heap.size, 1, none⟩ = some (.int .u64 E.index) ∧ W'.cell? ⟨w7.heap.size, 2, none⟩ = some (.int .i64 E.kind) ∧ W'.cell? ⟨w7.heap.size, 3, none⟩ = some (.int .u64 E.client) ∧ W'.cell? ⟨w7.heap.size, 4, none⟩ = some (.int .u64 E.seq) ∧ W'.cell? ⟨w7.heap.size, 5, none⟩ = some (.int .u64 E.block) ∧ W'.cell? ⟨w7.heap.size, 6, none⟩ = some (.int .u64 E.many) ∧ W'.cell? ⟨w7.heap.size, 7, none⟩ = some (.int .i64 E.node) ∧ W'.cell? ⟨w7.heap.size, 8, none⟩ = some (.int .i64 E.level) ∧ W'.cell? ⟨w7.heap.size, 9, none⟩ = some (.string E.data) ∧ W'.cell? ⟨w7.heap.size, 10, none⟩ = some (.string E.old) ∧ W'.cell? ⟨w8.heap.size, 0, none⟩ = some (.int .u64 E.term) ∧ W'.cell? ⟨w8.heap.size, 1, none⟩ = some (.int .u64 E.index) ∧ W'.cell? ⟨w8.heap.size, 2, none⟩ = some (.int .i64 E.kind) ∧ W'.cell? ⟨w8.heap.size, 3, none⟩ = some (.int .u64 E.client) ∧ W'.cell? ⟨w8.heap.size, 4, none⟩ = some (.int .u64 E.seq) ∧ W'.cell? ⟨w8.heap.size, 5, none⟩ = some (.int .u64 E.block) ∧ W'.cell? ⟨w8.heap.size, 6, none⟩ = some (.int .u64 E.many) ∧ W'.cell? ⟨w8.heap.size, 7, none⟩ = some (.int .i64 E.node) ∧ W'.cell? ⟨w8.heap.size, 8, none⟩ = some (.int .i64 E.level) ∧ W'.cell? ⟨w8.heap.size, 9, none⟩ = some (.string E.data) ∧ W'.cell? ⟨w8.heap.size, 10, none⟩ = some (.string E.old) ∧ W'.cell? ⟨w5.heap.size, 0, none⟩ = some (.string T) ∧ W'.cell? ⟨w5.heap.size, 1, none⟩ = some (.bool false))
        (first | exact ⟨x0, x1, x2, x3, x4, x5, x6, x7, x8, x9, x10, y0, y1, y2, y3, y4, y5, y6, y7, y8, y9, y10, z0, z1⟩ | (refine ⟨?_, ?_, ?_, ?_, ?_, ?_, ?_, ?_, ?_, ?_, ?_, ?_, ?_, ?_, ?_, ?_, ?_, ?_, ?_, ?_, ?_, ?_, ?_, ?_⟩ <;> assumption))
        (first
          | (go_at_call 18; (with_reducible refine KO.out.mono ?_); rintro r w9 ⟨rfl, rfl⟩)
          | (go_at_call 19; (with_reducible refine KL.out.mono ?_); rintro r w9 ⟨rfl, rfl⟩))
      all_goals
        go_wp2
        go_ret
        exact ⟨rfl, HEND.out.drew⟩
    | true =>
      go_region_held3 (fun W' => W'.cell? ⟨w7.heap.size, 0, none⟩ = some (.int .u64 E.term) ∧ W'.cell? ⟨w7.heap.size, 1, none⟩ = some (.int .u64 E.index) ∧ W'.cell? ⟨w7.heap.size, 2, none⟩ = some (.int .i64 E.kind) ∧ W'.cell? ⟨w7.heap.size, 3, none⟩ = some (.int .u64 E.client) ∧ W'.cell? ⟨w7.heap.size, 4, none⟩ = some (.int .u64 E.seq) ∧ W'.cell? ⟨w7.heap.size, 5, none⟩ = some (.int .u64 E.block) ∧ W'.cell? ⟨w7.heap.size, 6, none⟩ = some (.int .u64 E.many) ∧ W'.cell? ⟨w7.heap.size, 7, none⟩ = some (.int .i64 E.node) ∧ W'.cell? ⟨w7.heap.size, 8, none⟩ = some (.int .i64 E.level) ∧ W'.cell? ⟨w7.heap.size, 9, none⟩ = some (.string E.data) ∧ W'.cell? ⟨w7.heap.size, 10, none⟩ = some (.string E.old) ∧ W'.cell? ⟨w8.heap.size, 0, none⟩ = some (.int .u64 E.term) ∧ W'.cell? ⟨w8.heap.size, 1, none⟩ = some (.int .u64 E.index) ∧ W'.cell? ⟨w8.heap.size, 2, none⟩ = some (.int .i64 E.kind) ∧ W'.cell? ⟨w8.heap.size, 3, none⟩ = some (.int .u64 E.client) ∧ W'.cell? ⟨w8.heap.size, 4, none⟩ = some (.int .u64 E.seq) ∧ W'.cell? ⟨w8.heap.size, 5, none⟩ = some (.int .u64 E.block) ∧ W'.cell? ⟨w8.heap.size, 6, none⟩ = some (.int .u64 E.many) ∧ W'.cell? ⟨w8.heap.size, 7, none⟩ = some (.int .i64 E.node) ∧ W'.cell? ⟨w8.heap.size, 8, none⟩ = some (.int .i64 E.level) ∧ W'.cell? ⟨w8.heap.size, 9, none⟩ = some (.string E.data) ∧ W'.cell? ⟨w8.heap.size, 10, none⟩ = some (.string E.old) ∧ W'.cell? ⟨w5.heap.size, 0, none⟩ = some (.string T) ∧ W'.cell? ⟨w5.heap.size, 1, none⟩ = some (.bool true))
        (first | exact ⟨x0, x1, x2, x3, x4, x5, x6, x7, x8, x9, x10, y0, y1, y2, y3, y4, y5, y6, y7, y8, y9, y10, z0, z1⟩ | (refine ⟨?_, ?_, ?_, ?_, ?_, ?_, ?_, ?_, ?_, ?_, ?_, ?_, ?_, ?_, ?_, ?_, ?_, ?_, ?_, ?_, ?_, ?_, ?_, ?_⟩ <;> assumption))
        (first
          | (go_at_call 18; (with_reducible refine KO.out.mono ?_); rintro r w9 ⟨rfl, rfl⟩)
          | (go_at_call 19; (with_reducible refine KL.out.mono ?_); rintro r w9 ⟨rfl, rfl⟩))
      all_goals
        go_wp2
        go_ret
        exact ⟨rfl, HEND.out.drew⟩
end Go.Proofs.YtmalcldpihpfpaaGreat
