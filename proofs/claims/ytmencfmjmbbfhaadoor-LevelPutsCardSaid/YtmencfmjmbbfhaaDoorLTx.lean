/-
  A config's text.
  Conditions: the config is right.
-/
import Derived.Test.YtmencfmjmbbfhaaDoorLS1
import Derived.Test.YtmencfmjmbbfhaaDoorLCm
import Derived.Test.YtmencfmjmbbfhaaDoorShelfW
namespace Go.Proofs.YtmencfmjmbbfhaaDoor
open Go.RowKit
set_option linter.unusedVariables false
set_option linter.unusedSimpArgs false
theorem strCells_app (a b : ByteArray) : Lib.strCells a ++ Lib.strCells b = Lib.strCells (a ++ b) := by
  unfold Lib.strCells
  rw [← List.map_append]
  congr 1
def Sb (B b : Nat) (s : ByteArray) (w : World) : Prop := Lib.IsBuilder 67 5 B b (Lib.strCells s) w
theorem wstr_any (B b : Nat) (x s : ByteArray) (w : World) (h : Sb B b x w) (hlen : x.size + s.size ≤ 140737488355328) (hBw : B ≤ w.heap.size) :
    Calls Tryd.prog 28 #[.pointer (some ⟨b, 0, none⟩), .string s] w fun e w' => e = .returned (.tuple #[.int .i64 s.size, .nilIface]) ∧ Sb B b (x ++ s) w' ∧ Below B w w' := by
  refine (Tryd.Builder_WriteString B b _ s w h (by rw [Lib.strCells_length]; exact hlen) hBw).mono ?_
  rintro e w' ⟨rfl, h1, h2⟩
  refine ⟨rfl, .inr ?_, h2⟩
  rw [← strCells_app]
  exact h1
theorem bstr_any (B b : Nat) (x : ByteArray) (w : World) (h : Sb B b x w) (hBw : B ≤ w.heap.size) :
    Calls Tryd.prog 30 #[.pointer (some ⟨b, 0, none⟩)] w fun e w' => e = .returned (.string x) ∧ Below B w w' := by
  refine (Tryd.Builder_String_any B b x.data.toList w (by rw [← Lib.strCells_eq]; exact h) hBw).mono ?_
  rintro e w' ⟨rfl, h1⟩
  exact ⟨rfl, h1⟩
def dd (n : Int) : ByteArray := ⟨(Lib.decDigits n.toNat).toArray⟩
theorem dd_size (n : Int) (h : n.toNat < 100) : (dd n).size ≤ 2 := by
  show (Lib.decDigits n.toNat).length ≤ 2
  by_cases h1 : n.toNat < 10
  · rw [Lib.decDigits_one h1]; simp
  · rw [Lib.decDigits_two h1 h]; simp
theorem itoa_any (n : Int) (h0 : 0 ≤ n) (h1 : n < 100) (w : World) : Calls Tryd.prog 29 #[.int .i64 n] w fun e w' => e = .returned (.string (dd n)) ∧ w' = w := by
  obtain ⟨k, rfl⟩ := Int.eq_ofNat_of_zero_le h0
  refine (Tryd.strconv_Itoa_small k (by omega) w).mono ?_
  rintro e w' ⟨rfl, rfl⟩
  exact ⟨rfl, rfl⟩
def tline (x y : Int) : ByteArray := dd x ++ ⟨#[58]⟩ ++ dd y ++ ⟨#[32]⟩
def tx (m h : List Int) : Nat → ByteArray
  | 0 => ⟨#[]⟩
  | k + 1 => tx m h k ++ tline (m.getD k 0) (h.getD k 0)
def lvlB : ByteArray := ⟨#[108, 101, 118, 101, 108, 32]⟩
def finB : ByteArray := ⟨#[32, 102, 105, 110, 97, 108]⟩
def textC (c : Cf) : ByteArray := (if c.f then tx c.m c.h c.m.length ++ (lvlB ++ dd c.l) ++ finB else tx c.m c.h c.m.length ++ (lvlB ++ dd c.l))
theorem ba_size (a b : ByteArray) : (a ++ b).size = a.size + b.size := ByteArray.size_append
theorem tline_size (x y : Int) (hx : x.toNat < 100) (hy : y.toNat < 100) : (tline x y).size ≤ 6 := by
  unfold tline
  rw [ba_size, ba_size, ba_size]
  have h1 := dd_size x hx
  have h2 := dd_size y hy
  have h3 : (⟨#[58]⟩ : ByteArray).size = 1 := rfl
  have h4 : (⟨#[32]⟩ : ByteArray).size = 1 := rfl
  omega
/-- Text's boxes. -/
structure Tw (bm cm bh ch : Nat) (c : Cf) (w : World) (s : ByteArray) (W : World) : Prop where
  a : W.heap[w.heap.size]? = some (.cells (cvc bm cm bh ch c) 25 (0, 0))
  b : Sb (w.heap.size + 1) (w.heap.size + 1) s W
  m : Rw W bm cm c.m
  h : Rw W bh ch c.h
  be : Below w.heap.size w W
  lm : bm < w.heap.size
  lh : bh < w.heap.size
  sz : w.heap.size + 1 ≤ W.heap.size
section
variable {bm cm bh ch : Nat} {c : Cf} {w : World}
theorem Tw.step {s s' : ByteArray} {W W' : World} (h : Tw bm cm bh ch c w s W) (hb : Sb (w.heap.size + 1) (w.heap.size + 1) s' W') (hB : Below (w.heap.size + 1) W W') : Tw bm cm bh ch c w s' W' :=
  have h1 := h.lm
  have h2 := h.lh
  ⟨(hB.block _ (by omega)).trans h.a, hb, h.m.below hB (by omega), h.h.below hB (by omega), h.be.trans (hB.mono (by omega)), h1, h2, Nat.le_trans h.sz hB.size⟩
theorem Tw.ca {s : ByteArray} {W : World} (h : Tw bm cm bh ch c w s W) (i : Nat) : W.cell? ⟨w.heap.size, i, none⟩ = (cvc bm cm bh ch c)[i]? := cell_of_row W _ i _ 25 (0, 0) h.a
theorem Tw.drew {s : ByteArray} {W : World} (h : Tw bm cm bh ch c w s W) : Tw bm cm bh ch c w s W.drew := ⟨h.a, h.b, h.m.at rfl, h.h.at rfl, h.be.drew, h.lm, h.lh, h.sz⟩
theorem Tw.write {s : ByteArray} {W : World} (h : Tw bm cm bh ch c w s W) (x : ByteArray) (hs : s.size ≤ 1048576) (hx : x.size ≤ 1048576) :
    Calls Tryd.prog 28 #[.pointer (some ⟨w.heap.size + 1, 0, none⟩), .string x] W fun e W' => e = .returned (.tuple #[.int .i64 x.size, .nilIface]) ∧ Tw bm cm bh ch c w (s ++ x) W' := by
  refine (wstr_any _ _ s x W h.b (by omega) h.sz).mono ?_
  rintro e W' ⟨rfl, h1, h2⟩
  exact ⟨rfl, h.step h1 h2⟩
theorem tw_new (hm : Rw w bm cm c.m) (hh : Rw w bh ch c.h) : Tw bm cm bh ch c w ⟨#[]⟩ ((w.alloc (.cells (cvc bm cm bh ch c) 25)).alloc (.cells #[.pointer none, .slice none 0 0] 67)) := by
  have b1 := (Below.refl w.heap.size w).alloc (Nat.le_refl _) (.cells (cvc bm cm bh ch c) 25)
  have b2 := b1.alloc (by simp) (.cells #[.pointer none, .slice none 0 0] 67)
  refine ⟨(Below.heap_alloc _ _ _ (by simp)).trans (heap_alloc_new w _), ?_, hm.below b2 hm.lt, hh.below b2 hh.lt, b2, hm.lt, hh.lt, by simp⟩
  have h := Lib.fresh_isBuilder 67 5 (w.alloc (.cells (cvc bm cm bh ch c) 25))
  rw [World.size_alloc] at h
  exact h
set_option maxHeartbeats 4000000 in
set_option maxRecDepth 100000 in
theorem text_any (hm : Rw w bm cm c.m) (hh : Rw w bh ch c.h) (hr : RightC c) :
    Calls Tryd.prog 13 #[cvl bm cm bh ch c] w fun r w' => r = .returned (.string (textC c)) ∧ Below w.heap.size w w' := by
  have T0 := tw_new hm hh
  obtain ⟨W0, hW0⟩ : ∃ W0, W0 = ((w.alloc (.cells (cvc bm cm bh ch c) 25)).alloc (.cells #[.pointer none, .slice none 0 0] 67)) := ⟨_, rfl⟩
  rw [← hW0] at T0
  have a0 : W0.cell? ⟨w.heap.size, 0, none⟩ = some (.slice (some ⟨bm, 0, none⟩) c.m.length cm) := T0.ca 0
  have a1 : W0.cell? ⟨w.heap.size, 1, none⟩ = some (.slice (some ⟨bh, 0, none⟩) c.h.length ch) := T0.ca 1
  have HR := Lib.hid hr
  have HT := Lib.hid T0
  have HW := Lib.hid hW0
  have hmin : min (c.m.length : Int) (c.h.length : Int) = (c.m.length : Int) := by rw [hr.hn]; exact Int.min_self _
  clear T0 hW0 hm hh hr
  go_enter Tryd.func13, Tryd.ntmps13
  go_upto_region 2 with fail
  refine wp_at (w := W0) HW.out.symm ?_
  obtain ⟨nn, hnn⟩ : ∃ nn, nn = c.m.length := ⟨_, rfl⟩
  have hhn : c.h.length = nn := by rw [hnn]; exact HR.out.hn
  have hn7 : nn ≤ 7 := by rw [hnn]; exact HR.out.len
  rw [← hnn] at a0 hmin
  rw [hhn] at a1 hmin
  have HN := Lib.hid hnn
  have HHN := Lib.hid hhn
  clear hnn hhn
  go_wp2_with fail
  go_loopw [4, 12] (fun _ i wr => ∃ k : Nat, i = .int .i64 k ∧ k ≤ nn ∧ Hid ((tx c.m c.h k).size ≤ 6 * k) ∧ Hid (Tw bm cm bh ch c w (tx c.m c.h k) wr)) (fun _ i _ => nn - (Go.RowKit.intOf i).toNat)
  case atStart => exact ⟨0, rfl, Nat.zero_le _, by show (tx c.m c.h 0).size ≤ 0; exact Nat.le_refl _, HT⟩
  case round =>
    obtain ⟨k, rfl, hk1, hS, hP⟩ := hrel
    clear HT a0 a1
    by_cases hlt : k < nn
    · have t1 : decide ((k : Int) < (nn : Int)) = true := decide_eq_true (by omega)
      have i0 : (0 : Int) ≤ (k : Int) := by omega
      have i1 : (k : Int) < (nn : Int) := by omega
      have hkm : k < c.m.length := by have := HN.out; omega
      have hkh : k < c.h.length := by have := HHN.out; omega
      obtain ⟨x, hx⟩ : ∃ x, x = c.m.getD k 0 := ⟨_, rfl⟩
      obtain ⟨y, hy⟩ : ∃ y, y = c.h.getD k 0 := ⟨_, rfl⟩
      have hmx : c.m[k]? = some x := by rw [hx, List.getD_eq_getElem?_getD, List.getElem?_eq_getElem hkm]; rfl
      have hhy : c.h[k]? = some y := by rw [hy, List.getD_eq_getElem?_getD, List.getElem?_eq_getElem hkh]; rfl
      have bx := rise_mem HR.out.r x (List.mem_of_getElem? hmx)
      have by_ := HR.out.ha y (List.mem_of_getElem? hhy)
      have hl1 := HR.out.l1
      have K1 := Lib.hid (fun W => itoa_any x (by omega) (by omega) W)
      have K2 := Lib.hid (fun W => itoa_any y (by omega) (by omega) W)
      have hsz := tline_size x y (by omega) (by omega)
      have hstep : tx c.m c.h (k + 1) = tx c.m c.h k ++ tline x y := by rw [tx, ← hx, ← hy]
      have HX : Hid (tx c.m c.h (k + 1) = tx c.m c.h k ++ (dd x ++ ⟨#[58]⟩ ++ dd y ++ ⟨#[32]⟩)) := hstep
      have K3 : Hid (∀ W, Tw bm cm bh ch c w (tx c.m c.h k) W → Calls Tryd.prog 28 #[.pointer (some ⟨w.heap.size + 1, 0, none⟩), .string (dd x ++ ⟨#[58]⟩ ++ dd y ++ ⟨#[32]⟩)] W fun e W' => e = .returned (.tuple #[.int .i64 ((dd x ++ ⟨#[58]⟩ ++ dd y ++ ⟨#[32]⟩ : ByteArray).size : Nat), .nilIface]) ∧ Tw bm cm bh ch c w (tx c.m c.h (k + 1)) W') := Lib.hid fun W h => by
        rw [hstep]
        exact h.write (tline x y) (by have := hS.out; omega) (by omega)
      have HS1 : Hid ((tx c.m c.h (k + 1)).size ≤ 6 * (k + 1)) := by
        show _ ≤ _
        rw [hstep, ba_size]
        have := hS.out
        omega
      have G : Hid (∀ s W, Tw bm cm bh ch c w s W → W.cell? ⟨w.heap.size, 0, none⟩ = some (.slice (some ⟨bm, 0, none⟩) nn cm) ∧ W.cell? ⟨w.heap.size, 1, none⟩ = some (.slice (some ⟨bh, 0, none⟩) nn ch) ∧ W.cell? ⟨bm, k, none⟩ = some (.int .i64 x) ∧ W.cell? ⟨bh, k, none⟩ = some (.int .i64 y)) := Lib.hid fun s W h => ⟨by rw [HN.out]; exact h.ca 0, by rw [← HHN.out]; exact h.ca 1, h.m.cell k x hmx, h.h.cell k y hhy⟩
      obtain ⟨tk, htk⟩ : ∃ tk, tk = tx c.m c.h k := ⟨_, rfl⟩
      obtain ⟨tk1, htk1⟩ : ∃ tk1, tk1 = tx c.m c.h (k + 1) := ⟨_, rfl⟩
      rw [← htk, ← htk1] at K3
      rw [← htk] at hP
      rw [← htk1] at HS1
      have HTK := Lib.hid htk1
      have PD := hP.out.drew
      obtain ⟨g0, g1, g2, g3⟩ := G.out _ _ hP.out
      have sx := dd_size x (by omega)
      have sy := dd_size y (by omega)
      have s1 : ¬ (9223372036854775807 < (dd x).size + 1) := by omega
      have s2 : ¬ (9223372036854775807 < (dd x).size + 1 + (dd y).size) := by omega
      have s3 : ¬ (9223372036854775807 < (dd x).size + 1 + (dd y).size + 1) := by omega
      clear hx hy hmx hhy bx by_ hl1 hsz hstep HX hkm hkh hS htk htk1 hP
      go_upto_region 5 with fail
      go_region_held3 (fun W => W.cell? ⟨w.heap.size, 0, none⟩ = some (.slice (some ⟨bm, 0, none⟩) nn cm) ∧ W.cell? ⟨w.heap.size, 1, none⟩ = some (.slice (some ⟨bh, 0, none⟩) nn ch) ∧ W.cell? ⟨bm, k, none⟩ = some (.int .i64 x) ∧ W.cell? ⟨bh, k, none⟩ = some (.int .i64 y)) (first | exact ⟨g0, g1, g2, g3⟩ | exact (G.out _ _ (by assumption))) (first
        | (go_at_call 29; (with_reducible refine (K1.out _).mono ?_); rintro r w1 ⟨rfl, rfl⟩)
        | (go_at_call 29; (with_reducible refine (K2.out _).mono ?_); rintro r w1 ⟨rfl, rfl⟩)
        | (go_at_call 28; (with_reducible refine (K3.out _ PD).mono ?_); rintro r w1 ⟨rfl, P1⟩))
      all_goals
        go_wp2
        go_roundw
        case rel => exact ⟨k + 1, by go_num, by omega, by rw [← HTK.out]; exact HS1, by rw [← HTK.out]; exact P1⟩
        case measure => simp [Go.RowKit.intOf]; omega
    · have hkt : k = nn := by omega
      subst hkt
      have t1 : decide ((k : Int) < (k : Int)) = false := decide_eq_false (by omega)
      have b1 := HR.out.l1
      have b2 := HR.out.l2
      have KL := Lib.hid (fun W => itoa_any c.l (by omega) (by omega) W)
      have sl := dd_size c.l (by omega)
      have s1 : ¬ (9223372036854775807 < 6 + (dd c.l).size) := by omega
      have g2 : wr.cell? ⟨w.heap.size, 2, none⟩ = some (.int .i64 c.l) := hP.out.ca 2
      have KW : Hid (Calls Tryd.prog 28 #[.pointer (some ⟨w.heap.size + 1, 0, none⟩), .string (⟨#[108, 101, 118, 101, 108, 32]⟩ ++ dd c.l)] wr fun e W' => e = .returned (.tuple #[.int .i64 ((⟨#[108, 101, 118, 101, 108, 32]⟩ ++ dd c.l : ByteArray).size : Nat), .nilIface]) ∧ Hid (Tw bm cm bh ch c w (tx c.m c.h k ++ (lvlB ++ dd c.l)) W')) := Lib.hid (hP.out.write (lvlB ++ dd c.l) (by have := hS.out; omega) (by rw [ba_size]; have : lvlB.size = 6 := rfl; omega))
      have KF : Hid (∀ W, Tw bm cm bh ch c w (tx c.m c.h k ++ (lvlB ++ dd c.l)) W → Calls Tryd.prog 28 #[.pointer (some ⟨w.heap.size + 1, 0, none⟩), .string ⟨#[32, 102, 105, 110, 97, 108]⟩] W fun e W' => e = .returned (.tuple #[.int .i64 ((⟨#[32, 102, 105, 110, 97, 108]⟩ : ByteArray).size : Nat), .nilIface]) ∧ Tw bm cm bh ch c w (tx c.m c.h k ++ (lvlB ++ dd c.l) ++ finB) W') := Lib.hid fun W h => h.write finB (by rw [ba_size, ba_size]; have : lvlB.size = 6 := rfl; have := hS.out; omega) (by decide)
      have KS : Hid (∀ s W, Tw bm cm bh ch c w s W → Calls Tryd.prog 30 #[.pointer (some ⟨w.heap.size + 1, 0, none⟩)] W fun e W' => e = .returned (.string s) ∧ Below w.heap.size w W') := Lib.hid fun s W h => (bstr_any _ _ s W h.b h.sz).mono fun e W' ⟨h1, h2⟩ => ⟨h1, h.be.trans (h2.mono (by omega))⟩
      have HTC : Hid (textC c = if c.f then tx c.m c.h k ++ (lvlB ++ dd c.l) ++ finB else tx c.m c.h k ++ (lvlB ++ dd c.l)) := by show _ = _; unfold textC; rw [← HN.out]
      obtain ⟨tk, htk⟩ : ∃ tk, tk = tx c.m c.h k ++ (lvlB ++ dd c.l) := ⟨_, rfl⟩
      rw [← htk] at KW KF HTC
      clear b1 b2 sl hP hS HN HHN htk
      obtain ⟨f, hf⟩ : ∃ f, f = c.f := ⟨_, rfl⟩
      have G3 : Hid (∀ s W, Tw bm cm bh ch c w s W → W.cell? ⟨w.heap.size, 3, none⟩ = some (.bool f)) := Lib.hid fun s W h => by rw [hf]; exact h.ca 3
      rw [← hf] at HTC
      clear hf
      cases f
      · have HE : Hid (textC c = tk) := by show _ = _; have h := HTC.out; simpa using h
        clear HTC
        go_wp2_with (first
          | (go_at_call 29; (with_reducible refine (KL.out _).mono ?_); rintro r w1 ⟨rfl, rfl⟩)
          | (go_at_call 28; refine KW.out.mono ?_; clear KW; rintro r w1 ⟨rfl, P1⟩; have g3 := G3.out _ _ P1.out)
          | (go_at_call 30; refine (KS.out _ _ P1.out).mono ?_; rintro r w3 ⟨rfl, B3⟩))
        go_ret
        exact ⟨by rw [HE.out]; rfl, B3⟩
      · have HE : Hid (textC c = tk ++ finB) := by show _ = _; have h := HTC.out; simpa using h
        clear HTC
        go_wp2_with (first
          | (go_at_call 29; (with_reducible refine (KL.out _).mono ?_); rintro r w1 ⟨rfl, rfl⟩)
          | (go_at_call 28; refine KW.out.mono ?_; clear KW; rintro r w1 ⟨rfl, P1⟩; have g3 := G3.out _ _ P1.out)
          | (go_at_call 28; refine (KF.out _ P1.out).mono ?_; rintro r w2 ⟨rfl, P2⟩; have H2 := Lib.hid P2; clear P2)
          | (go_at_call 30; refine (KS.out _ _ H2.out).mono ?_; rintro r w3 ⟨rfl, B3⟩))
        go_ret
        exact ⟨by rw [HE.out]; rfl, B3⟩
end
end Go.Proofs.YtmencfmjmbbfhaaDoor
