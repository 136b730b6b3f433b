/-
  A config as bytes: Put.
  Conditions: named in each theorem.
-/
import Derived.Test.YtmencfmjmbbfhaaDoorLTx
import Derived.Test.YtmencfmjmbbfhaaDoorLRd
import Derived.Test.YtmencfmjmbbfhaaDoorVPut
import Derived.Deep.CutRange
namespace Go.Proofs.YtmencfmjmbbfhaaDoor
open Go.RowKit
set_option linter.unusedVariables false
set_option linter.unusedSimpArgs false
theorem str_app (a b : List Nat) : Vi.str a ++ Vi.str b = Vi.str (a ++ b) := by
  unfold Vi.str strOfNums
  apply ByteArray.ext
  simp
def pl (c : Cf) : Nat → List Nat
  | 0 => [c.m.length]
  | k + 1 => pl c k ++ [(c.m.getD k 0).toNat, (c.h.getD k 0).toNat]
def putL (c : Cf) : List Nat := pl c c.m.length ++ [c.l.toNat, if c.f then 1 else 0]
def putC (c : Cf) : ByteArray := Vi.str (putL c)
theorem pl_length (c : Cf) : ∀ k, (pl c k).length = 2 * k + 1
  | 0 => rfl
  | k + 1 => by rw [pl, List.length_append, pl_length c k]; simp; omega
theorem putL_length (c : Cf) : (putL c).length = 2 * c.m.length + 3 := by unfold putL; rw [List.length_append, pl_length]; simp
theorem isBuilder_below {B b : Nat} {bs : List Value} {w w' : World} (h : Lib.IsBuilder 67 5 B b bs w) (hb : Below w.heap.size w w') : Lib.IsBuilder 67 5 B b bs w' := by
  have hg : w.grownBy w' none := ⟨hb.os, hb.tape, hb.output, hb.size, fun k hk _ => hb.block k hk⟩
  have key : ∀ p, Lib.BuilderAt 67 5 B b p bs w → Lib.BuilderAt 67 5 B b p bs w' := fun p h => by
    have hlt := h.lt
    obtain ⟨hB, v, hbk, hown, hne⟩ := h
    refine ⟨hB, v, (hb.block b hlt).trans hbk, hown.kept hg ?_, hne⟩
    cases e : v.ownBlock with
    | none => exact .inl rfl
    | some k => exact .inr (by simp)
  rcases h with h | h
  · exact .inl (key _ h)
  · exact .inr (key _ h)
/-- Put's boxes. -/
structure Tv (bm cm bh ch : Nat) (c : Cf) (w : World) (bb : Nat) (s : ByteArray) (W : World) : Prop where
  a : W.heap[w.heap.size]? = some (.cells (cvc bm cm bh ch c) 25 (0, 0))
  b : Sb bb bb s W
  m : Rw W bm cm c.m
  h : Rw W bh ch c.h
  be : Below w.heap.size w W
  lm : bm < w.heap.size
  lh : bh < w.heap.size
  lb : w.heap.size < bb
  sz : bb ≤ W.heap.size
section
variable {bm cm bh ch bb : Nat} {c : Cf} {w : World}
theorem Tv.step {s s' : ByteArray} {W W' : World} (h : Tv bm cm bh ch c w bb s W) (hb : Sb bb bb s' W') (hB : Below bb W W') : Tv bm cm bh ch c w bb s' W' :=
  have h1 := h.lm
  have h2 := h.lh
  have h3 := h.lb
  ⟨(hB.block _ (by omega)).trans h.a, hb, h.m.below hB (by omega), h.h.below hB (by omega), h.be.trans (hB.mono (by omega)), h1, h2, h3, Nat.le_trans h.sz hB.size⟩
theorem Tv.ca {s : ByteArray} {W : World} (h : Tv bm cm bh ch c w bb s W) (i : Nat) : W.cell? ⟨w.heap.size, i, none⟩ = (cvc bm cm bh ch c)[i]? := cell_of_row W _ i _ 25 (0, 0) h.a
theorem Tv.write {s : ByteArray} {W : World} (h : Tv bm cm bh ch c w bb s W) (x : ByteArray) (hs : s.size ≤ 1048576) (hx : x.size ≤ 1048576) :
    Calls Tryd.prog 28 #[.pointer (some ⟨bb, 0, none⟩), .string x] W fun e W' => e = .returned (.tuple #[.int .i64 x.size, .nilIface]) ∧ Tv bm cm bh ch c w bb (s ++ x) W' := by
  refine (wstr_any _ _ s x W h.b (by omega) h.sz).mono ?_
  rintro e W' ⟨rfl, h1, h2⟩
  exact ⟨rfl, h.step h1 h2⟩
theorem tv_new {W0 W1 : World} (hm : Rw w bm cm c.m) (hh : Rw w bh ch c.h) (hb : Below w.heap.size w W0) (hx : W0.heap[w.heap.size]? = some (.cells (cvc bm cm bh ch c) 25 (0, 0))) (h1 : Below W0.heap.size W0 W1) : Tv bm cm bh ch c w W1.heap.size ⟨#[]⟩ (W1.alloc (.cells #[.pointer none, .slice none 0 0] 67)) := by
  have b2 : Below W1.heap.size W1 (W1.alloc (.cells #[.pointer none, .slice none 0 0] 67)) := (Below.refl _ W1).alloc (Nat.le_refl _) _
  have b01 := hb.trans (h1.mono hb.size)
  have b02 := b01.trans (b2.mono b01.size)
  have hlt := (Array.getElem?_eq_some_iff.1 hx).1
  refine ⟨(b2.block _ (Nat.lt_of_lt_of_le hlt h1.size)).trans ((h1.block _ hlt).trans hx), Lib.fresh_isBuilder 67 5 W1, hm.below b02 hm.lt, hh.below b02 hh.lt, b02, hm.lt, hh.lt, Nat.lt_of_lt_of_le hlt h1.size, by simp⟩
theorem put1_any (s : ByteArray) (n : Int) (W : World) (h : Tv bm cm bh ch c w bb s W) (hs : s.size ≤ 1000) (h0 : 0 ≤ n) (h1 : n < 128) :
    Calls Tryd.prog 34 #[.int .i64 n, .pointer (some ⟨bb, 0, none⟩)] W fun e W' => e = .returned (.tuple #[]) ∧ Tv bm cm bh ch c w bb (s ++ Vi.str [n.toNat]) W' := by
  obtain ⟨k, rfl⟩ := Int.eq_ofNat_of_zero_le h0
  have hk : k < 128 := by omega
  have e1 : Vi.putB k = Vi.str [k] := by unfold Vi.putB; rw [Vi.put_small k hk]
  have K1 := put_any k W (by omega)
  rw [e1] at K1
  have KA := Lib.hid (K1.mono fun r W' ⟨q1, q2⟩ => (⟨q1, h.step (isBuilder_below h.b q2) (q2.mono h.sz)⟩ : _ ∧ Tv bm cm bh ch c w bb s W'))
  have KB := Lib.hid (fun W (h : Tv bm cm bh ch c w bb s W) => h.write (Vi.str [k]) (by omega) (by rw [Vi.str_size]; simp))
  have e2 : IntKind.u64.wrap (k : Int) = (k : Int) := by rw [IntKind.wrap_u64]; omega
  clear K1 e1 h
  go_enter Tryd.func34, Tryd.ntmps34
  go_wp2_with (first
    | (go_at_call 35; refine KA.out.mono ?_; rintro r w1 ⟨rfl, h1⟩)
    | (go_at_call 28; refine (KB.out _ h1).mono ?_; rintro r w2 ⟨rfl, h2⟩))
  exact bodyPost_end (v := .tuple #[]) (results_none Tryd.results34 _ _ _) rfl ⟨rfl, h2⟩
set_option maxHeartbeats 4000000 in
set_option maxRecDepth 100000 in
theorem lput_no (hm : Rw w bm cm c.m) (hh : Rw w bh ch c.h) (hn1 : c.m.length ≤ 1099511627776) (hn2 : c.h.length ≤ 1099511627776) (hr : rightC c = false) :
    Calls Tryd.prog 17 #[cvl bm cm bh ch c] w fun r w' => r = .returned (.tuple #[.string ⟨#[]⟩, .bool false]) ∧ Below w.heap.size w w' := by
  obtain ⟨W0, hW0, hb, hx⟩ := boxed w bm cm bh ch c
  have K := Lib.hid (lright_any bm cm bh ch c W0 (hm.below hb hm.lt) (hh.below hb hh.lt) hn1 hn2)
  rw [hr] at K
  have HB := Lib.hid hb
  have HW := Lib.hid hW0
  clear hm hh hb hW0 hr
  go_enter Tryd.func17, Tryd.ntmps17
  go_upto_region 1 with fail
  refine wp_at (w := W0) HW.out.symm ?_
  go_wp2_with (first
    | (go_at_call 16; refine K.out.mono ?_; rintro r w1 ⟨rfl, b1⟩)
    | (refine wpList_load_cf rfl _ rfl _ w.heap.size (cvc bm cm bh ch c) rfl rfl hx ?_))
  go_ret2
  exact ⟨rfl, HB.out.trans (b1.mono HB.out.size)⟩
set_option maxHeartbeats 4000000 in
set_option maxRecDepth 100000 in
theorem lput_nil (l : Int) (f : Bool) (w : World) :
    Calls Tryd.prog 17 #[.agg #[.slice none 0 0, .slice none 0 0, .int .i64 l, .bool f]] w fun r w' => r = .returned (.tuple #[.string ⟨#[]⟩, .bool false]) ∧ Below w.heap.size w w' := by
  obtain ⟨W0, hW0⟩ : ∃ W0, W0 = w.alloc (.cells #[.slice none 0 0, .slice none 0 0, .int .i64 l, .bool f] 25) := ⟨_, rfl⟩
  have hb : Below w.heap.size w W0 := by rw [hW0]; exact (Below.refl _ w).alloc (Nat.le_refl _) _
  have hx : W0.heap[w.heap.size]? = some (.cells #[.slice none 0 0, .slice none 0 0, .int .i64 l, .bool f] 25 (0, 0)) := by rw [hW0]; exact heap_alloc_new w _
  have K := Lib.hid (lright_nil l f W0)
  have HB := Lib.hid hb
  have HW := Lib.hid hW0
  clear hb hW0
  go_enter Tryd.func17, Tryd.ntmps17
  go_upto_region 1 with fail
  refine wp_at (w := W0) HW.out.symm ?_
  go_wp2_with (first
    | (go_at_call 16; refine K.out.mono ?_; rintro r w1 ⟨rfl, b1⟩)
    | (refine wpList_load_cf rfl _ rfl _ w.heap.size #[.slice none 0 0, .slice none 0 0, .int .i64 l, .bool f] rfl rfl hx ?_))
  go_ret2
  exact ⟨rfl, HB.out.trans (b1.mono HB.out.size)⟩
theorem pl_size (k : Nat) : (Vi.str (pl c k)).size = 2 * k + 1 := by rw [Vi.str_size, pl_length]
set_option maxHeartbeats 4000000 in
set_option maxRecDepth 100000 in
theorem lput_yes (hm : Rw w bm cm c.m) (hh : Rw w bh ch c.h) (hr : RightC c) :
    Calls Tryd.prog 17 #[cvl bm cm bh ch c] w fun r w' => r = .returned (.tuple #[.string (putC c), .bool true]) ∧ Below w.heap.size w w' := by
  obtain ⟨W0, hW0, hb, hx⟩ := boxed w bm cm bh ch c
  have hlen := hr.len
  have K := (lright_any bm cm bh ch c W0 (hm.below hb hm.lt) (hh.below hb hh.lt) (by omega) (by have := hr.hn; omega))
  rw [(rightC_iff c).2 hr] at K
  have KP : Hid (∀ (s : ByteArray) (n : Int) (bb : Nat) (W : World), Tv bm cm bh ch c w bb s W → s.size ≤ 1000 → 0 ≤ n → n < 128 → Calls Tryd.prog 34 #[.int .i64 n, .pointer (some ⟨bb, 0, none⟩)] W fun e W' => e = .returned (.tuple #[]) ∧ Tv bm cm bh ch c w bb (s ++ Vi.str [n.toNat]) W') := Lib.hid fun s n bb W h h1 h2 h3 => put1_any s n W h h1 h2 h3
  have T1 := fun W1 (h : Below W0.heap.size W0 W1) => tv_new hm hh hb hx h
  have HR := Lib.hid hr
  have HW := Lib.hid hW0
  have KR := Lib.hid K
  obtain ⟨nn, hnn⟩ : ∃ nn, nn = c.m.length := ⟨_, rfl⟩
  have HHN : Hid (c.h.length = nn) := by show _ = _; rw [hnn]; exact hr.hn
  have hn7 : nn ≤ 7 := by omega
  have HT1 := Lib.hid T1
  have HN := Lib.hid hnn
  clear hm hh hb hW0 K hr T1 hlen hnn
  go_enter Tryd.func17, Tryd.ntmps17
  go_upto_region 1 with fail
  refine wp_at (w := W0) HW.out.symm ?_
  go_upto_region 5 with (first
    | (go_at_call 16; refine KR.out.mono ?_; rintro r w1 ⟨rfl, b1⟩)
    | (refine wpList_load_cf rfl _ rfl _ w.heap.size (cvc bm cm bh ch c) rfl rfl hx ?_))
  have P0 := HT1.out _ b1
  obtain ⟨bb, hbb⟩ : ∃ bb, bb = w1.heap.size := ⟨_, rfl⟩
  obtain ⟨w2, hw2⟩ : ∃ w2, w2 = w1.alloc (.cells #[.pointer none, .slice none 0 0] 67) := ⟨_, rfl⟩
  rw [← hbb, ← hw2] at P0
  rw [← hbb]
  refine wp_at (w := w2) hw2.symm ?_
  clear hw2 hbb b1 KR HT1 hx
  have a0 : w2.cell? ⟨w.heap.size, 0, none⟩ = some (.slice (some ⟨bm, 0, none⟩) nn cm) := by rw [HN.out]; exact P0.ca 0
  have H0 := Lib.hid P0
  have K0 : Hid (Calls Tryd.prog 34 #[.int .i64 nn, .pointer (some ⟨bb, 0, none⟩)] w2 fun e W' => e = .returned (.tuple #[]) ∧ Hid (Tv bm cm bh ch c w bb (Vi.str (pl c 0)) W')) := by
    refine (KP.out _ nn bb w2 P0 (by decide) (by omega) (by omega)).mono ?_
    rintro e W' ⟨rfl, h⟩
    refine ⟨rfl, ?_⟩
    have e1 : (⟨#[]⟩ : ByteArray) ++ Vi.str [(nn : Int).toNat] = Vi.str (pl c 0) := by
      have := str_app [] [nn]
      rw [pl, ← HN.out]
      exact this
    rw [← e1]; exact h
  clear P0
  go_upto_region 7 with (go_at_call 34; refine K0.out.mono ?_; clear K0; rintro r w3 ⟨rfl, H3⟩; have a30 : w3.cell? ⟨w.heap.size, 0, none⟩ = some (.slice (some ⟨bm, 0, none⟩) nn cm) := (by rw [HN.out]; exact H3.out.ca 0))
  clear a0 H0
  go_loopw [6, 7, 20] (fun _ _ i wr => ∃ k : Nat, i = .int .i64 k ∧ k ≤ nn ∧ Hid (Tv bm cm bh ch c w bb (Vi.str (pl c k)) wr)) (fun _ _ i _ => nn - (Go.RowKit.intOf i).toNat)
  case atStart => exact ⟨0, rfl, Nat.zero_le _, H3⟩
  case round =>
    obtain ⟨k, rfl, hk1, hP⟩ := hrel
    clear H3 a30
    by_cases hlt : k < nn
    · have t1 : decide ((k : Int) < (nn : Int)) = true := decide_eq_true (by omega)
      have i0 : (0 : Int) ≤ (k : Int) := by omega
      have i1 : (k : Int) < (nn : Int) := by omega
      have hkm : k < c.m.length := by have := HN.out; omega
      have hkh : k < c.h.length := by have := HHN.out; omega
      obtain ⟨x, hx⟩ : ∃ x, x = c.m.getD k 0 := ⟨_, rfl⟩
      obtain ⟨y, hy⟩ : ∃ y, y = c.h.getD k 0 := ⟨_, rfl⟩
      have hmx : c.m[k]? = some x := by rw [hx, List.getD_eq_getElem?_getD, List.getElem?_eq_getElem hkm]; rfl
      have hhy : c.h[k]? = some y := by rw [hy, List.getD_eq_getElem?_getD, List.getElem?_eq_getElem hkh]; rfl
      have bx := rise_mem HR.out.r x (List.mem_of_getElem? hmx)
      have by_ := HR.out.ha y (List.mem_of_getElem? hhy)
      have hl1 := HR.out.l1
      have K1 : Hid (Calls Tryd.prog 34 #[.int .i64 x, .pointer (some ⟨bb, 0, none⟩)] wr fun e W' => e = .returned (.tuple #[]) ∧ Hid (Tv bm cm bh ch c w bb (Vi.str (pl c k) ++ Vi.str [x.toNat]) W')) := Lib.hid (KP.out _ x bb wr hP.out (by rw [pl_size]; omega) (by omega) (by omega))
      have K2 : Hid (∀ W, Tv bm cm bh ch c w bb (Vi.str (pl c k) ++ Vi.str [x.toNat]) W → Calls Tryd.prog 34 #[.int .i64 y, .pointer (some ⟨bb, 0, none⟩)] W fun e W' => e = .returned (.tuple #[]) ∧ Hid (Tv bm cm bh ch c w bb (Vi.str (pl c (k + 1))) W')) := Lib.hid fun W h => by
        refine (KP.out _ y bb W h (by rw [ba_size, pl_size, Vi.str_size]; simp; omega) (by omega) (by omega)).mono ?_
        rintro e W' ⟨rfl, h1⟩
        refine ⟨rfl, ?_⟩
        rw [str_app, str_app, List.append_assoc] at h1
        rw [pl, ← hx, ← hy]
        exact h1
      have G : Hid (∀ s W, Tv bm cm bh ch c w bb s W → W.cell? ⟨w.heap.size, 1, none⟩ = some (.slice (some ⟨bh, 0, none⟩) nn ch) ∧ W.cell? ⟨bh, k, none⟩ = some (.int .i64 y)) := Lib.hid fun s W h => ⟨by rw [← HHN.out]; exact h.ca 1, h.h.cell k y hhy⟩
      have g2 : wr.cell? ⟨bm, k, none⟩ = some (.int .i64 x) := hP.out.m.cell k x hmx
      clear hx hy hmx hhy bx by_ hl1 hkm hkh
      go_wp2_with (first
        | (go_at_call 34; refine K1.out.mono ?_; clear K1; rintro r w4 ⟨rfl, H4⟩; obtain ⟨g3, g4⟩ := G.out _ _ H4.out)
        | (go_at_call 34; refine (K2.out _ H4.out).mono ?_; clear K2; rintro r w5 ⟨rfl, H5⟩))
      try go_roundw
      case rel => exact ⟨k + 1, by go_num, by omega, H5⟩
      case measure => simp [Go.RowKit.intOf]; omega
    · have hkt : k = nn := by omega
      subst hkt
      have t1 : decide ((k : Int) < (k : Int)) = false := decide_eq_false (by omega)
      have hl1 := HR.out.l1
      have hl2 := HR.out.l2
      obtain ⟨f, hf⟩ : ∃ f, f = c.f := ⟨_, rfl⟩
      have g2 : wr.cell? ⟨w.heap.size, 2, none⟩ = some (.int .i64 c.l) := hP.out.ca 2
      have K1 : Hid (Calls Tryd.prog 34 #[.int .i64 c.l, .pointer (some ⟨bb, 0, none⟩)] wr fun e W' => e = .returned (.tuple #[]) ∧ Hid (Tv bm cm bh ch c w bb (Vi.str (pl c k ++ [c.l.toNat])) W')) := Lib.hid ((KP.out _ c.l bb wr hP.out (by rw [pl_size]; omega) (by omega) (by omega)).mono fun e W' ⟨h1, h2⟩ => ⟨h1, by rw [← str_app]; exact h2⟩)
      have K2 : Hid (∀ (z : Int) W, 0 ≤ z → z < 128 → Tv bm cm bh ch c w bb (Vi.str (pl c k ++ [c.l.toNat])) W → Calls Tryd.prog 34 #[.int .i64 z, .pointer (some ⟨bb, 0, none⟩)] W fun e W' => e = .returned (.tuple #[]) ∧ Hid (Tv bm cm bh ch c w bb (Vi.str (pl c k ++ [c.l.toNat, z.toNat])) W')) := Lib.hid fun z W h0 h1 h => (KP.out _ z bb W h (by rw [Vi.str_size, List.length_append, pl_length]; simp; omega) h0 h1).mono fun e W' ⟨q1, q2⟩ => ⟨q1, by rw [str_app, List.append_assoc] at q2; exact q2⟩
      have KS : Hid (∀ s W, Tv bm cm bh ch c w bb s W → Calls Tryd.prog 30 #[.pointer (some ⟨bb, 0, none⟩)] W fun e W' => e = .returned (.string s) ∧ Below w.heap.size w W') := Lib.hid fun s W h => (bstr_any _ _ s W h.b h.sz).mono fun e W' ⟨h1, h2⟩ => ⟨h1, h.be.trans (h2.mono (by have := h.lb; omega))⟩
      have G3 : Hid (∀ s W, Tv bm cm bh ch c w bb s W → W.cell? ⟨w.heap.size, 3, none⟩ = some (.bool f)) := Lib.hid fun s W h => by rw [hf]; exact h.ca 3
      have HE : Hid (putC c = Vi.str (pl c k ++ [c.l.toNat, if f then 1 else 0])) := by show _ = _; unfold putC putL; rw [← HN.out, hf]
      clear hf hl1 hl2 hP KP
      cases f
      · have HE2 : Hid (putC c = Vi.str (pl c k ++ [c.l.toNat, (0 : Int).toNat])) := HE
        clear HE
        go_wp2_with (first
          | (go_at_call 34; refine K1.out.mono ?_; clear K1; rintro r w4 ⟨rfl, H4⟩; have g3 := G3.out _ _ H4.out)
          | (go_at_call 34; refine (K2.out _ _ (by omega) (by omega) H4.out).mono ?_; clear K2; rintro r w5 ⟨rfl, H5⟩)
          | (go_at_call 30; refine (KS.out _ _ H5.out).mono ?_; rintro r w6 ⟨rfl, B6⟩))
        go_ret2
        exact ⟨by rw [HE2.out]; rfl, B6⟩
      · have HE2 : Hid (putC c = Vi.str (pl c k ++ [c.l.toNat, (1 : Int).toNat])) := HE
        clear HE
        go_wp2_with (first
          | (go_at_call 34; refine K1.out.mono ?_; clear K1; rintro r w4 ⟨rfl, H4⟩; have g3 := G3.out _ _ H4.out)
          | (go_at_call 34; refine (K2.out _ _ (by omega) (by omega) H4.out).mono ?_; clear K2; rintro r w5 ⟨rfl, H5⟩)
          | (go_at_call 30; refine (KS.out _ _ H5.out).mono ?_; rintro r w6 ⟨rfl, B6⟩))
        go_ret2
        exact ⟨by rw [HE2.out]; rfl, B6⟩
end
end Go.Proofs.YtmencfmjmbbfhaaDoor
