/-
  Read of a region.
  Conditions: named in each theorem.
-/
import Derived.Test.YtnobeoppffoomaaGreatG35
import Derived.Test.YtnobeoppffoomaaGreatG32
namespace Go.Proofs.YtnobeoppffoomaaGreat
open Go.RowKit
set_option linter.unusedVariables false
set_option linter.unusedSimpArgs false
open Dk
theorem rgc_cellsR {w : World} {b : Nat} {a m v : Int} (h : w.heap[b]? = some (.cells (rgc a m v) 40 (0, 0))) : w.cell? ⟨b, 0, none⟩ = some (.int .i64 a) ∧ w.cell? ⟨b, 1, none⟩ = some (.int .i64 m) ∧ w.cell? ⟨b, 2, none⟩ = some (.int .i64 v) :=
  ⟨cell_of_row _ _ 0 _ 40 (0, 0) h, cell_of_row _ _ 1 _ 40 (0, 0) h, cell_of_row _ _ 2 _ 40 (0, 0) h⟩
set_option maxHeartbeats 2000000 in
set_option maxRecDepth 100000 in
/-- One sector is read. -/
theorem rcl_any (g : Nat) (L : List Nat) (d : St) (b2 b3 B b at_ k : Nat) (m v : Int) (x : ByteArray) (w : World) (h : Dv w g L d) (h2 : w.heap[b2]? = some (.cells #[ptr g] 42 (0, 0))) (h3 : w.heap[b3]? = some (.cells (rgc at_ m v) 40 (0, 0)))
    (hs : Sb B b x w) (hB : B ≤ w.heap.size) (hx : x.size ≤ 1099511627776) (hk : k ≤ 1048576) (ha : at_ ≤ 1048576) :
    Calls Tryz.prog 75 #[.int .i64 k, ptr b2, ptr b3, ptr b] w fun e w' => e = .returned (.int .i64 (d.refuses ((at_ + k : Nat) : Int))) ∧ Sb B b (x ++ txt (d.readS ((at_ + k : Nat) : Int))) w' ∧ Below B w w' := by
  have c2 : w.cell? ⟨b2, 0, none⟩ = some (ptr g) := cell_of_row w b2 0 _ 42 (0, 0) h2
  have c3 : w.cell? ⟨b3, 0, none⟩ = some (.int .i64 at_) := cell_of_row w b3 0 _ 40 (0, 0) h3
  have KR := Lib.hid (read_any g L d ((at_ + k : Nat) : Int) w h)
  have i1 : ((at_ + k : Nat) : Int) = (at_ : Int) + (k : Int) := by omega
  have hrs : (txt (d.readS ((at_ + k : Nat) : Int))).size ≤ 64 := by
    rw [txt_size]
    unfold St.readS
    split
    · rw [h.1.now]; omega
    · exact Nat.zero_le _
  rw [i1] at KR hrs ⊢
  obtain ⟨Z, hZ⟩ : ∃ Z, Z = d.refuses ((at_ : Int) + (k : Int)) := ⟨_, rfl⟩
  obtain ⟨T, hT⟩ : ∃ T, T = txt (d.readS ((at_ : Int) + (k : Int))) := ⟨_, rfl⟩
  rw [← hZ, ← hT] at KR ⊢
  rw [← hT] at hrs
  have KW := Lib.hid (fun (W : World) (hW : Sb B b x W) (hb : B ≤ W.heap.size) => wstr_any B b x T W hW (by omega) hb)
  have HS := Lib.hid hs
  clear hZ hT i1 hs h h2 h3
  unfold ptr at *
  go_enter Tryz.func75, Tryz.ntmps75
  go_upto_region 2 with (go_at_call 32; (with_reducible refine KR.out.mono ?_); rintro q w1 ⟨rfl, b1⟩)
  have HS1 := Lib.hid (HS.out.below b1)
  have HB1 : Hid (Below B w w1) := (Below.refl B w).trans (b1.mono hB)
  clear b1
  go_wp2_with (go_at_call 37; (with_reducible refine (KW.out _ HS1.out (Nat.le_trans hB HB1.out.size)).mono ?_); rintro q w2 ⟨rfl, hs2, b2⟩)
  go_ret
  exact ⟨rfl, hs2, HB1.out.trans b2⟩
theorem ownsRow_low'R {w : World} {B B' : Nat} {e : TypeId} {size : Nat} {v : Value} {n : Nat} {xs : List Value} (hB : B' ≤ B) (h : w.ownsRow B e size v n xs) : w.ownsRow B' e size v n xs := by
  obtain ⟨hl, h⟩ := h
  refine ⟨hl, ?_⟩
  rcases h with h | ⟨g, cap, cur, hv, hb, r⟩
  · exact .inl h
  · exact .inr ⟨g, cap, cur, hv, Nat.le_trans hB hb, r⟩
/-- The bytes of a region. -/
def rdB (d : St) (at_ m : Nat) : ByteArray := txt (catS (fun i => d.now (at_ + i)) m)
theorem catS_len (F : Nat → Sec) (h : ∀ i, (F i).length = 64) : ∀ k, (catS F k).length = k * 64
  | 0 => rfl
  | k + 1 => by rw [catS, List.length_append, catS_len F h k, h]; omega
def rdZ (d : St) (at_ m : Nat) (v : Int) : Int := if onB d.n at_ m v then (if d.dead then 7 else 0) else 1
def rdE (d : St) (at_ m : Nat) (v : Int) : List En := if onB d.n at_ m v && !d.dead then parE qX D.aO v (rdB d at_ m) else []
def rdU (d : St) (at_ m : Nat) (v : Int) : Nat := if onB d.n at_ m v && !d.dead then parU qX D.aO v (rdB d at_ m) else 0
set_option maxHeartbeats 4000000 in
set_option maxRecDepth 100000 in
theorem rrd_any (g : Nat) (L : List Nat) (d : St) (at_ m : Nat) (v : Int) (w : World) (h : Dv w g L d) (ha : at_ ≤ 1048576) (hm : m ≤ 1048576) :
    Calls Tryz.prog 31 #[ptr g, RG at_ m v] w fun e w' => ∃ A n c, e = .returned (.tuple #[.slice A n c, .int .i64 (rdU d at_ m v), .int .i64 (rdZ d at_ m v)]) ∧ Le w.heap.size A n c (rdE d at_ m v) w' ∧ Below w.heap.size w w' := by
  obtain ⟨W, hW⟩ : ∃ W, W = (w.alloc (.cells #[ptr g] 42)).alloc (.cells (rgc at_ m v) 40) := ⟨_, rfl⟩
  have hB : Below w.heap.size w W := by rw [hW]; exact ((Below.refl _ w).alloc (Nat.le_refl _) _).alloc (by simp) _
  have h2 : W.heap[w.heap.size]? = some (.cells #[ptr g] 42 (0, 0)) := by rw [hW, Lib.alloc_old _ _ _ (by simp)]; exact heap_alloc_new w _
  have h3 : W.heap[w.heap.size + 1]? = some (.cells (rgc at_ m v) 40 (0, 0)) := by
    rw [hW]
    have := heap_alloc_new (w.alloc (.cells #[ptr g] 42)) (.cells (rgc at_ m v) 40)
    rwa [World.size_alloc] at this
  have K1 := Lib.hid (ron_any g L d at_ m v W (h.below hB) ha hm)
  have HB := Lib.hid hB
  have HW := Lib.hid hW
  have H2 := Lib.hid h2
  have H3 := Lib.hid h3
  have HD := Lib.hid h
  have c2 : W.cell? ⟨w.heap.size, 0, none⟩ = some (ptr g) := cell_of_row W _ 0 _ 42 (0, 0) h2
  obtain ⟨c3, c4, c5⟩ := rgc_cellsR h3
  clear hB hW h2 h3 h
  cases hon : onB d.n at_ m v with
  | false =>
    have r1 : rdU d at_ m v = 0 := by unfold rdU; rw [hon]; rfl
    have r2 : rdZ d at_ m v = 1 := by unfold rdZ; rw [hon]; rfl
    have r3 : rdE d at_ m v = [] := by unfold rdE; rw [hon]; rfl
    rw [r1, r2, r3, show ((0 : Nat) : Int) = 0 from rfl]
    rw [hon] at K1
    clear r1 r2 r3 hon
    unfold ptr at *
    go_enter Tryz.func31, Tryz.ntmps31
    go_upto_region 1 with fail
    refine wp_at (w := W) HW.out.symm ?_
    go_wp2_with (go_at_call 64; (with_reducible refine K1.out.mono ?_); rintro q w1 ⟨rfl, b1⟩)
    go_ret3
    exact ⟨none, 0, 0, rfl, Le.nil _ _, HB.out.trans (b1.mono HB.out.size)⟩
  | true =>
    rw [hon] at K1
    obtain ⟨hm1, hmn⟩ : 1 ≤ m ∧ at_ + m ≤ d.n := by
      unfold onB at hon
      rw [Bool.and_eq_true, Bool.and_eq_true] at hon
      have h1 := of_decide_eq_true hon.1.1
      have h2 := of_decide_eq_true hon.2
      exact ⟨h1, by omega⟩
    have hre : ∀ k, k < m → d.refuses ((at_ + k : Nat) : Int) = if d.dead then 7 else 0 := fun k hk => by
      unfold St.refuses
      split
      · rfl
      · rw [if_neg (by omega)]
    have KEY : Hid (∀ W1 b, b = W1.heap.size → Below w.heap.size w W1 → W1.heap[w.heap.size]? = some (.cells #[ptr g] 42 (0, 0)) → W1.heap[w.heap.size + 1]? = some (.cells (rgc at_ m v) 40 (0, 0)) →
        Calls Tryz.prog 73 #[.int .i64 0, .int .i64 m, .func (.func 75) #[] #[ptr w.heap.size, ptr (w.heap.size + 1), ptr b]] (W1.alloc (.cells #[.pointer none, .slice none 0 0] 81)) fun e w' => e = .returned (.int .i64 (if d.dead then 7 else 0)) ∧ (d.dead = false → Sb b b (rdB d at_ m) w') ∧ Below b W1 w') := fun W1 b hb hB1 hc2 hc3 => by
      have hD1 := HD.out.below hB1
      have hbl : Below b W1 (W1.alloc (.cells #[.pointer none, .slice none 0 0] 81)) := (Below.refl b W1).alloc (by omega) _
      have hsz : (W1.alloc (.cells #[.pointer none, .slice none 0 0] 81)).heap.size = b + 1 := by rw [World.size_alloc, hb]
      have hs0 : Sb b b ⟨#[]⟩ (W1.alloc (.cells #[.pointer none, .slice none 0 0] 81)) := by rw [hb]; exact Lib.fresh_isBuilder 81 5 W1
      refine (each3_any 75 (.inr rfl) (ptr w.heap.size) (ptr (w.heap.size + 1)) (ptr b) 0 m
        (fun k w1 => (d.dead = true → k = 0) ∧ Sb b b (txt (catS (fun i => d.now (at_ + i)) k)) w1 ∧ Below b W1 w1) (fun z w1 => z = 7 ∧ d.dead = true ∧ Below b W1 w1) _ (Nat.zero_le _) (by omega) ⟨fun _ => rfl, hs0, hbl⟩ ?_).mono ?_
      · rintro k w1 _ hk ⟨hdk, hsb, hbw⟩
        have hw1 : b ≤ w1.heap.size := by have := hbw.size; omega
        have hD2 : Dv w1 g L d := hD1.below (hb ▸ hbw)
        have hx : (txt (catS (fun i => d.now (at_ + i)) k)).size ≤ 1099511627776 := by
          rw [txt_size, catS_len _ (fun i => HD.out.1.now _)]
          omega
        refine (rcl_any g L d w.heap.size (w.heap.size + 1) b b at_ k m v _ w1 hD2 ((hbw.block _ (by have := (Array.getElem?_eq_some_iff.1 hc2).1; omega)).trans hc2) ((hbw.block _ (by have := (Array.getElem?_eq_some_iff.1 hc3).1; omega)).trans hc3) hsb hw1 hx (by omega) ha).mono ?_
        rintro e w2 ⟨rfl, hs2, hb2⟩
        rw [hre k hk]
        refine ⟨_, rfl, fun hz => ?_, fun hz => ?_⟩
        · have hdd : d.dead = false := by
            cases hd : d.dead with
            | false => rfl
            | true => rw [hd] at hz; simp at hz
          refine ⟨fun h => absurd (hdd.symm.trans h) (by decide), ?_, hbw.trans hb2⟩
          have e1 : d.readS ((at_ + k : Nat) : Int) = d.now (at_ + k) := by
            unfold St.readS
            rw [hre k hk, hdd]
            simp
            rw [show ((at_ : Int) + (k : Int)).toNat = at_ + k by omega]
          rw [e1] at hs2
          have e2 : txt (catS (fun i => d.now (at_ + i)) k) ++ txt (d.now (at_ + k)) = txt (catS (fun i => d.now (at_ + i)) (k + 1)) := by
            apply ByteArray.ext
            apply Array.toList_inj.1
            rw [ByteArray.data_append, Array.toList_append, txt_list, txt_list, txt_list, catS]
          rw [e2] at hs2
          exact hs2
        · have hdd : d.dead = true := by
            cases hd : d.dead with
            | false => rw [hd] at hz; simp at hz
            | true => rfl
          exact ⟨by rw [hdd]; rfl, hdd, hbw.trans hb2⟩
      · rintro e w1 ⟨z, rfl, hz0, hz1⟩
        by_cases hz : z = 0
        · obtain ⟨h1, h2, h3⟩ := hz0 hz
          have hdd : d.dead = false := by
            cases hd : d.dead with
            | false => rfl
            | true => have := h1 hd; omega
          refine ⟨by rw [hz, hdd]; rfl, fun _ => h2, h3⟩
        · obtain ⟨h1, h2, h3⟩ := hz1 hz
          exact ⟨by rw [h1, h2]; rfl, fun h => absurd (h2.symm.trans h) (by decide), h3⟩
    have KP := Lib.hid (fun (W : World) => parse_any qX qV D.aO v (rdB d at_ m) W (by unfold rdB; rw [txt_size, catS_len _ (fun i => HD.out.1.now _)]; omega) gets_in)
    have KT := Lib.hid (fun (b : Nat) (W : World) (h : Sb b b (rdB d at_ m) W) (hb : b ≤ W.heap.size) => bstr_any b b (rdB d at_ m) W h hb)
    have HRU : Hid (rdU d at_ m v = if d.dead then 0 else parU qX D.aO v (rdB d at_ m)) := by show _ = _; unfold rdU; rw [hon]; cases d.dead <;> rfl
    have HRE : Hid (rdE d at_ m v = if d.dead then [] else parE qX D.aO v (rdB d at_ m)) := by show _ = _; unfold rdE; rw [hon]; cases d.dead <;> rfl
    have HRZ : Hid (rdZ d at_ m v = if d.dead then 7 else 0) := by show _ = _; unfold rdZ; rw [hon, if_pos rfl]
    obtain ⟨RU, hRU⟩ : ∃ x, x = rdU d at_ m v := ⟨_, rfl⟩
    obtain ⟨RE, hRE⟩ : ∃ x, x = rdE d at_ m v := ⟨_, rfl⟩
    obtain ⟨RZ, hRZ⟩ : ∃ x, x = rdZ d at_ m v := ⟨_, rfl⟩
    obtain ⟨S, hS⟩ : ∃ S, S = rdB d at_ m := ⟨_, rfl⟩
    obtain ⟨pe, hpe⟩ : ∃ pe, pe = parE qX D.aO v S := ⟨_, rfl⟩
    obtain ⟨pu, hpu⟩ : ∃ pu, pu = parU qX D.aO v S := ⟨_, rfl⟩
    rw [← hRU, ← hRE, ← hRZ]
    rw [← hRU] at HRU
    rw [← hRE] at HRE
    rw [← hRZ] at HRZ
    rw [← hS] at KEY KP KT HRU HRE
    rw [← hpe, ← hpu] at KP
    rw [← hpu] at HRU
    rw [← hpe] at HRE
    clear hRU hRE hRZ hS hpe hpu hre hon hmn hm1
    unfold ptr at *
    cases hdd : d.dead with
    | true =>
      rw [hdd] at KEY HRU HRE HRZ
      obtain rfl : RU = 0 := HRU.out
      obtain rfl : RE = [] := HRE.out
      obtain rfl : RZ = 7 := HRZ.out
      clear HRU HRE HRZ hdd KP KT
      go_enter Tryz.func31, Tryz.ntmps31
      go_upto_region 1 with fail
      refine wp_at (w := W) HW.out.symm ?_
      go_upto_region 3 with (go_at_call 64; (with_reducible refine K1.out.mono ?_); rintro q w1 ⟨rfl, b1⟩)
      have HB1 : Hid (Below w.heap.size w w1) := HB.out.trans (b1.mono HB.out.size)
      have H21 : Hid (w1.heap[w.heap.size]? = some (.cells #[.pointer (some ⟨g, 0, none⟩)] 42 (0, 0))) := (b1.block _ (Array.getElem?_eq_some_iff.1 H2.out).1).trans H2.out
      have H31 : Hid (w1.heap[w.heap.size + 1]? = some (.cells (rgc at_ m v) 40 (0, 0))) := (b1.block _ (Array.getElem?_eq_some_iff.1 H3.out).1).trans H3.out
      have KK := Lib.hid (KEY.out w1 w1.heap.size rfl HB1.out H21.out H31.out)
      have f1 : (w1.alloc (.cells #[.pointer none, .slice none 0 0] 81)).cell? ⟨w.heap.size + 1, 1, none⟩ = some (.int .i64 m) := (rgc_cellsR ((Lib.alloc_old _ _ _ (Array.getElem?_eq_some_iff.1 H31.out).1).trans H31.out)).2.1
      clear b1 c2 c3 c4 c5
      go_wp2_with (go_at_call 73; (with_reducible refine KK.out.mono ?_); rintro q w2 ⟨rfl, _, b2⟩)
      go_ret3
      exact ⟨none, 0, 0, rfl, Le.nil _ _, HB1.out.trans (b2.mono HB1.out.size)⟩
    | false =>
      rw [hdd] at KEY HRU HRE HRZ
      obtain rfl : RU = pu := HRU.out
      obtain rfl : RE = pe := HRE.out
      obtain rfl : RZ = 0 := HRZ.out
      clear HRU HRE HRZ hdd
      go_enter Tryz.func31, Tryz.ntmps31
      go_upto_region 1 with fail
      refine wp_at (w := W) HW.out.symm ?_
      go_upto_region 3 with (go_at_call 64; (with_reducible refine K1.out.mono ?_); rintro q w1 ⟨rfl, b1⟩)
      have HB1 : Hid (Below w.heap.size w w1) := HB.out.trans (b1.mono HB.out.size)
      have H21 : Hid (w1.heap[w.heap.size]? = some (.cells #[.pointer (some ⟨g, 0, none⟩)] 42 (0, 0))) := (b1.block _ (Array.getElem?_eq_some_iff.1 H2.out).1).trans H2.out
      have H31 : Hid (w1.heap[w.heap.size + 1]? = some (.cells (rgc at_ m v) 40 (0, 0))) := (b1.block _ (Array.getElem?_eq_some_iff.1 H3.out).1).trans H3.out
      have KK := Lib.hid (KEY.out w1 w1.heap.size rfl HB1.out H21.out H31.out)
      have f1 : (w1.alloc (.cells #[.pointer none, .slice none 0 0] 81)).cell? ⟨w.heap.size + 1, 1, none⟩ = some (.int .i64 m) := (rgc_cellsR ((Lib.alloc_old _ _ _ (Array.getElem?_eq_some_iff.1 H31.out).1).trans H31.out)).2.1
      clear b1 c2 c3 c4 c5
      go_upto_region 7 with (go_at_call 73; (with_reducible refine KK.out.mono ?_); rintro q w2 ⟨rfl, hs2, b2⟩)
      have HS2 : Hid (Sb w1.heap.size w1.heap.size S w2.drew) := (show Sb w1.heap.size w1.heap.size S w2 from hs2 trivial).below (Below.refl _ w2).drew
      have HB2 : Hid (Below w1.heap.size w1 w2.drew) := b2.drew
      have HC2 : Hid (w2.drew.heap[w.heap.size + 1]? = some (.cells (rgc at_ m v) 40 (0, 0))) := (HB2.out.block _ (Array.getElem?_eq_some_iff.1 H31.out).1).trans H31.out
      have f2 : w2.drew.cell? ⟨w.heap.size + 1, 2, none⟩ = some (.int .i64 v) := (rgc_cellsR HC2.out).2.2
      clear hs2 b2 f1
      go_region_law (first
        | (go_simp; go_at_call 41; (with_reducible refine (KT.out _ _ HS2.out HB2.out.size).mono ?_); rintro q w4 ⟨rfl, b4⟩; have HB4 : Hid (Below w1.heap.size w1 w4) := HB2.out.trans b4; have f4 : w4.cell? ⟨w.heap.size + 1, 2, none⟩ = some (.int .i64 v) := (rgc_cellsR ((HB4.out.block _ (Array.getElem?_eq_some_iff.1 H31.out).1).trans H31.out)).2.2; clear b4)
        | (go_simp; go_at_call 15; (with_reducible refine (KP.out _).mono ?_); rintro q w5 ⟨A5, n5, c5', rfl, hL5, b5⟩))
      all_goals
        go_wp2
        go_ret3
        exact ⟨A5, n5, c5', rfl, ⟨ownsRow_low'R (Nat.le_trans HB1.out.size HB4.out.size) hL5.own, hL5.len⟩, HB1.out.trans ((HB4.out.trans (b5.mono HB4.out.size)).mono HB1.out.size)⟩
end Go.Proofs.YtnobeoppffoomaaGreat
