/-
  The walk of the law DeviceKeeps.
  Conditions: none but the strings' bounds and that of a byte.
-/
import Derived.Test.YtfcfclgjalofnaaTwice
namespace Go.Proofs.Ytfcfclgjalofnaa
open Go.RowKit Dk
set_option linter.unusedVariables false
theorem Try.info3 : (Try.prog.info? 3).map (fun i => (i.zero, i.size, i.bytes)) = some (some (.int .i64 0), 1, 8) := by kernel_rfl
/-- A row of ints lies in none of a device's blocks. -/
theorem row_apart {w : World} {B n : Nat} {v : Value} {xs : List Value} {g : Nat} {L : List Nat} {d : St} (h : w.ownsRow B 3 1 v n xs) (hD : Dv w g L d) : ∀ k ∈ L, v.ownBlock ≠ some k := by
  obtain ⟨_, fb, mb, cap, rfl, hA⟩ := hD
  intro k hk he
  rcases h.2 with ⟨rfl, _⟩ | ⟨gb, c, cur, rfl, _, hh, _⟩
  · simp [Value.ownBlock] at he
  · have e : gb = k := by simpa [Value.ownBlock] using he
    subst e
    simp at hk
    rcases hk with rfl | rfl | rfl
    · have := hh.symm.trans hA.blk; simp at this
    · obtain ⟨cur', h1, _⟩ := hA.row
      have := hh.symm.trans h1; simp at this
    · obtain ⟨D, ⟨es, clock, hb, _⟩, _⟩ := hA.map
      have := hh.symm.trans hb; simp at this
theorem row_keep {w w' : World} {B n : Nat} {v : Value} {xs : List Value} {L : List Nat} {e s : Nat} (h : w.ownsRow B e s v n xs) (hk : Keep L w w') (ha : ∀ k ∈ L, v.ownBlock ≠ some k) : w'.ownsRow B e s v n xs := by
  obtain ⟨hl, h⟩ := h
  refine ⟨hl, ?_⟩
  rcases h with h | ⟨gb, c, cur, rfl, hb, hh, r⟩
  · exact .inl h
  · exact .inr ⟨gb, c, cur, rfl, hb, (hk.block gb (lt_of_heap hh) (fun hm => ha gb hm (by simp [Value.ownBlock]))).trans hh, r⟩
theorem dv_grown {w w' : World} {g : Nat} {L : List Nat} {d : St} {row : Option Nat} (h : Dv w g L d) (hg : w.grownBy w' row) (ha : ∀ k ∈ L, row ≠ some k) : Dv w' g L d :=
  h.of_heap (fun k hk => hg.block k (h.lt k hk) (fun e => ha k hk e.symm))
namespace Dk
/-- Is that bit set? -/
def bitB (n i : Nat) : Bool := n / 2 ^ i % 2 == 1
/-- What is lost. -/
def lostL (n k : Nat) : List Int := ((List.range k).filter (bitB n)).map fun (i : Nat) => (i : Int)
theorem lostL_succ (n k : Nat) : lostL n (k + 1) = if bitB n k = true then lostL n k ++ [(k : Int)] else lostL n k := by
  unfold lostL
  rw [List.range_succ, List.filter_append, List.map_append]
  by_cases h : bitB n k = true
  · rw [if_pos h]; simp [h]
  · rw [if_neg h]; simp [h]
theorem lostL_length (n k : Nat) : (lostL n k).length ≤ k := by
  unfold lostL
  rw [List.length_map]
  have := List.length_filter_le (bitB n) (List.range k)
  rw [List.length_range] at this
  exact this
theorem mem_lostL (n k i : Nat) : (i : Int) ∈ lostL n k ↔ i < k ∧ bitB n i = true := by
  unfold lostL
  simp only [List.mem_map, List.mem_filter, List.mem_range]
  constructor
  · rintro ⟨j, h, e⟩
    have : j = i := by omega
    subst this; exact h
  · intro h; exact ⟨i, h, rfl⟩
/-- One text into each of the first sectors. -/
def fillS (n : Nat) (a : List UInt8) : Nat → St
  | 0 => St.fresh n (fun _ => zsec)
  | k + 1 => (fillS n a k).put k (pad a)
theorem fillS_n (n : Nat) (a : List UInt8) : ∀ k, (fillS n a k).n = n
  | 0 => rfl
  | k + 1 => fillS_n n a k
theorem fillS_left (n : Nat) (a : List UInt8) : ∀ k, (fillS n a k).left = -1
  | 0 => rfl
  | k + 1 => fillS_left n a k
theorem fillS_dead (n : Nat) (a : List UInt8) : ∀ k, (fillS n a k).dead = false
  | 0 => rfl
  | k + 1 => fillS_dead n a k
theorem fillS_now (n : Nat) (a : List UInt8) (i : Nat) : ∀ k, i < k → (fillS n a k).now i = pad a
  | 0, h => by omega
  | k + 1, h => by
    by_cases e : i = k
    · subst e; exact put_now_same _ _ _
    · show (if i = k then some (pad a) else (fillS n a k).wt i).getD _ = _
      rw [if_neg e]
      exact fillS_now n a i k (by omega)
theorem put_now_other (d : St) (i j : Nat) (s : Sec) (h : j ≠ i) : (d.put i s).now j = d.now j := by
  show (if j = i then some s else d.wt j).getD _ = _
  rw [if_neg h]; rfl
end Dk
set_option maxHeartbeats 4000000 in
set_option maxRecDepth 100000 in
theorem keeps_any (s t : ByteArray) (n : Nat) (w : World) (hs : s.size ≤ 140737488351232) (ht : t.size ≤ 140737488351232) (hn : n < 256) :
    Calls Try.prog 5 #[.string s, .string t, .int .u8 n] w fun e w' => e = .returned (.bool true) ∧ Below w.heap.size w w' := by
  obtain ⟨i0, hi, hz0, hz1, hz2⟩ := info_parts Try.info3
  obtain ⟨a, ha, he1⟩ := cut_of s
  obtain ⟨b, hb, he2⟩ := cut_of t
  have HE1 := Lib.hid he1
  have HE2 := Lib.hid he2
  clear he1 he2
  go_enter Try.func5, Try.ntmps5
  go_wp2_with fail
  refine (examples_any w).mono ?_
  rintro e w0 ⟨rfl, hb0⟩
  go_wp2_with fail
  refine (new_yes 3 w0 (by omega) (by omega)).mono ?_
  rintro e w1 ⟨g, L, rfl, hD1, hL1, hb1⟩
  have hb01 := hb0.trans (hb1.mono hb0.size)
  have hLB : ∀ k ∈ L, w.heap.size ≤ k := fun k hk => Nat.le_trans hb0.size (hL1 k hk)
  rw [HE1.out, HE2.out]
  have hs01 := hb01.size
  clear HE1 HE2
  unfold ptr
  go_wp2_with fail
  go_loopw [10, 11] (fun v i wr => ∃ (k : Nat) (L : List Nat), k ≤ 3 ∧ i = .int .i64 k ∧ Dv wr g L (fillS 3 a k) ∧ (∀ j ∈ L, w.heap.size ≤ j) ∧ wr.ownsRow w.heap.size 3 1 v (lostL n k).length ((lostL n k).map fun x => Value.int .i64 x) ∧ Below w.heap.size w wr) (fun _ i _ => 3 - (RowKit.intOf i).toNat)
  case atStart => exact ⟨0, L, by omega, rfl, hD1, hLB, World.ownsRow_nil _ _ _ _, hb01⟩
  case round =>
    obtain ⟨k, Lr, hk, rfl, hDr, hLr, hrow, hbr⟩ := hrel
    have hsr := hbr.size
    by_cases hlt : k < 3
    · have HW := Lib.hid (write_any g Lr _ k a _ hDr)
      rw [write_ok_eq (by rw [fillS_left]; decide) (fillS_dead _ _ _) (by rw [fillS_n]; exact hlt) ha] at HW
      have hap := row_apart hrow hDr
      have HAP := Lib.hid hap
      clear hap
      unfold ptr at *
      go_wp2_with fail
      refine HW.out.mono ?_
      rintro e w2 ⟨rfl, hMv⟩
      obtain ⟨L2, hD2, hL2, hb2, hs2, hK2, hF2⟩ := hMv.below hbr hsr hLr
      have hrow2 := row_keep hrow hK2 HAP.out
      clear hMv HW hrow hDr HAP
      obtain ⟨q, hq⟩ : ∃ q, q = n / 2 ^ k := ⟨_, rfl⟩
      have hqi : (n : Int) / 2 ^ k = (q : Int) := by rw [hq]; push_cast; rfl
      have hq2 : (q : Int) ≤ 255 := by have : n / 2 ^ k ≤ n := Nat.div_le_self _ _; omega
      have hk8 : (k : Int) ≤ 8 := by omega
      have hlen := lostL_length n k
      have HSU := Lib.hid (lostL_succ n k)
      have HQ := Lib.hid hq
      clear hq
      by_cases hbit : q % 2 = 1
      · have hbB : Hid (bitB n k = true) := by show _ = _; unfold bitB; rw [← HQ.out, hbit]; rfl
        have hbi : ((q : Int) % 2) = 1 := by omega
        go_wp2_with (at_builtin; refine wpList_append_own _ rfl _ _ 30 rfl w.heap.size 3 i0 (.int .i64 0) 1 8 Try.underlying30 hi hz0 hz1 hz2 rfl (by decide) _ _ _ rfl (hrow2.alloc _) ⟨w2.heap.size, 0, none⟩ 1 1 [.int .i64 (k : Int)] rfl rfl (cell_one_new _ _ _) (fun x hx => by simp at hx; subst hx; rfl) (by unfold maxLen; omega) (by omega) (by simp; omega) ?_; intro v' w3 hown' hgrow3 hnil3)
        go_roundw
        case rel =>
          have hgr := (World.grownBy_alloc w2 (.cells #[.int .i64 (k : Int)] 3) _).trans hgrow3
          refine ⟨k + 1, L2, by omega, by go_num, dv_grown hD2 hgr (fun j hj => row_apart hrow2 hD2 j hj), hL2, ?_, (hb2.alloc hs2 _).grown hgrow3 (by simp; omega) (fun j hj => (hrow2.lt j hj).1)⟩
          rw [HSU.out, if_pos hbB.out, List.length_append, List.map_append]
          exact hown'
        case measure => simp [RowKit.intOf]; omega
      · have hbB : Hid (bitB n k = false) := by
          show _ = _
          unfold bitB
          rw [← HQ.out]
          have : q % 2 = 0 := by omega
          rw [this]; rfl
        have hbi : ((q : Int) % 2) = 0 := by omega
        go_wp2
        go_roundw
        case rel =>
          refine ⟨k + 1, L2, by omega, by go_num, hD2, hL2, ?_, hb2⟩
          rw [HSU.out, if_neg (by rw [hbB.out]; decide)]
          exact hrow2
        case measure => simp [RowKit.intOf]; omega
    · have hk3 : k = 3 := by omega
      subst hk3
      obtain ⟨d1, hd1⟩ : ∃ d1, d1 = fillS 3 a 3 := ⟨_, rfl⟩
      obtain ⟨l, hl⟩ : ∃ l, l = lostL n 3 := ⟨_, rfl⟩
      have hmem : Hid (∀ i : Nat, (i : Int) ∈ l ↔ i < 3 ∧ bitB n i = true) := fun i => by rw [hl]; exact mem_lostL n 3 i
      have hll : l.length ≤ 3 := by rw [hl]; exact lostL_length n 3
      have hwf : Hid (∀ x ∈ l, -9223372036854775808 ≤ x ∧ x ≤ 9223372036854775807) := fun x hx => by
        rw [hl] at hx
        unfold lostL at hx
        simp only [List.mem_map, List.mem_filter, List.mem_range] at hx
        obtain ⟨i, ⟨hi3, _⟩, rfl⟩ := hx
        omega
      rw [← hd1] at hDr
      rw [← hl] at hrow
      clear hl
      have F0 : Hid (d1.n = 3 ∧ d1.left = -1 ∧ d1.dead = false ∧ ∀ i, i < 3 → d1.now i = pad a) := by
        rw [hd1]; exact ⟨fillS_n _ _ _, fillS_left _ _ _, fillS_dead _ _ _, fun i hi => fillS_now _ _ _ _ hi⟩
      clear hd1 hD1
      obtain ⟨q1, q2, q3, q4⟩ := F0.out
      -- flush
      have hap := row_apart hrow hDr
      have HF := Lib.hid (flush_any g Lr d1 wr hDr)
      rw [flush_ok_eq (by rw [q2]; decide) q3] at HF
      have HAP := Lib.hid hap
      clear hap q1 q2 q3 q4
      unfold ptr at *
      go_wp2_with fail
      refine HF.out.mono ?_
      rintro e w3 ⟨rfl, hMv⟩
      obtain ⟨L3, hD3, hL3, hb3, hs3, hK3, _⟩ := hMv.below hbr hsr hLr
      have hrow3 := row_keep hrow hK3 HAP.out
      clear hMv HF HAP hrow hDr
      -- write b, twice
      obtain ⟨q1, q2, q3, q4⟩ := F0.out
      have HW1 := Lib.hid (write_any g L3 _ 0 b w3 hD3)
      rw [show ((0 : Int) = ((0 : Nat) : Int)) from rfl, write_ok_eq (d := d1.settle) (by show d1.left < 0; rw [q2]; decide) q3 (by show 0 < d1.n; rw [q1]; omega) hb] at HW1
      have HAP := Lib.hid (row_apart hrow3 hD3)
      clear q1 q2 q3 q4
      unfold ptr at *
      go_wp2_with fail
      refine HW1.out.mono ?_
      rintro e w4 ⟨rfl, hMv⟩
      obtain ⟨L4, hD4, hL4, hb4, hs4, hK4, _⟩ := hMv.below hb3 hs3 hL3
      have hrow4 := row_keep hrow3 hK4 HAP.out
      clear hMv HW1 HAP hrow3 hD3
      obtain ⟨q1, q2, q3, q4⟩ := F0.out
      have HW2 := Lib.hid (write_any g L4 _ 1 b w4 hD4)
      rw [show ((1 : Int) = ((1 : Nat) : Int)) from rfl, write_ok_eq (d := d1.settle.put 0 (pad b)) (by show d1.left < 0; rw [q2]; decide) q3 (by show 1 < d1.n; rw [q1]; omega) hb] at HW2
      have HAP := Lib.hid (row_apart hrow4 hD4)
      clear q1 q2 q3 q4
      unfold ptr at *
      go_wp2_with fail
      refine HW2.out.mono ?_
      rintro e w5 ⟨rfl, hMv⟩
      obtain ⟨L5, hD5, hL5, hb5, hs5, hK5, _⟩ := hMv.below hb4 hs4 hL4
      have hrow5 := row_keep hrow4 hK5 HAP.out
      clear hMv HW2 HAP hrow4 hD4
      obtain ⟨d2, hd2⟩ : ∃ d2, d2 = (d1.settle.put 0 (pad b)).put 1 (pad b) := ⟨_, rfl⟩
      rw [← hd2] at hD5
      -- after
      have hv : ∃ A c, u10 = .slice A l.length c := by
        rcases hrow5.2 with ⟨rfl, h0⟩ | ⟨gb, c, cur, rfl, _⟩
        · exact ⟨none, 0, by rw [h0]⟩
        · exact ⟨_, _, rfl⟩
      obtain ⟨A, c, rfl⟩ := hv
      have hI : IntsAt w5 A l := fun j x hj => by
        refine ⟨hwf.out x (List.mem_of_getElem? hj), ?_⟩
        have hj' : j < l.length := (List.getElem?_eq_some_iff.1 hj).1
        obtain ⟨gb, cc, he, _⟩ := hrow5.form (by omega)
        injection he with he _ _
        refine ⟨_, he, (hrow5.lt gb (by rw [he]; rfl)).2, ?_⟩
        subst he
        rw [Addr.add_mid, Nat.zero_add, hrow5.cellAt j (by omega), List.getElem?_map, hj]; rfl
      have HA := Lib.hid (after_any g L5 d2 A l c w5 hD5 hI (by unfold maxLen; omega))
      clear hI hrow5
      unfold ptr at *
      go_wp2_with fail
      refine HA.out.mono ?_
      rintro e w6 ⟨gx, Lx, rfl, hDx, hLx, hb6⟩
      have hb15 := hb5.trans (hb6.mono hs5)
      have hs6 := Nat.le_trans hs5 hb6.size
      have F2 : Hid ((d2.after l).n = 3 ∧ (d2.after l).dead = false ∧ (d2.after l).waits.length = 0 ∧ ∀ i, i < 3 → (d2.after l).now i = if i = 2 ∨ bitB n i = true then pad a else pad b) := by
        obtain ⟨q1, q2, q3, q4⟩ := F0.out
        refine ⟨by rw [hd2]; exact q1, rfl, ?_, fun i hi => ?_⟩
        · show ((List.range d2.n).filter fun _ => false).length = 0
          simp
        · rw [after_now]
          have hfl : d2.fl i = pad a := by rw [hd2]; show d1.now i = _; exact q4 i hi
          by_cases hbt : bitB n i = true
          · rw [if_pos ((hmem.out i).2 ⟨hi, hbt⟩), if_pos (.inr hbt), hfl]
          · rw [if_neg (fun h => hbt ((hmem.out i).1 h).2)]
            by_cases h2 : i = 2
            · subst h2
              rw [if_pos (.inl rfl), hd2, put_now_other _ _ _ _ (by omega), put_now_other _ _ _ _ (by omega), settle_now]
              exact q4 2 (by omega)
            · rw [if_neg (by rintro (h | h); exact h2 h; exact hbt h), hd2]
              by_cases h1 : i = 1
              · subst h1; exact put_now_same _ _ _
              · rw [put_now_other _ _ _ _ h1]
                have : i = 0 := by omega
                subst this
                exact put_now_same _ _ _
      obtain ⟨d3, hd3⟩ : ∃ d3, d3 = d2.after l := ⟨_, rfl⟩
      rw [← hd3] at F2 hDx
      have hLx2 : ∀ k ∈ Lx, w.heap.size ≤ k := fun k hk => Nat.le_trans hs5 (hLx k hk)
      clear hd3 HA hD5 hd2 F0
      go_wp2_with fail
      go_loopw [14] (fun i wr => ∃ k : Nat, k ≤ 3 ∧ i = .int .i64 k ∧ Dv wr gx Lx d3 ∧ Below w.heap.size w wr) (fun i _ => 3 - (RowKit.intOf i).toNat)
      case atStart => exact ⟨0, by omega, rfl, hDx, hb15⟩
      case round =>
        obtain ⟨k, hk, rfl, hDr, hbr⟩ := hrel
        have hsr2 := hbr.size
        by_cases hlt : k < 3
        · obtain ⟨q1, q2, q3, q4⟩ := F2.out
          have HR := Lib.hid (fun w1 (h1 : Dv w1 gx Lx d3) => read_any gx Lx d3 k w1 h1)
          rw [readS_eq q2 (by rw [q1]; exact hlt), refuses_yes_eq q2 (by omega) (by rw [q1]; omega), q4 k hlt] at HR
          clear q1 q2 q3 q4
          unfold ptr at *
          go_wp2_with fail
          refine (lwhole_any b _ hb).mono ?_
          rintro e w7 ⟨rfl, hb7⟩
          have hD7 := hDr.below hb7
          have hbb7 := hbr.trans (hb7.mono hbr.size)
          have hss7 := hbb7.size
          obtain ⟨q, hq⟩ : ∃ q, q = n / 2 ^ k := ⟨_, rfl⟩
          have hqi : (n : Int) / 2 ^ k = (q : Int) := by rw [hq]; push_cast; rfl
          have hq2 : (q : Int) ≤ 255 := by have : n / 2 ^ k ≤ n := Nat.div_le_self _ _; omega
          have hk8 : (k : Int) ≤ 8 := by omega
          have HQ := Lib.hid hq
          clear hq
          by_cases h2 : k = 2
          · subst h2
            rw [if_pos (.inl rfl)] at HR
            clear hqi hq2 hk8
            go_wp2_with fail
            refine (lwhole_any a _ ha).mono ?_
            rintro e w8 ⟨rfl, hb8⟩
            have hbb8 := hbb7.trans (hb8.mono hss7)
            go_wp2_with fail
            refine (HR.out _ (hD7.below hb8)).mono ?_
            rintro e w9 ⟨rfl, hb9⟩
            have hbb9 := hbb8.trans (hb9.mono hbb8.size)
            go_wp2
            go_roundw
            case rel => exact ⟨3, by omega, rfl, (hD7.below hb8).below hb9, hbb9⟩
            case measure => simp [RowKit.intOf]
          · have h2' : ((k : Int) == 2) = false := by simp; omega
            by_cases hbit : q % 2 = 1
            · have hbB : bitB n k = true := by unfold bitB; rw [← HQ.out, hbit]; rfl
              have hbi : ((q : Int) % 2) = 1 := by omega
              rw [if_pos (.inr hbB)] at HR
              have HB := Lib.hid hbB
              clear hbB
              go_wp2_with fail
              refine (lwhole_any a _ ha).mono ?_
              rintro e w8 ⟨rfl, hb8⟩
              have hbb8 := hbb7.trans (hb8.mono hss7)
              go_wp2_with fail
              refine (HR.out _ (hD7.below hb8)).mono ?_
              rintro e w9 ⟨rfl, hb9⟩
              have hbb9 := hbb8.trans (hb9.mono hbb8.size)
              go_wp2
              go_roundw
              case rel => exact ⟨k + 1, by omega, by go_num, (hD7.below hb8).below hb9, hbb9⟩
              case measure => simp [RowKit.intOf]; omega
            · have hbB : bitB n k = false := by
                unfold bitB
                rw [← HQ.out]
                have : q % 2 = 0 := by omega
                rw [this]; rfl
              have hbi : ((q : Int) % 2) = 0 := by omega
              rw [if_neg (by rw [hbB]; simp [h2])] at HR
              have HB := Lib.hid hbB
              clear hbB
              go_wp2_with fail
              refine (HR.out _ hD7).mono ?_
              rintro e w9 ⟨rfl, hb9⟩
              have hbb9 := hbb7.trans (hb9.mono hbb7.size)
              go_wp2
              go_roundw
              case rel => exact ⟨k + 1, by omega, by go_num, hD7.below hb9, hbb9⟩
              case measure => simp [RowKit.intOf]; omega
        · have hk3 : k = 3 := by omega
          subst hk3
          obtain ⟨q1, q2, q3, q4⟩ := F2.out
          have HWT := Lib.hid (waiting_any gx Lx d3 _ hDr)
          rw [q3] at HWT
          have HC := Lib.hid (fun w1 (h1 : Dv w1 gx Lx d3) => crashed_any gx Lx d3 w1 h1)
          rw [q2] at HC
          clear q1 q2 q3 q4
          unfold ptr at *
          go_wp2_with fail
          refine HWT.out.mono ?_
          rintro e w7 ⟨v, rfl, hrow7, hb7⟩
          have hv : ∃ A c, v = .slice A 0 c := by
            rcases hrow7.2 with ⟨rfl, h0⟩ | ⟨gb, c, cur, rfl, _⟩
            · exact ⟨none, 0, rfl⟩
            · exact ⟨_, _, rfl⟩
          obtain ⟨A7, c7, rfl⟩ := hv
          clear hrow7
          go_wp2_with fail
          refine (HC.out _ (hDr.below hb7)).mono ?_
          rintro e w8 ⟨rfl, rfl⟩
          go_wp2
          go_ret
          exact ⟨rfl, hbr.trans (hb7.mono hsr2)⟩
end Go.Proofs.Ytfcfclgjalofnaa
