/-
  The walk of the law VarintReads.
  Conditions: the slice's cells are there.
-/
import Derived.Test.YteodbdgjfalgcaaMany
namespace Go.Proofs.Yteodbdgjfalgcaa
open Go.RowKit
theorem pair1 {f : Nat} {args : Array Value} {v : Value} {g1 g2 : Nat} {t t' t2 : ByteArray} {b b' b2 : Bool} {w : World} {p : Addr} {u : Value} (h12 : g1 < g2) (hg1 : w.heap.size ≤ g1) (hp : p.block < w.heap.size)
    (hcall : ∀ W, Rd 52 g1 t b W → Calls Try.prog f args W fun e w' => e = .returned v ∧ Rd 52 g1 t' b' w' ∧ W.grownBy w' (some g1)) :
    ∀ W, Rd 52 g1 t b W → Rd 40 g2 t2 b2 W → Below w.heap.size w W → W.cell? p = some u → Calls Try.prog f args W fun e w' => e = .returned v ∧ Rd 52 g1 t' b' w' ∧ Rd 40 g2 t2 b2 w' ∧ Below w.heap.size w w' ∧ w'.cell? p = some u := by
  intro W h1 h2 hB hc
  refine (hcall W h1).mono ?_
  rintro e w' ⟨he, h3, h4⟩
  exact ⟨he, h3, h2.grown h4 (by intro hh; injection hh with hh; omega), below_grownBy hB h4 hB.size hg1, h4.cell hc (by intro hh; injection hh with hh; omega)⟩
theorem pair2 {f : Nat} {args : Array Value} {v : Value} {g1 g2 : Nat} {t t' t2 : ByteArray} {b b' b2 : Bool} {w : World} {p : Addr} {u : Value} (h12 : g1 < g2) (hg2 : w.heap.size ≤ g2) (hp : p.block < w.heap.size)
    (hcall : ∀ W, Rd 40 g2 t b W → Calls Try.prog f args W fun e w' => e = .returned v ∧ Rd 40 g2 t' b' w' ∧ W.grownBy w' (some g2)) :
    ∀ W, Rd 52 g1 t2 b2 W → Rd 40 g2 t b W → Below w.heap.size w W → W.cell? p = some u → Calls Try.prog f args W fun e w' => e = .returned v ∧ Rd 52 g1 t2 b2 w' ∧ Rd 40 g2 t' b' w' ∧ Below w.heap.size w w' ∧ w'.cell? p = some u := by
  intro W h1 h2 hB hc
  refine (hcall W h2).mono ?_
  rintro e w' ⟨he, h3, h4⟩
  exact ⟨he, h1.grown h4 (by intro hh; injection hh with hh; omega), h3, below_grownBy hB h4 hB.size hg2, h4.cell hc (by intro hh; injection hh with hh; omega)⟩
namespace Vi
theorem bytT_size (s : ByteArray) (n : Int) : (bytT s n).size ≤ s.size := by
  unfold bytT; split
  · rw [ByteArray.size_extract]; omega
  · exact Nat.zero_le _
theorem fixT_size (s : ByteArray) (n : Int) : (fixT s n).size ≤ s.size := by
  unfold fixT; split
  · rw [ByteArray.size_extract]; omega
  · exact Nat.zero_le _
end Vi
theorem not_beq (b : Bool) : (!b == b) = false := by cases b <;> rfl
set_option maxHeartbeats 20000000 in
set_option maxRecDepth 100000 in
theorem reads_some (s : ByteArray) (a : Addr) (n cap : Nat) (ks : Nat → Nat) (ns : Nat → Int) (w : World) (hs : s.size ≤ 140737488351232) (hb : 0 < n → a.block < w.heap.size) (hn : (n : Int) ≤ 9223372036854775807)
    (hk : ∀ j, j < n → ks j < 256) (hc0 : ∀ j, j < n → w.cell? (a.add (j * 2)) = some (.int .u8 ((ks j : Nat) : Int))) (hc1 : ∀ j, j < n → w.cell? (a.add (j * 2 + 1)) = some (.int .i64 (ns j))) :
    Calls Try.prog 4 #[.string s, .slice (some a) n cap] w fun e w' => e = .returned (.bool true) ∧ Below w.heap.size w w' := by
  have HK := Lib.hid hk
  have HC0 := Lib.hid hc0
  have HC1 := Lib.hid hc1
  have HBM := Lib.hid hb
  clear hk hc0 hc1 hb
  go_enter Try.func4, Try.ntmps4
  go_wp2_with fail
  refine (examples_any w).mono ?_
  rintro e w0 ⟨rfl, hB0⟩
  go_wp2_with fail
  refine (new_any _ w0).mono ?_
  rintro e w1 ⟨rfl, hw1⟩
  have hr1 : Rd 52 w0.heap.size s false w1 := by rw [hw1]; exact Rd.new _ _ _ _
  have hB1 : Below w.heap.size w w1 := by rw [hw1]; exact hB0.alloc hB0.size _
  have hg1 := hB0.size
  have hg12 : w0.heap.size < w1.heap.size := hr1.lt
  clear hw1 hB0
  unfold rdp
  go_wp2_with fail
  refine (rnew_any _ w1).mono ?_
  rintro e w2 ⟨rfl, hw2⟩
  have hx2 : Rd 40 w1.heap.size s false w2 := by rw [hw2]; exact Rd.new _ _ _ _
  have hr2 : Rd 52 w0.heap.size s false w2 := by rw [hw2]; exact (Below.heap_alloc w1 _ _ hg12).trans hr1
  have hB2 : Below w.heap.size w w2 := by rw [hw2]; exact hB1.alloc hB1.size _
  have hg2 := hB1.size
  clear hw2 hr1 hB1
  generalize w0.heap.size = g1 at *
  generalize w1.heap.size = g2 at *
  unfold rdp
  go_wp2
  go_loopw [8] (fun i wr => ∃ (j : Nat) (t : ByteArray) (bad : Bool), j ≤ n ∧ i = .int .i64 j ∧ t.size ≤ 140737488351232 ∧ Vi.Sane t bad ∧ Rd 52 g1 t bad wr ∧ Rd 40 g2 t bad wr ∧ Below w.heap.size w wr) (fun i _ => n - (intOf i).toNat)
  case atStart => exact ⟨0, s, false, by omega, rfl, hs, (fun h => by cases h), hr2, hx2, hB2⟩
  case round =>
    obtain ⟨j, t, bad, hj, rfl, hts, hsane, hr, hx, hB⟩ := hrel
    clear hr2 hx2 hB2
    by_cases hlt : j < n ∧ j < 20
    · obtain ⟨hjn, hj20⟩ := hlt
      have hjn' : (j : Int) < n := by omega
      have hj20' : (j : Int) < 20 := by omega
      have hkj := HK.out j hjn
      have hab : a.block < w.heap.size := HBM.out (by omega)
      have hc0 : wr.cell? (a.add (j * 2)) = some (.int .u8 ((ks j : Nat) : Int)) := (hB.cell (p := a.add (j * 2)) (by rw [block_of_add]; exact hab)).trans (HC0.out j hjn)
      have hc1 : wr.cell? (a.add (j * 2 + 1)) = some (.int .i64 (ns j)) := (hB.cell (p := a.add (j * 2 + 1)) (by rw [block_of_add]; exact hab)).trans (HC1.out j hjn)
      have hp1 : a.add (j * 2 + 1) = ⟨(a.add (j * 2)).block, (a.add (j * 2)).off + 1, none⟩ := by
        unfold Addr.add
        by_cases h0 : j * 2 = 0 <;> simp [h0, Nat.add_assoc]
      rw [hp1] at hc1
      clear hp1
      have hpb : (a.add (j * 2)).block < w.heap.size := by rw [block_of_add]; exact hab
      generalize ks j = k at *
      generalize ns j = m at *
      obtain ⟨q, hq, hq8⟩ : ∃ q : Nat, (k : Int) % 8 = (q : Int) ∧ q < 8 := ⟨k % 8, by omega, by omega⟩
      unfold rdp at *
      rcases (show q = 0 ∨ q = 1 ∨ q = 2 ∨ q = 3 ∨ q = 4 ∨ q = 5 ∨ q = 6 ∨ q = 7 by omega) with rfl | rfl | rfl | rfl | rfl | rfl | rfl | rfl
      · have hsn := Vi.sane_var t bad hsane
        have htn : (Vi.varT t).size ≤ 140737488351232 := Nat.le_trans (Vi.varT_size t) hts
        have HP1 := Lib.hid (pair1 (p := ⟨(a.add (j * 2)).block, (a.add (j * 2)).off + 1, none⟩) (u := .int .i64 m) (t2 := t) (b2 := bad) hg12 hg1 hpb (fun W h => var_any g1 t bad W h (by omega)))
        have HP2 := Lib.hid (pair2 (p := ⟨(a.add (j * 2)).block, (a.add (j * 2)).off + 1, none⟩) (u := .int .i64 m) (t2 := Vi.varT t) (b2 := bad || !Vi.varO t) hg12 hg2 hpb (fun W h => rvar_any g2 t bad W h (by omega)))
        go_wp2_with fail
        refine (HP1.out _ hr hx hB hc1).mono ?_
        rintro e w3 ⟨rfl, hr3, hx3, hB3, hc3⟩
        clear hr hx hB hc1 hc0
        go_wp2_with fail
        refine (HP2.out _ hr3 hx3 hB3 hc3).mono ?_
        rintro e w4 ⟨rfl, hr4, hx4, hB4, hc4⟩
        clear hr3 hx3 hB3 hc3 hc4
        generalize Vi.varT t = T4 at *
        generalize (bad || !Vi.varO t) = B4 at *
        go_wp2
        have HSN := Lib.hid hsn
        have HTN := Lib.hid htn
        clear hsn htn HP1 HP2
        have x0 := hx4.cell0
        have x1 := hx4.cell1
        have hnb := not_beq B4
        have hok := fun W h => ok_any g1 T4 B4 W h
        have hle := fun W h => left_any g1 T4 B4 W h
        unfold rdp at hok hle
        have HOK := Lib.hid hok
        have HLE := Lib.hid hle
        clear hok hle
        go_region_held3 (fun W => W.cell? ⟨g2, 0, none⟩ = some (.string T4) ∧ W.cell? ⟨g2, 1, none⟩ = some (.bool B4)) ((first | exact ⟨x0, x1⟩ | go_keep)) (first
          | (go_at_call 29; ((with_reducible refine (HOK.out _ ?_).mono ?_); (exact hr4); rintro e w5 ⟨rfl, rfl⟩))
          | (go_at_call 30; ((with_reducible refine (HLE.out _ ?_).mono ?_); (exact hr4); rintro e w5 ⟨rfl, rfl⟩)))
        clear x0 x1
        go_wp2
        go_roundw
        case rel => exact ⟨j + 1, T4, B4, by omega, by go_num, HTN.out, HSN.out, hr4, hx4, hB4.drew⟩
        case measure => simp [intOf]; omega
      · have hsn := Vi.sane_fix t bad m hsane
        have htn : (Vi.fixT t m).size ≤ 140737488351232 := Nat.le_trans (Vi.fixT_size _ _) hts
        have HP1 := Lib.hid (pair1 (p := ⟨(a.add (j * 2)).block, (a.add (j * 2)).off + 1, none⟩) (u := .int .i64 m) (t2 := t) (b2 := bad) hg12 hg1 hpb (fun W h => fixedr_any g1 t bad m W h (by omega)))
        have HP2 := Lib.hid (pair2 (p := ⟨(a.add (j * 2)).block, (a.add (j * 2)).off + 1, none⟩) (u := .int .i64 m) (t2 := Vi.fixT t m) (b2 := bad || !Vi.hasF t m) hg12 hg2 hpb (fun W h => rfixedr_any g2 t bad m W h hsane (by omega)))
        generalize Vi.fixT t m = T4 at *
        generalize (bad || !Vi.hasF t m) = B4 at *
        generalize Vi.fixV t m = V4 at *
        have hBd := hB.drew
        clear hB
        unfold rdp at *
        go_wp2
        go_region_held3 (fun W => W.cell? ⟨(a.add (j * 2)).block, (a.add (j * 2)).off + 1, none⟩ = some (.int .i64 m)) ((first | assumption | go_keep)) (first
          | (go_at_call 21; ((with_reducible refine (HP1.out _ ?_ ?_ ?_ ?_).mono ?_); (exact hr); (exact hx); (exact hBd); (first | assumption | exact hc1); rintro e w3 ⟨rfl, hr3, hx3, hB3, hc3⟩))
          | (go_at_call 22; ((with_reducible refine (HP2.out _ ?_ ?_ ?_ ?_).mono ?_); (exact hr3); (exact hx3); (exact hB3); (first | assumption | exact hc3); rintro e w4 ⟨rfl, hr4, hx4, hB4, hc4⟩)))
        clear hr hx hBd hc1 hc0 hr3 hx3 hB3 hc3 hc4
        go_wp2
        have HSN := Lib.hid hsn
        have HTN := Lib.hid htn
        clear hsn htn HP1 HP2
        have x0 := hx4.cell0
        have x1 := hx4.cell1
        have hnb := not_beq B4
        have hok := fun W h => ok_any g1 T4 B4 W h
        have hle := fun W h => left_any g1 T4 B4 W h
        unfold rdp at hok hle
        have HOK := Lib.hid hok
        have HLE := Lib.hid hle
        clear hok hle
        go_region_held3 (fun W => W.cell? ⟨g2, 0, none⟩ = some (.string T4) ∧ W.cell? ⟨g2, 1, none⟩ = some (.bool B4)) ((first | exact ⟨x0, x1⟩ | go_keep)) (first
          | (go_at_call 29; ((with_reducible refine (HOK.out _ ?_).mono ?_); (exact hr4); rintro e w5 ⟨rfl, rfl⟩))
          | (go_at_call 30; ((with_reducible refine (HLE.out _ ?_).mono ?_); (exact hr4); rintro e w5 ⟨rfl, rfl⟩)))
        clear x0 x1
        go_wp2
        go_roundw
        case rel => exact ⟨j + 1, T4, B4, by omega, by go_num, HTN.out, HSN.out, hr4, hx4, hB4.drew⟩
        case measure => simp [intOf]; omega
      · have hsn := Vi.sane_tex t bad hsane
        have htn : (Vi.texT t).size ≤ 140737488351232 := Nat.le_trans (Vi.bytT_size _ _) (Nat.le_trans (Vi.varT_size t) hts)
        have HP1 := Lib.hid (pair1 (p := ⟨(a.add (j * 2)).block, (a.add (j * 2)).off + 1, none⟩) (u := .int .i64 m) (t2 := t) (b2 := bad) hg12 hg1 hpb (fun W h => textr_any g1 t bad W h (by omega)))
        have HP2 := Lib.hid (pair2 (p := ⟨(a.add (j * 2)).block, (a.add (j * 2)).off + 1, none⟩) (u := .int .i64 m) (t2 := Vi.texT t) (b2 := bad || !Vi.texO t) hg12 hg2 hpb (fun W h => rtextr_any g2 t bad W h hsane (by omega)))
        go_wp2_with fail
        refine (HP1.out _ hr hx hB hc1).mono ?_
        rintro e w3 ⟨rfl, hr3, hx3, hB3, hc3⟩
        clear hr hx hB hc1 hc0
        go_wp2_with fail
        refine (HP2.out _ hr3 hx3 hB3 hc3).mono ?_
        rintro e w4 ⟨rfl, hr4, hx4, hB4, hc4⟩
        clear hr3 hx3 hB3 hc3 hc4
        generalize Vi.texT t = T4 at *
        generalize (bad || !Vi.texO t) = B4 at *
        go_wp2
        have HSN := Lib.hid hsn
        have HTN := Lib.hid htn
        clear hsn htn HP1 HP2
        have x0 := hx4.cell0
        have x1 := hx4.cell1
        have hnb := not_beq B4
        have hok := fun W h => ok_any g1 T4 B4 W h
        have hle := fun W h => left_any g1 T4 B4 W h
        unfold rdp at hok hle
        have HOK := Lib.hid hok
        have HLE := Lib.hid hle
        clear hok hle
        go_region_held3 (fun W => W.cell? ⟨g2, 0, none⟩ = some (.string T4) ∧ W.cell? ⟨g2, 1, none⟩ = some (.bool B4)) ((first | exact ⟨x0, x1⟩ | go_keep)) (first
          | (go_at_call 29; ((with_reducible refine (HOK.out _ ?_).mono ?_); (exact hr4); rintro e w5 ⟨rfl, rfl⟩))
          | (go_at_call 30; ((with_reducible refine (HLE.out _ ?_).mono ?_); (exact hr4); rintro e w5 ⟨rfl, rfl⟩)))
        clear x0 x1
        go_wp2
        go_roundw
        case rel => exact ⟨j + 1, T4, B4, by omega, by go_num, HTN.out, HSN.out, hr4, hx4, hB4.drew⟩
        case measure => simp [intOf]; omega
      · have hsn := Vi.sane_byt t bad m hsane
        have htn : (Vi.bytT t m).size ≤ 140737488351232 := Nat.le_trans (Vi.bytT_size _ _) hts
        have HP1 := Lib.hid (pair1 (p := ⟨(a.add (j * 2)).block, (a.add (j * 2)).off + 1, none⟩) (u := .int .i64 m) (t2 := t) (b2 := bad) hg12 hg1 hpb (fun W h => bytes_any g1 t bad m W h (by omega)))
        have HP2 := Lib.hid (pair2 (p := ⟨(a.add (j * 2)).block, (a.add (j * 2)).off + 1, none⟩) (u := .int .i64 m) (t2 := Vi.bytT t m) (b2 := bad || !Vi.hasB t m) hg12 hg2 hpb (fun W h => rbytes_any g2 t bad m W h hsane (by omega)))
        generalize Vi.bytT t m = T4 at *
        generalize (bad || !Vi.hasB t m) = B4 at *
        generalize Vi.bytV t m = V4 at *
        have hBd := hB.drew
        clear hB
        unfold rdp at *
        go_wp2
        go_region_held3 (fun W => W.cell? ⟨(a.add (j * 2)).block, (a.add (j * 2)).off + 1, none⟩ = some (.int .i64 m)) ((first | assumption | go_keep)) (first
          | (go_at_call 25; ((with_reducible refine (HP1.out _ ?_ ?_ ?_ ?_).mono ?_); (exact hr); (exact hx); (exact hBd); (first | assumption | exact hc1); rintro e w3 ⟨rfl, hr3, hx3, hB3, hc3⟩))
          | (go_at_call 26; ((with_reducible refine (HP2.out _ ?_ ?_ ?_ ?_).mono ?_); (exact hr3); (exact hx3); (exact hB3); (first | assumption | exact hc3); rintro e w4 ⟨rfl, hr4, hx4, hB4, hc4⟩)))
        clear hr hx hBd hc1 hc0 hr3 hx3 hB3 hc3 hc4
        go_wp2
        have HSN := Lib.hid hsn
        have HTN := Lib.hid htn
        clear hsn htn HP1 HP2
        have x0 := hx4.cell0
        have x1 := hx4.cell1
        have hnb := not_beq B4
        have hok := fun W h => ok_any g1 T4 B4 W h
        have hle := fun W h => left_any g1 T4 B4 W h
        unfold rdp at hok hle
        have HOK := Lib.hid hok
        have HLE := Lib.hid hle
        clear hok hle
        go_region_held3 (fun W => W.cell? ⟨g2, 0, none⟩ = some (.string T4) ∧ W.cell? ⟨g2, 1, none⟩ = some (.bool B4)) ((first | exact ⟨x0, x1⟩ | go_keep)) (first
          | (go_at_call 29; ((with_reducible refine (HOK.out _ ?_).mono ?_); (exact hr4); rintro e w5 ⟨rfl, rfl⟩))
          | (go_at_call 30; ((with_reducible refine (HLE.out _ ?_).mono ?_); (exact hr4); rintro e w5 ⟨rfl, rfl⟩)))
        clear x0 x1
        go_wp2
        go_roundw
        case rel => exact ⟨j + 1, T4, B4, by omega, by go_num, HTN.out, HSN.out, hr4, hx4, hB4.drew⟩
        case measure => simp [intOf]; omega
      · obtain ⟨T4, hT4⟩ : ∃ T4 : ByteArray, T4 = ⟨#[]⟩ := ⟨_, rfl⟩
        obtain ⟨B4, hB4e⟩ : ∃ B4 : Bool, B4 = true := ⟨_, rfl⟩
        have hsn : Vi.Sane T4 B4 := fun _ => hT4
        have htn : T4.size ≤ 140737488351232 := by rw [hT4]; exact Nat.zero_le _
        have HP1 := Lib.hid (pair1 (p := ⟨(a.add (j * 2)).block, (a.add (j * 2)).off + 1, none⟩) (u := .int .i64 m) (t' := T4) (b' := B4) (t2 := t) (b2 := bad) hg12 hg1 hpb (fun W h => by rw [hT4, hB4e]; exact fail_any g1 t bad W h))
        have HP2 := Lib.hid (pair2 (p := ⟨(a.add (j * 2)).block, (a.add (j * 2)).off + 1, none⟩) (u := .int .i64 m) (t' := T4) (b' := B4) (t2 := T4) (b2 := B4) hg12 hg2 hpb (fun W h => by rw [hT4, hB4e]; exact rfail_any g2 t bad W h))
        clear hT4 hB4e
        go_wp2_with fail
        refine (HP1.out _ hr hx hB hc1).mono ?_
        rintro e w3 ⟨rfl, hr3, hx3, hB3, hc3⟩
        clear hr hx hB hc1 hc0
        go_wp2_with fail
        refine (HP2.out _ hr3 hx3 hB3 hc3).mono ?_
        rintro e w4 ⟨rfl, hr4, hx4, hB4, hc4⟩
        clear hr3 hx3 hB3 hc3 hc4
        go_wp2
        have HSN := Lib.hid hsn
        have HTN := Lib.hid htn
        clear hsn htn HP1 HP2
        have x0 := hx4.cell0
        have x1 := hx4.cell1
        have hnb := not_beq B4
        have hok := fun W h => ok_any g1 T4 B4 W h
        have hle := fun W h => left_any g1 T4 B4 W h
        unfold rdp at hok hle
        have HOK := Lib.hid hok
        have HLE := Lib.hid hle
        clear hok hle
        go_region_held3 (fun W => W.cell? ⟨g2, 0, none⟩ = some (.string T4) ∧ W.cell? ⟨g2, 1, none⟩ = some (.bool B4)) ((first | exact ⟨x0, x1⟩ | go_keep)) (first
          | (go_at_call 29; ((with_reducible refine (HOK.out _ ?_).mono ?_); (exact hr4); rintro e w5 ⟨rfl, rfl⟩))
          | (go_at_call 30; ((with_reducible refine (HLE.out _ ?_).mono ?_); (exact hr4); rintro e w5 ⟨rfl, rfl⟩)))
        clear x0 x1
        go_wp2
        go_roundw
        case rel => exact ⟨j + 1, T4, B4, by omega, by go_num, HTN.out, HSN.out, hr4, hx4, hB4.drew⟩
        case measure => simp [intOf]; omega
      · have hsn := Vi.sane_var t bad hsane
        have htn : (Vi.varT t).size ≤ 140737488351232 := Nat.le_trans (Vi.varT_size t) hts
        have HP1 := Lib.hid (pair1 (p := ⟨(a.add (j * 2)).block, (a.add (j * 2)).off + 1, none⟩) (u := .int .i64 m) (t2 := t) (b2 := bad) hg12 hg1 hpb (fun W h => var_any g1 t bad W h (by omega)))
        have HP2 := Lib.hid (pair2 (p := ⟨(a.add (j * 2)).block, (a.add (j * 2)).off + 1, none⟩) (u := .int .i64 m) (t2 := Vi.varT t) (b2 := bad || !Vi.varO t) hg12 hg2 hpb (fun W h => rvar_any g2 t bad W h (by omega)))
        go_wp2_with fail
        refine (HP1.out _ hr hx hB hc1).mono ?_
        rintro e w3 ⟨rfl, hr3, hx3, hB3, hc3⟩
        clear hr hx hB hc1 hc0
        go_wp2_with fail
        refine (HP2.out _ hr3 hx3 hB3 hc3).mono ?_
        rintro e w4 ⟨rfl, hr4, hx4, hB4, hc4⟩
        clear hr3 hx3 hB3 hc3 hc4
        generalize Vi.varT t = T4 at *
        generalize (bad || !Vi.varO t) = B4 at *
        go_wp2
        have HSN := Lib.hid hsn
        have HTN := Lib.hid htn
        clear hsn htn HP1 HP2
        have x0 := hx4.cell0
        have x1 := hx4.cell1
        have hnb := not_beq B4
        have hok := fun W h => ok_any g1 T4 B4 W h
        have hle := fun W h => left_any g1 T4 B4 W h
        unfold rdp at hok hle
        have HOK := Lib.hid hok
        have HLE := Lib.hid hle
        clear hok hle
        go_region_held3 (fun W => W.cell? ⟨g2, 0, none⟩ = some (.string T4) ∧ W.cell? ⟨g2, 1, none⟩ = some (.bool B4)) ((first | exact ⟨x0, x1⟩ | go_keep)) (first
          | (go_at_call 29; ((with_reducible refine (HOK.out _ ?_).mono ?_); (exact hr4); rintro e w5 ⟨rfl, rfl⟩))
          | (go_at_call 30; ((with_reducible refine (HLE.out _ ?_).mono ?_); (exact hr4); rintro e w5 ⟨rfl, rfl⟩)))
        clear x0 x1
        go_wp2
        go_roundw
        case rel => exact ⟨j + 1, T4, B4, by omega, by go_num, HTN.out, HSN.out, hr4, hx4, hB4.drew⟩
        case measure => simp [intOf]; omega
      · have hsn := Vi.sane_var t bad hsane
        have htn : (Vi.varT t).size ≤ 140737488351232 := Nat.le_trans (Vi.varT_size t) hts
        have HP1 := Lib.hid (pair1 (p := ⟨(a.add (j * 2)).block, (a.add (j * 2)).off + 1, none⟩) (u := .int .i64 m) (t2 := t) (b2 := bad) hg12 hg1 hpb (fun W h => var_any g1 t bad W h (by omega)))
        have HP2 := Lib.hid (pair2 (p := ⟨(a.add (j * 2)).block, (a.add (j * 2)).off + 1, none⟩) (u := .int .i64 m) (t2 := Vi.varT t) (b2 := bad || !Vi.varO t) hg12 hg2 hpb (fun W h => rvar_any g2 t bad W h (by omega)))
        go_wp2_with fail
        refine (HP1.out _ hr hx hB hc1).mono ?_
        rintro e w3 ⟨rfl, hr3, hx3, hB3, hc3⟩
        clear hr hx hB hc1 hc0
        go_wp2_with fail
        refine (HP2.out _ hr3 hx3 hB3 hc3).mono ?_
        rintro e w4 ⟨rfl, hr4, hx4, hB4, hc4⟩
        clear hr3 hx3 hB3 hc3 hc4
        generalize Vi.varT t = T4 at *
        generalize (bad || !Vi.varO t) = B4 at *
        go_wp2
        have HSN := Lib.hid hsn
        have HTN := Lib.hid htn
        clear hsn htn HP1 HP2
        have x0 := hx4.cell0
        have x1 := hx4.cell1
        have hnb := not_beq B4
        have hok := fun W h => ok_any g1 T4 B4 W h
        have hle := fun W h => left_any g1 T4 B4 W h
        unfold rdp at hok hle
        have HOK := Lib.hid hok
        have HLE := Lib.hid hle
        clear hok hle
        go_region_held3 (fun W => W.cell? ⟨g2, 0, none⟩ = some (.string T4) ∧ W.cell? ⟨g2, 1, none⟩ = some (.bool B4)) ((first | exact ⟨x0, x1⟩ | go_keep)) (first
          | (go_at_call 29; ((with_reducible refine (HOK.out _ ?_).mono ?_); (exact hr4); rintro e w5 ⟨rfl, rfl⟩))
          | (go_at_call 30; ((with_reducible refine (HLE.out _ ?_).mono ?_); (exact hr4); rintro e w5 ⟨rfl, rfl⟩)))
        clear x0 x1
        go_wp2
        go_roundw
        case rel => exact ⟨j + 1, T4, B4, by omega, by go_num, HTN.out, HSN.out, hr4, hx4, hB4.drew⟩
        case measure => simp [intOf]; omega
      · have hsn := Vi.sane_var t bad hsane
        have htn : (Vi.varT t).size ≤ 140737488351232 := Nat.le_trans (Vi.varT_size t) hts
        have HP1 := Lib.hid (pair1 (p := ⟨(a.add (j * 2)).block, (a.add (j * 2)).off + 1, none⟩) (u := .int .i64 m) (t2 := t) (b2 := bad) hg12 hg1 hpb (fun W h => var_any g1 t bad W h (by omega)))
        have HP2 := Lib.hid (pair2 (p := ⟨(a.add (j * 2)).block, (a.add (j * 2)).off + 1, none⟩) (u := .int .i64 m) (t2 := Vi.varT t) (b2 := bad || !Vi.varO t) hg12 hg2 hpb (fun W h => rvar_any g2 t bad W h (by omega)))
        go_wp2_with fail
        refine (HP1.out _ hr hx hB hc1).mono ?_
        rintro e w3 ⟨rfl, hr3, hx3, hB3, hc3⟩
        clear hr hx hB hc1 hc0
        go_wp2_with fail
        refine (HP2.out _ hr3 hx3 hB3 hc3).mono ?_
        rintro e w4 ⟨rfl, hr4, hx4, hB4, hc4⟩
        clear hr3 hx3 hB3 hc3 hc4
        generalize Vi.varT t = T4 at *
        generalize (bad || !Vi.varO t) = B4 at *
        go_wp2
        have HSN := Lib.hid hsn
        have HTN := Lib.hid htn
        clear hsn htn HP1 HP2
        have x0 := hx4.cell0
        have x1 := hx4.cell1
        have hnb := not_beq B4
        have hok := fun W h => ok_any g1 T4 B4 W h
        have hle := fun W h => left_any g1 T4 B4 W h
        unfold rdp at hok hle
        have HOK := Lib.hid hok
        have HLE := Lib.hid hle
        clear hok hle
        go_region_held3 (fun W => W.cell? ⟨g2, 0, none⟩ = some (.string T4) ∧ W.cell? ⟨g2, 1, none⟩ = some (.bool B4)) ((first | exact ⟨x0, x1⟩ | go_keep)) (first
          | (go_at_call 29; ((with_reducible refine (HOK.out _ ?_).mono ?_); (exact hr4); rintro e w5 ⟨rfl, rfl⟩))
          | (go_at_call 30; ((with_reducible refine (HLE.out _ ?_).mono ?_); (exact hr4); rintro e w5 ⟨rfl, rfl⟩)))
        clear x0 x1
        go_wp2
        go_roundw
        case rel => exact ⟨j + 1, T4, B4, by omega, by go_num, HTN.out, HSN.out, hr4, hx4, hB4.drew⟩
        case measure => simp [intOf]; omega
    · rcases (show ¬ j < n ∨ (j < n ∧ ¬ j < 20) by omega) with h | ⟨h, h'⟩
      · have h1 : decide (j < n) = false := decide_eq_false h
        go_wp2
        go_ret
        exact ⟨rfl, hB⟩
      · have h1 : ¬ ((j : Int) < 20) := by omega
        have h2 : (j : Int) < n := by omega
        go_wp2
        go_ret
        exact ⟨rfl, hB⟩
set_option maxHeartbeats 2000000 in
set_option maxRecDepth 100000 in
theorem reads_nil (s : ByteArray) (w : World) :
    Calls Try.prog 4 #[.string s, .slice none 0 0] w fun e w' => e = .returned (.bool true) ∧ Below w.heap.size w w' := by
  go_enter Try.func4, Try.ntmps4
  go_wp2_with fail
  refine (examples_any w).mono ?_
  rintro e w0 ⟨rfl, hB0⟩
  go_wp2_with fail
  refine (new_any _ w0).mono ?_
  rintro e w1 ⟨rfl, hw1⟩
  have hB1 : Below w.heap.size w w1 := by rw [hw1]; exact hB0.alloc hB0.size _
  clear hw1 hB0
  generalize w0.heap.size = g1 at *
  unfold rdp
  go_wp2_with fail
  refine (rnew_any _ w1).mono ?_
  rintro e w2 ⟨rfl, hw2⟩
  have hB2 : Below w.heap.size w w2 := by rw [hw2]; exact hB1.alloc hB1.size _
  clear hw2 hB1
  generalize w1.heap.size = g2 at *
  unfold rdp
  go_wp2
  refine wp_loop_rounds 1 ?_
  rw [rounds_succ]
  go_wp2
  go_ret
  exact ⟨rfl, hB2⟩
end Go.Proofs.Yteodbdgjfalgcaa
