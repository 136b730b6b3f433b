/-
  The walk of the law VarintMany.
  Conditions: the slice's cells are there.
-/
import Derived.Test.YteodbdgjfalgcaaReads0
namespace Go.Proofs.Yteodbdgjfalgcaa
open Go.RowKit
theorem block_of_add (a : Addr) (n : Nat) : (a.add n).block = a.block := by unfold Addr.add; split <;> rfl
namespace Vi
/-- What was put, one behind the other. -/
def catB : List Nat → ByteArray
  | [] => ⟨#[]⟩
  | n :: l => putB n ++ catB l
theorem append_nil (a : ByteArray) : a ++ (⟨#[]⟩ : ByteArray) = a := by
  apply ByteArray.ext; simp [ByteArray.data_append]
theorem nil_append (a : ByteArray) : (⟨#[]⟩ : ByteArray) ++ a = a := by
  apply ByteArray.ext; simp [ByteArray.data_append]
theorem catB_snoc : ∀ (l : List Nat) (n : Nat), catB (l ++ [n]) = catB l ++ putB n
  | [], n => by show putB n ++ (⟨#[]⟩ : ByteArray) = (⟨#[]⟩ : ByteArray) ++ putB n; rw [append_nil, nil_append]
  | m :: l, n => by
    show putB m ++ catB (l ++ [n]) = putB m ++ catB l ++ putB n
    rw [catB_snoc l n, append_assoc3]
theorem catB_size (l : List Nat) (h : ∀ x ∈ l, x < 18446744073709551616) : (catB l).size ≤ 10 * l.length := by
  induction l with
  | nil => exact Nat.zero_le _
  | cons n l ih =>
    show (putB n ++ catB l).size ≤ _
    rw [ByteArray.size_append, List.length_cons]
    have h1 : (putB n).size ≤ 10 := by unfold putB; rw [str_size]; exact put_length_le n 9 (Nat.lt_trans (h n (by simp)) (by decide))
    have h2 := ih (fun x hx => h x (by simp [hx]))
    omega
end Vi
set_option maxHeartbeats 2000000 in
set_option maxRecDepth 100000 in
theorem many_nil (w : World) :
    Calls Try.prog 8 #[.slice none 0 0] w fun e w' => e = .returned (.bool true) ∧ Below w.heap.size w w' := by
  go_enter Try.func8, Try.ntmps8
  go_wp2_with fail
  refine (examples_any w).mono ?_
  rintro e w0 ⟨rfl, hB0⟩
  go_wp2
  refine wp_loop_rounds 1 ?_
  rw [rounds_succ]
  go_wp2_with fail
  refine (new_any _ w0).mono ?_
  rintro e w1 ⟨rfl, hw1⟩
  have hr1 : Rd 52 w0.heap.size ⟨#[]⟩ false w1 := by rw [hw1]; exact Rd.new _ _ _ _
  have hB1 : Below w.heap.size w w1 := by rw [hw1]; exact hB0.alloc hB0.size _
  clear hw1 hB0
  generalize w0.heap.size = g at *
  unfold rdp
  go_wp2
  refine wp_loop_rounds 1 ?_
  rw [rounds_succ]
  go_wp2_with fail
  refine (ok_any g _ _ w1 hr1).mono ?_
  rintro e w9 ⟨rfl, rfl⟩
  go_wp2_with fail
  refine (left_any g _ _ w1 hr1).mono ?_
  rintro e w9 ⟨rfl, rfl⟩
  go_wp2
  go_ret
  exact ⟨rfl, hB1⟩

set_option maxHeartbeats 2000000 in
set_option maxRecDepth 100000 in
theorem many_some (a : Addr) (n cap : Nat) (zs : List Nat) (w : World) (hn : n ≤ zs.length) (hnc : n ≤ cap) (hz : ∀ x ∈ zs, x < 18446744073709551616) (hb : 0 < n → a.block < w.heap.size)
    (hc : ∀ j, j < n → w.cell? (a.add j) = some (.int .u64 ((zs.getD j 0 : Nat) : Int))) :
    Calls Try.prog 8 #[.slice (some a) n cap] w fun e w' => e = .returned (.bool true) ∧ Below w.heap.size w w' := by
  have HZ := Lib.hid hz
  have HC := Lib.hid hc
  clear hz hc
  obtain ⟨m, hm⟩ : ∃ m, m = min n 20 := ⟨_, rfl⟩
  have hmn : m ≤ n := by omega
  have hm20 : m ≤ 20 := by omega
  have hmi : (if (20 : Int) < (n : Int) then (20 : Int) else (n : Int)) = (m : Int) := by split <;> omega
  have hmc : (m : Int) ≤ cap := by omega
  have hmc' : m ≤ cap := by omega
  clear hm
  go_enter Try.func8, Try.ntmps8
  go_wp2_with fail
  refine (examples_any w).mono ?_
  rintro e w0 ⟨rfl, hB0⟩
  go_wp2
  obtain ⟨l, hl⟩ : ∃ l, l = zs.take m := ⟨_, rfl⟩
  have hlen : l.length = m := by rw [hl, List.length_take]; omega
  have hHL : ∀ j, j < m → w.cell? (a.add j) = some (.int .u64 ((l.getD j 0 : Nat) : Int)) ∧ l.getD j 0 < 18446744073709551616 := fun j hj => by
    have e : l.getD j 0 = zs.getD j 0 := by rw [hl, List.getD_eq_getElem?_getD, List.getElem?_take, if_pos hj, List.getD_eq_getElem?_getD]
    rw [e]
    refine ⟨HC.out j (by omega), ?_⟩
    rw [List.getD_eq_getElem?_getD, List.getElem?_eq_getElem (show j < zs.length by omega)]
    exact HZ.out _ (List.getElem_mem _)
  have hZL : ∀ x ∈ l, x < 18446744073709551616 := fun x hx => HZ.out x (by rw [hl] at hx; exact List.mem_of_mem_take hx)
  have hbm : 0 < m → a.block < w.heap.size := fun h => hb (by omega)
  have HL := Lib.hid hHL
  have HZL := Lib.hid hZL
  have HBM := Lib.hid hbm
  have HLEN := Lib.hid hlen
  clear hl hHL hZL HC HZ hmi hb hbm hlen hn hnc hmn hmc hmc'
  go_loopw [4, 5, 6] (fun s c i wr => ∃ k : Nat, k ≤ m ∧ i = .int .i64 k ∧ s = .string (Vi.catB (l.take k)) ∧ c = .int .i64 (((Vi.catB (l.take k)).size : Nat) : Int) ∧ Below w.heap.size w wr) (fun _ _ i _ => m - (intOf i).toNat)
  case atStart => exact ⟨0, by omega, rfl, rfl, rfl, hB0⟩
  case round =>
    obtain ⟨k, hk, rfl, rfl, rfl, hBr⟩ := hrel
    have hsz : (Vi.catB (l.take k)).size ≤ 200 := by
      have h1 := Vi.catB_size (l.take k) (fun x hx => HZL.out x (List.mem_of_mem_take hx))
      rw [List.length_take] at h1
      omega
    by_cases hlt : k < m
    · obtain ⟨hck, hzk⟩ := HL.out k hlt
      have hcr : wr.cell? (a.add k) = some (.int .u64 ((l.getD k 0 : Nat) : Int)) := (hBr.cell (p := a.add k) (by rw [block_of_add]; exact HBM.out (by omega))).trans hck
      clear hck
      have HT : Hid (Vi.catB (l.take (k + 1)) = Vi.catB (l.take k) ++ Vi.putB (l.getD k 0)) := by
        show _ = _
        rw [Vi.getD_take l k (by rw [HLEN.out]; exact hlt), Vi.catB_snoc]
      generalize Vi.catB (l.take k) = t at *
      generalize l.getD k 0 = z at *
      have hps := putB_size z hzk
      have HZK := Lib.hid hzk
      clear hzk
      go_wp2_with fail
      refine (put_any z _ HZK.out).mono ?_
      rintro e w1 ⟨rfl, hb1⟩
      have hB1 := hBr.trans (hb1.mono hBr.size)
      have hc1 := (hb1.cell (p := a.add k) (World.block_lt_of_cell? wr _ hcr)).trans hcr
      clear hcr hb1 hBr
      go_wp2
      have hpl : (Vi.put z).length = (Vi.putB z).size := by unfold Vi.putB; rw [Vi.str_size]
      have HPL := Lib.hid hpl
      clear hpl
      go_loop [5, 7] (fun c q => ∃ (c' q' : Nat), c = .int .i64 c' ∧ q = .int .u64 q' ∧ q' < 18446744073709551616 ∧ c' ≤ 220 ∧ Hid (c' + (Vi.put q').length = t.size + 1 + (Vi.put z).length)) (fun _ q => (intOf q).toNat)
      case atStart => exact ⟨t.size + 1, z, by go_num, rfl, HZK.out, by omega, rfl⟩
      case round =>
        obtain ⟨c', q', rfl, rfl, hq', hc', HE⟩ := hrel
        have hqi : (q' : Int) ≤ 18446744073709551615 := by omega
        have HQ' := Lib.hid hq'
        clear hq'
        by_cases h128 : 128 ≤ q'
        · go_wp2
          go_round
          case rel =>
            have he := HE.out
            rw [Vi.put_big q' h128, List.length_cons] at he
            have hlp := Vi.put_length_pos (q' / 128)
            have h1 := HPL.out
            exact ⟨c' + 1, q' / 128, by go_num, by (first | rfl | (push_cast; rfl)), by have := HQ'.out; omega, by omega, by show _ = _; omega⟩
          case measure => simp [intOf]; omega
        · have he := HE.out
          rw [Vi.put_small q' (by omega), List.length_singleton] at he
          have hcz : c' = (t ++ Vi.putB z).size := by rw [ByteArray.size_append]; have := HPL.out; omega
          have HCZ := Lib.hid hcz
          clear hcz he
          go_wp2
          go_roundw
          case rel => exact ⟨k + 1, by omega, by go_num, by rw [HT.out], by rw [HT.out, HCZ.out], hB1⟩
          case measure => simp [intOf]; omega
    · have hkm : k = m := by omega
      subst hkm
      have HT : Hid (l.take k = l) := by show _ = _; rw [List.take_of_length_le (by have := HLEN.out; omega)]
      rw [HT.out] at hsz ⊢
      have HCL := Lib.hid (show Vi.catB l = Vi.catB (l.drop 0) from rfl)
      clear HT
      go_wp2_with fail
      refine (new_any _ wr).mono ?_
      rintro e w1 ⟨rfl, hw1⟩
      have hr1 : Rd 52 wr.heap.size (Vi.catB l) false w1 := by rw [hw1]; exact Rd.new _ _ _ _
      have hB1 : Below w.heap.size w w1 := by rw [hw1]; exact hBr.alloc hBr.size _
      have hg := hBr.size
      clear hw1 hBr
      generalize wr.heap.size = g at *
      unfold rdp
      generalize Vi.catB l = L at *
      go_wp2
      rw [HCL.out] at hr1
      go_loopw [9] (fun i wr => ∃ j : Nat, j ≤ k ∧ i = .int .i64 j ∧ Rd 52 g (Vi.catB (l.drop j)) false wr ∧ Below w.heap.size w wr) (fun i _ => k - (intOf i).toNat)
      case atStart => exact ⟨0, by omega, rfl, hr1, hB1⟩
      case round =>
        obtain ⟨j, hj, rfl, hrj, hBj⟩ := hrel
        by_cases hlt : j < k
        · obtain ⟨hck, hzk⟩ := HL.out j hlt
          have hcr := (hBj.cell (p := a.add j) (by rw [block_of_add]; exact HBM.out (by omega))).trans hck
          have hab : a.block < w.heap.size := HBM.out (by omega)
          have hdz := Vi.catB_size (l.drop j) (fun x hx => HZL.out x (List.mem_of_mem_drop hx))
          rw [List.length_drop, HLEN.out] at hdz
          have hdrop : l.drop j = l.getD j 0 :: l.drop (j + 1) := by
            rw [List.drop_eq_getElem_cons (by rw [HLEN.out]; exact hlt), List.getD_eq_getElem?_getD, List.getElem?_eq_getElem (by rw [HLEN.out]; exact hlt)]; rfl
          have hval := Vi.var_put (l.getD j 0) hzk (Vi.catB (l.drop (j + 1)))
          have hcat : Vi.catB (l.drop j) = Vi.putB (l.getD j 0) ++ Vi.catB (l.drop (j + 1)) := by rw [hdrop]; rfl
          rw [← hcat] at hval
          have hcall : ∀ W, Rd 52 g (Vi.catB (l.drop j)) false W → W.cell? (a.add j) = some (.int .u64 ((l.getD j 0 : Nat) : Int)) → Calls Try.prog 19 #[rdp g] W fun e w' => e = .returned (.int .u64 ((l.getD j 0 : Nat) : Int)) ∧ Rd 52 g (Vi.catB (l.drop (j + 1))) false w' ∧ W.grownBy w' (some g) ∧ w'.cell? (a.add j) = some (.int .u64 ((l.getD j 0 : Nat) : Int)) := by
            intro W h1 h2
            refine (var_any g _ false W h1 (by omega)).mono ?_
            rintro e w' ⟨rfl, h3, h4⟩
            rw [hval.2.1, hval.2.2] at h3
            rw [hval.1]
            exact ⟨rfl, h3, h4, h4.cell h2 (by rw [block_of_add]; intro hh; injection hh with hh; omega)⟩
          unfold rdp at hcall
          have HCALL := Lib.hid hcall
          clear hck hzk hdz hdrop hval hcat hcall hr1 hB1
          generalize Vi.catB (l.drop j) = D at *
          generalize hd : Vi.catB (l.drop (j + 1)) = D' at *
          have HD := Lib.hid hd
          clear hd
          generalize hz : l.getD j 0 = z at *
          clear hz
          have hji : (j : Int) < k := by omega
          go_wp2
          go_region_held3 (fun W => W.cell? (a.add j) = some (.int .u64 ((z : Nat) : Int))) ((first | assumption | go_keep)) (first
            | (go_at_call 19; ((with_reducible refine (HCALL.out _ ?_ ?_).mono ?_); (exact hrj); (first | assumption | exact hcr); rintro e w4 ⟨rfl, hr4, hg4, hc4⟩)))
          have hB4 := below_grownBy hBj.drew hg4 hBj.size hg
          clear hcr hg4 HCALL hBj hrj
          go_wp2
          go_roundw
          case rel => exact ⟨j + 1, by omega, by go_num, by rw [HD.out]; exact hr4, hB4⟩
          case measure => simp [intOf]; omega
        · have hjk : j = k := by omega
          subst hjk
          have he : Vi.catB (l.drop j) = ⟨#[]⟩ := by rw [List.drop_of_length_le (by rw [HLEN.out]; exact Nat.le_refl _)]; rfl
          rw [he] at hrj
          clear he
          go_wp2_with fail
          refine (ok_any g _ _ wr hrj).mono ?_
          rintro e w9 ⟨rfl, rfl⟩
          go_wp2_with fail
          refine (left_any g _ _ wr hrj).mono ?_
          rintro e w9 ⟨rfl, rfl⟩
          go_wp2
          go_ret
          exact ⟨rfl, hBj⟩
end Go.Proofs.Yteodbdgjfalgcaa
