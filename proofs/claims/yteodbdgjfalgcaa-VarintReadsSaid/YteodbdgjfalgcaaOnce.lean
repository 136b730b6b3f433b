/-
  The walk of the law VarintOnce.
  Conditions: none.
-/
import Derived.Test.YteodbdgjfalgcaaEx
import Derived.Lib.ConvBytes
namespace Go.Proofs.Yteodbdgjfalgcaa
open Go.RowKit
/-- A row of bytes of block g. -/
def LRow (g : Nat) (l : List Nat) (w : World) : Prop := ∀ j, j < l.length → w.cell? ⟨g, j, none⟩ = some (.int .u8 ((l.getD j 0 : Nat) : Int)) ∧ w.frozen? ⟨g, j, none⟩ = false
theorem LRow.set {g : Nat} {l : List Nat} {w : World} (h : LRow g l w) (k v : Nat) : LRow g (l.set k v) (w.setCell ⟨g, k, none⟩ (.int .u8 ((v : Nat) : Int))) := by
  intro j hj
  rw [List.length_set] at hj
  rw [World.frozen?_setCell]
  refine ⟨?_, (h j hj).2⟩
  by_cases e : j = k
  · subst e
    rw [World.cell?_setCell_same _ _ _ (h j hj).1, List.getD_eq_getElem?_getD, List.getElem?_set_self hj]; rfl
  · rw [World.cell?_setCell_other _ _ _ _ (by intro hh; cases hh; exact e rfl), (h j hj).1, List.getD_eq_getElem?_getD, List.getD_eq_getElem?_getD, List.getElem?_set_ne (fun hh => e hh.symm)]
theorem LRow.conv (w : World) (s : ByteArray) : LRow w.heap.size (Vi.nums s) (Lib.bytesWorld w 5 s) := by
  intro j hj
  rw [Vi.nums_length] at hj
  refine ⟨?_, ?_⟩
  · rw [Lib.bytesWorld_cell w 5 s j hj]
    have e : (s.data.toList.getD j 0).toNat = (Vi.nums s).getD j 0 := by
      unfold Vi.nums
      rw [List.getD_eq_getElem?_getD, List.getD_eq_getElem?_getD, List.getElem?_map]
      cases s.data.toList[j]? <;> rfl
    rw [e]
  · have h := Lib.bytesWorld_at_new w 5 s
    have hz : s.size ≤ (Lib.bytesCells w 5 s).size := by simp [Lib.bytesCells]
    simp only [World.frozen?, h]
    simp; omega
theorem below_conv (w : World) (s : ByteArray) : Below w.heap.size w (Lib.bytesWorld w 5 s) :=
  Lib.below_freeze (((Below.refl _ w).drew).alloc (Nat.le_refl _) _) (p := ⟨w.heap.size, _, none⟩) (Nat.le_refl _) _
theorem LRow.str {g n : Nat} {l : List Nat} {w : World} (h : LRow g l w) (hn : l.length = n) (cap : Nat) : (convert 44 9 (.slice (some ⟨g, 0, none⟩) n cap)).run Try.prog w = .ok (.string (Vi.str l)) w :=
  run_convert_bytes_arg (P := Try.prog) w 44 5 Try.underlying44 Try.underlying5 g 0 n cap (l.map fun (x : Nat) => ((x : Nat) : Int)) (by simpa using hn)
    (fun i hi => by
      rw [Nat.zero_add, (h i (by omega)).1]
      have hi' : i < l.length := by omega
      simp [List.getD_eq_getElem?_getD, List.getElem?_eq_getElem hi']) 9 Try.underlying9
namespace Vi
theorem nums_append (a b : ByteArray) : nums (a ++ b) = nums a ++ nums b := by
  unfold nums
  rw [ByteArray.data_append, Array.toList_append, List.map_append]
theorem nums_putB (n : Nat) : nums (putB n) = put n := nums_str _ (put_lt n)
theorem or_lt (x : Nat) (h : x < 128) : x ||| 128 < 256 := Nat.or_lt_two_pow (n := 8) (by omega) (by omega)
/-- What is longer than it need be, and what is cut, is none. -/
theorem once_no (a m x : Nat) (pre : List Nat) (e : put a = pre ++ [x]) (hx : x < 128) (hm : pre.length = m) :
    okL (nums (str (pre ++ [x ||| 128]) ++ ⟨#[0]⟩)) = false ∧ okL (nums ((putB a).extract 0 m)) = false := by
  have hl := put_long a pre x e
  constructor
  · have h1 : ∀ y ∈ pre ++ [x ||| 128], y < 256 := by
      intro y hy
      rcases List.mem_append.1 hy with hy | hy
      · exact put_lt a y (by rw [e]; exact List.mem_append_left _ hy)
      · rw [List.mem_singleton] at hy; rw [hy]; exact or_lt x hx
    rw [nums_append, nums_str _ h1]
    exact hl.1
  · rw [nums_extract, nums_putB, e, List.drop_zero, Nat.sub_zero, ← hm, List.take_left]
    exact hl.2
end Vi
set_option maxHeartbeats 2000000 in
set_option maxRecDepth 100000 in
theorem once_law (a b : Nat) (w : World) (ha : a < 18446744073709551616) (hb : b < 18446744073709551616) :
    Calls Try.prog 6 #[.int .u64 a, .int .u64 b] w fun e w' => e = .returned (.bool true) ∧ Below w.heap.size w w' := by
  have hcv := fun (W : World) (t : ByteArray) => Lib.run_convert_string_bytes (P := Try.prog) W 9 44 5 t Try.underlying9 Try.underlying44 Try.underlying5
  have HA := Lib.hid ha
  have HB := Lib.hid hb
  have hAle := putB_size a ha
  have hBle := putB_size b hb
  obtain ⟨pre, x, he, -, hx, -⟩ := Vi.put_form a
  obtain ⟨m, hm⟩ : ∃ m, m = pre.length := ⟨_, rfl⟩
  have hAs : (Vi.putB a).size = m + 1 := by unfold Vi.putB; rw [Vi.str_size, he, hm]; simp
  have HNO := Lib.hid (Vi.once_no a m x pre he hx hm.symm)
  have HAN : Hid (Vi.nums (Vi.putB a) = pre ++ [x]) := by show _ = _; rw [Vi.nums_putB, he]
  have HLE : Hid (a ≤ b → (Vi.putB a).size ≤ (Vi.putB b).size) := fun h => by
    unfold Vi.putB; rw [Vi.str_size, Vi.str_size]; exact Vi.put_length_mono a b h
  have HNE : Hid (a ≠ b → ((Vi.putB a).toList == (Vi.putB b).toList) = false) := fun h => by
    rw [Vi.beq_nums, Vi.nums_putB, Vi.nums_putB, decide_eq_false_iff_not]
    exact fun e => h (Vi.put_inj e)
  have HEQ : Hid (a = b → Vi.putB a = Vi.putB b) := fun h => by rw [h]
  have HM := Lib.hid hm
  clear ha hb he hm
  go_enter Try.func6, Try.ntmps6
  go_wp2_with fail
  refine (examples_any w).mono ?_
  rintro e w0 ⟨rfl, hB0⟩
  go_wp2_with fail
  refine (put_any a w0 HA.out).mono ?_
  rintro e w1 ⟨rfl, hb1⟩
  have hB1 := hB0.trans (hb1.mono hB0.size)
  go_wp2_with fail
  refine (put_any b w1 HB.out).mono ?_
  rintro e w2 ⟨rfl, hb2⟩
  have hB2 := hB1.trans (hb2.mono hB1.size)
  clear hB0 hb1 hB1 hb2
  generalize Vi.putB a = A at *
  generalize Vi.putB b = B at *
  have hm9 : (m : Int) ≤ 9 := by omega
  have hI := LRow.conv w2 A
  rw [HAN.out] at hI
  have hml := HM.out
  have hc : (Lib.bytesWorld w2 5 A).cell? ⟨w2.heap.size, m, none⟩ = some (.int .u8 (x : Int)) := by
    have h := (hI m (by rw [List.length_append, List.length_singleton]; omega)).1
    rw [List.getD_eq_getElem?_getD, List.getElem?_append_right (by omega), hml, Nat.sub_self] at h
    rw [hml]; exact h
  have hf := (hI m (by rw [List.length_append, List.length_singleton]; omega)).2
  obtain ⟨y, hy⟩ : ∃ y, y = x ||| 128 := ⟨_, rfl⟩
  have hO : bits BinOp.or IntKind.u8 (x : Int) 128 = (y : Int) := by rw [hy]; exact u8_or_nat x 128 (by omega) (by omega)
  have hS := hI.set m y
  have hes : (pre ++ [x]).set m y = pre ++ [y] := by rw [List.set_append_right _ _ (by omega), hml, Nat.sub_self]; rfl
  rw [hes] at hS
  have hstr := fun cap => hS.str (n := m + 1) (by rw [List.length_append, List.length_singleton]; omega) cap
  have hsz : (Vi.str (pre ++ [y])).size ≤ 10 := by rw [Vi.str_size, List.length_append, List.length_singleton]; omega
  have hB3 := (hB2.trans ((below_conv w2 A).mono hB2.size)).setCell (p := ⟨w2.heap.size, m, none⟩) hB2.size (.int .u8 (y : Int))
  rw [← hy] at HNO
  generalize Vi.str (pre ++ [y]) = L at *
  clear hS hes hI hy hml
  have hm1 : ((m : Int) + 1 - 1) = m := by omega
  go_wp2_with fail
  clear hc hf hstr hcv
  generalize (Lib.bytesWorld w2 5 A).setCell ⟨w2.heap.size, m, none⟩ (.int .u8 (y : Int)) = w4 at *
  refine (new_any _ w4).mono ?_
  rintro e w5 ⟨rfl, hw5⟩
  have hr5 : Rd 52 w4.heap.size (L ++ ⟨#[0]⟩) false w5 := by rw [hw5]; exact Rd.new _ _ _ _
  have hB5 : Below w.heap.size w w5 := by rw [hw5]; exact hB3.alloc hB3.size _
  have hg1 := hB3.size
  have hg12 : w4.heap.size < w5.heap.size := hr5.lt
  clear hw5 hB3 hO
  unfold rdp
  go_wp2_with fail
  refine (new_any _ w5).mono ?_
  rintro e w6 ⟨rfl, hw6⟩
  have hc6 : Rd 52 w5.heap.size (A.extract 0 m) false w6 := by rw [hw6]; exact Rd.new _ _ _ _
  have hr6 : Rd 52 w4.heap.size (L ++ ⟨#[0]⟩) false w6 := by rw [hw6]; exact (Below.heap_alloc w5 _ _ hg12).trans hr5
  have hB6 : Below w.heap.size w w6 := by rw [hw6]; exact hB5.alloc hB5.size _
  have hg2 := hB5.size
  clear hw6 hr5 hB5
  generalize w4.heap.size = g1 at *
  generalize w5.heap.size = g2 at *
  unfold rdp
  have hcs : (A.extract 0 m).size ≤ 281474976710656 := by rw [ByteArray.size_extract]; omega
  have hls : (L ++ ⟨#[0]⟩).size ≤ 281474976710656 := by
    rw [ByteArray.size_append]
    have : (ByteArray.mk #[0]).size = 1 := rfl
    omega
  obtain ⟨n1, n2⟩ := HNO.out
  have HY1 := Lib.hid (Vi.var_no _ n1)
  have HY2 := Lib.hid (Vi.var_no _ n2)
  clear n1 n2 HNO
  generalize L ++ ⟨#[0]⟩ = R at *
  generalize A.extract 0 m = C at *
  clear hm1 hsz hAs
  go_wp2_with fail
  refine (var_any g1 R _ w6 hr6 hls).mono ?_
  rintro e w7 ⟨rfl, hr7, hg7⟩
  obtain ⟨y1, y2, y3⟩ := HY1.out
  rw [y2, y3] at hr7
  rw [y1]
  have hc7 := hc6.grown hg7 (by intro hh; injection hh with hh; omega)
  have hB7 := below_grownBy hB6 hg7 hB6.size hg1
  clear hr6 hc6 hB6 hg7 y1 y2 y3 HY1
  go_wp2_with fail
  refine (var_any g2 C _ w7 hc7 hcs).mono ?_
  rintro e w8 ⟨rfl, hc8, hg8⟩
  obtain ⟨y1, y2, y3⟩ := HY2.out
  rw [y2, y3] at hc8
  rw [y1]
  have hr8 := hr7.grown hg8 (by intro hh; injection hh with hh; omega)
  have hB8 := below_grownBy hB7 hg8 hB7.size hg2
  clear hr7 hc7 hB7 hg8 y1 y2 y3 HY2
  rcases Nat.lt_trichotomy a b with hab | hab | hab
  · have hle := HLE.out (by omega)
    have hne := HNE.out (by omega)
    have hab1 : ¬ (b : Int) < a := by omega
    have hab2 : ((a : Int) == b) = false := by rw [beq_eq_false_iff_ne]; omega
    clear hab
    go_wp2_with fail
    refine (ok_any _ _ _ w8 hr8).mono ?_
    rintro e w9 ⟨rfl, rfl⟩
    go_wp2_with fail
    refine (ok_any _ _ _ w8 hc8).mono ?_
    rintro e w9 ⟨rfl, rfl⟩
    go_wp2
    go_ret
    exact ⟨rfl, hB8⟩
  · obtain rfl := HEQ.out hab
    subst hab
    go_wp2_with fail
    refine (ok_any _ _ _ w8 hr8).mono ?_
    rintro e w9 ⟨rfl, rfl⟩
    go_wp2_with fail
    refine (ok_any _ _ _ w8 hc8).mono ?_
    rintro e w9 ⟨rfl, rfl⟩
    go_wp2
    go_ret
    exact ⟨rfl, hB8⟩
  · have hne := HNE.out (by omega)
    have hab1 : (b : Int) < a := by omega
    have hab2 : ((a : Int) == b) = false := by rw [beq_eq_false_iff_ne]; omega
    clear hab
    go_wp2_with fail
    refine (ok_any _ _ _ w8 hr8).mono ?_
    rintro e w9 ⟨rfl, rfl⟩
    go_wp2_with fail
    refine (ok_any _ _ _ w8 hc8).mono ?_
    rintro e w9 ⟨rfl, rfl⟩
    go_wp2
    go_ret
    exact ⟨rfl, hB8⟩
end Go.Proofs.Yteodbdgjfalgcaa
