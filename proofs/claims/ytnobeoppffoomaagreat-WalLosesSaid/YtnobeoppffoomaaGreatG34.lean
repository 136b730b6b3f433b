/-
  Texts of the layer below and of this one: WT, Bend, WBulk.
  Conditions: named in each theorem.
-/
import Derived.Test.YtnobeoppffoomaaGreatG32
import Derived.Test.YtnobeoppffoomaaGreatG12
import Derived.Test.YtnobeoppffoomaaGreatG09
import Derived.Lib.ConvBytes
import Derived.Test.YtnobeoppffoomaaGreatRows
namespace Go.Proofs.YtnobeoppffoomaaGreat
open Go.RowKit
set_option linter.unusedVariables false
set_option linter.unusedSimpArgs false
theorem flat_app (a b : List En) : flat (a ++ b) = flat a ++ flat b := by
  unfold flat
  rw [List.flatMap_append]
theorem flat_one (es : List En) : ∀ u ∈ flat es, u.oneCell' = true := fun u hu => by
  unfold flat at hu
  obtain ⟨e, _, he⟩ := List.mem_flatMap.1 hu
  simp at he
  rcases he with rfl | rfl | rfl | rfl | rfl | rfl | rfl | rfl | rfl | rfl | rfl <;> rfl
theorem run_app_none (A : Option Addr) (n c : Nat) (ty : TypeId) (w : World) (hn : n ≤ c) (hA : A = none → n = 0 ∧ c = 0) : (Builtin.append_ #[25, 25] ty #[.slice A n c, .slice none 0 0]).run Tryz.prog w = .ok (.slice A n c) w := by
  obtain ⟨i0, hi, hz0, hz1, hz2⟩ := info_parts Tryz.info28
  have hu := Tryz.underlying25
  cases A with
  | none =>
    obtain ⟨rfl, rfl⟩ := hA rfl
    simp [Builtin.append_, underlying, sizeOf, typeInfo, hu, hi, Builtin.lenOf, Builtin.firstCells]
  | some a =>
    simp [Builtin.append_, underlying, sizeOf, typeInfo, hu, hi, Builtin.lenOf, Builtin.firstCells, hn, storeCells, List.foldlM]
/-- append(l, m...). -/
theorem wpList_app_ens {ops : Array Oper} {rest : List Oper} {o : Oper} {a : Act} {Q : Exit → Act → World → Prop} (hgd : o.guard = none) (s x : Operand)
    (ho : o.op = .call { callee := .builtin .append, args := #[s, x], argTypes := #[25, 25] }) (w : World) (B B' : Nat) (A A' : Option Addr) (n c m c' : Nat) (es fs : List En)
    (hs : a.eval s = .slice A n c) (hx : a.eval x = .slice A' m c') (hL : Le B A n c es w) (hM : Le B' A' m c' fs w) (hn : n + m ≤ 1000000) (hB : B ≤ w.heap.size)
    (N : Nat) (hN : N = n + m) (h : ∀ A2 c2 w', Le B A2 N c2 (es ++ fs) w' → Below B w w' → (∀ k, k < w.heap.size → Value.ownBlock (.slice A n c) ≠ some k → w'.heap[k]? = w.heap[k]?) → wpList Tryz.prog ops Q rest (a.put o.dst (.slice A2 N c2)) w') : wpList Tryz.prog ops Q (o :: rest) a w := by
  subst hN
  rcases hM.form with ⟨rfl, rfl, rfl, rfl⟩ | ⟨g, rfl, hc, hm, hg⟩
  · have hf := hL.form
    have hr := run_app_none A n c o.type w (by rcases hf with ⟨_, rfl, rfl, _⟩ | ⟨_, _, h, _⟩ <;> omega) (fun e => by rcases hf with ⟨_, h1, h2, _⟩ | ⟨g, h1, _⟩; exact ⟨h1, h2⟩; rw [h1] at e; cases e)
    refine wpList_plain hgd fun K hK => ?_
    unfold Oper.wp execOp
    simp only [ho, resolve, invoke, builtin, Sem.run_bind, Sem.run_pure, Result.andThen_ok, List.map_toArray, List.map_cons, List.map_nil, hs, hx, hr]
    exact hK _ _ (h A c w (by rw [List.append_nil]; exact hL) (Below.refl B w) fun _ _ _ => rfl)
  · obtain ⟨i0, hi, hz0, hz1, hz2⟩ := info_parts Tryz.info28
    have hcell : ∀ j u, (flat fs)[j]? = some u → w.cell? ((⟨g, 0, none⟩ : Addr).add j) = some u := fun j u hu => by
      have hj : j < (flat fs).length := (List.getElem?_eq_some_iff.1 hu).1
      rw [flat_length, hM.len] at hj
      rw [Addr.add_mid, Nat.zero_add, hM.own.cellAt j (by omega)]
      exact hu
    refine wpList_append_own_at w hgd s x 25 ho B 28 i0 (ev ezz) 11 104 Tryz.underlying25 hi hz0 hz1 hz2 rfl (by omega) (.slice A n c) n (flat es) hs hL.own ⟨g, 0, none⟩ m c' (flat fs) hx (by rw [flat_length, hM.len]) hcell (flat_one fs) (by unfold maxLen; omega) (by omega) hB ?_
    intro v' w' hown hgrow hnil hat
    have hb : Below B w w' := (Below.refl B w).grown hgrow hB (fun k hk => (hL.own.lt k hk).1)
    have hk : ∀ k, k < w.heap.size → Value.ownBlock (.slice A n c) ≠ some k → w'.heap[k]? = w.heap[k]? := fun k hk hne => hgrow.block k hk fun e => hne e.symm
    have hlen : (es ++ fs).length = n + m := by rw [List.length_append, hL.len, hM.len]
    rcases hown.2 with ⟨hv, h0⟩ | ⟨g', cap, cur, hv, _⟩
    · subst hv
      have h1 : Le B none (n + m) 0 (es ++ fs) w' := ⟨by rw [flat_app, show n + m = 0 by omega]; rw [show n + m = 0 by omega] at hown; exact hown, hlen⟩
      have h2 := h none 0 w' h1 hb hk
      rw [show n + m = 0 by omega] at h2
      exact h2
    · subst hv
      exact h _ cap w' ⟨by rw [flat_app]; exact hown, hlen⟩ hb hk
end Go.Proofs.YtnobeoppffoomaaGreat
namespace Go.Proofs.YtnobeoppffoomaaGreat
open Go.RowKit
set_option linter.unusedVariables false
namespace Crc
def nums (n : Nat) (x : Nat → Nat) : List Int := (List.range n).map fun j => (x j : Int)
theorem nums_length (n : Nat) (x : Nat → Nat) : (nums n x).length = n := by simp [nums]
theorem nums_getD (n : Nat) (x : Nat → Nat) (i : Nat) (h : i < n) : (nums n x).getD i 0 = (x i : Int) := by simp [nums, List.getD, h]
theorem str_size (n : Nat) (x : Nat → Nat) : (strOfNums (nums n x)).size = n := by rw [strOfNums_size, nums_length]
def byteAt (s : ByteArray) (j : Nat) : Nat := (s.data.toList.getD j 0).toNat
theorem byteAt_lt (s : ByteArray) (j : Nat) : byteAt s j < 256 := UInt8.toNat_lt _
def turned (t : ByteArray) (p by_ : Nat) (j : Nat) : Nat := if j = p then byteAt t p ^^^ by_ else byteAt t j
end Crc
def BRow (g n : Nat) (x : Nat → Nat) (w : World) : Prop := ∀ j, j < n → w.cell? ⟨g, j, none⟩ = some (.int .u8 (x j)) ∧ w.frozen? ⟨g, j, none⟩ = false
theorem BRow.cell {g n : Nat} {x : Nat → Nat} {w : World} (h : BRow g n x w) (j : Nat) (hj : j < n) : w.cell? ⟨g, j, none⟩ = some (.int .u8 (x j)) := (h j hj).1
theorem BRow.free {g n : Nat} {x : Nat → Nat} {w : World} (h : BRow g n x w) (j : Nat) (hj : j < n) : w.frozen? ⟨g, j, none⟩ = false := (h j hj).2
theorem BRow.drew {g n : Nat} {x : Nat → Nat} {w : World} (h : BRow g n x w) : BRow g n x w.drew := h
theorem BRow.same {g n : Nat} {x y : Nat → Nat} {w : World} (h : BRow g n x w) (hxy : ∀ j, j < n → y j = x j) : BRow g n y w := fun j hj => by rw [hxy j hj]; exact h j hj
theorem BRow.set {g n : Nat} {x y : Nat → Nat} {w : World} (h : BRow g n x w) (k : Nat) (v : Nat) (hy : ∀ j, j < n → y j = if j = k then v else x j) : BRow g n y (w.setCell ⟨g, k, none⟩ (.int .u8 (v : Int))) := by
  intro j hj
  rw [World.frozen?_setCell, hy j hj]
  refine ⟨?_, (h j hj).2⟩
  by_cases e : j = k
  · subst e
    rw [if_pos rfl]
    exact World.cell?_setCell_same _ _ _ (h j hj).1
  · rw [if_neg e, World.cell?_setCell_other _ _ _ _ (by intro hh; cases hh; exact e rfl)]
    exact (h j hj).1
theorem BRow.below {g n B : Nat} {x : Nat → Nat} {w w' : World} (h : BRow g n x w) (hb : Below B w w') (hg : g < B) : BRow g n x w' := fun j hj => by
  rw [hb.cell hg, hb.frozen hg]; exact h j hj
theorem BRow.conv (w : World) (s : ByteArray) : BRow w.heap.size s.size (Crc.byteAt s) (Lib.bytesWorld w 5 s) := by
  intro j hj
  refine ⟨Lib.bytesWorld_cell w 5 s j hj, ?_⟩
  have h := Lib.bytesWorld_at_new w 5 s
  have hz : s.size ≤ (Lib.bytesCells w 5 s).size := by simp [Lib.bytesCells]
  simp only [World.frozen?, h]
  simp; omega
theorem below_conv (w : World) (s : ByteArray) : Below w.heap.size w (Lib.bytesWorld w 5 s) :=
  Lib.below_freeze (((Below.refl _ w).drew).alloc (Nat.le_refl _) _) (p := ⟨w.heap.size, _, none⟩) (Nat.le_refl _) _
theorem BRow.str {g n : Nat} {x : Nat → Nat} {w : World} (h : BRow g n x w) (cap : Nat) : (convert 68 9 (.slice (some ⟨g, 0, none⟩) n cap)).run Tryz.prog w = .ok (.string (strOfNums (Crc.nums n x))) w :=
  run_convert_bytes_arg (P := Tryz.prog) w 68 5 Tryz.underlying68 Tryz.underlying5 g 0 n cap (Crc.nums n x) (Crc.nums_length n x)
    (fun i hi => by rw [Crc.nums_getD n x i hi, Nat.zero_add]; exact h.cell i hi) 9 Tryz.underlying9
set_option maxHeartbeats 2000000 in
set_option maxRecDepth 100000 in
theorem bend_any (s : ByteArray) (at_ : Int) (by_ : Nat) (w : World) (hm : s.size ≤ 140737488351232) (hat : -9223372036854775808 ≤ at_ ∧ at_ ≤ 9223372036854775807) (hby : by_ < 256) :
    Calls Tryz.prog 14 #[.string s, .int .i64 at_, .int .u8 by_] w fun e w' => ∃ t : ByteArray, e = .returned (.string t) ∧ t.size = s.size ∧ Below w.heap.size w w' := by
  by_cases h0 : s.size = 0
  · have he : s = ⟨#[]⟩ := ByteArray.ext (Array.eq_empty_of_size_eq_zero h0)
    subst he
    go_enter Tryz.func14, Tryz.ntmps14
    go_wp2
    go_ret
    exact ⟨_, rfl, rfl, Below.refl _ _⟩
  · have hne : s.toList.isEmpty = false := by
      rw [Lib.toList_data, List.isEmpty_eq_false_iff]
      intro hn
      have h2 : s.size = s.data.toList.length := by simp
      rw [hn, List.length_nil] at h2; omega
    have hn0 : 0 < s.size := by omega
    have hcv := fun (W : World) (t : ByteArray) => Lib.run_convert_string_bytes (P := Tryz.prog) W 9 68 5 t Tryz.underlying9 Tryz.underlying68 Tryz.underlying5
    obtain ⟨a, ha⟩ : ∃ a : Nat, (if at_ < 0 then -(at_ + 1) else at_) = (a : Int) := by
      split
      · exact ⟨(-(at_ + 1)).toNat, by omega⟩
      · exact ⟨at_.toNat, by omega⟩
    have ha2 : (a : Int) ≤ 9223372036854775807 := by split at ha <;> omega
    have HA := Lib.hid ha
    clear ha
    by_cases hneg : at_ < 0
    all_goals
      have ha : (if at_ < 0 then -(at_ + 1) else at_) = (a : Int) := HA.out
      first | rw [if_pos hneg] at ha | rw [if_neg hneg] at ha
      have HB := Lib.hid ha
      clear ha HA
      go_enter Tryz.func14, Tryz.ntmps14
      go_wp2
      try rw [HB.out]
      clear hcv
      have hI := BRow.conv w s
      have hB : Below w.heap.size w (Lib.bytesWorld w 5 s) := below_conv w s
      generalize Lib.bytesWorld w 5 s = w3 at *
      generalize grownCap w s.size 0 5 = cap at *
      obtain ⟨p, hp1⟩ : ∃ p : Nat, p = a % s.size := ⟨_, rfl⟩
      have hp : p < s.size := by rw [hp1]; exact Nat.mod_lt _ (by omega)
      have hp2 : (a : Int) % (s.size : Int) = (p : Int) := by rw [hp1, Int.natCast_emod]
      clear hp1
      have hc := hI.cell p hp
      have hf := hI.free p hp
      have hbx := Crc.byteAt_lt s p
      have hX := Lib.hid (u8_xor_nat (Crc.byteAt s p) by_ hbx hby)
      go_region
      rw [hX.out]
      have hI4 := (hI.set (y := Crc.turned s p by_) p _ (fun j hj => by unfold Crc.turned; rfl)).drew
      have hb1 := (hB.setCell (p := ⟨w.heap.size, p, none⟩) (Nat.le_refl _) (.int .u8 ((Crc.byteAt s p ^^^ by_ : Nat) : Int))).drew
      clear hI hc hf hB
      generalize (World.setCell w3 ⟨w.heap.size, p, none⟩ (.int .u8 ((Crc.byteAt s p ^^^ by_ : Nat) : Int))).drew = w1 at *
      have hstr := hI4.str cap
      have hbz := Crc.str_size s.size (Crc.turned s p by_)
      go_wp2
      go_ret
      exact ⟨_, rfl, hbz, hb1⟩
end Go.Proofs.YtnobeoppffoomaaGreat
namespace Go.Proofs.YtnobeoppffoomaaGreat
set_option linter.unusedVariables false
theorem bulk_le_all {H : Type} : ∀ {ds : List (DataW H)} {d : DataW H}, d ∈ ds → Rows.uptoBulk d ≤ Rows.uptoBulkAll ds
  | x :: ds, d, h => by
    rw [Rows.uptoBulkAll]
    rcases List.mem_cons.1 h with rfl | h
    · omega
    · have := bulk_le_all h
      omega
theorem bulk_small {H : Type} {ds : List (DataW H)} {d : DataW H} (h : Rows.uptoSmall H ds = true) (hd : d ∈ ds) : Rows.uptoBulk d ≤ 1048576 :=
  Nat.le_trans (bulk_le_all hd) (of_decide_eq_true h)
theorem bulk_string {H : Type} (l : List UInt8) : Rows.uptoBulk (H := H) (.lit (.string l)) = l.length + 1 := by rw [Rows.uptoBulk]
theorem bulk_text {H : Type} {ds : List (DataW H)} {s : ByteArray} (h : Rows.uptoSmall H ds = true) (hd : DataW.lit (.string s.data.toList) ∈ ds) : s.size ≤ 1048576 := by
  have h1 := bulk_small h hd
  rw [bulk_string, Array.length_toList] at h1
  have : s.size = s.data.size := rfl
  omega
end Go.Proofs.YtnobeoppffoomaaGreat
