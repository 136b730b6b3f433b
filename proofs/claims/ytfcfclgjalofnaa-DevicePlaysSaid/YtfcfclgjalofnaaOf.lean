/-
  The contract of device.Of.
  Conditions: named in each theorem.
-/
import Derived.Test.YtfcfclgjalofnaaIm
import Derived.IntWalk
namespace Go.Proofs.Ytfcfclgjalofnaa
open Go.RowKit Dk
set_option linter.unusedVariables false
namespace Dk
/-- The i-th sector of an image. -/
def segS (l : List UInt8) (i : Nat) : Sec := (l.drop (i * 64)).take 64
/-- The sectors of an image. -/
def segF (l : List UInt8) (k i : Nat) : Sec := if i < k then segS l i else zsec
theorem segS_length (l : List UInt8) (n i : Nat) (h : l.length = n * 64) (hi : i < n) : (segS l i).length = 64 := by
  unfold segS
  have : (i + 1) * 64 ≤ n * 64 := Nat.mul_le_mul_right _ hi
  rw [List.length_take, List.length_drop]
  omega
theorem segF_length (l : List UInt8) (n k i : Nat) (h : l.length = n * 64) (hk : k ≤ n) : (segF l k i).length = 64 := by
  unfold segF
  split
  · exact segS_length l n i h (by omega)
  · exact zsec_length
theorem catS_seg (l : List UInt8) (n : Nat) (h : l.length = n * 64) : ∀ k, k ≤ n → catS (segF l n) k = l.take (k * 64)
  | 0, _ => by simp [catS]
  | k + 1, hk => by
    rw [catS, catS_seg l n h k (by omega)]
    unfold segF segS
    rw [if_pos (by omega)]
    have : (k + 1) * 64 = k * 64 + 64 := by omega
    rw [this, List.take_add]
end Dk
/-- copy of a text over a whole sector. -/
theorem run_copy_sec (w : World) (ty : TypeId) (g o cap : Nat) (l : List UInt8) (hth : w.there g o 64) (hl : 64 ≤ l.length) :
    (Builtin.copy_ #[44, 9] ty #[.slice (some ⟨g, o, none⟩) 64 cap, .string (txt l)]).run Try.prog w = .ok (goInt 64) (w.setCells g o (Lib.byteCells (l.take 64))) := by
  have hlen : (Lib.byteCells (l.take 64)).length = 64 := by rw [Lib.byteCells_length, List.length_take]; omega
  have hst := run_storeCells_cells (P := Try.prog) g o (Lib.byteCells (l.take 64)) 0 w (fun j hj => by rw [Nat.add_zero]; exact (hth j (by omega)).1) (fun j hj => by rw [Nat.add_zero]; exact (hth j (by omega)).2) (Lib.byteCells_one _)
  rw [Nat.add_zero] at hst
  have hmin : Nat.min (txt l).size 64 = 64 := by rw [txt_size]; exact Nat.min_eq_right hl
  have hs : (Try.prog.info? 5).map (·.size) = some 1 := by kernel_rfl
  have htk : List.take 64 (List.map (fun b : UInt8 => Value.int IntKind.u8 (b.toNat : Int)) (txt l).data.toList) = Lib.byteCells (l.take 64) := by
    rw [txt_list, ← List.map_take]; rfl
  cases hq : Try.prog.info? 5 with
  | none => rw [hq] at hs; cases hs
  | some i =>
    simp [Builtin.copy_, run_underlying Try.underlying44, Builtin.lenOf, Builtin.firstCells, sizeOf, typeInfo, hq, hmin]
    rw [htk, hst]
    simp [Result.andThen]
set_option maxHeartbeats 1000000 in
set_option maxRecDepth 100000 in
theorem of_rem (l : List UInt8) (w : World) (h : l.length % 64 ≠ 0) :
    Calls Try.prog 21 #[.string (txt l)] w fun e w' => e = .returned (.tuple #[.pointer none, .int .i64 1]) ∧ w = w' := by
  have hsz : (txt l).size = l.length := txt_size l
  have hr : (((l.length : Nat) : Int) % 64 != 0) = true := by simp; omega
  go_enter Try.func21, Try.ntmps21
  go_wp2
  go_ret2
  exact ⟨rfl, rfl⟩
set_option maxHeartbeats 1000000 in
set_option maxRecDepth 100000 in
theorem of_size (l : List UInt8) (w : World) (h : l.length % 64 = 0) (hn : l.length / 64 < 1 ∨ 4096 < l.length / 64) (hb : l.length ≤ 281474976710656) :
    Calls Try.prog 21 #[.string (txt l)] w fun e w' => e = .returned (.tuple #[.pointer none, .int .i64 1]) ∧ w = w' := by
  have hszl : (txt l).size = l.length := txt_size l
  obtain ⟨m, hm⟩ : ∃ m, m = l.length := ⟨_, rfl⟩
  have hsz : (txt l).size = m := by rw [hm]; exact hszl
  have hr : ((m : Nat) : Int) % 64 = 0 := by omega
  obtain ⟨n, hn'⟩ : ∃ n, n = l.length / 64 := ⟨_, rfl⟩
  have hd : ((m : Nat) : Int) / 64 = (n : Int) := by omega
  have hmb : (m : Int) ≤ 281474976710656 := by omega
  have HNW := Lib.hid (new_no (n : Int) w (by omega))
  have HN := Lib.hid hn'
  have HM := Lib.hid hm
  clear hn' hn h hm hszl hb
  go_enter Try.func21, Try.ntmps21
  go_wp2_with fail
  refine HNW.out.mono ?_
  rintro e w1 ⟨rfl, rfl⟩
  go_wp2
  go_ret2
  exact ⟨rfl, rfl⟩
set_option maxHeartbeats 2000000 in
set_option maxRecDepth 100000 in
theorem of_yes (l : List UInt8) (n : Nat) (w : World) (h : l.length = n * 64) (h1 : 1 ≤ n) (h2 : n ≤ 4096) :
    Calls Try.prog 21 #[.string (txt l)] w fun e w' => ∃ g L, e = .returned (.tuple #[ptr g, .int .i64 0]) ∧ Dv w' g L (St.fresh n (segF l n)) ∧ (∀ k ∈ L, w.heap.size ≤ k) ∧ Below w.heap.size w w' := by
  have hszl : (txt l).size = l.length := txt_size l
  obtain ⟨m, hm⟩ : ∃ m, m = l.length := ⟨_, rfl⟩
  have hsz : (txt l).size = m := by rw [hm]; exact hszl
  have hr : ((m : Nat) : Int) % 64 = 0 := by omega
  have hd : ((m : Nat) : Int) / 64 = (n : Int) := by omega
  have hmb : (m : Int) ≤ 262144 := by omega
  have HM := Lib.hid hm
  have HL := Lib.hid h
  clear hm hszl h
  go_enter Try.func21, Try.ntmps21
  go_wp2_with fail
  refine (new_yes n w h1 h2).mono ?_
  rintro e w1 ⟨g, L, rfl, hD1, hL1, hb1⟩
  obtain ⟨ho, fb, mb, cap, rfl, hA⟩ := hD1
  have c0 := hA.c0
  change w1.cell? ⟨g, 0, none⟩ = some (.slice (some ⟨fb, 0, none⟩) n cap) at c0
  unfold ptr
  go_wp2_with fail
  go_loopw [26] (fun i wr => ∃ k : Nat, k ≤ n ∧ i = .int .i64 k ∧ DevAt wr g fb mb cap (St.fresh n (segF l k)) ∧ Below w.heap.size w wr) (fun i _ => n - (RowKit.intOf i).toNat)
  case atStart => exact ⟨0, by omega, rfl, hA, hb1⟩
  case round =>
    obtain ⟨k, hk, rfl, hAr, hbr⟩ := hrel
    by_cases hlt : k < n
    · have hAd : DevAt wr.drew g fb mb cap (St.fresh n (segF l k)) := hAr.of_heap (fun _ _ => rfl)
      have q0 := hAd.c0
      change wr.drew.cell? ⟨g, 0, none⟩ = some (.slice (some ⟨fb, 0, none⟩) n cap) at q0
      have hk0 : (0 : Int) ≤ k := by omega
      have hk1 : (k : Int) < n := by omega
      obtain ⟨km, hkm⟩ : ∃ km, km = k * 64 := ⟨_, rfl⟩
      have hkmi : (k : Int) * 64 = (km : Int) := by rw [hkm]; push_cast; rfl
      have hkm1 : (km : Int) ≤ m := by have := HM.out; have := HL.out; omega
      have hkm2 : km ≤ m := by omega
      have hwr : IntKind.i64.wrap (km : Int) = (km : Int) := IntWalk.i64_in _ (by omega)
      have hth : Hid (wr.drew.there fb (k * 64) 64) := hAd.row.there k hlt
      have HKM := Lib.hid hkm
      have HAD := Lib.hid hAd
      clear hkm hAd c0
      go_wp2_with fail
      go_still_tail 11, (by kernel_rfl)
      change wpList _ _ _ _ _ wr.drew
      have hex : (txt l).extract km m = txt (l.drop km) := by
        rw [txt_extract, List.take_of_length_le (by have := HM.out; omega)]
      have h64 : 64 ≤ (l.drop (k * 64)).length := by
        rw [List.length_drop, HL.out]
        have : (k + 1) * 64 ≤ n * 64 := Nat.mul_le_mul_right _ hlt
        omega
      rw [hex, HKM.out]
      have hcp := run_copy_sec wr.drew 3 fb (k * 64) 64 (l.drop (k * 64)) hth.out h64
      have hseg : (l.drop (k * 64)).take 64 = segS l k := rfl
      rw [hseg] at hcp
      have hsl := segS_length l n k HL.out hlt
      -- behind the copy
      have hrow3 : RowAt (wr.drew.setCells fb (k * 64) (Lib.byteCells (segS l k))) fb n (segF l (k + 1)) := by
        refine HAD.out.row.stored hlt hsl _ (fun j hj => ?_)
        show segF l (k + 1) j = if j = k then segS l k else segF l k j
        unfold segF
        by_cases e : j = k
        · subst e; rw [if_pos (by omega), if_pos rfl]
        · rw [if_neg e]
          by_cases h5 : j < k
          · rw [if_pos h5, if_pos (by omega)]
          · rw [if_neg h5, if_neg (by omega)]
      obtain ⟨w3, hw3⟩ : ∃ w3, w3 = wr.drew.setCells fb (k * 64) (Lib.byteCells (segS l k)) := ⟨_, rfl⟩
      have hgr : wr.grownBy w3 (some fb) := by rw [hw3]; exact (grown_drew wr _).trans (grown_setCells _ wr.drew (k * 64)).1
      rw [← hw3] at hrow3 hcp
      have hA3 : DevAt w3 g fb mb cap (St.fresh n (segF l (k + 1))) :=
        ⟨(hgr.block g (lt_of_heap hAr.blk) (fun e => hAr.gf (Option.some.inj e))).trans hAr.blk, hrow3, hAr.map.of_heap (hgr.block mb hAr.map.lt (fun e => hAr.fm (Option.some.inj e).symm)), hAr.hcap⟩
      have hb3 : Below w.heap.size w w3 := hbr.grown hgr hbr.size (fun j hj => by cases hj; exact hL1 fb (by simp))
      have HA3 := Lib.hid hA3
      clear h64 hex hseg q0 hw3 hrow3 hA3 hsl hgr hA
      generalize wr.drew = w2 at *
      go_wp2
      go_roundw
      case rel => exact ⟨k + 1, by omega, by go_num, HA3.out, hb3⟩
      case measure => simp [RowKit.intOf]; omega
    · have hk' : k = n := by omega
      subst hk'
      go_wp2
      go_ret2
      exact ⟨g, [g, fb, mb], rfl, ⟨St.fresh_ok h1 h2 (fun i => segF_length l k k i HL.out (Nat.le_refl _)), fb, mb, cap, rfl, hAr⟩, hL1, hbr⟩
end Go.Proofs.Ytfcfclgjalofnaa
