/-
  The contract of the document's own Of, where it makes a device.
  Conditions: named in each theorem.
-/
import Derived.Test.YtfcfclgjalofnaaRo
namespace Go.Proofs.Ytfcfclgjalofnaa
open Go.RowKit Dk
set_option linter.unusedVariables false
def sV (l : List UInt8) (k i : Nat) : Value := .string (txt (segF l k i))
theorem sV_other (l : List UInt8) (n k : Nat) : ∀ j, j < n → j ≠ k → sV l (k + 1) j = sV l k j := by
  intro j _ hj
  unfold sV segF
  by_cases h : j < k
  · rw [if_pos h, if_pos (by omega)]
  · rw [if_neg h, if_neg (by omega)]
theorem sV_at (l : List UInt8) (k : Nat) : sV l (k + 1) k = .string (txt (segS l k)) := by
  unfold sV segF
  rw [if_pos (by omega)]
theorem own_fz {w : World} {B e m g c : Nat} {xs : List Value} (h : w.ownsRow B e 1 (.slice (some ⟨g, 0, none⟩) m c) m xs) (i : Nat) : w.frozen? ⟨g, i, none⟩ = false := by
  obtain ⟨cur, hh⟩ := own_hp h
  exact frozen_of_row w g i cur e hh
set_option maxHeartbeats 2000000 in
set_option maxRecDepth 100000 in
theorem rof_yes (l : List UInt8) (n : Nat) (w : World) (h : l.length = n * 64) (h1 : 1 ≤ n) (h2 : n ≤ 4096) :
    Calls Try.prog 22 #[.string (txt l)] w fun e w' => ∃ gr L, e = .returned (ptr gr) ∧ Rf w' w.heap.size gr L (St.fresh n (segF l n)) ∧ Below w.heap.size w w' := by
  have hszl : (txt l).size = l.length := txt_size l
  obtain ⟨m, hm⟩ : ∃ m, m = l.length := ⟨_, rfl⟩
  have hsz : (txt l).size = m := by rw [hm]; exact hszl
  have hr : ((m : Nat) : Int) % 64 = 0 := by omega
  have hd : ((m : Nat) : Int) / 64 = (n : Int) := by omega
  have hmb : (m : Int) ≤ 262144 := by omega
  have HM := Lib.hid hm
  have HL := Lib.hid h
  clear hm hszl h
  go_enter Try.func22, Try.ntmps22
  go_wp2_with fail
  refine (rnew_yes n w h1 h2).mono ?_
  rintro e w1 ⟨gr, L, rfl, hR1, hb1⟩
  obtain ⟨g1, c1, g2, c2, g3, c3, rfl, hA⟩ := RAt.of_rf hR1
  have hA0 : RAt w1 w.heap.size gr g1 c1 g2 c2 g3 c3 n (sV l 0) (sV l 0) fV (-1) false := by
    refine ⟨hA.blk, ?_, ?_, ?_, hA.ap, hA.hB⟩
    · have h0 := hA.r1
      rw [rowV_congr _ (sV l 0) _ (fun j _ => by simp [nowV, sV, segF, St.fresh, St.now])] at h0
      exact h0
    · have h0 := hA.r2
      rw [rowV_congr _ (sV l 0) _ (fun j _ => by simp [oldV, sV, segF, St.fresh])] at h0
      exact h0
    · have h0 := hA.r3
      rw [rowV_congr _ fV _ (fun j _ => by simp [wtV, fV, St.fresh])] at h0
      exact h0
  clear hA
  unfold ptr
  go_wp2_with fail
  go_loopw [4] (fun i wr => ∃ k : Nat, k ≤ n ∧ i = .int .i64 k ∧ RAt wr w.heap.size gr g1 c1 g2 c2 g3 c3 n (sV l k) (sV l k) fV (-1) false ∧ Below w.heap.size w wr) (fun i _ => n - (RowKit.intOf i).toNat)
  case atStart => exact ⟨0, by omega, rfl, hA0, hb1⟩
  case round =>
    obtain ⟨k, hk, rfl, hAr, hbr⟩ := hrel
    clear hA0
    have q0 := hAr.c 0
    change wr.cell? ⟨gr, 0, none⟩ = some (.slice (some ⟨g1, 0, none⟩) n c1) at q0
    by_cases hlt : k < n
    · have hk0 : (0 : Int) ≤ k := by omega
      have hk1 : (k : Int) < n := by omega
      obtain ⟨km, hkm⟩ : ∃ km, km = k * 64 := ⟨_, rfl⟩
      have hkmi : 64 * (k : Int) = (km : Int) := by rw [hkm]; push_cast; omega
      obtain ⟨kn, hkn⟩ : ∃ kn, kn = km + 64 := ⟨_, rfl⟩
      have hkni : (km : Int) + 64 = (kn : Int) := by rw [hkn]; push_cast; rfl
      have hkn1 : (kn : Int) ≤ m := by have := HM.out; have := HL.out; omega
      have hkn2 : kn ≤ m := by omega
      have hkn3 : (km : Int) ≤ kn := by omega
      have hkn4 : km ≤ kn := by omega
      have hwr : IntKind.i64.wrap (km : Int) = (km : Int) := IntWalk.i64_in _ (by omega)
      have hwr2 : IntKind.i64.wrap (kn : Int) = (kn : Int) := IntWalk.i64_in _ (by omega)
      have HKN := Lib.hid hkn
      have HKM := Lib.hid hkm
      have q1 := hAr.drew.c 0
      change wr.drew.cell? ⟨gr, 0, none⟩ = some (.slice (some ⟨g1, 0, none⟩) n c1) at q1
      have hAd := Lib.hid hAr.drew
      have HA := Lib.hid hAr
      have fz1 : wr.drew.frozen? ⟨g1, k, none⟩ = false := own_fz hAd.out.r1 k
      have cz1 : wr.drew.cell? ⟨g1, k, none⟩ = some (sV l k k) := row_cell hAd.out.r1 k hlt
      clear hkm hkn hAr
      go_wp2_with fail
      go_still_tail 13, (by kernel_rfl)
      change wpList _ _ _ _ _ wr.drew
      have hex : (txt l).extract km kn = txt (segS l k) := by
        rw [txt_extract]
        rw [List.drop_take, HKN.out, Nat.add_sub_cancel_left, HKM.out]
        rfl
      rw [hex]
      go_wp2_with fail
      have hA1 := hAd.out.set1 k (sV l (k + 1)) (sV_other l n k)
      rw [sV_at] at hA1
      have hb1' : Below w.heap.size w (wr.drew.setCell ⟨g1, k, none⟩ (.string (txt (segS l k)))) := (hbr.drew).setCell (p := ⟨g1, k, none⟩) (hAd.out.r1.lt g1 rfl).1 _
      refine wp_at (w := wr.drew.setCell ⟨g1, k, none⟩ (.string (txt (segS l k)))) rfl ?_
      generalize wr.drew.setCell ⟨g1, k, none⟩ (.string (txt (segS l k))) = w2 at *
      clear q0 q1 hwr hwr2 hex hkmi hkni fz1 cz1 hAd HA hbr hkn1 hkn2 hkn3 hkn4 HKN HKM
      have q0 := hA1.drew.c 0
      change w2.drew.cell? ⟨gr, 0, none⟩ = some (.slice (some ⟨g1, 0, none⟩) n c1) at q0
      have q1 := hA1.drew.c 1
      change w2.drew.cell? ⟨gr, 1, none⟩ = some (.slice (some ⟨g2, 0, none⟩) n c2) at q1
      have cz1 : w2.drew.cell? ⟨g1, k, none⟩ = some (sV l (k + 1) k) := row_cell hA1.drew.r1 k hlt
      rw [sV_at] at cz1
      have cz2 : w2.drew.cell? ⟨g2, k, none⟩ = some (sV l k k) := row_cell hA1.drew.r2 k hlt
      have fz2 : w2.drew.frozen? ⟨g2, k, none⟩ = false := own_fz hA1.drew.r2 k
      have HA1 := Lib.hid hA1.drew
      have HB1 := Lib.hid hb1'
      clear hA1 hb1'
      go_still_tail 13, (by kernel_rfl)
      change wpList _ _ _ _ _ w2.drew
      go_wp2_with fail
      have hA2 := HA1.out.set2 k (sV l (k + 1)) (sV_other l n k)
      rw [sV_at] at hA2
      have hb2 : Below w.heap.size w (w2.drew.setCell ⟨g2, k, none⟩ (.string (txt (segS l k)))) := (HB1.out.drew).setCell (p := ⟨g2, k, none⟩) (HA1.out.r2.lt g2 rfl).1 _
      have HA2 := Lib.hid hA2
      clear hA2 q0 q1 cz1 cz2 fz2
      go_roundw
      case rel => exact ⟨k + 1, by omega, by go_num, HA2.out, hb2⟩
      case measure => simp [RowKit.intOf]; omega
    · have hk' : k = n := by omega
      subst hk'
      go_wp2
      go_ret
      exact ⟨gr, [gr, g1, g2, g3], rfl, RAt.to_rf hAr (St.fresh_ok h1 h2 (fun i => segF_length l k k i HL.out (Nat.le_refl _))) (fun _ _ => rfl) (fun _ _ => rfl) (fun _ _ => rfl) rfl rfl, hbr⟩
end Go.Proofs.Ytfcfclgjalofnaa
