/-
  The contracts of the law's whole and examples.
  Conditions: named in each theorem.
-/
import Derived.Test.YtfcfclgjalofnaaAf
namespace Go.Proofs.Ytfcfclgjalofnaa
open Go.RowKit Dk
set_option linter.unusedVariables false
theorem Try.info5 : (Try.prog.info? 5).map (fun i => (i.zero, i.size, i.bytes)) = some (some (.int .u8 0), 1, 1) := by kernel_rfl
/-- So many bytes 0. -/
def Dk.zeros (n : Nat) : List UInt8 := List.replicate n 0
theorem conv_made {w : World} {B n : Nat} {v : Value} (h : w.ownsRow B 5 1 v n (madeCells (Value.int .u8 0).cells (n * 1)).toList) (hn : 0 < n) : (convert 44 9 v).run Try.prog w = .ok (.string (txt (Dk.zeros n))) w := by
  obtain ⟨g, cap, rfl, _⟩ := h.form hn
  refine conv_sec (by simp [Dk.zeros]) (fun j u hu => ?_)
  have hj : j < n := by have := (List.getElem?_eq_some_iff.1 hu).1; simpa [Lib.byteCells_length, Dk.zeros] using this
  rw [Nat.zero_add, h.cellAt j (by omega), Array.getElem?_toList, madeCells_get _ _ _ (by omega)]
  unfold Dk.zeros Lib.byteCells at hu
  rw [List.map_replicate, List.getElem?_replicate, if_pos hj] at hu
  rw [← hu]
  have e : (Value.int IntKind.u8 0).cells = #[Value.int .u8 0] := rfl
  rw [e]
  simp [Nat.mod_one]
theorem txt_append (a b : List UInt8) : txt a ++ txt b = txt (a ++ b) := by
  apply ByteArray.ext; simp [txt, ByteArray.data_append]
theorem txt_extract (l : List UInt8) (i j : Nat) : (txt l).extract i j = txt ((l.take j).drop i) := by
  apply ByteArray.ext; simp [txt, ByteArray.data_extract, List.drop_take]
set_option maxHeartbeats 1000000 in
set_option maxRecDepth 100000 in
theorem lwhole_any (s : List UInt8) (w : World) (hs : s.length ≤ 64) :
    Calls Try.prog 26 #[.string (txt s)] w fun e w' => e = .returned (.string (txt (pad s))) ∧ Below w.heap.size w w' := by
  obtain ⟨i0, hi, hz0, hz1, hz2⟩ := info_parts Try.info5
  have hsz : ((txt s).size : Int) ≤ 64 := by rw [txt_size]; omega
  have HP : Hid ((txt s ++ txt (Dk.zeros 64)).extract 0 64 = txt (pad s)) := by
    show _ = _
    rw [txt_append, txt_extract]
    congr 1
    unfold pad Dk.zeros
    rw [List.drop_zero, List.take_append, List.take_of_length_le hs, List.take_replicate]
    congr 2
    omega
  have h64 : (txt (Dk.zeros 64)).size = 64 := by rw [txt_size]; simp [Dk.zeros]
  go_enter Try.func26, Try.ntmps26
  go_wp2_with (at_make; refine wpList_make_full _ rfl _ _ 44 rfl w.heap.size 5 i0 (.int .u8 0) 1 Try.underlying44 hi hz0 hz1 .i64 .i64 _ _ 64 rfl rfl rfl rfl (by rw [hz2]; omega) (by unfold maxLen; omega) (Nat.le_refl _) ?_; intro w0 hown0 hgrow0)
  have hcv := conv_made hown0 (by omega)
  have hb0 : Below w.heap.size w w0 := (Below.refl _ _).grown hgrow0 (Nat.le_refl _) (by simp)
  clear hown0 hgrow0
  go_wp2
  rw [hcv]
  go_wp2
  go_ret
  exact ⟨by rw [HP.out]; rfl, hb0⟩
theorem refuses_yes_eq {d : St} {i : Int} (hd : d.dead = false) (h0 : 0 ≤ i) (h1 : i < d.n) : d.refuses i = 0 := by
  unfold St.refuses
  rw [hd, if_neg (by decide), if_neg (by omega)]
theorem refuses_no_eq {d : St} {i : Int} (hd : d.dead = false) (h0 : i < 0 ∨ (d.n : Int) ≤ i) : d.refuses i = 5 := by
  unfold St.refuses
  rw [hd, if_neg (by decide), if_pos h0]
theorem write_ok_eq {d : St} {i : Nat} {s : List UInt8} (hl : d.left < 0) (hd : d.dead = false) (hi : i < d.n) (hs : s.length ≤ 64) : d.write i s = (d.put i (pad s), 0) := by
  unfold St.write
  rw [if_neg (by rw [refuses_yes_eq hd (by omega) (by omega)]; simp), if_neg (by omega)]
  unfold St.try_
  rw [if_neg (by omega), hd, if_neg (by decide)]
  have e : d.step = d := by
    unfold St.step
    rw [if_neg (by omega)]
  rw [e]; rfl
theorem write_no_eq {d : St} {i : Int} {s : List UInt8} (hd : d.dead = false) (h0 : i < 0 ∨ (d.n : Int) ≤ i) : d.write i s = (d, 5) := by
  unfold St.write
  rw [if_pos (by rw [refuses_no_eq hd h0]; decide), refuses_no_eq hd h0]
theorem flush_ok_eq {d : St} (hl : d.left < 0) (hd : d.dead = false) : d.flush = (d.settle, 0) := by
  unfold St.flush St.try_
  rw [if_neg (by omega), hd, if_neg (by decide)]
  have e : d.step = d := by
    unfold St.step
    rw [if_neg (by omega)]
  rw [e]
theorem readS_eq {d : St} {i : Nat} (hd : d.dead = false) (hi : i < d.n) : d.readS i = d.now i := by
  unfold St.readS
  rw [if_pos (refuses_yes_eq hd (by omega) (by omega))]; rfl
set_option maxHeartbeats 2000000 in
set_option maxRecDepth 100000 in
theorem examples_any (w : World) :
    Calls Try.prog 10 #[] w fun e w' => e = .returned (.bool true) ∧ Below w.heap.size w w' := by
  go_enter Try.func10, Try.ntmps10
  go_wp2_with fail
  refine (new_yes 2 w (by omega) (by omega)).mono ?_
  rintro e w1 ⟨g, L, rfl, hD1, hL1, hb1⟩
  go_wp2_with fail
  refine (new_no 0 w1 (.inl (by omega))).mono ?_
  rintro e w2 ⟨rfl, rfl⟩
  have HW := Lib.hid (write_any g L _ 1 [97, 98] w1 hD1)
  rw [show ((1 : Int) = ((1 : Nat) : Int)) from rfl, write_ok_eq (by decide) rfl (by decide) (by decide)] at HW
  unfold ptr at *
  go_wp2_with fail
  refine HW.out.mono ?_
  rintro e w3 ⟨rfl, hMv⟩
  obtain ⟨L3, hD3, hL3, hb3, hs3, _, _⟩ := hMv.below hb1 hb1.size hL1
  clear hMv HW hD1
  have HR := Lib.hid (read_any g L3 _ 1 w3 hD3)
  rw [show ((1 : Int) = ((1 : Nat) : Int)) from rfl, readS_eq rfl (by decide), refuses_yes_eq rfl (by decide) (by decide)] at HR
  have HW2 := Lib.hid (fun w1 (h1 : Dv w1 g L3 ((St.fresh 2 fun x => zsec).put 1 (pad [97, 98]))) => write_any g L3 _ 2 [] w1 h1)
  rw [write_no_eq rfl (.inr (by decide))] at HW2
  obtain ⟨d, hd⟩ : ∃ d, d = (St.fresh 2 fun x => zsec).put 1 (pad [97, 98]) := ⟨_, rfl⟩
  have hwl : d.waits.length = 1 := by rw [hd]; decide
  have hdn : d.n = 2 := by rw [hd]; rfl
  rw [← hd] at HR hD3
  rw [← hd] at HW2
  obtain ⟨t, ht⟩ : ∃ t, t = txt (d.now 1) := ⟨_, rfl⟩
  rw [← ht] at HR
  have hts : t.size = 64 := by rw [ht, hd]; rfl
  have ht3 : (t.extract 0 3).toList = [97, 98, 0] := by rw [ht, hd, txt_extract, Lib.toList_data, txt_list]; decide
  clear ht hd
  have HTS := Lib.hid hts
  have HT3 := Lib.hid ht3
  have HWL := Lib.hid hwl
  have HDN := Lib.hid hdn
  clear hts ht3 hwl hdn
  unfold ptr at *
  go_wp2_with fail
  refine HR.out.mono ?_
  rintro e w4 ⟨rfl, hb4⟩
  have hD4 := hD3.below hb4
  have hts := HTS.out
  have ht3 := HT3.out
  have hb14 : Below w.heap.size w w4 := hb3.trans (hb4.mono hs3)
  clear HTS HT3
  go_wp2_with fail
  refine (HW2.out w4 hD4).mono ?_
  rintro e w5 ⟨rfl, hMv⟩
  obtain ⟨L5, hD5, hL5, hb5, hs5, _, _⟩ := hMv.below hb14 (Nat.le_trans hs3 hb4.size) hL3
  have HWT := Lib.hid (waiting_any g L5 d w5 hD5)
  have HSC := Lib.hid (fun w1 (h1 : Dv w1 g L5 d) => sectors_any g L5 d w1 h1)
  rw [HWL.out] at HWT
  rw [HDN.out] at HSC
  unfold ptr at *
  clear hMv
  go_wp2_with fail
  refine HWT.out.mono ?_
  rintro e w6 ⟨v, rfl, hrow, hb6⟩
  obtain ⟨gg, cc, rfl, _⟩ := hrow.form (by omega)
  have hD6 := hD5.below hb6
  go_wp2_with fail
  refine (HSC.out w6 hD6).mono ?_
  rintro e w7 ⟨rfl, rfl⟩
  go_wp2
  go_ret
  exact ⟨rfl, hb5.trans (hb6.mono hs5)⟩
end Go.Proofs.Ytfcfclgjalofnaa
