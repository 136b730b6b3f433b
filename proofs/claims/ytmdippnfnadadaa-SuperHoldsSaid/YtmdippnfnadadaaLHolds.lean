/-
  The walk of the law SuperHolds: behind a crash in a Write the old body or the new one is there.
  Conditions: a slice of texts that lies in memory.
-/
import Derived.Test.YtmdippnfnadadaaHM
import Derived.Test.YtmdippnfnadadaaLTurns
import Derived.Test.YtmdippnfnadadaaAf
import Derived.Test.YtmdippnfnadadaaKp
namespace Go.Proofs.Ytmdippnfnadadaa
open Go.RowKit Vi Sp Dk
set_option linter.unusedVariables false
theorem strs_list {w : World} {A : Option Addr} {n : Nat} (h : StrsAt w A n) : ∀ m, m ≤ n → ∃ ls : List ByteArray, ls.length = m ∧ ∀ i s, ls[i]? = some s → ∃ ad : Addr, A = some ad ∧ ad.block < w.heap.size ∧ w.cell? (ad.add i) = some (.string s)
  | 0, _ => ⟨[], rfl, fun i s hi => by simp at hi⟩
  | m + 1, hm => by
    obtain ⟨ls, hl, hc⟩ := strs_list h m (by omega)
    obtain ⟨ad, s, h1, h2, h3⟩ := h m (by omega)
    refine ⟨ls ++ [s], by simp [hl], fun i t hi => ?_⟩
    by_cases hlt : i < m
    · rw [List.getElem?_append_left (by omega)] at hi; exact hc i t hi
    · have : i = m := by
        have := (List.getElem?_eq_some_iff.1 hi).1
        simp [hl] at this; omega
      subst this
      rw [List.getElem?_append_right (by omega), hl, Nat.sub_self] at hi
      simp at hi
      subst hi
      exact ⟨ad, h1, h2, h3⟩
/-- A row of texts lies in none of a device's blocks. -/
theorem srow_apart {w : World} {B n gb c : Nat} {xs : List Value} {g : Nat} {L : List Nat} {d : St} (h : w.ownsRow B 9 1 (.slice (some ⟨gb, 0, none⟩) n c) n xs) (hD : Dv w g L d) : ∀ k ∈ L, gb ≠ k := by
  obtain ⟨cur, hh⟩ := own_hp h
  obtain ⟨_, fb, mb, cap, rfl, hA⟩ := hD
  intro k hk he
  subst he
  simp at hk
  rcases hk with rfl | rfl | rfl
  · have := hh.symm.trans hA.blk; simp at this
  · obtain ⟨cur', h1, _⟩ := hA.row
    have := hh.symm.trans h1; simp at this
  · obtain ⟨D, ⟨es, clock, hb, _⟩, _⟩ := hA.map
    have := hh.symm.trans hb; simp at this
theorem ints01 (W : World) : IntsAt (W.alloc (.cells #[.int .i64 0, .int .i64 1] 3)) (some ⟨W.heap.size, 0, none⟩) [0, 1] := fun j x hj => by
  have hh : (W.alloc (.cells #[.int .i64 0, .int .i64 1] 3)).heap[W.heap.size]? = some (.cells #[.int .i64 0, .int .i64 1] 3 (0, 0)) := heap_alloc_new _ _
  have hlt : j < 2 := by have := (List.getElem?_eq_some_iff.1 hj).1; simpa using this
  have h01 : j = 0 ∨ j = 1 := by omega
  refine ⟨?_, ⟨W.heap.size, 0, none⟩, rfl, by simp, ?_⟩
  · rcases h01 with rfl | rfl
    · simp at hj; omega
    · simp at hj; omega
  · rcases h01 with rfl | rfl
    · simp at hj; subst hj; rw [Addr.add_mid]; exact cell_of_row _ _ 0 _ 3 (0, 0) hh
    · simp at hj; subst hj; rw [Addr.add_mid]; exact cell_of_row _ _ 1 _ 3 (0, 0) hh
theorem ints_nil (W : World) : IntsAt W none [] := fun j x hj => by simp at hj
set_option maxHeartbeats 8000000 in
set_option maxRecDepth 100000 in
theorem lholds_any (A : Option Addr) (len cap : Nat) (k : Nat) (lost : Bool) (w : World) (hA : StrsAt w A len) (hlen : (len : Int) ≤ 9223372036854775807) (hcap : len ≤ cap) (hnil : A = none → len = 0 ∧ cap = 0) (hk : k < 256) :
    Calls Try.prog 5 #[.slice A len cap, .int .u8 k, .bool lost] w fun e w' => e = .returned (.bool true) ∧ Below w.heap.size w w' := by
  obtain ⟨i0, hi, hz0, hz1, hz2⟩ := info_parts Try.info9
  obtain ⟨m, hm⟩ : ∃ m, m = min len 6 := ⟨_, rfl⟩
  have hmm : min (len : Int) 6 = (m : Int) := by omega
  have hm6 : m ≤ 6 := by omega
  have hml : m ≤ len := by omega
  have hmc : (m : Int) ≤ cap := by omega
  obtain ⟨ls, hls, hcs⟩ := strs_list hA m hml
  have HC := Lib.hid hcs
  have HL := Lib.hid hls
  obtain ⟨fi, hfi⟩ : ∃ x : ByteArray, x = ⟨#[102, 105, 114, 115, 116]⟩ := ⟨_, rfl⟩
  have HFI := Lib.hid hfi
  have HN := Lib.hid (fun W => new_yes 2 W (by omega) (by omega))
  have HNIL := Lib.hid hnil
  have HM := Lib.hid hm
  clear hA hcs hls hfi hnil hm
  go_enter Try.func5, Try.ntmps5
  go_wp2_with fail
  refine (examples_any w).mono ?_
  rintro e w1 ⟨rfl, b1⟩
  go_wp2_with fail
  refine (HN.out _).mono ?_
  rintro e w4 ⟨gd, L, rfl, D4, L4, b4⟩
  have b04 := b1.trans (b4.mono b1.size)
  have LL : ∀ k ∈ L, w.heap.size ≤ k := fun k hk => Nat.le_trans b1.size (L4 k hk)
  clear b1 b4 L4 HN
  unfold ptr at *
  have s04 := b04.size
  go_upto_region 7 with fail
  go_cut [0] from 33 to 40 (fun s0 wx => s0 = s0 ∧ ∃ (gb c n : Nat) (bs : List ByteArray), bs.length = n ∧ 1 ≤ n ∧ n ≤ 7 ∧ s0 = .slice (some ⟨gb, 0, none⟩) n c ∧ wx.ownsRow w.heap.size 9 1 (.slice (some ⟨gb, 0, none⟩) n c) n (bs.map fun s => Value.string s) ∧ Dv wx gd L (St.fresh 2 fun _ => zsec) ∧ Below w.heap.size w wx)
  case first =>
    have hr0 : (w4.alloc (.cells #[.string fi] 9)).ownsRow w.heap.size 9 1 (.slice (some ⟨w4.heap.size, 0, none⟩) 1 1) 1 [.string fi] := World.ownsRow_lit w4 #[.string fi] 1 s04 (by unfold maxLen; omega) rfl
    have DA := D4.alloc (.cells #[.string fi] 9)
    have BA := b04.alloc s04 (.cells #[.string fi] 9)
    cases A with
    | none =>
      obtain ⟨h1, h2⟩ := HNIL.out rfl
      subst h1 h2
      have hm0 : m = 0 := by omega
      subst hm0
      have hmm0 : min (0 : Int) 6 = 0 := by decide
      rw [HFI.out] at hr0 DA BA
      clear hmm hml hmc hcap hlen HC HL
      go_wp2
      go_meet
      exact ⟨trivial, _, _, 1, [⟨#[102, 105, 114, 115, 116]⟩], rfl, by omega, by omega, rfl, hr0, DA, BA⟩
    | some ad =>
      have hnews : ∀ j u, (ls.map fun s => Value.string s)[j]? = some u → (w4.alloc (.cells #[.string fi] 9)).cell? (ad.add j) = some u := fun j u hu => by
        rw [List.getElem?_map] at hu
        obtain ⟨s, hs, rfl⟩ := Option.map_eq_some_iff.1 hu
        obtain ⟨ad2, e1, e2, e3⟩ := HC.out j s hs
        cases e1
        exact (BA.cell (p := ad.add j) (by rw [badd]; exact e2)).trans e3
      have HA1 : Hid (∀ wx, (w4.alloc (.cells #[.string fi] 9)).grownBy wx (some w4.heap.size) → Dv wx gd L (St.fresh 2 fun _ => zsec) ∧ Below w.heap.size w wx) := fun wx hg =>
        ⟨dv_grown DA hg (fun j hj e => by have := D4.lt j hj; simp at e; omega), BA.grown hg (by simp; omega) (fun j hj => by cases hj; exact s04)⟩
      clear DA BA
      go_wp2_with (at_builtin; refine wpList_append_own _ rfl _ _ 53 rfl w.heap.size 9 i0 (.string ⟨#[]⟩) 1 16 Try.underlying53 hi hz0 hz1 hz2 rfl (by decide) _ _ _ rfl (by rw [HFI.out] at hr0; exact hr0) ad m _ (ls.map fun s => Value.string s) rfl (by simp [HL.out]) (by rw [HFI.out] at hnews; exact hnews) (fun x hx => by simp at hx; obtain ⟨s, _, rfl⟩ := hx; rfl) (by unfold maxLen; omega) (by omega) (by simp; omega) ?_; intro v' w5 hown hgrow hnil5)
      go_meet
      obtain ⟨gb, c, e, _⟩ := hown.form (by omega)
      subst e
      obtain ⟨q1, q2⟩ := HA1.out w5 (by rw [HFI.out]; exact hgrow)
      exact ⟨trivial, gb, c, 1 + m, ⟨#[102, 105, 114, 115, 116]⟩ :: ls, by simp [HL.out]; omega, by omega, by omega, rfl, by simpa using hown, q1, q2⟩
  case rest =>
    obtain ⟨_, gb, c, n, bs, hbs, hn1, hn7, rfl, hrow, D5, b05⟩ := hcut
    have hap := srow_apart hrow D5
    have HNN : Hid (n = n) := rfl
    clear D4 b04 s04 HC HL HNIL HM hmm hmc hml hm6 hcap hlen hi hz0 hz1 hz2
    go_wp2_with fail
    go_loopw [10, 11] (fun s10 i wr => ∃ (j : Nat) (L : List Nat) (d : St) (old : ByteArray), j < n ∧ i = .int .i64 j ∧ s10 = .string old ∧ Dv wr gd L d ∧ Hd d j old ∧ (∀ x ∈ L, w.heap.size ≤ x) ∧ wr.ownsRow w.heap.size 9 1 (.slice (some ⟨gb, 0, none⟩) n c) n (bs.map fun s => Value.string s) ∧ Below w.heap.size w wr) (fun _ i _ => n - (RowKit.intOf i).toNat)
    case atStart => exact ⟨0, L, _, ⟨#[]⟩, by omega, rfl, rfl, D5, hd_fresh _, LL, hrow, b05⟩
    case round =>
      obtain ⟨j, Lr, d, old, hj, rfl, rfl, Dr, H, LLr, rowr, br⟩ := hrel
      clear D5 b05 hrow hap LL
      have HH := Lib.hid H
      have BR := Lib.hid br
      have LR := Lib.hid LLr
      clear H br LLr
      obtain ⟨s, hs⟩ : ∃ s, bs[j]? = some s := ⟨_, List.getElem?_eq_getElem (by omega)⟩
      have hcell : wr.cell? ⟨gb, j, none⟩ = some (.string s) := by rw [rowr.cellAt j (by omega), List.getElem?_map, hs]; rfl
      obtain ⟨S, hS, he⟩ := cut51 s
      obtain ⟨m2, hm2⟩ : ∃ m2 : Nat, min (s.size : Int) 51 = (m2 : Int) := ⟨(min (s.size : Int) 51).toNat, by omega⟩
      have hml2 : (m2 : Int) ≤ s.size := by omega
      have HE : Hid (s.extract 0 m2 = S) := by rw [hm2, Int.toNat_natCast] at he; exact he
      have h1' : (j : Int) < n := by omega
      have hj0 : (0 : Int) ≤ j := by omega
      have hwn : IntKind.i64.wrap ((n : Int) - 1) = (n : Int) - 1 := IntWalk.i64_in _ (by omega)
      have RR := Lib.hid rowr
      have hap := srow_apart rowr Dr
      have HAP := Lib.hid hap
      clear rowr hs he hap
      unfold ptr at *
      go_wp2_with fail
      go_quiet (fail)
      rw [HE.out]
      have DX : Dv (wr.drewN nq) gd Lr d := Dr.below ⟨rfl, rfl, rfl, Nat.le_refl _, fun _ _ => rfl⟩
      have BX : Below w.heap.size w (wr.drewN nq) := BR.out.trans ⟨rfl, rfl, rfl, Nat.le_refl _, fun _ _ => rfl⟩
      have RX : Hid ((wr.drewN nq).ownsRow w.heap.size 9 1 (.slice (some ⟨gb, 0, none⟩) n c) n (bs.map fun s => Value.string s)) := RR.out
      generalize wr.drewN nq = X at *
      clear Dr BR hcell HE hm2 hml2 RR
      by_cases hlast : j + 1 < n
      · have hl1 : (j : Int) < (n : Int) - 1 := by omega
        obtain ⟨t1, t2⟩ := HH.out.next (by omega) hS
        have K := Lib.hid (swrite_any gd Lr d 0 S X DX (by omega) (by omega))
        rw [show ((0 : Int)) = ((0 : Nat) : Int) from rfl, t1] at K
        obtain ⟨d2, hd2⟩ : ∃ d2, d2 = wrD d 0 S := ⟨_, rfl⟩
        rw [← hd2] at K t2
        have HT2 := Lib.hid t2
        have hwj : IntKind.i64.wrap ((j : Int) + 1) = ((j + 1 : Nat) : Int) := (IntWalk.i64_in _ (by omega)).trans (by push_cast; rfl)
        have HL1 := Lib.hid hlast
        clear t1 t2 hd2 DX hlast hS
        unfold ptr at *
        go_wp2_with fail
        refine K.out.mono ?_
        rintro e w7 ⟨rfl, M7⟩
        obtain ⟨L7, D7, LL7, b07, s7, k7, _⟩ := M7.below BX BX.size LR.out
        have row7 := row_keep RX.out k7 (fun k hk => by have := HAP.out k hk; simp [Value.ownBlock]; exact this)
        have D7' := Lib.hid D7
        have R7 := Lib.hid row7
        clear K M7 D7 row7 BX k7
        go_wp2
        go_roundw
        case rel => exact ⟨j + 1, L7, d2, S, HL1.out, by go_num, rfl, D7'.out, HT2.out, LL7, R7.out, b07⟩
        case measure => simp [RowKit.intOf]; omega
      · have hl1 : ¬ (j : Int) < (n : Int) - 1 := by omega
        obtain ⟨a, hka⟩ : ∃ a : Nat, (k : Int) % 3 = (a : Int) := ⟨k % 3, by push_cast; rfl⟩
        have ha3 : a < 3 := by omega
        have hwa : IntKind.i64.wrap (a : Int) = (a : Int) := IntWalk.i64_in _ (by omega)
        have KA := Lib.hid (arm_any gd Lr d a X DX (by omega) (by omega))
        have KW := Lib.hid (fun L W hD => swrite_any gd L (d.arm a) 0 S W hD (by omega) (by omega))
        have hwj : IntKind.i64.wrap ((j : Int) + 1) = ((j + 1 : Nat) : Int) := (IntWalk.i64_in _ (by omega)).trans (by push_cast; rfl)
        have hwu : IntKind.u64.wrap ((j + 1 : Nat) : Int) = ((j + 1 : Nat) : Int) := IntWalk.u64_in _ (by omega)
        clear DX hlast RX HAP
        unfold ptr at *
        go_wp2_with fail
        refine KA.out.mono ?_
        rintro e w7 ⟨rfl, M7⟩
        obtain ⟨L7, D7, LL7, b07, s7, _, _⟩ := M7.below BX BX.size LR.out
        clear KA M7 BX
        go_wp2_with fail
        refine (KW.out L7 _ D7).mono ?_
        rintro e w8 ⟨rfl, M8⟩
        obtain ⟨L8, D8, LL8, b08, s8, _, _⟩ := M8.below b07 s7 LL7
        clear KW M8 D7 LL7 b07 s7
        cases lost with
        | true =>
          obtain ⟨B, G, q, e, hV, hcase⟩ := hold_end HH.out (by omega) hS a ha3 true
          have hI := ints01 w8
          have HAF := Lib.hid (after_any gd L8 (Go.Proofs.Ytmdippnfnadadaa.wr (d.arm a) 0 S).1 _ [0, 1] 2 (w8.alloc (.cells #[.int .i64 0, .int .i64 1] 3)) (D8.alloc _) hI (by unfold maxLen; decide))
          have b08a := b08.alloc s8 (.cells #[.int .i64 0, .int .i64 1] 3)
          clear hI
          have HV := Lib.hid hV
          simp only [if_true] at HV
          have HCASE := Lib.hid hcase
          obtain ⟨dx, hdx⟩ : ∃ dx, dx = (Go.Proofs.Ytmdippnfnadadaa.wr (d.arm a) 0 S).1.after [0, 1] := ⟨_, rfl⟩
          rw [← hdx] at HAF HV
          obtain ⟨ff, hff⟩ : ∃ ff, ff = (Go.Proofs.Ytmdippnfnadadaa.wr (d.arm a) 0 S).2 := ⟨_, rfl⟩
          rw [← hff] at HCASE ⊢
          have HK := Lib.hid hka
          clear hV hcase hdx hff D8 b08 s8 hka
          unfold ptr at *
          go_wp2_with fail
          refine HAF.out.mono ?_
          rintro ez w9 ⟨gx, Lx, rfl, Dx, Lx2, b9⟩
          have b09 := b08a.trans (b9.mono b08a.size)
          have HRX := Lib.hid (sread_any gx Lx dx 0 w9 Dx (by omega) (by omega))
          rw [HV.out] at HRX
          clear HAF Dx Lx2 b9 b08a HV
          unfold ptr at *
          go_wp2_with fail
          refine HRX.out.mono ?_
          rintro ez w10 ⟨rfl, b10⟩
          have BB := Lib.hid (b09.trans (b10.mono b09.size))
          clear HRX b09 b10
          rcases HCASE.out with ⟨f0, a2, rB, rg, re⟩ | ⟨f7, hx⟩
          · subst f0 rB rg re
            have hk2 : (k : Int) % 3 = 2 := by rw [HK.out, a2]; rfl
            have qs : (B.toList == B.toList) = true := beq_self_eq_true _
            clear HCASE a2
            go_wp2
            go_ret
            exact ⟨rfl, BB.out⟩
          · subst f7
            clear HCASE
            rcases hx with ⟨h1, h2⟩ | ⟨h1, h2, h3⟩ | ⟨h1, h2, h3⟩
            · subst h1 h2
              go_wp2
              go_ret
              exact ⟨rfl, BB.out⟩
            · subst h2 h3
              have hj0 : ((j : Int) == 0) = false := by simp; omega
              have hj0' : decide (j = 0) = false := decide_eq_false (by omega)
              have qs : (B.toList == B.toList) = true := beq_self_eq_true _
              clear h1
              go_wp2
              go_ret
              exact ⟨rfl, BB.out⟩
            · cases h1
        | false =>
          obtain ⟨B, G, q, e, hV, hcase⟩ := hold_end HH.out (by omega) hS a ha3 false
          have HAF := Lib.hid (after_any gd L8 (Go.Proofs.Ytmdippnfnadadaa.wr (d.arm a) 0 S).1 none [] 0 w8 D8 (ints_nil w8) (by unfold maxLen; decide))
          have b08a := b08
          have HV := Lib.hid hV
          simp only [if_false, Bool.false_eq_true] at HV
          have HCASE := Lib.hid hcase
          obtain ⟨dx, hdx⟩ : ∃ dx, dx = (Go.Proofs.Ytmdippnfnadadaa.wr (d.arm a) 0 S).1.after [] := ⟨_, rfl⟩
          rw [← hdx] at HAF HV
          obtain ⟨ff, hff⟩ : ∃ ff, ff = (Go.Proofs.Ytmdippnfnadadaa.wr (d.arm a) 0 S).2 := ⟨_, rfl⟩
          rw [← hff] at HCASE ⊢
          have HK := Lib.hid hka
          clear hV hcase hdx hff D8 b08 s8 hka
          unfold ptr at *
          go_wp2_with fail
          refine HAF.out.mono ?_
          rintro ez w9 ⟨gx, Lx, rfl, Dx, Lx2, b9⟩
          have b09 := b08a.trans (b9.mono b08a.size)
          have HRX := Lib.hid (sread_any gx Lx dx 0 w9 Dx (by omega) (by omega))
          rw [HV.out] at HRX
          clear HAF Dx Lx2 b9 b08a HV
          unfold ptr at *
          go_wp2_with fail
          refine HRX.out.mono ?_
          rintro ez w10 ⟨rfl, b10⟩
          have BB := Lib.hid (b09.trans (b10.mono b09.size))
          clear HRX b09 b10
          rcases HCASE.out with ⟨f0, a2, rB, rg, re⟩ | ⟨f7, hx⟩
          · subst f0 rB rg re
            have hk2 : (k : Int) % 3 = 2 := by rw [HK.out, a2]; rfl
            have qs : (B.toList == B.toList) = true := beq_self_eq_true _
            clear HCASE a2
            go_wp2
            go_ret
            exact ⟨rfl, BB.out⟩
          · subst f7
            clear HCASE
            rcases hx with ⟨h1, h2⟩ | ⟨h1, h2, h3⟩ | ⟨h1, h2, h3⟩
            · subst h1 h2
              go_wp2
              go_ret
              exact ⟨rfl, BB.out⟩
            · subst h2 h3
              have hj0 : ((j : Int) == 0) = false := by simp; omega
              have hj0' : decide (j = 0) = false := decide_eq_false (by omega)
              have qs : (B.toList == B.toList) = true := beq_self_eq_true _
              clear h1
              go_wp2
              go_ret
              exact ⟨rfl, BB.out⟩
            · subst h2 h3
              have qs : (B.toList == B.toList) = true := beq_self_eq_true _
              by_cases hj00 : j = 0
              · subst hj00
                go_wp2
                go_ret
                exact ⟨rfl, BB.out⟩
              · have hj0 : ((j : Int) == 0) = false := by simp; omega
                have hj0' : decide (j = 0) = false := decide_eq_false hj00
                clear hj00
                by_cases hte : (B.toList == old.toList) = true
                · go_wp2
                  go_ret
                  exact ⟨rfl, BB.out⟩
                · have hte' : (B.toList == old.toList) = false := by simpa using hte
                  clear hte
                  go_wp2
                  go_ret
                  exact ⟨rfl, BB.out⟩
end Go.Proofs.Ytmdippnfnadadaa
