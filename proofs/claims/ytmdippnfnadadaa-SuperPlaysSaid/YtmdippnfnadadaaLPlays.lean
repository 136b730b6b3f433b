/-
  The walk of the law SuperPlays: bodies are written and read, deed by deed, as the document says.
  Conditions: a slice of deeds that lies in memory.
-/
import Derived.Test.YtmdippnfnadadaaLNewest
import Derived.Test.YtmdippnfnadadaaSX
import Derived.Test.YtmdippnfnadadaaRy
import Derived.Test.YtmdippnfnadadaaIm
import Derived.Deep.QuietTactic
import Derived.BigQuiet
namespace Go.Proofs.Ytmdippnfnadadaa
open Go.RowKit Vi Sp Dk
set_option linter.unusedVariables false
/-- The two devices, alike. -/
def Pair (w : World) (B g gr : Nat) (d : St) : Prop := ∃ L Lr, Dv w g L d ∧ Rf w B gr Lr d ∧ ∀ k ∈ L, B ≤ k
theorem Pair.below {w w' : World} {B g gr : Nat} {d : St} (h : Pair w B g gr d) (hb : Below w.heap.size w w') : Pair w' B g gr d := by
  obtain ⟨L, Lr, hD, hR, hL⟩ := h
  exact ⟨L, Lr, hD.below hb, hR.below hb, hL⟩
theorem padd (a : Addr) (n : Nat) : (a.add n).block = a.block := by unfold Addr.add; split <;> rfl
/-- So many deeds, in memory. -/
def DeedsAt (w : World) (A : Option Addr) (n : Nat) : Prop :=
  ∀ i, i < n → ∃ (ad : Addr) (k : Nat) (t : Int) (s : ByteArray) (G : Nat) (LA : Option Addr) (lost : List Int) (c : Nat), A = some ad ∧ ad.block < w.heap.size ∧ k < 256 ∧ (-9223372036854775808 ≤ t ∧ t ≤ 9223372036854775807) ∧ G < 18446744073709551616 ∧ lost.length ≤ maxLen ∧
    w.cell? (ad.add (i * 5)) = some (.int .u8 k) ∧ w.cell? (ad.add (i * 5 + 1)) = some (.int .i64 t) ∧ w.cell? (ad.add (i * 5 + 2)) = some (.string s) ∧ w.cell? (ad.add (i * 5 + 3)) = some (.int .u64 G) ∧ w.cell? (ad.add (i * 5 + 4)) = some (.slice LA lost.length c) ∧ IntsAt w LA lost
/-- A deed's cells. -/
def dc (k : Nat) (t : Int) (s : ByteArray) (G : Nat) (LA : Option Addr) (n c : Nat) : Array Value := #[.int .u8 k, .int .i64 t, .string s, .int .u64 G, .slice LA n c]
theorem rsput_all (g : Nat) (b : ByteArray) (w : World) (hg : g < 18446744073709551616) :
    Calls Try.prog 11 #[.int .u64 g, .string b] w fun e w' => e = .returned (.tuple #[.string (cS g b), .bool (cO g b)]) ∧ Below w.heap.size w w' := by
  by_cases h51 : 51 < b.size
  · have ho : Hid (cO g b = false) := by
      show _ = _
      cases e : cO g b
      · rfl
      · have := (cO_iff g b).1 e; omega
    have hs : Hid (cS g b = ⟨#[]⟩) := cS_no ho.out
    have h51' : (51 : Int) < b.size := by omega
    by_cases h0 : g = 0
    · subst h0
      go_enter Try.func11, Try.ntmps11
      go_wp2
      go_ret2
      exact ⟨by rw [ho.out, hs.out]; rfl, Below.refl _ _⟩
    · have hz : decide (g = 0) = false := decide_eq_false h0
      have hz' : ((g : Int) == 0) = false := by simpa using h0
      go_enter Try.func11, Try.ntmps11
      go_wp2
      go_ret2
      exact ⟨by rw [ho.out, hs.out]; rfl, Below.refl _ _⟩
  · exact rsput_any g b w hg (by omega)
set_option maxHeartbeats 8000000 in
set_option maxRecDepth 100000 in
theorem lplays_any (A : Option Addr) (len cap : Nat) (w : World) (hD : DeedsAt w A len) (hlen : (len : Int) ≤ 9223372036854775807) :
    Calls Try.prog 4 #[.slice A len cap] w fun e w' => e = .returned (.bool true) ∧ Below w.heap.size w w' := by
  have HD := Lib.hid hD
  clear hD
  go_enter Try.func4, Try.ntmps4
  go_wp2_with fail
  refine (examples_any w).mono ?_
  rintro e w0 ⟨rfl, hb0⟩
  go_wp2_with fail
  refine (new_yes 4 w0 (by omega) (by omega)).mono ?_
  rintro e w1 ⟨g, L, rfl, hD1, hL1, hb1⟩
  have hb01 := hb0.trans (hb1.mono hb0.size)
  unfold ptr at *
  go_wp2_with fail
  refine (rnew_yes 4 w1 (by omega) (by omega)).mono ?_
  rintro e w2 ⟨gr, Lr, rfl, hR2, hb2⟩
  have hb02 := hb01.trans (hb2.mono hb01.size)
  have hP : Pair w2 w.heap.size g gr (St.fresh 4 fun _ => zsec) := ⟨L, Lr, hD1.below hb2, hR2.base hb01.size, fun j hj => Nat.le_trans hb0.size (hL1 j hj)⟩
  have HP := Lib.hid hP
  clear hD1 hR2 hL1 hb1 hb2 hb01 hP hb0
  unfold ptr at *
  go_wp2_with fail
  go_loopw [4, 6, 7] (fun g4 g6 i wr => ∃ (g gr : Nat) (d : St) (j : Nat), g4 = .pointer (some ⟨g, 0, none⟩) ∧ g6 = .pointer (some ⟨gr, 0, none⟩) ∧ i = .int .i64 j ∧ j ≤ len ∧ Pair wr w.heap.size g gr d ∧ Below w.heap.size w wr) (fun _ _ i _ => len - (RowKit.intOf i).toNat)
  case atStart => exact ⟨g, gr, _, 0, rfl, rfl, rfl, Nat.zero_le _, HP.out, hb02⟩
  case round =>
    obtain ⟨g, gr, d, j, rfl, rfl, rfl, hj, hPr, hbr⟩ := hrel
    clear HP hb02
    by_cases h1 : j < len
    · by_cases h2 : j < 40
      · have h1' : (j : Int) < len := by omega
        have h2' : (j : Int) < 40 := by omega
        have hj0 : (0 : Int) ≤ j := by omega
        obtain ⟨ad, kk, t, l, G, LA, lost, c, hAe, hadb, hkk, ht, hG, hlost, d0, d1, d2, d3, d4, hI⟩ := HD.out j h1
        subst hAe
        have hoff : ∀ o, ad.add (j * 5 + o) = ⟨(ad.add (j * 5)).block, (ad.add (j * 5)).off + o, none⟩ ∨ o = 0 := by
          intro o
          by_cases h0 : o = 0
          · exact .inr h0
          · left
            unfold Addr.add
            by_cases h0' : j * 5 = 0 <;> simp [h0', Nat.add_assoc, h0]
        have e0 : wr.cell? (ad.add (j * 5)) = some (.int .u8 kk) := (hbr.cell (p := ad.add (j * 5)) (by rw [padd]; exact hadb)).trans d0
        have e1 : wr.cell? (ad.add (j * 5 + 1)) = some (.int .i64 t) := (hbr.cell (p := ad.add (j * 5 + 1)) (by rw [padd]; exact hadb)).trans d1
        have e2 : wr.cell? (ad.add (j * 5 + 2)) = some (.string l) := (hbr.cell (p := ad.add (j * 5 + 2)) (by rw [padd]; exact hadb)).trans d2
        have e3 : wr.cell? (ad.add (j * 5 + 3)) = some (.int .u64 G) := (hbr.cell (p := ad.add (j * 5 + 3)) (by rw [padd]; exact hadb)).trans d3
        have e4 : wr.cell? (ad.add (j * 5 + 4)) = some (.slice LA lost.length c) := (hbr.cell (p := ad.add (j * 5 + 4)) (by rw [padd]; exact hadb)).trans d4
        rw [(hoff 1).resolve_right (by decide)] at e1
        rw [(hoff 2).resolve_right (by decide)] at e2
        rw [(hoff 3).resolve_right (by decide)] at e3
        rw [(hoff 4).resolve_right (by decide)] at e4
        have HI := Lib.hid hI
        have HPR := Lib.hid hPr
        have HBR := Lib.hid hbr
        clear hoff d0 d1 d2 d3 d4 hI hPr hbr hadb
        obtain ⟨w3, hw3⟩ : ∃ w3, w3 = wr.alloc (.cells (dc kk t l G LA lost.length c) 39) := ⟨_, rfl⟩
        obtain ⟨bd, hbd⟩ : ∃ bd, bd = wr.heap.size := ⟨_, rfl⟩
        have hb3 : Below wr.heap.size wr w3 := by rw [hw3]; exact (Below.refl _ _).alloc (Nat.le_refl _) _
        have hblk3 : w3.heap[bd]? = some (.cells (dc kk t l G LA lost.length c) 39 (0, 0)) := by rw [hw3, hbd]; exact heap_alloc_new wr _
        have q0 : w3.cell? ⟨bd, 0, none⟩ = some (.int .u8 kk) := cell_of_row w3 bd 0 _ 39 (0, 0) hblk3
        have q1 : w3.cell? ⟨bd, 1, none⟩ = some (.int .i64 t) := cell_of_row w3 bd 1 _ 39 (0, 0) hblk3
        have HB3 := Lib.hid hb3
        have HK3 := Lib.hid hblk3
        have HBD := Lib.hid hbd
        clear hb3 hblk3
        go_upto_region 12 with fail
        refine wp_at (w := w3) hw3.symm ?_
        rw [← hbd]
        clear e0 e1 e2 e3 e4 hw3 hbd
        go_cut [60] from 33 to 161 (fun s60 wx => w3 = wx ∧ ∃ bb : Bool, s60 = .bool bb ∧ (bb = true → 0 ≤ t))
        case first =>
          by_cases t0 : 0 ≤ t
          · by_cases t1 : t < 1000
            · go_wp2_with fail
              go_meet
              exact ⟨rfl, _, rfl, fun _ => t0⟩
            · have t1' : decide (t < 1000) = false := decide_eq_false t1
              go_wp2_with fail
              go_meet
              exact ⟨rfl, false, rfl, fun h => by cases h⟩
          · have t0' : decide (0 ≤ t) = false := decide_eq_false t0
            go_wp2_with fail
            go_meet
            exact ⟨rfl, false, rfl, fun h => by cases h⟩
        case rest =>
          obtain ⟨rfl, bb, rfl, hbb⟩ := hcut
          go_upto_if 60 with (fail)
          go_cut [61] from 33 to 161 (fun s61 wx => s61 = s61 ∧ ∃ t' : Int, (-9223372036854775808 ≤ t' ∧ t' ≤ 9223372036854775807) ∧ wx.heap[bd]? = some (.cells (dc kk t' l G LA lost.length c) 39 (0, 0)) ∧ Below wr.heap.size wr wx)
          case first =>
            cases bb
            · go_wp2_with fail
              go_meet
              exact ⟨trivial, t, ht, HK3.out, HB3.out⟩
            · have t0 := hbb rfl
              have y1 : w3.drew.cell? ⟨bd, 1, none⟩ = some (.int .i64 t) := q1
              have yf : w3.drew.frozen? ⟨bd, 1, none⟩ = false := frozen_of_row w3.drew bd 1 _ 39 HK3.out
              have zf : w3.frozen? ⟨bd, 1, none⟩ = false := frozen_of_row w3 bd 1 _ 39 HK3.out
              obtain ⟨r, hr⟩ : ∃ r, r = t % 5 := ⟨_, rfl⟩
              have hrt : t.tmod 5 = r := by rw [hr]; exact Int.tmod_eq_emod_of_nonneg t0
              have hr0 : 0 ≤ r := by rw [hr]; exact Int.emod_nonneg _ (by omega)
              have hr1 : r < 5 := by rw [hr]; exact Int.emod_lt_of_pos _ (by omega)
              have hrw : IntKind.i64.wrap r = r := IntWalk.i64_in _ (by omega)
              have hbs : Below wr.heap.size wr (w3.setCell ⟨bd, 1, none⟩ (.int .i64 r)) := (HB3.out).setCell (p := ⟨bd, 1, none⟩) (by show wr.heap.size ≤ bd; have := HBD.out; omega) _
              have HBS := Lib.hid hbs
              have hs1 := heap_setCell_same w3 bd 1 _ 39 (.int .i64 r) HK3.out
              have HS1 : Hid ((w3.setCell ⟨bd, 1, none⟩ (.int .i64 r)).heap[bd]? = some (.cells (dc kk r l G LA lost.length c) 39 (0, 0))) := hs1
              clear hr hbs hs1
              go_wp2_with fail
              go_meet
              exact ⟨trivial, r, by omega, HS1.out, HBS.out⟩
          case rest =>
            obtain ⟨_, t', ht', hblk, hbx⟩ := hcut
            have hbw : Below w.heap.size w wc := HBR.out.trans (hbx.mono HBR.out.size)
            obtain ⟨L, Lr, hDr, hRr, hL⟩ := HPR.out
            have hD5 := hDr.below hbx
            have hR5 := hRr.below hbx
            have hI5 := HI.out.below hbw
            have x0 : wc.cell? ⟨bd, 0, none⟩ = some (.int .u8 kk) := cell_of_row wc bd 0 _ 39 (0, 0) hblk
            have x1 : wc.cell? ⟨bd, 1, none⟩ = some (.int .i64 t') := cell_of_row wc bd 1 _ 39 (0, 0) hblk
            have x2 : wc.cell? ⟨bd, 2, none⟩ = some (.string l) := cell_of_row wc bd 2 _ 39 (0, 0) hblk
            have x3 : wc.cell? ⟨bd, 3, none⟩ = some (.int .u64 G) := cell_of_row wc bd 3 _ 39 (0, 0) hblk
            have x4 : wc.cell? ⟨bd, 4, none⟩ = some (.slice LA lost.length c) := cell_of_row wc bd 4 _ 39 (0, 0) hblk
            have hlt : bd < wc.heap.size := lt_of_heap hblk
            have HN1 : Hid (bd ∉ L) := fun hm => by have := hDr.lt _ hm; have := HBD.out; omega
            have HN2 : Hid (bd ∉ Lr) := fun hm => by have := hRr.lt _ hm; have := HBD.out; omega
            have HLOW := Lib.hid hRr.low
            have HL := Lib.hid hL
            have HDX := Lib.hid hD5
            have HRX := Lib.hid hR5
            have HIX := Lib.hid hI5
            have HBX := Lib.hid hbw
            have HLT := Lib.hid hlt
            clear hbw hDr hRr hD5 hR5 hI5 hblk hlt hL HPR HBR HI HB3 HK3 q0 q1 hbb hbx HBD ht
            obtain ⟨q, hq⟩ : ∃ q : Int, (kk : Int) % 6 = q := ⟨_, rfl⟩
            by_cases q2 : q = 2
            · subst q2
              have KD := Lib.hid (sread_any g L d t' wc HDX.out ht'.1 ht'.2)
              have KR := Lib.hid (fun wx (hx : Below wc.heap.size wc wx) => rsread_any w.heap.size gr Lr d t' wx (HRX.out.below hx) ht'.1 ht'.2)
              have fin : Hid (∀ wx, Below wc.heap.size wc wx → Pair wx w.heap.size g gr d ∧ Below w.heap.size w wx) := fun wx hx => ⟨⟨L, Lr, HDX.out.below hx, HRX.out.below hx, HL.out⟩, HBX.out.trans (hx.mono HBX.out.size)⟩
              unfold rdV at KD KR
              generalize rdB d t' = vb at *
              generalize rdG d t' = vg at *
              generalize rdK d t' = vk at *
              generalize rdE d t' = ve at *
              have qb : (vb.toList == vb.toList) = true := beq_self_eq_true _
              unfold ptr at *
              go_wp2_with fail
              refine KD.out.mono ?_
              rintro e w5 ⟨rfl, b5⟩
              have x1' : w5.cell? ⟨bd, 1, none⟩ = some (.int .i64 t') := (b5.cell (p := ⟨bd, 1, none⟩) HLT.out).trans x1
              go_wp2_with fail
              refine (KR.out _ b5).mono ?_
              rintro e w6 ⟨rfl, b6⟩
              have HF := Lib.hid (fin.out _ (b5.trans (b6.mono b5.size)))
              clear KD KR b5 b6 x1' x0 x1 x2 x3 x4
              go_wp2
              go_roundw
              case rel => exact ⟨g, gr, d, j + 1, rfl, rfl, by go_num, by omega, HF.out.1, HF.out.2⟩
              case measure => simp [RowKit.intOf]; omega
            · have n2 : (q == 2) = false := by simpa using q2
              by_cases q3 : q = 3
              · subst q3
                have KP := Lib.hid (rsput_all G l wc hG)
                obtain ⟨cc, hcc⟩ : ∃ cc, cc = cS G l := ⟨_, rfl⟩
                rw [← hcc] at KP
                generalize cO G l = co at *
                unfold ptr at *
                go_wp2_with fail
                refine KP.out.mono ?_
                rintro e w5 ⟨rfl, b5⟩
                have x1' : w5.cell? ⟨bd, 1, none⟩ = some (.int .i64 t') := (b5.cell (p := ⟨bd, 1, none⟩) HLT.out).trans x1
                have HDX := Lib.hid (HDX.out.below b5)
                have HRX := Lib.hid (HRX.out.below b5)
                have HLT := Lib.hid (Nat.lt_of_lt_of_le HLT.out b5.size)
                have HBX := Lib.hid (HBX.out.trans (b5.mono HBX.out.size))
                clear KP b5 x0 x1 x2 x3 x4 hcc
                have x1 := x1'
                clear x1'
                obtain ⟨d1, hd1⟩ : ∃ d1, d1 = (d.write t' cc.data.toList).1 := ⟨_, rfl⟩
                obtain ⟨r, hr⟩ : ∃ r, r = (d.write t' cc.data.toList).2 := ⟨_, rfl⟩
                have HC1 : Hid (∀ wx, Dv wx g L d → bd < wx.heap.size → (wx.cell? ⟨bd, 1, none⟩ = some (.int .i64 t')) →
                    Calls Try.prog 19 #[ptr g, .int .i64 t', .string cc] wx fun e w' => e = .returned (.int .i64 r) ∧ Moves g L d1 wx w' ∧ w'.cell? ⟨bd, 1, none⟩ = some (.int .i64 t') ∧ (∀ e', Rf wx w.heap.size gr Lr e' → Rf w' w.heap.size gr Lr e') ∧ bd < w'.heap.size) := by
                  intro wx hDx hlx hcx
                  rw [hd1, hr]
                  have hwr := write_any g L d t' cc.data.toList wx hDx
                  rw [txt_of] at hwr
                  refine hwr.mono ?_
                  rintro e w' ⟨he, L', h1, h2, h3⟩
                  have hcell : ∀ o, w'.cell? ⟨bd, o, none⟩ = wx.cell? ⟨bd, o, none⟩ := fun o => World.cell?_of_block (h2.block bd hlx HN1.out)
                  exact ⟨he, ⟨L', h1, h2, h3⟩, (hcell 1).trans hcx, fun e' hR' => hR'.keep h2 (rf_apart hR' hDx), Nat.lt_of_lt_of_le hlx h2.size⟩
                have HC2 : Hid (∀ wx, Rf wx w.heap.size gr Lr d → bd < wx.heap.size → (wx.cell? ⟨bd, 1, none⟩ = some (.int .i64 t')) →
                    Calls Try.prog 20 #[ptr gr, .int .i64 t', .string cc] wx fun e w' => e = .returned (.int .i64 r) ∧ (Rf w' w.heap.size gr Lr d1 ∧ Keep Lr wx w') ∧ w'.cell? ⟨bd, 1, none⟩ = some (.int .i64 t') ∧ (∀ L' e', Dv wx g L' e' → Dv w' g L' e') ∧ bd < w'.heap.size) := by
                  intro wx hRx hlx hcx
                  rw [hd1, hr]
                  have hwr := rwrite_any w.heap.size gr Lr d t' cc.data.toList wx hRx
                  rw [txt_of] at hwr
                  refine hwr.mono ?_
                  rintro e w' ⟨he, h1, h2⟩
                  have hcell : ∀ o, w'.cell? ⟨bd, o, none⟩ = wx.cell? ⟨bd, o, none⟩ := fun o => World.cell?_of_block (h2.block bd hlx HN2.out)
                  exact ⟨he, ⟨h1, h2⟩, (hcell 1).trans hcx, fun L' e' hD' => hD'.keep h2 (fun j hj hm => rf_apart hRx hD' j hm hj), Nat.lt_of_lt_of_le hlx h2.size⟩
                have hDz : Dv w5.drew g L d := HDX.out.below (Below.refl _ _).drew
                have hRz : Rf w5.drew w.heap.size gr Lr d := HRX.out.below (Below.refl _ _).drew
                have hltz : bd < w5.drew.heap.size := HLT.out
                have hbz : Below w.heap.size w w5.drew := HBX.out.drew
                have hBw : w.heap.size ≤ w5.drew.heap.size := HBX.out.size
                have p1 : w5.drew.cell? ⟨bd, 1, none⟩ = some (.int .i64 t') := x1

                clear hd1 hr
                unfold ptr at *
                go_upto_region 24 with fail
                go_region_held3 (fun W => W.cell? ⟨bd, 1, none⟩ = some (.int .i64 t')) (assumption) (first
                  | (go_at_call 19; ((first | with_reducible refine (HC1.out _ hDz hltz p1).mono ?_ | with_reducible refine (HC1.out _ (hTR _ _ hDz) hlR c1R).mono ?_); rintro e wD ⟨rfl, hMD, c1D, hTD, hlD⟩))
                  | (go_at_call 20; ((first | with_reducible refine (HC2.out _ hRz hltz p1).mono ?_ | with_reducible refine (HC2.out _ (hTD _ hRz) hlD c1D).mono ?_); rintro e wR ⟨rfl, hMR, c1R, hTR, hlR⟩)))
                all_goals
                  go_wp2
                  go_roundw
                  case rel =>
                    first
                      | (obtain ⟨LD, hDD, hKD, hFD⟩ := hMD
                         have hlow := hFD.low hBw HL.out
                         exact ⟨g, gr, d1, j + 1, rfl, rfl, by go_num, by omega, ⟨LD, Lr, hTR _ _ hDD, hMR.1, hlow⟩, Keep.below (Keep.below hbz hKD hBw HL.out) hMR.2 (Nat.le_trans hBw hKD.size) HLOW.out⟩)
                      | (obtain ⟨LD, hDD, hKD, hFD⟩ := hMD
                         have hBR := Nat.le_trans hBw hMR.2.size
                         have hlow := hFD.low hBR HL.out
                         exact ⟨g, gr, d1, j + 1, rfl, rfl, by go_num, by omega, ⟨LD, Lr, hDD, hTD _ hMR.1, hlow⟩, Keep.below (Keep.below hbz hMR.2 hBw HLOW.out) hKD hBR HL.out⟩)
                  case measure => simp [RowKit.intOf]; omega
              · have n3 : (q == 3) = false := by simpa using q3
                by_cases q4 : q = 4
                · subst q4
                  have KD := Lib.hid (arm_any g L d t' wc HDX.out ht'.1 ht'.2)
                  have KR := Lib.hid (fun wx (hx : Rf wx w.heap.size gr Lr d) => rarm_any w.heap.size gr Lr d t' wx hx ht'.1 ht'.2)
                  unfold ptr at *
                  go_wp2_with fail
                  refine KD.out.mono ?_
                  rintro e w5 ⟨rfl, L5, D5, k5, f5⟩
                  have x1' : w5.cell? ⟨bd, 1, none⟩ = some (.int .i64 t') := (World.cell?_of_block (k5.block bd HLT.out HN1.out)).trans x1
                  have R5 := HRX.out.keep k5 (rf_apart HRX.out HDX.out)
                  have hlow := f5.low HBX.out.size HL.out
                  have b5 := Keep.below HBX.out k5 HBX.out.size HL.out
                  go_wp2_with fail
                  refine (KR.out _ R5).mono ?_
                  rintro e w6 ⟨rfl, R6, k6⟩
                  have D6 := D5.keep k6 (fun i hi hm => rf_apart R5 D5 i hm hi)
                  have HF : Hid (Pair w6 w.heap.size g gr (d.arm t') ∧ Below w.heap.size w w6) := ⟨⟨L5, Lr, D6, R6, hlow⟩, Keep.below b5 k6 b5.size HLOW.out⟩
                  clear KD KR D5 k5 f5 R5 hlow b5 R6 k6 D6 x0 x1 x1' x2 x3 x4
                  go_wp2
                  go_roundw
                  case rel => exact ⟨g, gr, d.arm t', j + 1, rfl, rfl, by go_num, by omega, HF.out.1, HF.out.2⟩
                  case measure => simp [RowKit.intOf]; omega
                · have n4 : (q == 4) = false := by simpa using q4
                  by_cases q5 : q = 5
                  · subst q5
                    have KD := Lib.hid (after_any g L d LA lost c wc HDX.out HIX.out hlost)
                    have KR := Lib.hid (fun wx (hx : Below wc.heap.size wc wx) => rafter_any w.heap.size gr Lr d LA lost c wx (HRX.out.below hx) (HIX.out.below hx) hlost)
                    unfold ptr at *
                    go_wp2_with fail
                    refine KD.out.mono ?_
                    rintro e w5 ⟨g5, L5, rfl, D5, l5, b5⟩
                    have x4' : w5.cell? ⟨bd, 4, none⟩ = some (.slice LA lost.length c) := (b5.cell (p := ⟨bd, 4, none⟩) HLT.out).trans x4
                    unfold ptr at *
                    go_wp2_with fail
                    refine (KR.out _ b5).mono ?_
                    rintro e w6 ⟨gr6, L6, rfl, R6, b6⟩
                    have HF : Hid (Pair w6 w.heap.size g5 gr6 (d.after lost) ∧ Below w.heap.size w w6) :=
                      ⟨⟨L5, L6, D5.below b6, R6.base (Nat.le_trans HBX.out.size b5.size), fun i hi => Nat.le_trans HBX.out.size (l5 i hi)⟩, HBX.out.trans ((b5.trans (b6.mono b5.size)).mono HBX.out.size)⟩
                    clear KD KR D5 l5 b5 R6 b6 x0 x1 x2 x3 x4 x4'
                    unfold ptr at *
                    go_wp2
                    go_roundw
                    case rel => exact ⟨g5, gr6, d.after lost, j + 1, rfl, rfl, by go_num, by omega, HF.out.1, HF.out.2⟩
                    case measure => simp [RowKit.intOf]; omega
                  · have n5 : (q == 5) = false := by simpa using q5
                    obtain ⟨d1, hd1⟩ : ∃ d1, d1 = (Go.Proofs.Ytmdippnfnadadaa.wr d t' l).1 := ⟨_, rfl⟩
                    obtain ⟨r, hr⟩ : ∃ r, r = (Go.Proofs.Ytmdippnfnadadaa.wr d t' l).2 := ⟨_, rfl⟩
                    have HC1 : Hid (∀ wx, Dv wx g L d → bd < wx.heap.size → (wx.cell? ⟨bd, 1, none⟩ = some (.int .i64 t') ∧ wx.cell? ⟨bd, 2, none⟩ = some (.string l)) →
                        Calls Try.prog 25 #[ptr g, .int .i64 t', .string l] wx fun e w' => e = .returned (.int .i64 r) ∧ Moves g L d1 wx w' ∧ w'.cell? ⟨bd, 1, none⟩ = some (.int .i64 t') ∧ w'.cell? ⟨bd, 2, none⟩ = some (.string l) ∧ (∀ e', Rf wx w.heap.size gr Lr e' → Rf w' w.heap.size gr Lr e') ∧ bd < w'.heap.size) := by
                      intro wx hDx hlx hcx
                      rw [hd1, hr]
                      refine (swrite_any g L d t' l wx hDx ht'.1 ht'.2).mono ?_
                      rintro e w' ⟨he, L', h1, h2, h3⟩
                      have hcell : ∀ o, w'.cell? ⟨bd, o, none⟩ = wx.cell? ⟨bd, o, none⟩ := fun o => World.cell?_of_block (h2.block bd hlx HN1.out)
                      exact ⟨he, ⟨L', h1, h2, h3⟩, (hcell 1).trans hcx.1, (hcell 2).trans hcx.2, fun e' hR' => hR'.keep h2 (rf_apart hR' hDx), Nat.lt_of_lt_of_le hlx h2.size⟩
                    have HC2 : Hid (∀ wx, Rf wx w.heap.size gr Lr d → bd < wx.heap.size → (wx.cell? ⟨bd, 1, none⟩ = some (.int .i64 t') ∧ wx.cell? ⟨bd, 2, none⟩ = some (.string l)) →
                        Calls Try.prog 26 #[ptr gr, .int .i64 t', .string l] wx fun e w' => e = .returned (.int .i64 r) ∧ (Rf w' w.heap.size gr Lr d1 ∧ Keep Lr wx w') ∧ w'.cell? ⟨bd, 1, none⟩ = some (.int .i64 t') ∧ w'.cell? ⟨bd, 2, none⟩ = some (.string l) ∧ (∀ L' e', Dv wx g L' e' → Dv w' g L' e') ∧ bd < w'.heap.size) := by
                      intro wx hRx hlx hcx
                      rw [hd1, hr]
                      refine (rswrite_any w.heap.size gr Lr d t' l wx hRx ht'.1 ht'.2).mono ?_
                      rintro e w' ⟨he, h1, h2⟩
                      have hcell : ∀ o, w'.cell? ⟨bd, o, none⟩ = wx.cell? ⟨bd, o, none⟩ := fun o => World.cell?_of_block (h2.block bd hlx HN2.out)
                      exact ⟨he, ⟨h1, h2⟩, (hcell 1).trans hcx.1, (hcell 2).trans hcx.2, fun L' e' hD' => hD'.keep h2 (fun j hj hm => rf_apart hRx hD' j hm hj), Nat.lt_of_lt_of_le hlx h2.size⟩
                    have hDz : Dv wc.drew g L d := HDX.out.below (Below.refl _ _).drew
                    have hRz : Rf wc.drew w.heap.size gr Lr d := HRX.out.below (Below.refl _ _).drew
                    have hltz : bd < wc.drew.heap.size := HLT.out
                    have hbz : Below w.heap.size w wc.drew := HBX.out.drew
                    have hBw : w.heap.size ≤ wc.drew.heap.size := HBX.out.size
                    have p1 : wc.drew.cell? ⟨bd, 1, none⟩ = some (.int .i64 t') := x1
                    have p2 : wc.drew.cell? ⟨bd, 2, none⟩ = some (.string l) := x2
                    clear hd1 hr
                    unfold ptr at *
                    clear q2 q3 q4 q5
                    go_upto_region 15 with fail
                    go_region_held3 (fun W => W.cell? ⟨bd, 1, none⟩ = some (.int .i64 t') ∧ W.cell? ⟨bd, 2, none⟩ = some (.string l)) ((constructor <;> assumption)) (first
                      | (go_at_call 25; ((first | with_reducible refine (HC1.out _ hDz hltz ⟨p1, p2⟩).mono ?_ | with_reducible refine (HC1.out _ (hTR _ _ hDz) hlR ⟨c1R, c2R⟩).mono ?_); rintro e wD ⟨rfl, hMD, c1D, c2D, hTD, hlD⟩))
                      | (go_at_call 26; ((first | with_reducible refine (HC2.out _ hRz hltz ⟨p1, p2⟩).mono ?_ | with_reducible refine (HC2.out _ (hTD _ hRz) hlD ⟨c1D, c2D⟩).mono ?_); rintro e wR ⟨rfl, hMR, c1R, c2R, hTR, hlR⟩)))
                    all_goals
                      go_wp2
                      go_roundw
                      case rel =>
                        first
                          | (obtain ⟨LD, hDD, hKD, hFD⟩ := hMD
                             have hlow := hFD.low hBw HL.out
                             exact ⟨g, gr, d1, j + 1, rfl, rfl, by go_num, by omega, ⟨LD, Lr, hTR _ _ hDD, hMR.1, hlow⟩, Keep.below (Keep.below hbz hKD hBw HL.out) hMR.2 (Nat.le_trans hBw hKD.size) HLOW.out⟩)
                          | (obtain ⟨LD, hDD, hKD, hFD⟩ := hMD
                             have hBR := Nat.le_trans hBw hMR.2.size
                             have hlow := hFD.low hBR HL.out
                             exact ⟨g, gr, d1, j + 1, rfl, rfl, by go_num, by omega, ⟨LD, Lr, hDD, hTD _ hMR.1, hlow⟩, Keep.below (Keep.below hbz hMR.2 hBw HLOW.out) hKD hBR HL.out⟩)
                      case measure => simp [RowKit.intOf]; omega
      · have h2' : decide (j < 40) = false := decide_eq_false h2
        have h2'' : decide ((j : Int) < 40) = false := decide_eq_false (by omega)
        have h1' : (j : Int) < len := by omega
        obtain ⟨L8, Lr8, hD8, hR8, hL8⟩ := hPr
        have HIM := Lib.hid (image_any g L8 d wr hD8)
        have HIR := Lib.hid (fun wx (hx : Below wr.heap.size wr wx) => rimage_any w.heap.size gr Lr8 d wx (hR8.below hx))
        have qi : ((txt d.image).toList == (txt d.image).toList) = true := beq_self_eq_true _
        generalize txt d.image = img at *
        have BR := Lib.hid hbr
        clear hD8 hR8 hL8 hbr
        unfold ptr at *
        go_wp2_with fail
        refine HIM.out.mono ?_
        rintro e w6 ⟨rfl, hb6⟩
        go_wp2_with fail
        refine (HIR.out w6 hb6).mono ?_
        rintro e w7 ⟨rfl, rfl⟩
        have BZ := Lib.hid (BR.out.trans (hb6.mono BR.out.size))
        clear hb6 HIM HIR
        go_wp2
        go_ret
        exact ⟨rfl, BZ.out⟩
    · have h1' : decide (j < len) = false := decide_eq_false h1
      have h1'' : decide ((j : Int) < len) = false := decide_eq_false (by omega)
      obtain ⟨L8, Lr8, hD8, hR8, hL8⟩ := hPr
      have HIM := Lib.hid (image_any g L8 d wr hD8)
      have HIR := Lib.hid (fun wx (hx : Below wr.heap.size wr wx) => rimage_any w.heap.size gr Lr8 d wx (hR8.below hx))
      have qi : ((txt d.image).toList == (txt d.image).toList) = true := beq_self_eq_true _
      generalize txt d.image = img at *
      have BR := Lib.hid hbr
      clear hD8 hR8 hL8 hbr
      unfold ptr at *
      go_wp2_with fail
      refine HIM.out.mono ?_
      rintro e w6 ⟨rfl, hb6⟩
      go_wp2_with fail
      refine (HIR.out w6 hb6).mono ?_
      rintro e w7 ⟨rfl, rfl⟩
      have BZ := Lib.hid (BR.out.trans (hb6.mono BR.out.size))
      clear hb6 HIM HIR
      go_wp2
      go_ret
      exact ⟨rfl, BZ.out⟩
end Go.Proofs.Ytmdippnfnadadaa
