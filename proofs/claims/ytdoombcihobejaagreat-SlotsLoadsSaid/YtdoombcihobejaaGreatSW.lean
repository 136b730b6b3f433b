/-
  The contract of super.Write: the other of both is written, and flushed.
  Conditions: a device that lies in memory.
-/
import Derived.Test.YtdoombcihobejaaGreatSS
namespace Go.Proofs.YtdoombcihobejaaGreat
open Go.RowKit Vi Sp Dk
set_option linter.unusedVariables false
/-- Which of both is written. -/
def wrO (d : St) (a : Int) : Int := if rdE d a = 6 then 0 else 1 - rdK d a
def wrT (d : St) (i : Int) (s : ByteArray) : St × Int := if (d.write i s.data.toList).2 ≠ 0 then d.write i s.data.toList else (d.write i s.data.toList).1.flush
def wr (d : St) (a : Int) (s : ByteArray) : St × Int :=
  if 51 < s.size then (d, 3) else if rdE d a ≠ 0 ∧ rdE d a ≠ 6 then (d, rdE d a) else if rdG d a = 18446744073709551615 then (d, 4) else
  wrT d (a + wrO d a) (cS (rdG d a + 1) s)
theorem rdK_le (d : St) (a : Int) : rdK d a ≤ 1 := by unfold rdK; split <;> (try split) <;> omega
theorem rdG_lt (d : St) (a : Int) : rdG d a < 18446744073709551616 := by
  unfold rdG
  have h1 := getG_lt (secB d a)
  have h2 := getG_lt (secB d (a + 1))
  unfold gAt
  split
  · split <;> assumption
  · omega
theorem rdE_in {d : St} {a : Int} (h : rdE d a = 0 ∨ rdE d a = 6) : d.refuses a = 0 ∧ d.refuses (a + 1) = 0 := by
  unfold rdE at h
  have hb : bothE d a = 0 := by
    by_cases hb : bothE d a = 0
    · exact hb
    · rw [if_pos hb] at h
      exfalso
      unfold bothE at h hb
      have hr : ∀ i : Int, d.refuses i = 0 ∨ d.refuses i = 5 ∨ d.refuses i = 7 := fun i => by
        unfold St.refuses; split
        · exact .inr (.inr rfl)
        · split
          · exact .inr (.inl rfl)
          · exact .inl rfl
      have h1 := hr a
      have h2 := hr (a + 1)
      split at h
      · rename_i hq; rw [if_pos hq] at hb; omega
      · rename_i hq; rw [if_neg hq] at hb; omega
  unfold bothE at hb
  split at hb
  · rename_i hq; exact absurd hb hq
  · rename_i hq; exact ⟨by omega, hb⟩
theorem Dk.Moves.trans {g : Nat} {L : List Nat} {d1 d2 : St} {w w1 w2 : World} (h : Moves g L d1 w w1) (h2 : ∀ L', Dv w1 g L' d1 → Moves g L' d2 w1 w2) : Moves g L d2 w w2 := by
  obtain ⟨L', hd, hk, hf⟩ := h
  obtain ⟨L'', hd2, hk2, hf2⟩ := h2 L' hd
  exact ⟨L'', hd2, hk.trans' hk2 hf, hf.trans hf2 hk.size⟩
theorem Dk.Moves.after {g : Nat} {L : List Nat} {d1 : St} {w w0 w1 : World} (hb : Below w.heap.size w w0) (h : Moves g L d1 w0 w1) : Moves g L d1 w w1 := by
  obtain ⟨L', hd, hk, hf⟩ := h
  exact ⟨L', hd, (Keep.of_below hb).trans hk, fun k hk' => (hf k hk').elim .inl (fun h => .inr (Nat.le_trans hb.size h))⟩
set_option maxHeartbeats 4000000 in
set_option maxRecDepth 100000 in
theorem swrite_any (g : Nat) (L : List Nat) (d : St) (a : Int) (s : ByteArray) (w : World) (h : Dv w g L d) (ha1 : -9223372036854775808 ≤ a) (ha2 : a ≤ 9223372036854775807) :
    Calls Tryz.prog 12 #[ptr g, .int .i64 a, .string s] w fun e w' => e = .returned (.int .i64 (wr d a s).2) ∧ Moves g L (wr d a s).1 w w' := by
  have K := Lib.hid (sread_any g L d a w h ha1 ha2)
  unfold rdV at K
  have hn2 := h.1.n2
  obtain ⟨res, hres⟩ : ∃ res, res = wr d a s := ⟨_, rfl⟩
  rw [← hres]
  have HRES := Lib.hid hres
  by_cases h51 : 51 < s.size
  · have e1 : res = (d, 3) := by rw [hres]; unfold wr; rw [if_pos h51]
    have hl : (51 : Int) < s.size := by omega
    have HM : Hid (Moves g L d w w) := Moves.same h (Keep.refl _ _) h
    rw [e1]
    clear hres K e1 h51 h
    unfold ptr
    go_enter Tryz.func12, Tryz.ntmps12
    go_wp2
    go_ret
    exact ⟨rfl, HM.out⟩
  · have hl : ¬ (51 : Int) < s.size := by omega
    have hl' : (s.size : Int) ≤ 51 := by omega
    have hk := rdK_le d a
    have hg := rdG_lt d a
    have hko : IntKind.i64.wrap (1 - (rdK d a : Int)) = 1 - (rdK d a : Int) := IntWalk.i64_in _ (by omega)
    have hstep : wr d a s = if rdE d a ≠ 0 ∧ rdE d a ≠ 6 then (d, rdE d a) else if rdG d a = 18446744073709551615 then (d, 4) else wrT d (a + wrO d a) (cS (rdG d a + 1) s) := by unfold wr; rw [if_neg h51]
    rw [hstep] at hres
    clear hstep
    by_cases hE : rdE d a ≠ 0 ∧ rdE d a ≠ 6
    · rw [if_pos hE] at hres
      have HD := Lib.hid h
      rw [hres]
      have h6 : (rdE d a == 6) = false := by simpa using hE.2
      have h0 : (rdE d a != 0) = true := by simpa using hE.1
      clear hres hE h HRES h51
      generalize rdE d a = E at *
      generalize rdK d a = k at *
      generalize rdG d a = G at *
      generalize rdB d a = b at *
      unfold ptr at *
      go_enter Tryz.func12, Tryz.ntmps12
      go_wp2_with fail
      refine K.out.mono ?_
      rintro e w1 ⟨rfl, b1⟩
      go_wp2
      go_ret
      exact ⟨rfl, Moves.same HD.out (Keep.of_below b1) (HD.out.below b1)⟩
    · rw [if_neg hE] at hres
      by_cases hG : rdG d a = 18446744073709551615
      · rw [if_pos hG] at hres
        have HD := Lib.hid h
        rw [hres]
        rw [hG] at K
        rcases (by omega : rdE d a = 6 ∨ rdE d a = 0) with h6 | h6
        all_goals
          rw [h6] at K
          clear hres hE h HRES h51 hG h6
          generalize rdK d a = k at *
          generalize rdB d a = b at *
          unfold ptr at *
          go_enter Tryz.func12, Tryz.ntmps12
          go_wp2_with fail
          refine K.out.mono ?_
          rintro e w1 ⟨rfl, b1⟩
          go_wp2
          go_ret
          exact ⟨rfl, Moves.same HD.out (Keep.of_below b1) (HD.out.below b1)⟩
      · rw [if_neg hG] at hres
        obtain ⟨q1, q2⟩ := rdE_in (d := d) (a := a) (by omega)
        obtain ⟨n1, n2, _⟩ := refuses_nonneg q1
        have hgw : IntKind.u64.wrap ((rdG d a : Int) + 1) = ((rdG d a + 1 : Nat) : Int) := (IntWalk.u64_in _ (by omega)).trans (by push_cast; rfl)
        have KP := Lib.hid (fun W => sput_any (rdG d a + 1) s W (by omega) (by omega))
        obtain ⟨c, hc⟩ : ∃ c, c = cS (rdG d a + 1) s := ⟨_, rfl⟩
        rw [← hc] at KP hres
        generalize cO (rdG d a + 1) s = co at *
        have hgE : ((rdG d a : Int) == 18446744073709551615) = false := by simpa using fun h => hG (by omega)
        have KW := Lib.hid (fun (i : Int) (W : World) (hb : Below w.heap.size w W) => write_any g L d i c.data.toList W (h.below hb))
        have KF := Lib.hid (fun (L' : List Nat) (d' : St) (W : World) (h' : Dv W g L' d') => flush_any g L' d' W h')
        have KW2 : Hid (∀ (i : Int) (W : World), Below w.heap.size w W → Calls Tryz.prog 34 #[ptr g, .int .i64 i, .string c] W fun e w' => e = .returned (.int .i64 (d.write i c.data.toList).2) ∧ Moves g L (d.write i c.data.toList).1 W w') := fun i W hb => by
          have := KW.out i W hb
          rwa [txt_of] at this
        obtain ⟨o, ho⟩ : ∃ o, o = wrO d a := ⟨_, rfl⟩
        have hoo : o = 0 ∨ o = 1 := by
          rw [ho]; unfold wrO; split
          · exact .inl rfl
          · omega
        have hwo : IntKind.i64.wrap (a + o) = a + o := IntWalk.i64_in _ (by omega)
        have KWi := Lib.hid (KW2.out (a + o))
        rw [← ho] at hres
        unfold wrT at hres
        have HRS := Lib.hid hres
        obtain ⟨r, hr⟩ : ∃ r, r = d.write (a + o) c.data.toList := ⟨_, rfl⟩
        rw [← hr] at KWi HRS
        have HWO : Hid (o = if rdE d a = 6 then 0 else 1 - (rdK d a : Int)) := ho
        clear hres HRES hc h51 h KW KW2 q1 q2 n1 n2 hr ho hn2 ha1 ha2
        rcases (by omega : rdE d a = 6 ∨ rdE d a = 0) with h6 | h6
        · rw [h6, if_pos rfl] at HWO
          have h0 : o = 0 := HWO.out
          subst h0
          rw [h6] at K
          clear hE hG h6 HWO hoo
          generalize rdK d a = k at *
          generalize rdB d a = b at *
          generalize rdG d a = G at *
          have hwa : IntKind.i64.wrap a = a := by simpa using hwo
          have KWj : Hid (∀ W : World, Below w.heap.size w W → Calls Tryz.prog 34 #[ptr g, .int .i64 a, .string c] W fun e w' => e = .returned (.int .i64 r.2) ∧ Moves g L r.1 W w') := fun W hb => by
            have := KWi.out W hb
            rwa [Int.add_zero] at this
          clear KWi
          unfold ptr at *
          go_enter Tryz.func12, Tryz.ntmps12
          go_wp2_with fail
          refine K.out.mono ?_
          rintro e w1 ⟨rfl, b1⟩
          go_wp2_with fail
          refine (KP.out _).mono ?_
          rintro e w2 ⟨rfl, b2⟩
          have b12 : Below w.heap.size w w2 := b1.trans (b2.mono b1.size)
          go_wp2_with fail
          refine (KWj.out _ b12).mono ?_
          rintro e w3 ⟨rfl, M3⟩
          by_cases hr0 : r.2 = 0
          · have HR2 : Hid (res = r.1.flush) := by show _ = _; rw [HRS.out, if_neg (by rw [hr0]; simp)]
            rw [hr0]
            obtain ⟨L3, D3, k3, f3⟩ := M3
            have KF3 := Lib.hid (KF.out L3 r.1 w3 D3)
            have MM : Hid (∀ w4, Moves g L3 r.1.flush.1 w3 w4 → Moves g L r.1.flush.1 w w4) := fun w4 ⟨L4, hd4, hk4, hf4⟩ => Moves.after b12 ⟨L4, hd4, k3.trans' hk4 f3, f3.trans hf4 k3.size⟩
            clear D3 k3 f3 hr0 HRS KF KP KWj K b1 b2 b12
            unfold ptr at *
            go_wp2_with fail
            refine KF3.out.mono ?_
            rintro e w4 ⟨rfl, M4⟩
            go_wp2
            go_ret
            exact ⟨by rw [HR2.out]; rfl, by rw [HR2.out]; exact MM.out _ M4⟩
          · have HR2 : Hid (res = r) := by show _ = _; rw [HRS.out, if_pos hr0]
            have hbz : (r.2 != 0) = true := by simpa using hr0
            have MM := Lib.hid (Moves.after b12 M3)
            clear hr0 HRS KF KP KWj K b1 b2 b12 M3
            go_wp2
            go_ret
            exact ⟨by rw [HR2.out]; rfl, by rw [HR2.out]; exact MM.out⟩
        · rw [h6, if_neg (by decide)] at HWO
          have h0 : o = 1 - (rdK d a : Int) := HWO.out
          subst h0
          rw [h6] at K
          clear hE hG h6 HWO hoo
          generalize rdK d a = k at *
          generalize rdB d a = b at *
          generalize rdG d a = G at *
          have KWj := Lib.hid KWi.out
          clear KWi
          unfold ptr at *
          go_enter Tryz.func12, Tryz.ntmps12
          go_wp2_with fail
          refine K.out.mono ?_
          rintro e w1 ⟨rfl, b1⟩
          go_wp2_with fail
          refine (KP.out _).mono ?_
          rintro e w2 ⟨rfl, b2⟩
          have b12 : Below w.heap.size w w2 := b1.trans (b2.mono b1.size)
          go_wp2_with fail
          refine (KWj.out _ b12).mono ?_
          rintro e w3 ⟨rfl, M3⟩
          by_cases hr0 : r.2 = 0
          · have HR2 : Hid (res = r.1.flush) := by show _ = _; rw [HRS.out, if_neg (by rw [hr0]; simp)]
            rw [hr0]
            obtain ⟨L3, D3, k3, f3⟩ := M3
            have KF3 := Lib.hid (KF.out L3 r.1 w3 D3)
            have MM : Hid (∀ w4, Moves g L3 r.1.flush.1 w3 w4 → Moves g L r.1.flush.1 w w4) := fun w4 ⟨L4, hd4, hk4, hf4⟩ => Moves.after b12 ⟨L4, hd4, k3.trans' hk4 f3, f3.trans hf4 k3.size⟩
            clear D3 k3 f3 hr0 HRS KF KP KWj K b1 b2 b12
            unfold ptr at *
            go_wp2_with fail
            refine KF3.out.mono ?_
            rintro e w4 ⟨rfl, M4⟩
            go_wp2
            go_ret
            exact ⟨by rw [HR2.out]; rfl, by rw [HR2.out]; exact MM.out _ M4⟩
          · have HR2 : Hid (res = r) := by show _ = _; rw [HRS.out, if_pos hr0]
            have hbz : (r.2 != 0) = true := by simpa using hr0
            have MM := Lib.hid (Moves.after b12 M3)
            clear hr0 HRS KF KP KWj K b1 b2 b12 M3
            go_wp2
            go_ret
            exact ⟨by rw [HR2.out]; rfl, by rw [HR2.out]; exact MM.out⟩
end Go.Proofs.YtdoombcihobejaaGreat
