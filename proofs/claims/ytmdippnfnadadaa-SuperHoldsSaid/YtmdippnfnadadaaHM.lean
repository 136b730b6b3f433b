/-
  What is behind a crash in a Write: plain mathematics.
  Conditions: named in each theorem.
-/
import Derived.Test.YtmdippnfnadadaaSL
import Derived.Test.YtmdippnfnadadaaRy
namespace Go.Proofs.Ytmdippnfnadadaa
open Go.RowKit Vi Sp Dk
set_option linter.unusedVariables false
/-- What a device of two sectors has kept behind j bodies, all flushed. -/
structure Hd (d : St) (j : Nat) (old : ByteArray) : Prop where
  well : Well d
  n : d.n = 2
  wt : ∀ i, d.wt i = none
  g : rdG d ((0 : Nat) : Int) = j
  z : j = 0 → rdE d ((0 : Nat) : Int) = 6
  p : 0 < j → rdE d ((0 : Nat) : Int) = 0 ∧ rdB d ((0 : Nat) : Int) = old
theorem hd_fresh (old : ByteArray) : Hd (St.fresh 2 fun _ => zsec) 0 old := by
  obtain ⟨h1, h2, _⟩ := rd_fresh 2 0 (by omega)
  exact ⟨well_fresh _ _, rfl, fun _ => rfl, h2, fun _ => h1, fun h => by omega⟩
theorem Hd.next {d : St} {j : Nat} {old : ByteArray} (h : Hd d j old) (hj : j < 1000) {s : ByteArray} (hs : s.size ≤ 51) :
    wr d ((0 : Nat) : Int) s = (wrD d 0 s, 0) ∧ Hd (wrD d 0 s) (j + 1) s := by
  have ha : 0 + 1 < d.n := by rw [h.n]; omega
  have hg : rdG d ((0 : Nat) : Int) ≠ 18446744073709551615 := by rw [h.g]; omega
  obtain ⟨r1, r2, r3, r4⟩ := rd_after h.well ha hs hg
  exact ⟨wr_ok h.well ha hs hg, wrD_well h.well _ _, by rw [wrD_n]; exact h.n, fun _ => rfl, by rw [r3, h.g], fun h => by omega, fun _ => ⟨r1, r2⟩⟩
/-- Two devices that read the same. -/
theorem rdV_congr {d x : St} (hn : x.n = d.n) (hd : d.dead = false) (hx : x.dead = false) (h0 : x.now 0 = d.now 0) (h1 : x.now 1 = d.now 1) : rdV x 0 = rdV d 0 := by
  have hb : ∀ i : Int, x.refuses i = d.refuses i := fun i => by unfold St.refuses; rw [hn, hd, hx]
  obtain ⟨a1, a2⟩ := gAt_eq (d := d) (d' := x) (i := 0) h0
  have e1 : ((0 : Int) + 1).toNat = 1 := by decide
  obtain ⟨b1, b2⟩ := gAt_eq (d := d) (d' := x) (i := 0 + 1) (by rw [e1]; exact h1)
  unfold rdV rdB rdG rdK rdE bothE
  rw [hb, hb, a1, a2, b1, b2]
theorem wr_arm {d : St} {j : Nat} {old s : ByteArray} (h : Hd d j old) (hj : j < 1000) (hs : s.size ≤ 51) (a : Int) :
    wr (d.arm a) 0 s = wrT (d.arm a) (wrO d 0) (cS (j + 1) s) := by
  have e1 : rdE (d.arm a) 0 = rdE d 0 := rfl
  have e2 : rdG (d.arm a) 0 = rdG d 0 := rfl
  have e3 : wrO (d.arm a) 0 = wrO d 0 := rfl
  have hE := rdE_ok h.well.dead (a := 0) (by rw [h.n]; omega)
  have hE' : rdE d 0 = 0 ∨ rdE d 0 = 6 := hE
  have hg : rdG d 0 = j := h.g
  unfold wr
  rw [if_neg (by omega), e1, if_neg (by omega), e2, if_neg (by rw [hg]; omega), e3, hg, Int.zero_add]
theorem try_zero {d : St} (f : St → St) (h : d.left = 0) : d.try_ f = (d.die, 7) := by unfold St.try_; rw [if_pos h]
theorem try_go {d : St} (f : St → St) (h : d.left ≠ 0) (hd : d.dead = false) : d.try_ f = (f d.step, 0) := by unfold St.try_; rw [if_neg h, hd, if_neg (by decide)]
theorem wrT_fail {d : St} {i : Int} {s : ByteArray} {r : St × Int} (h : d.write i s.data.toList = r) (h2 : r.2 ≠ 0) : wrT d i s = r := by unfold wrT; rw [h, if_pos h2]
theorem wrT_ok {d d1 : St} {i : Int} {s : ByteArray} (h : d.write i s.data.toList = (d1, 0)) : wrT d i s = d1.flush := by unfold wrT; rw [h, if_neg (by simp)]
theorem after_now2 (d : St) (l : List Int) (i : Nat) : (d.after l).now i = if (i : Int) ∈ l then d.fl i else d.now i := after_now d l i
/-- What is told of a Write that may crash, and what is read behind it. -/
theorem hold_end {d : St} {j : Nat} {old s : ByteArray} (h : Hd d j old) (hj : j < 1000) (hs : s.size ≤ 51) (a : Nat) (ha : a < 3) (lost : Bool) :
    ∃ (B : ByteArray) (g q : Nat) (e : Int), rdV ((wr (d.arm a) 0 s).1.after (if lost then [0, 1] else [])) 0 = .returned (.tuple #[.string B, .int .u64 g, .int .i64 q, .int .i64 e]) ∧
      (((wr (d.arm a) 0 s).2 = 0 ∧ a = 2 ∧ B = s ∧ g = j + 1 ∧ e = 0) ∨ ((wr (d.arm a) 0 s).2 = 7 ∧ ((j = 0 ∧ e = 6) ∨ (0 < j ∧ e = 0 ∧ B = old) ∨ (lost = false ∧ e = 0 ∧ B = s)))) := by
  have hn := h.n
  have hdd := h.well.dead
  obtain ⟨k1, k2⟩ := h.next hj hs
  have hn1 : (wrD d 0 s).n = 2 := by rw [wrD_n]; exact hn
  obtain ⟨o, ho, hoc⟩ : ∃ o : Nat, wrO d 0 = (o : Int) ∧ (o = 0 ∨ o = 1) := by
    rcases wrO_cases (d := d) (a := 0) with h | h
    · exact ⟨0, h, .inl rfl⟩
    · exact ⟨1, h, .inr rfl⟩
  obtain ⟨c, hc⟩ : ∃ c, c = pad (cS (j + 1) s).data.toList := ⟨_, rfl⟩
  have hcl : (cS (j + 1) s).data.toList.length ≤ 64 := by rw [bytes_len]; exact cS_size _ _
  have hwD : ∀ i, (wrD d 0 s).now i = if i = o then c else d.now i := fun i => by
    have := wrD_now d 0 s i
    have e1 : wrO d ((0 : Nat) : Int) = (o : Int) := ho
    rw [e1, h.g] at this
    rw [this, hc, Int.toNat_natCast, Nat.zero_add]
  have hfl : ∀ i, d.now i = d.fl i := fun i => by unfold St.now; rw [h.wt i]; rfl
  -- what the old device reads, and what the new one reads
  have rOld : ∃ (B : ByteArray) (g q : Nat) (e : Int), rdV d 0 = .returned (.tuple #[.string B, .int .u64 g, .int .i64 q, .int .i64 e]) ∧ ((j = 0 ∧ e = 6) ∨ (0 < j ∧ e = 0 ∧ B = old)) := by
    refine ⟨rdB d 0, rdG d 0, rdK d 0, rdE d 0, rfl, ?_⟩
    rcases Nat.eq_zero_or_pos j with h0 | h0
    · exact .inl ⟨h0, h.z h0⟩
    · exact .inr ⟨h0, (h.p h0).1, (h.p h0).2⟩
  have rNew : ∃ q : Nat, rdV (wrD d 0 s) 0 = .returned (.tuple #[.string s, .int .u64 (j + 1 : Nat), .int .i64 q, .int .i64 0]) := by
    refine ⟨rdK (wrD d 0 s) 0, ?_⟩
    have e1 : rdE (wrD d 0 s) 0 = 0 := (k2.p (by omega)).1
    have e2 : rdB (wrD d 0 s) 0 = s := (k2.p (by omega)).2
    have e3 : rdG (wrD d 0 s) 0 = j + 1 := k2.g
    unfold rdV
    rw [e1, e2, e3]
  have hL : ∀ i : Nat, (i = 0 ∨ i = 1) → ((i : Int) ∈ (if lost then ([0, 1] : List Int) else []) ↔ lost = true) := fun i hi => by
    cases lost
    · simp
    · simp; omega
  have hr : (d.arm a).refuses (o : Int) = 0 := refuses_yes_eq hdd (by omega) (by show (o : Int) < d.n; rw [hn]; omega)
  have hw : wr (d.arm a) 0 s = wrT (d.arm a) (o : Int) (cS (j + 1) s) := by rw [wr_arm h hj hs, ho]
  have hwrite : (d.arm a).write (o : Int) (cS (j + 1) s).data.toList = (d.arm a).try_ (fun x => x.put o c) := by
    unfold St.write
    rw [if_neg (by rw [hr]; simp), if_neg (by omega), Int.toNat_natCast, hc]
  rw [hw]
  have hcase : a = 0 ∨ a = 1 ∨ a = 2 := by omega
  rcases hcase with rfl | rfl | rfl
  · rw [try_zero (d := d.arm ((0 : Nat) : Int)) _ (by rfl)] at hwrite
    rw [wrT_fail hwrite (by show (7 : Int) ≠ 0; decide)]
    obtain ⟨B, g, q, e, e1, e2⟩ := rOld
    refine ⟨B, g, q, e, ?_, .inr ⟨rfl, e2.elim .inl (fun h => .inr (.inl h))⟩⟩
    rw [← e1]
    have hx : ∀ i, ((d.arm ((0 : Nat) : Int)).die.after (if lost then [0, 1] else [])).now i = d.now i := fun i => by
      rw [after_now2]
      by_cases hm : (i : Int) ∈ (if lost then ([0, 1] : List Int) else [])
      · rw [if_pos hm]; exact (hfl i).symm
      · rw [if_neg hm]; rfl
    exact rdV_congr rfl hdd rfl (hx 0) (hx 1)
  · rw [try_go (d := d.arm ((1 : Nat) : Int)) _ (by show ((1 : Nat) : Int) ≠ 0; decide) hdd] at hwrite
    rw [wrT_ok hwrite]
    have hl : ((d.arm ((1 : Nat) : Int)).step.put o c).left = 0 := rfl
    unfold St.flush
    rw [try_zero _ hl]
    have hx : ∀ i, (i = 0 ∨ i = 1) → (((d.arm ((1 : Nat) : Int)).step.put o c).die.after (if lost then [0, 1] else [])).now i = if lost then d.now i else (wrD d 0 s).now i := fun i hi => by
      rw [after_now2]
      cases lost with
      | true =>
        rw [if_pos ((hL i hi).2 rfl), if_pos rfl]; exact (hfl i).symm
      | false =>
        rw [if_neg (fun hm => by have := (hL i hi).1 hm; cases this), if_neg (by decide), hwD i]
        show (if i = o then some c else d.wt i).getD (d.fl i) = _
        split
        · rfl
        · rfl
    cases lost with
    | true =>
      obtain ⟨B, g, q, e, e1, e2⟩ := rOld
      refine ⟨B, g, q, e, ?_, .inr ⟨rfl, e2.elim .inl (fun h => .inr (.inl h))⟩⟩
      rw [← e1]
      exact rdV_congr rfl hdd rfl (hx 0 (.inl rfl)) (hx 1 (.inr rfl))
    | false =>
      obtain ⟨q, e1⟩ := rNew
      refine ⟨s, j + 1, q, 0, ?_, .inr ⟨rfl, .inr (.inr ⟨rfl, rfl, rfl⟩)⟩⟩
      rw [← e1]
      exact rdV_congr rfl (wrD_well h.well _ _).dead rfl (hx 0 (.inl rfl)) (hx 1 (.inr rfl))
  · rw [try_go (d := d.arm ((2 : Nat) : Int)) _ (by show ((2 : Nat) : Int) ≠ 0; decide) hdd] at hwrite
    rw [wrT_ok hwrite]
    have hl : ((d.arm ((2 : Nat) : Int)).step.put o c).left ≠ 0 := by show (1 : Int) ≠ 0; decide
    unfold St.flush
    rw [try_go _ hl hdd]
    obtain ⟨q, e1⟩ := rNew
    refine ⟨s, j + 1, q, 0, ?_, .inl ⟨rfl, rfl, rfl, rfl, rfl⟩⟩
    rw [← e1]
    have hx : ∀ i, (((d.arm ((2 : Nat) : Int)).step.put o c).step.settle.after (if lost then [0, 1] else [])).now i = (wrD d 0 s).now i := fun i => by
      have e : ((d.arm ((2 : Nat) : Int)).step.put o c).step.settle.now i = (wrD d 0 s).now i := by
        rw [hwD i]
        show (if i = o then some c else d.wt i).getD (d.fl i) = _
        split
        · rfl
        · rfl
      rw [after_now2]
      by_cases hm : (i : Int) ∈ (if lost then ([0, 1] : List Int) else [])
      · rw [if_pos hm]; exact e
      · rw [if_neg hm]; exact e
    exact rdV_congr rfl (wrD_well h.well _ _).dead rfl (hx 0) (hx 1)
end Go.Proofs.Ytmdippnfnadadaa
