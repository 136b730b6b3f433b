/-
  Texts of the layer below and of this one: WT, LVerA, LCutA, Bend.
  Conditions: named in each theorem.
-/
import Derived.Test.YtnobeoppffoomaaGreatG32
import Derived.Test.YtnobeoppffoomaaGreatG12
import Derived.Test.YtnobeoppffoomaaGreatG33
import Derived.Test.YtnobeoppffoomaaGreatG31
import Derived.Test.YtnobeoppffoomaaGreatG09
import Derived.Lib.ConvBytes
namespace Go.Proofs.YtnobeoppffoomaaGreat
open Go.RowKit
set_option linter.unusedVariables false
set_option linter.unusedSimpArgs false
theorem flat_app (a b : List En) : flat (a ++ b) = flat a ++ flat b := by
  unfold flat
  rw [List.flatMap_append]
theorem flat_one (es : List En) : ∀ u ∈ flat es, u.oneCell' = true := fun u hu => by
  unfold flat at hu
  obtain ⟨e, _, he⟩ := List.mem_flatMap.1 hu
  simp at he
  rcases he with rfl | rfl | rfl | rfl | rfl | rfl | rfl | rfl | rfl | rfl | rfl <;> rfl
theorem run_app_none (A : Option Addr) (n c : Nat) (ty : TypeId) (w : World) (hn : n ≤ c) (hA : A = none → n = 0 ∧ c = 0) : (Builtin.append_ #[25, 25] ty #[.slice A n c, .slice none 0 0]).run Tryz.prog w = .ok (.slice A n c) w := by
  obtain ⟨i0, hi, hz0, hz1, hz2⟩ := info_parts Tryz.info28
  have hu := Tryz.underlying25
  cases A with
  | none =>
    obtain ⟨rfl, rfl⟩ := hA rfl
    simp [Builtin.append_, underlying, sizeOf, typeInfo, hu, hi, Builtin.lenOf, Builtin.firstCells]
  | some a =>
    simp [Builtin.append_, underlying, sizeOf, typeInfo, hu, hi, Builtin.lenOf, Builtin.firstCells, hn, storeCells, List.foldlM]
/-- append(l, m...). -/
theorem wpList_app_ens {ops : Array Oper} {rest : List Oper} {o : Oper} {a : Act} {Q : Exit → Act → World → Prop} (hgd : o.guard = none) (s x : Operand)
    (ho : o.op = .call { callee := .builtin .append, args := #[s, x], argTypes := #[25, 25] }) (w : World) (B B' : Nat) (A A' : Option Addr) (n c m c' : Nat) (es fs : List En)
    (hs : a.eval s = .slice A n c) (hx : a.eval x = .slice A' m c') (hL : Le B A n c es w) (hM : Le B' A' m c' fs w) (hn : n + m ≤ 1000000) (hB : B ≤ w.heap.size)
    (N : Nat) (hN : N = n + m) (h : ∀ A2 c2 w', Le B A2 N c2 (es ++ fs) w' → Below B w w' → (∀ k, k < w.heap.size → Value.ownBlock (.slice A n c) ≠ some k → w'.heap[k]? = w.heap[k]?) → wpList Tryz.prog ops Q rest (a.put o.dst (.slice A2 N c2)) w') : wpList Tryz.prog ops Q (o :: rest) a w := by
  subst hN
  rcases hM.form with ⟨rfl, rfl, rfl, rfl⟩ | ⟨g, rfl, hc, hm, hg⟩
  · have hf := hL.form
    have hr := run_app_none A n c o.type w (by rcases hf with ⟨_, rfl, rfl, _⟩ | ⟨_, _, h, _⟩ <;> omega) (fun e => by rcases hf with ⟨_, h1, h2, _⟩ | ⟨g, h1, _⟩; exact ⟨h1, h2⟩; rw [h1] at e; cases e)
    refine wpList_plain hgd fun K hK => ?_
    unfold Oper.wp execOp
    simp only [ho, resolve, invoke, builtin, Sem.run_bind, Sem.run_pure, Result.andThen_ok, List.map_toArray, List.map_cons, List.map_nil, hs, hx, hr]
    exact hK _ _ (h A c w (by rw [List.append_nil]; exact hL) (Below.refl B w) fun _ _ _ => rfl)
  · obtain ⟨i0, hi, hz0, hz1, hz2⟩ := info_parts Tryz.info28
    have hcell : ∀ j u, (flat fs)[j]? = some u → w.cell? ((⟨g, 0, none⟩ : Addr).add j) = some u := fun j u hu => by
      have hj : j < (flat fs).length := (List.getElem?_eq_some_iff.1 hu).1
      rw [flat_length, hM.len] at hj
      rw [Addr.add_mid, Nat.zero_add, hM.own.cellAt j (by omega)]
      exact hu
    refine wpList_append_own_at w hgd s x 25 ho B 28 i0 (ev ezz) 11 104 Tryz.underlying25 hi hz0 hz1 hz2 rfl (by omega) (.slice A n c) n (flat es) hs hL.own ⟨g, 0, none⟩ m c' (flat fs) hx (by rw [flat_length, hM.len]) hcell (flat_one fs) (by unfold maxLen; omega) (by omega) hB ?_
    intro v' w' hown hgrow hnil hat
    have hb : Below B w w' := (Below.refl B w).grown hgrow hB (fun k hk => (hL.own.lt k hk).1)
    have hk : ∀ k, k < w.heap.size → Value.ownBlock (.slice A n c) ≠ some k → w'.heap[k]? = w.heap[k]? := fun k hk hne => hgrow.block k hk fun e => hne e.symm
    have hlen : (es ++ fs).length = n + m := by rw [List.length_append, hL.len, hM.len]
    rcases hown.2 with ⟨hv, h0⟩ | ⟨g', cap, cur, hv, _⟩
    · subst hv
      have h1 : Le B none (n + m) 0 (es ++ fs) w' := ⟨by rw [flat_app, show n + m = 0 by omega]; rw [show n + m = 0 by omega] at hown; exact hown, hlen⟩
      have h2 := h none 0 w' h1 hb hk
      rw [show n + m = 0 by omega] at h2
      exact h2
    · subst hv
      exact h _ cap w' ⟨by rw [flat_app]; exact hown, hlen⟩ hb hk
end Go.Proofs.YtnobeoppffoomaaGreat
namespace Go.Proofs.YtnobeoppffoomaaGreat
open Go.RowKit
set_option linter.unusedVariables false
set_option linter.unusedSimpArgs false
open Dk Vi
abbrev KM (A : Option Addr) (n : Nat) (L : List (En × Bool)) (w : World) : Prop := Mades w.heap.size A n L w ∧ (∀ p ∈ L, p.1.Ok) ∧ (n : Int) ≤ 9223372036854775807
theorem Mades.mr {B B' : Nat} {A : Option Addr} {n : Nat} {L : List (En × Bool)} {w : World} (h : Mades B A n L w) (hB : B ≤ B') : Mades B' A n L w :=
  ⟨h.len, fun i e he => by
    obtain ⟨a, hA, h1, hc⟩ := h.at_ i e he
    exact ⟨a, hA, Nat.lt_of_lt_of_le h1 hB, hc⟩⟩
theorem lgd_old {base most : Nat} {L : List (En × Bool)} (hok : ∀ p ∈ L, p.1.Ok) (hb : base ≤ 4611686018427387904) (hm : most ≤ 64) : ∀ e ∈ lgd 1 base most L, e.old.size = 0 := fun e he => by
  obtain ⟨h1, h2, h3⟩ := lgd_mem hok (.inl rfl) hb hm he
  rw [may_old h1 (h3 rfl)]; rfl
set_option maxRecDepth 100000 in
set_option maxHeartbeats 4000000 in
theorem versions_any (A : Option Addr) (n c : Nat) (L : List (En × Bool)) (w : World) (k : KM A n L w) :
    Calls Tryz.prog 8 #[.slice A n c] w fun q w' => q = .returned (.bool true) ∧ Below w.heap.size w w' := by
  obtain ⟨hL, hok, hn⟩ := k
  obtain ⟨es, hes⟩ : ∃ es, es = lgd 1 0 6 L := ⟨_, rfl⟩
  have hme : ∀ e ∈ es, e ∈ lgd 1 0 6 L := fun e he => hes ▸ he
  have g1 : ∀ e ∈ es, Good 1 e := fun e he => lgd_good hok (.inl rfl) (.inl rfl) (fun _ => rfl) (by omega) (by omega) e (hme e he)
  have g2 : ∀ e ∈ es, Good 2 e := fun e he => lgd_good hok (.inr rfl) (.inl rfl) (fun h => by cases h) (by omega) (by omega) e (hme e he)
  have gm : ∀ e ∈ es, mayB e = true := fun e he => (lgd_mem hok (.inl rfl) (by omega) (by omega) (hme e he)).2.2 rfl
  have gs : ∀ e ∈ es, Short e := fun e he => lgd_short hok (.inl rfl) (by omega) (by omega) e (hme e he)
  have go : ∀ e ∈ es, e.old.size = 0 := fun e he => lgd_old hok (by omega) (by omega) e (hme e he)
  have gl : es.length ≤ 6 := by rw [hes, lgd_length]; omega
  obtain ⟨s1, hs1⟩ : ∃ s, s = rcA 1 (pS 1) es := ⟨_, rfl⟩
  obtain ⟨s2, hs2⟩ : ∃ s, s = rcA 2 (pS 2) es := ⟨_, rfl⟩
  have z1 : s1.size = 128 * es.length := by rw [hs1]; exact rcA1_size es fun e he => ⟨g1 e he, gm e he⟩
  have z2 : s2.size ≤ 128 * es.length := by rw [hs2]; exact rcA2_size es fun e he => Nat.le_trans (pS2_le (g2 e he) (gs e he) (go e he)) (by omega)
  have p11 := par_self g1
  have p22 := par_self g2
  have p12 := par_no (frB_cross g1 (u := 2) (by decide))
  have p21 := par_no (frB_cross g2 (u := 1) (by decide))
  obtain ⟨q1, o1⟩ := rcS_good (.inl rfl) g1
  obtain ⟨q2, o2⟩ := rcS_good (.inr rfl) g2
  rw [← hs1] at p11 p12 q1
  rw [← hs2] at p22 p21 q2
  have K0 := Lib.hid (fun W => examples_any W)
  have KL : Hid (∀ (W : World), Mades W.heap.size A n L W → Calls Tryz.prog 25 #[.slice A n c, .int .u64 0, .int .i64 6, .int .i64 1] W fun q w' => ∃ A' n' c', q = .returned (.slice A' n' c') ∧ Le W.heap.size A' n' c' es w' ∧ Below W.heap.size W w') := by
    rw [hes]
    exact fun W h => logged_any A n c 0 6 1 L W h hok hn (by omega) (by omega)
  have KR1 := Lib.hid (fun (A : Option Addr) (n c : Nat) (W : World) (h : Ents W.heap.size A n es W) => records_any 1 (pS 1) (pO 1) A n c es W h (by have := h.len; omega) (fun e _ => Nat.le_trans (pS_le 1 e) (by omega)) (puts_in 1 _ (fun e he => (g1 e he).ok)))
  have KR2 := Lib.hid (fun (A : Option Addr) (n c : Nat) (W : World) (h : Ents W.heap.size A n es W) => records_any 2 (pS 2) (pO 2) A n c es W h (by have := h.len; omega) (fun e _ => Nat.le_trans (pS_le 2 e) (by omega)) (puts_in 2 _ (fun e he => (g2 e he).ok)))
  rw [q1, o1] at KR1
  rw [q2, o2] at KR2
  have K11 := Lib.hid (fun W => parse_any qX qV D.aO 1 s1 W (by omega) gets_in)
  have K22 := Lib.hid (fun W => parse_any qX qV D.aO 2 s2 W (by omega) gets_in)
  have K12 := Lib.hid (fun W => parse_any qX qV D.aO 2 s1 W (by omega) gets_in)
  have K21 := Lib.hid (fun W => parse_any qX qV D.aO 1 s2 W (by omega) gets_in)
  rw [p11.1, p11.2] at K11
  rw [p22.1, p22.2] at K22
  rw [p12.1, p12.2, show ((0:Nat):Int) = 0 from rfl] at K12
  rw [p21.1, p21.2, show ((0:Nat):Int) = 0 from rfl] at K21
  have HL := Lib.hid hL
  have hle : decide ((s2.size : Int) ≤ (s1.size : Int) ) = true → True := fun _ => trivial
  obtain ⟨m, hm⟩ : ∃ m, m = es.length := ⟨_, rfl⟩
  have Z1 : Hid (s1.size = 128 * m) := by show _ = _; omega
  have Z2 : Hid (s2.size ≤ 128 * m) := by show _ ≤ _; omega
  have Z3 : Hid (m ≤ 6) := by show _ ≤ _; omega
  have HM : Hid (es.length = m) := hm.symm
  clear hle hm hme z1 z2 gl go gs gm g1 g2 hes hs1 hs2 p11 p22 p12 p21 q1 q2 o1 o2 hL hok
  go_enter Tryz.func8, Tryz.ntmps8
  go_upto_region 4 with (go_at_call 10; (with_reducible refine (K0.out _).mono ?_); rintro q w1 ⟨rfl, b1⟩)
  have HB1 := Lib.hid b1
  have HL1 := Lib.hid (HL.out.below b1)
  clear b1
  go_upto_region 5 with (go_at_call 25; (with_reducible refine (KL.out _ (HL1.out.mr HB1.out.size)).mono ?_); rintro q w2 ⟨A', n', c', rfl, hE, b2⟩)
  have hn' : n' = m := hE.len.symm.trans HM.out
  subst hn'
  have HE := Lib.hid hE
  have HB2 : Hid (Below w.heap.size w w2) := HB1.out.trans (b2.mono HB1.out.size)
  clear hE b2
  go_upto_region 6 with (go_at_call 12; (with_reducible refine (KR1.out _ _ _ _ HE.out.ents).mono ?_); rintro q w3 ⟨rfl, b3⟩)
  have HE3 := Lib.hid (HE.out.below b3)
  have HB3 : Hid (Below w.heap.size w w3) := HB2.out.trans (b3.mono HB2.out.size)
  clear b3
  go_upto_region 7 with (go_at_call 12; (with_reducible refine (KR2.out _ _ _ _ HE3.out.ents).mono ?_); rintro q w4 ⟨rfl, b4⟩)
  have HE4 := Lib.hid (HE3.out.below b4)
  have HB4 : Hid (Below w.heap.size w w4) := HB3.out.trans (b4.mono HB3.out.size)
  clear b4
  go_upto_region 8 with (go_at_call 15; (with_reducible refine (K11.out _).mono ?_); rintro q w5 ⟨A1, n1, c1, rfl, hE5, b5⟩)
  have hn1 : n1 = n' := hE5.len.symm.trans HM.out
  subst hn1
  have HE5 := Lib.hid (HE4.out.below b5)
  have HF5 := Lib.hid hE5
  have HB5 : Hid (Below w.heap.size w w5) := HB4.out.trans (b5.mono HB4.out.size)
  clear b5 hE5
  go_upto_region 9 with (go_at_call 15; (with_reducible refine (K22.out _).mono ?_); rintro q w6 ⟨A2, n2, c2, rfl, hE6, b6⟩)
  have hn2 : n2 = n1 := hE6.len.symm.trans HM.out
  subst hn2
  have HE6 := Lib.hid (HE5.out.below b6)
  have HF6 := Lib.hid (HF5.out.below b6)
  have HG6 := Lib.hid hE6
  have HB6 : Hid (Below w.heap.size w w6) := HB5.out.trans (b6.mono HB5.out.size)
  clear b6 hE6
  go_upto_region 10 with (go_at_call 15; (with_reducible refine (K12.out _).mono ?_); rintro q w7 ⟨A3, n3, c3, rfl, hE7, b7⟩)
  obtain rfl : n3 = 0 := hE7.len.symm
  have HE7 := Lib.hid (HE6.out.below b7)
  have HF7 := Lib.hid (HF6.out.below b7)
  have HG7 := Lib.hid (HG6.out.below b7)
  have HB7 : Hid (Below w.heap.size w w7) := HB6.out.trans (b7.mono HB6.out.size)
  clear b7 hE7
  go_upto_region 11 with (go_at_call 15; (with_reducible refine (K21.out _).mono ?_); rintro q w8 ⟨A4, n4, c4, rfl, hE8, b8⟩)
  obtain rfl : n4 = 0 := hE8.len.symm
  have HE8 := Lib.hid (HE7.out.below b8)
  have HF8 := Lib.hid (HF7.out.below b8)
  have HG8 := Lib.hid (HG7.out.below b8)
  have HB8 : Hid (Below w.heap.size w w8) := HB7.out.trans (b8.mono HB7.out.size)
  clear b8 hE8
  have KS := Lib.hid (fun (A A' : Option Addr) (c c' : Nat) (W : World) (h : Ents W.heap.size A n2 es W) (h' : Ents W.heap.size A' n2 es W) => esame_any A A' n2 c n2 c' es es W h h' (by have := Z3.out; omega) (by have := Z3.out; omega))
  rw [entsB_self] at KS
  go_upto_region 12 with (go_at_call 17; (with_reducible refine (KS.out _ _ _ _ _ HF8.out.ents HE8.out.ents).mono ?_); rintro q w9 ⟨rfl, b9⟩)
  have HE9 := Lib.hid (HE8.out.below b9)
  have HG9 := Lib.hid (HG8.out.below b9)
  have HB9 : Hid (Below w.heap.size w w9) := HB8.out.trans (b9.mono HB8.out.size)
  clear b9
  go_upto_region 13 with (go_at_call 17; (with_reducible refine (KS.out _ _ _ _ _ HG9.out.ents HE9.out.ents).mono ?_); rintro q w10 ⟨rfl, b10⟩)
  have HB10 : Hid (Below w.heap.size w w10) := HB9.out.trans (b10.mono HB9.out.size)
  clear b10
  have h1 := Z1.out
  have h3 := Z3.out
  have e1 : ((s1.size : Int) == 128 * (n2 : Int)) = true := by rw [h1]; simp
  have e2 : decide ((s2.size : Int) ≤ (s1.size : Int)) = true := decide_eq_true (by have h2 := Z2.out; omega)
  have e3 : decide ((s2.size : Int) ≤ 128 * (n2 : Int)) = true := decide_eq_true (by have h2 := Z2.out; omega)
  go_wp2
  go_ret
  exact ⟨rfl, HB10.out⟩
end Go.Proofs.YtnobeoppffoomaaGreat
namespace Go.Proofs.YtnobeoppffoomaaGreat
open Go.RowKit
set_option linter.unusedVariables false
set_option linter.unusedSimpArgs false
open Dk Vi
theorem Le.low {B B' : Nat} {A : Option Addr} {n c : Nat} {es : List En} {w : World} (h : Le B A n c es w) (hB : B' ≤ B) : Le B' A n c es w := ⟨ownsRow_low' hB h.own, h.len⟩
set_option maxRecDepth 100000 in
set_option maxHeartbeats 8000000 in
theorem cuts_any (n0 : Nat) (A1 : Option Addr) (n1 c1 : Nat) (L1 : List (En × Bool)) (A2 : Option Addr) (n2 c2 : Nat) (L2 : List (En × Bool)) (n3 : Nat) (w : World) (z0 : n0 < 65536) (k1 : KM A1 n1 L1 w) (k2 : KM A2 n2 L2 w) (z3 : n3 < 256) :
    Calls Tryz.prog 7 #[.int .u16 n0, .slice A1 n1 c1, .slice A2 n2 c2, .int .u8 n3] w fun q w' => q = .returned (.bool true) ∧ Below w.heap.size w w' := by
  obtain ⟨hL1, ok1, hn1⟩ := k1
  obtain ⟨hL2, ok2, hn2⟩ := k2
  obtain ⟨a, ha⟩ : ∃ es, es = lgd 2 n0 8 L1 := ⟨_, rfl⟩
  obtain ⟨p, hp⟩ : ∃ p, p = a.length := ⟨_, rfl⟩
  have hp8 : p ≤ 8 := by rw [hp, ha, lgd_length]; omega
  obtain ⟨k, hk⟩ : ∃ k, k = n3 % (p + 1) := ⟨_, rfl⟩
  have hkp : k ≤ p := by have := Nat.mod_lt n3 (show 0 < p + 1 by omega); omega
  have hkI : (n3 : Int) % ((p : Int) + 1) = (k : Int) := by rw [hk, Int.natCast_emod]; rfl
  obtain ⟨m, hm⟩ : ∃ es, es = lgd 2 (n0 + k) 8 L2 := ⟨_, rfl⟩
  obtain ⟨f, hf⟩ : ∃ es, es = lgd 2 (n0 + p + 1) 8 L2 := ⟨_, rfl⟩
  have hm8 : m.length ≤ 8 := by rw [hm, lgd_length]; omega
  have hf8 : f.length ≤ 8 := by rw [hf, lgd_length]; omega
  have hix : ∀ i e, a[i]? = some e → e.index = ((n0 + i + 1 : Nat) : Int) := fun i e h => lgd_index 2 n0 8 L1 i e (by rw [← ha]; exact h)
  have hixm : ∀ i e, m[i]? = some e → e.index = ((n0 + k + i + 1 : Nat) : Int) := fun i e h => lgd_index 2 (n0 + k) 8 L2 i e (by rw [← hm]; exact h)
  have hixf : ∀ i e, f[i]? = some e → e.index = ((n0 + a.length + 1 + i + 1 : Nat) : Int) := fun i e h => by have := lgd_index 2 (n0 + p + 1) 8 L2 i e (by rw [← hf]; exact h); rw [this, hp]
  have hokm : ∀ e ∈ m, e.Ok := fun e he => (lgd_mem (lev := 2) (base := n0 + k) (most := 8) ok2 (.inr rfl) (by omega) (by omega) (hm ▸ he)).1
  have hokf : ∀ e ∈ f, e.Ok := fun e he => (lgd_mem (lev := 2) (base := n0 + p + 1) (most := 8) ok2 (.inr rfl) (by omega) (by omega) (hf ▸ he)).1
  have j1 := jn_at n0 k a m (by omega) hixm
  have j2 : jn n0 a [] = some a := rfl
  have j3 := jn_far n0 a f hixf
  have K0 := Lib.hid (fun W => examples_any W)
  have KL1 : Hid (∀ (W : World), Mades W.heap.size A1 n1 L1 W → Calls Tryz.prog 25 #[.slice A1 n1 c1, .int .u64 n0, .int .i64 8, .int .i64 2] W fun q w' => ∃ A' n' c', q = .returned (.slice A' n' c') ∧ Le W.heap.size A' n' c' a w' ∧ Below W.heap.size W w') := by
    rw [ha]; exact fun W h => logged_any A1 n1 c1 n0 8 2 L1 W h ok1 hn1 (by omega) (by omega)
  have KL2 : Hid (∀ (W : World), Mades W.heap.size A2 n2 L2 W → Calls Tryz.prog 25 #[.slice A2 n2 c2, .int .u64 ((n0 : Int) + (k : Int)), .int .i64 8, .int .i64 2] W fun q w' => ∃ A' n' c', q = .returned (.slice A' n' c') ∧ Le W.heap.size A' n' c' m w' ∧ Below W.heap.size W w') := by
    rw [hm]; exact fun W h => logged_any A2 n2 c2 (n0 + k) 8 2 L2 W h ok2 hn2 (by omega) (by omega)
  have KL3 : Hid (∀ (W : World), Mades W.heap.size A2 n2 L2 W → Calls Tryz.prog 25 #[.slice A2 n2 c2, .int .u64 ((n0 : Int) + (p : Int) + 1), .int .i64 8, .int .i64 2] W fun q w' => ∃ A' n' c', q = .returned (.slice A' n' c') ∧ Le W.heap.size A' n' c' f w' ∧ Below W.heap.size W w') := by
    rw [hf]; exact fun W h => logged_any A2 n2 c2 (n0 + p + 1) 8 2 L2 W h ok2 hn2 (by omega) (by omega)
  have KJ : ∀ (more : List En) (B : Nat) (A A' : Option Addr) (c m' c' : Nat) (W : World), (∀ e ∈ more, e.Ok) → Le B A p c a W → Ents W.heap.size A' m' more W → m' ≤ 8 → Calls Tryz.prog 33 #[.int .u64 n0, .slice A p c, .slice A' m' c'] W fun q w' => jnR W.heap.size (jn n0 a more) q w' ∧ Below W.heap.size W w' :=
    fun more B A A' c m' c' W ok hL hM hm => join_any n0 B A A' p c m' c' a more W hL hM (by omega) (by omega) (by omega) hix ok
  obtain ⟨r, hrr⟩ : ∃ r, r = if m = [] then a else a.take k ++ m := ⟨_, rfl⟩
  rw [← hrr] at j1
  have KJ1 : Hid (∀ (B : Nat) (A A' : Option Addr) (c m' c' : Nat) (W : World), Le B A p c a W → Ents W.heap.size A' m' m W → m' ≤ 8 → Calls Tryz.prog 33 #[.int .u64 n0, .slice A p c, .slice A' m' c'] W fun q w' => ∃ A2 n2 c2, q = .returned (.tuple #[.slice A2 n2 c2, .bool true]) ∧ Le W.heap.size A2 n2 c2 r w' ∧ Below W.heap.size W w') := fun B A A' c m' c' W h1 h2 h3 => by
    refine (KJ m B A A' c m' c' W hokm h1 h2 h3).mono ?_
    rintro q w' ⟨hj, hb⟩
    rw [j1] at hj
    rcases hj with ⟨x, A2, n2, c2, hx, hq, hL⟩ | ⟨hx, _⟩
    · rw [← Option.some.inj hx] at hL
      exact ⟨A2, n2, c2, hq, hL, hb⟩
    · cases hx
  have KJ2 : Hid (∀ (B : Nat) (A : Option Addr) (c : Nat) (W : World), Le B A p c a W → Calls Tryz.prog 33 #[.int .u64 n0, .slice A p c, .slice none 0 0] W fun q w' => ∃ A2 n2 c2, q = .returned (.tuple #[.slice A2 n2 c2, .bool true]) ∧ Le W.heap.size A2 n2 c2 a w' ∧ Below W.heap.size W w') := fun B A c W h1 => by
    refine (KJ [] B A none c 0 0 W (fun e h => by cases h) h1 (Le.nil W.heap.size W).ents (by omega)).mono ?_
    rintro q w' ⟨hj, hb⟩
    rcases hj with ⟨x, A2, n2, c2, hx, hq, hL⟩ | ⟨hx, _⟩
    · obtain rfl : a = x := Option.some.inj hx
      exact ⟨A2, n2, c2, hq, hL, hb⟩
    · cases hx
  have KJ3 : Hid (∀ (B : Nat) (A A' : Option Addr) (c m' c' : Nat) (W : World), Le B A p c a W → Ents W.heap.size A' m' f W → m' ≤ 8 → Calls Tryz.prog 33 #[.int .u64 n0, .slice A p c, .slice A' m' c'] W fun q w' => ∃ A2 n2 c2, q = .returned (.tuple #[.slice A2 n2 c2, .bool ((m' : Int) == 0)]) ∧ Below W.heap.size W w') := fun B A A' c m' c' W h1 h2 h3 => by
    refine (KJ f B A A' c m' c' W hokf h1 h2 h3).mono ?_
    rintro q w' ⟨hj, hb⟩
    have hz : f = [] ↔ m' = 0 := by rw [← h2.len]; exact List.length_eq_zero_iff.symm
    rw [j3] at hj
    rcases hj with ⟨x, A2, n2, c2, hx, hq, _⟩ | ⟨hx, hq⟩
    · by_cases h : f = []
      · exact ⟨A2, n2, c2, by rw [show ((m' : Int) == 0) = true from by simp [hz.1 h]]; exact hq, hb⟩
      · rw [if_neg h] at hx; cases hx
    · by_cases h : f = []
      · rw [if_pos h] at hx; cases hx
      · exact ⟨none, 0, 0, by rw [show ((m' : Int) == 0) = false from beq_eq_false_iff_ne.2 (fun e => h (hz.2 (by omega)))]; exact hq, hb⟩
  have HM1 := Lib.hid hL1
  have HM2 := Lib.hid hL2
  have HAP : Hid (a.length = p) := hp.symm
  have HM8 := Lib.hid hm8
  have HF8 := Lib.hid hf8
  have HR := Lib.hid hrr
  clear KJ
  obtain ⟨mm, hmm⟩ : ∃ mm, mm = m.length := ⟨_, rfl⟩
  obtain ⟨ff, hff⟩ : ∃ ff, ff = f.length := ⟨_, rfl⟩
  have HMM : Hid (m.length = mm) := hmm.symm
  have HFF : Hid (f.length = ff) := hff.symm
  have hmm8 : mm ≤ 8 := by omega
  have hff8 : ff ≤ 8 := by omega
  clear hL1 hL2 ok1 ok2 hn1 hn2 ha hp hk hm hf hm8 hf8 hix hixm hixf hokm hokf j1 j2 j3 hrr hmm hff
  go_enter Tryz.func7, Tryz.ntmps7
  go_upto_region 4 with (go_at_call 10; (with_reducible refine (K0.out _).mono ?_); rintro q w1 ⟨rfl, b1⟩)
  have HB1 := Lib.hid b1
  have HM11 := Lib.hid ((HM1.out.below b1).mr b1.size)
  have HM21 := Lib.hid ((HM2.out.below b1).mr b1.size)
  clear b1 HM1 HM2 K0
  go_upto_region 6 with (go_at_call 25; (with_reducible refine (KL1.out _ HM11.out).mono ?_); rintro q w2 ⟨Aa, na, ca, rfl, hE, b2⟩)
  obtain rfl : na = p := hE.len.symm.trans HAP.out
  have HA2 := Lib.hid hE
  have HB2 : Hid (Below w.heap.size w w2) := HB1.out.trans (b2.mono HB1.out.size)
  have HM22 := Lib.hid ((HM21.out.below b2).mr b2.size)
  clear hE b2 HM11 HM21 KL1
  go_upto_region 8 with (go_at_call 25; (with_reducible refine (KL2.out _ HM22.out).mono ?_); rintro q w3 ⟨Am, nm, cm, rfl, hE, b3⟩)
  obtain rfl : nm = mm := hE.len.symm.trans HMM.out
  have HA3 := Lib.hid (HA2.out.below b3)
  have HMm3 := Lib.hid hE
  have HB3 : Hid (Below w.heap.size w w3) := HB2.out.trans (b3.mono HB2.out.size)
  have HM23 := Lib.hid ((HM22.out.below b3).mr b3.size)
  clear hE b3 HM22 KL2
  go_upto_region 9 with (go_at_call 33; (with_reducible refine (KJ1.out _ _ _ _ _ _ _ HA3.out HMm3.out.ents hmm8).mono ?_); rintro q w4 ⟨Aj, nj, cj, rfl, hE, b4⟩)
  have HJ4 := Lib.hid hE
  have HA4 := Lib.hid (HA3.out.below b4)
  have HMm4 := Lib.hid (HMm3.out.below b4)
  have HB4 : Hid (Below w.heap.size w w4) := HB3.out.trans (b4.mono HB3.out.size)
  have HM24 := Lib.hid ((HM23.out.below b4).mr b4.size)
  clear hE b4 HA3 HMm3 HM23
  go_upto_region 10 with (go_at_call 33; (with_reducible refine (KJ2.out _ _ _ _ HA4.out).mono ?_); rintro q w5 ⟨Ak, nk, ck, rfl, hE, b5⟩)
  obtain rfl : nk = na := hE.len.symm.trans HAP.out
  have HK5 := Lib.hid hE
  have HJ5 := Lib.hid (HJ4.out.below b5)
  have HA5 := Lib.hid (HA4.out.below b5)
  have HMm5 := Lib.hid (HMm4.out.below b5)
  have HB5 : Hid (Below w.heap.size w w5) := HB4.out.trans (b5.mono HB4.out.size)
  have HM25 := Lib.hid ((HM24.out.below b5).mr b5.size)
  clear hE b5 HJ4 HA4 HMm4 HM24
  go_upto_region 11 with (go_at_call 25; (with_reducible refine (KL3.out _ HM25.out).mono ?_); rintro q w6 ⟨Af, nf, cf, rfl, hE, b6⟩)
  obtain rfl : nf = ff := hE.len.symm.trans HFF.out
  have HF6 := Lib.hid hE
  have HK6 := Lib.hid (HK5.out.below b6)
  have HJ6 := Lib.hid (HJ5.out.below b6)
  have HA6 := Lib.hid (HA5.out.below b6)
  have HMm6 := Lib.hid (HMm5.out.below b6)
  have HB6 : Hid (Below w.heap.size w w6) := HB5.out.trans (b6.mono HB5.out.size)
  clear hE b6 HK5 HJ5 HA5 HMm5 HM25 KL3
  go_upto_region 12 with (go_at_call 33; (with_reducible refine (KJ3.out _ _ _ _ _ _ _ HA6.out HF6.out.ents hff8).mono ?_); rintro q w7 ⟨Ax, nx_, cx, rfl, b7⟩)
  have HK7 := Lib.hid (HK6.out.below b7)
  have HJ7 := Lib.hid (HJ6.out.below b7)
  have HA7 := Lib.hid (HA6.out.below b7)
  have HMm7 := Lib.hid (HMm6.out.below b7)
  have HB7 : Hid (Below w.heap.size w w7) := HB6.out.trans (b7.mono HB6.out.size)
  clear b7 HK6 HJ6 HA6 HMm6 HF6 KJ1 KJ2 KJ3
  have hjl := HJ7.out.len
  have hr7 : r.length ≤ 17 := by
    rw [HR.out]
    have h1 := HAP.out
    have h2 := HM8.out
    split
    · omega
    · rw [List.length_append, List.length_take]; omega
  have KS := Lib.hid (fun (es : List En) (A A' : Option Addr) (n c c' : Nat) (W : World) (h : Ents W.heap.size A n es W) (h' : Ents W.heap.size A' n es W) (hn : n ≤ 17) => esame_any A A' n c n c' es es W h h' (by omega) (by omega))
  have KS2 : Hid (∀ (es : List En) (A A' : Option Addr) (n c c' : Nat) (W : World), Ents W.heap.size A n es W → Ents W.heap.size A' n es W → n ≤ 17 → Calls Tryz.prog 17 #[.slice A n c, .slice A' n c'] W fun r w' => r = .returned (.bool true) ∧ Below W.heap.size W w') := fun es A A' n c c' W h h' hn => by
    have := KS.out es A A' n c c' W h h' hn
    rw [entsB_self] at this
    exact this
  have hnj : nj ≤ 17 := by omega
  clear KS hr7
  by_cases hm0 : nm = 0
  · have hme : m = [] := List.length_eq_zero_iff.1 (by rw [HMM.out]; exact hm0)
    have hra : r = a := by rw [HR.out, if_pos hme]
    subst hra
    obtain rfl : nj = nk := hjl.symm.trans HAP.out
    subst hm0
    go_upto_region 15 with fail
    go_upto_region 16 with (go_at_call 17; (with_reducible refine (KS2.out _ _ _ _ _ _ _ HJ7.out.ents HA7.out.ents hnj).mono ?_); rintro q w8 ⟨rfl, b8⟩)
    have HK8 := Lib.hid (HK7.out.below b8)
    have HA8 := Lib.hid (HA7.out.below b8)
    have HB8 : Hid (Below w.heap.size w w8) := HB7.out.trans (b8.mono HB7.out.size)
    clear b8
    go_upto_region 17 with (go_at_call 17; (with_reducible refine (KS2.out _ _ _ _ _ _ _ HK8.out.ents HA8.out.ents hnj).mono ?_); rintro q w9 ⟨rfl, b9⟩)
    have HB9 : Hid (Below w.heap.size w w9) := HB8.out.trans (b9.mono HB8.out.size)
    clear b9
    have e1 : (((nf : Int) == 0) == ((nf : Int) == 0)) = true := by simp
    go_wp2
    go_ret
    exact ⟨rfl, HB9.out⟩
  · have hme : m ≠ [] := fun h => hm0 (by rw [← HMM.out, h]; rfl)
    have hra : r = a.take k ++ m := by rw [HR.out, if_neg hme]
    have t1 : decide (0 < (nm : Int)) = true := decide_eq_true (by omega)
    go_upto_region 14 with fail
    have hT : ∃ (AT : Option Addr) (cT : Nat) (BT : Nat), Le BT AT k cT (a.take k) w7 ∧ ((Aa = none ∧ AT = none ∧ cT = 0 ∧ k = 0 ∧ ca = 0) ∨ (∃ g, Aa = some ⟨g, 0, none⟩ ∧ AT = Aa ∧ cT = ca ∧ k ≤ ca)) := by
      rcases HA7.out.form with ⟨h1, h2, h3, h4⟩ | ⟨g, h1, h2, _, _⟩
      · obtain rfl : k = 0 := by omega
        exact ⟨none, 0, 0, Le.nil _ _, .inl ⟨h1, rfl, rfl, rfl, h3⟩⟩
      · refine ⟨Aa, ca, w1.heap.size, ?_, .inr ⟨g, h1, rfl, rfl, by omega⟩⟩
        subst h1
        exact HA7.out.take hkp
    obtain ⟨AT, cT, BT, hTL, hTc⟩ := hT
    have HN7 := Lib.hid (Le.nil w.heap.size w7)
    have S7 := HB7.out.size
    have HS7 : Hid (w.heap.size ≤ w7.heap.size) := S7
    clear S7
    have hfar : ∀ (w8 : World) (A : Option Addr) (n c : Nat) (es : List En) (B : Nat), Below w7.heap.size w7 w8 → Le B A n c es w7 → Le B A n c es w8 := fun w8 A n c es B hb h => h.below hb
    have hjn : Hid (nj = k + nm) := by show _ = _; rw [← hjl, hra, List.length_append, List.length_take, HAP.out, HMM.out]; omega
    have HFAR := Lib.hid hfar
    have HRA := Lib.hid hra
    have HN7' : Hid (Le w7.heap.size none 0 0 [] w7) := Le.nil _ _
    clear hfar hra hme HN7 HR
    rcases hTc with ⟨rfl, rfl, rfl, rfl, rfl⟩ | ⟨g, h1, h2, h3, hkc⟩
    · have HT := Lib.hid hTL
      clear hTL
      go_upto_region 15 with (first
        | (at_builtin; refine wpList_app_ens rfl _ _ rfl _ w7.heap.size _ none none 0 0 0 0 [] _ rfl rfl HN7'.out HT.out (by omega) (Nat.le_refl _) 0 rfl ?_; intro A8 c8 w8 hL8 hb8 hk8; have HL8 := Lib.hid hL8; have HB8 := Lib.hid hb8; clear hL8 hb8 hk8)
        | (at_builtin; refine wpList_app_ens rfl _ _ rfl _ w7.heap.size _ _ _ _ _ _ _ _ _ rfl rfl HL8.out (HFAR.out _ _ _ _ _ _ HB8.out HMm7.out) (by omega) HB8.out.size nj (by have := hjn.out; omega) ?_; intro A9 c9 w9 hL9 hb9 hk9; have HL9 := Lib.hid hL9; have HB9 : Hid (Below w7.heap.size w7 w9) := HB8.out.trans hb9; clear hL9 hb9 hk9))
      have HR9 : Hid (Le w7.heap.size A9 nj c9 r w9) := by show Le _ _ _ _ _ _; rw [HRA.out]; exact HL9.out
      have HJ9 := Lib.hid (HJ7.out.below HB9.out)
      have HK9 := Lib.hid (HK7.out.below HB9.out)
      have HA9 := Lib.hid (HA7.out.below HB9.out)
      have HC9 : Hid (Below w.heap.size w w9) := HB7.out.trans (HB9.out.mono HS7.out)
      clear HL8 HB8 HL9 HB9 HT
      go_upto_region 16 with (go_at_call 17; (with_reducible refine (KS2.out _ _ _ _ _ _ _ HJ9.out.ents HR9.out.ents hnj).mono ?_); rintro q w10 ⟨rfl, b10⟩)
      have HK10 := Lib.hid (HK9.out.below b10)
      have HA10 := Lib.hid (HA9.out.below b10)
      have HB10 : Hid (Below w.heap.size w w10) := HC9.out.trans (b10.mono HC9.out.size)
      clear b10
      go_upto_region 17 with (go_at_call 17; (with_reducible refine (KS2.out _ _ _ _ _ _ _ HK10.out.ents HA10.out.ents (by omega)).mono ?_); rintro q w11 ⟨rfl, b11⟩)
      have HB11 : Hid (Below w.heap.size w w11) := HB10.out.trans (b11.mono HB10.out.size)
      clear b11
      have e1 : (((nf : Int) == 0) == ((nf : Int) == 0)) = true := by simp
      go_wp2
      go_ret
      exact ⟨rfl, HB11.out⟩
    · have HT : Hid (Le BT (some ⟨g, 0, none⟩) k ca (a.take k) w7) := by have := hTL; rw [h2, h1, h3] at this; exact this
      clear hTL h2
      subst h3 h1
      have hkc1 : ¬ (cT : Int) < (k : Int) := by omega
      have hkc2 : (k : Int) ≤ (cT : Int) := by omega
      go_upto_region 15 with (first
        | (at_builtin; refine wpList_app_ens rfl _ _ rfl _ w7.heap.size _ none (some ⟨g, 0, none⟩) 0 0 k cT [] _ rfl rfl HN7'.out HT.out (by omega) (Nat.le_refl _) k (by omega) ?_; intro A8 c8 w8 hL8 hb8 hk8; have HL8 := Lib.hid hL8; have HB8 := Lib.hid hb8; clear hL8 hb8 hk8)
        | (at_builtin; refine wpList_app_ens rfl _ _ rfl _ w7.heap.size _ _ _ _ _ _ _ _ _ rfl rfl HL8.out (HFAR.out _ _ _ _ _ _ HB8.out HMm7.out) (by omega) HB8.out.size nj (by have := hjn.out; omega) ?_; intro A9 c9 w9 hL9 hb9 hk9; have HL9 := Lib.hid hL9; have HB9 : Hid (Below w7.heap.size w7 w9) := HB8.out.trans hb9; clear hL9 hb9 hk9))
      have HR9 : Hid (Le w7.heap.size A9 nj c9 r w9) := by show Le _ _ _ _ _ _; rw [HRA.out]; exact HL9.out
      have HJ9 := Lib.hid (HJ7.out.below HB9.out)
      have HK9 := Lib.hid (HK7.out.below HB9.out)
      have HA9 := Lib.hid (HA7.out.below HB9.out)
      have HC9 : Hid (Below w.heap.size w w9) := HB7.out.trans (HB9.out.mono HS7.out)
      clear HL8 HB8 HL9 HB9 HT
      go_upto_region 16 with (go_at_call 17; (with_reducible refine (KS2.out _ _ _ _ _ _ _ HJ9.out.ents HR9.out.ents hnj).mono ?_); rintro q w10 ⟨rfl, b10⟩)
      have HK10 := Lib.hid (HK9.out.below b10)
      have HA10 := Lib.hid (HA9.out.below b10)
      have HB10 : Hid (Below w.heap.size w w10) := HC9.out.trans (b10.mono HC9.out.size)
      clear b10
      go_upto_region 17 with (go_at_call 17; (with_reducible refine (KS2.out _ _ _ _ _ _ _ HK10.out.ents HA10.out.ents (by omega)).mono ?_); rintro q w11 ⟨rfl, b11⟩)
      have HB11 : Hid (Below w.heap.size w w11) := HB10.out.trans (b11.mono HB10.out.size)
      clear b11
      have e1 : (((nf : Int) == 0) == ((nf : Int) == 0)) = true := by simp
      go_wp2
      go_ret
      exact ⟨rfl, HB11.out⟩
end Go.Proofs.YtnobeoppffoomaaGreat
namespace Go.Proofs.YtnobeoppffoomaaGreat
open Go.RowKit
set_option linter.unusedVariables false
namespace Crc
def nums (n : Nat) (x : Nat → Nat) : List Int := (List.range n).map fun j => (x j : Int)
theorem nums_length (n : Nat) (x : Nat → Nat) : (nums n x).length = n := by simp [nums]
theorem nums_getD (n : Nat) (x : Nat → Nat) (i : Nat) (h : i < n) : (nums n x).getD i 0 = (x i : Int) := by simp [nums, List.getD, h]
theorem str_size (n : Nat) (x : Nat → Nat) : (strOfNums (nums n x)).size = n := by rw [strOfNums_size, nums_length]
def byteAt (s : ByteArray) (j : Nat) : Nat := (s.data.toList.getD j 0).toNat
theorem byteAt_lt (s : ByteArray) (j : Nat) : byteAt s j < 256 := UInt8.toNat_lt _
def turned (t : ByteArray) (p by_ : Nat) (j : Nat) : Nat := if j = p then byteAt t p ^^^ by_ else byteAt t j
end Crc
def BRow (g n : Nat) (x : Nat → Nat) (w : World) : Prop := ∀ j, j < n → w.cell? ⟨g, j, none⟩ = some (.int .u8 (x j)) ∧ w.frozen? ⟨g, j, none⟩ = false
theorem BRow.cell {g n : Nat} {x : Nat → Nat} {w : World} (h : BRow g n x w) (j : Nat) (hj : j < n) : w.cell? ⟨g, j, none⟩ = some (.int .u8 (x j)) := (h j hj).1
theorem BRow.free {g n : Nat} {x : Nat → Nat} {w : World} (h : BRow g n x w) (j : Nat) (hj : j < n) : w.frozen? ⟨g, j, none⟩ = false := (h j hj).2
theorem BRow.drew {g n : Nat} {x : Nat → Nat} {w : World} (h : BRow g n x w) : BRow g n x w.drew := h
theorem BRow.same {g n : Nat} {x y : Nat → Nat} {w : World} (h : BRow g n x w) (hxy : ∀ j, j < n → y j = x j) : BRow g n y w := fun j hj => by rw [hxy j hj]; exact h j hj
theorem BRow.set {g n : Nat} {x y : Nat → Nat} {w : World} (h : BRow g n x w) (k : Nat) (v : Nat) (hy : ∀ j, j < n → y j = if j = k then v else x j) : BRow g n y (w.setCell ⟨g, k, none⟩ (.int .u8 (v : Int))) := by
  intro j hj
  rw [World.frozen?_setCell, hy j hj]
  refine ⟨?_, (h j hj).2⟩
  by_cases e : j = k
  · subst e
    rw [if_pos rfl]
    exact World.cell?_setCell_same _ _ _ (h j hj).1
  · rw [if_neg e, World.cell?_setCell_other _ _ _ _ (by intro hh; cases hh; exact e rfl)]
    exact (h j hj).1
theorem BRow.below {g n B : Nat} {x : Nat → Nat} {w w' : World} (h : BRow g n x w) (hb : Below B w w') (hg : g < B) : BRow g n x w' := fun j hj => by
  rw [hb.cell hg, hb.frozen hg]; exact h j hj
theorem BRow.conv (w : World) (s : ByteArray) : BRow w.heap.size s.size (Crc.byteAt s) (Lib.bytesWorld w 5 s) := by
  intro j hj
  refine ⟨Lib.bytesWorld_cell w 5 s j hj, ?_⟩
  have h := Lib.bytesWorld_at_new w 5 s
  have hz : s.size ≤ (Lib.bytesCells w 5 s).size := by simp [Lib.bytesCells]
  simp only [World.frozen?, h]
  simp; omega
theorem below_conv (w : World) (s : ByteArray) : Below w.heap.size w (Lib.bytesWorld w 5 s) :=
  Lib.below_freeze (((Below.refl _ w).drew).alloc (Nat.le_refl _) _) (p := ⟨w.heap.size, _, none⟩) (Nat.le_refl _) _
theorem BRow.str {g n : Nat} {x : Nat → Nat} {w : World} (h : BRow g n x w) (cap : Nat) : (convert 68 9 (.slice (some ⟨g, 0, none⟩) n cap)).run Tryz.prog w = .ok (.string (strOfNums (Crc.nums n x))) w :=
  run_convert_bytes_arg (P := Tryz.prog) w 68 5 Tryz.underlying68 Tryz.underlying5 g 0 n cap (Crc.nums n x) (Crc.nums_length n x)
    (fun i hi => by rw [Crc.nums_getD n x i hi, Nat.zero_add]; exact h.cell i hi) 9 Tryz.underlying9
set_option maxHeartbeats 2000000 in
set_option maxRecDepth 100000 in
theorem bend_any (s : ByteArray) (at_ : Int) (by_ : Nat) (w : World) (hm : s.size ≤ 140737488351232) (hat : -9223372036854775808 ≤ at_ ∧ at_ ≤ 9223372036854775807) (hby : by_ < 256) :
    Calls Tryz.prog 14 #[.string s, .int .i64 at_, .int .u8 by_] w fun e w' => ∃ t : ByteArray, e = .returned (.string t) ∧ t.size = s.size ∧ Below w.heap.size w w' := by
  by_cases h0 : s.size = 0
  · have he : s = ⟨#[]⟩ := ByteArray.ext (Array.eq_empty_of_size_eq_zero h0)
    subst he
    go_enter Tryz.func14, Tryz.ntmps14
    go_wp2
    go_ret
    exact ⟨_, rfl, rfl, Below.refl _ _⟩
  · have hne : s.toList.isEmpty = false := by
      rw [Lib.toList_data, List.isEmpty_eq_false_iff]
      intro hn
      have h2 : s.size = s.data.toList.length := by simp
      rw [hn, List.length_nil] at h2; omega
    have hn0 : 0 < s.size := by omega
    have hcv := fun (W : World) (t : ByteArray) => Lib.run_convert_string_bytes (P := Tryz.prog) W 9 68 5 t Tryz.underlying9 Tryz.underlying68 Tryz.underlying5
    obtain ⟨a, ha⟩ : ∃ a : Nat, (if at_ < 0 then -(at_ + 1) else at_) = (a : Int) := by
      split
      · exact ⟨(-(at_ + 1)).toNat, by omega⟩
      · exact ⟨at_.toNat, by omega⟩
    have ha2 : (a : Int) ≤ 9223372036854775807 := by split at ha <;> omega
    have HA := Lib.hid ha
    clear ha
    by_cases hneg : at_ < 0
    all_goals
      have ha : (if at_ < 0 then -(at_ + 1) else at_) = (a : Int) := HA.out
      first | rw [if_pos hneg] at ha | rw [if_neg hneg] at ha
      have HB := Lib.hid ha
      clear ha HA
      go_enter Tryz.func14, Tryz.ntmps14
      go_wp2
      try rw [HB.out]
      clear hcv
      have hI := BRow.conv w s
      have hB : Below w.heap.size w (Lib.bytesWorld w 5 s) := below_conv w s
      generalize Lib.bytesWorld w 5 s = w3 at *
      generalize grownCap w s.size 0 5 = cap at *
      obtain ⟨p, hp1⟩ : ∃ p : Nat, p = a % s.size := ⟨_, rfl⟩
      have hp : p < s.size := by rw [hp1]; exact Nat.mod_lt _ (by omega)
      have hp2 : (a : Int) % (s.size : Int) = (p : Int) := by rw [hp1, Int.natCast_emod]
      clear hp1
      have hc := hI.cell p hp
      have hf := hI.free p hp
      have hbx := Crc.byteAt_lt s p
      have hX := Lib.hid (u8_xor_nat (Crc.byteAt s p) by_ hbx hby)
      go_region
      rw [hX.out]
      have hI4 := (hI.set (y := Crc.turned s p by_) p _ (fun j hj => by unfold Crc.turned; rfl)).drew
      have hb1 := (hB.setCell (p := ⟨w.heap.size, p, none⟩) (Nat.le_refl _) (.int .u8 ((Crc.byteAt s p ^^^ by_ : Nat) : Int))).drew
      clear hI hc hf hB
      generalize (World.setCell w3 ⟨w.heap.size, p, none⟩ (.int .u8 ((Crc.byteAt s p ^^^ by_ : Nat) : Int))).drew = w1 at *
      have hstr := hI4.str cap
      have hbz := Crc.str_size s.size (Crc.turned s p by_)
      go_wp2
      go_ret
      exact ⟨_, rfl, hbz, hb1⟩
end Go.Proofs.YtnobeoppffoomaaGreat
