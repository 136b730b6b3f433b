/-
  The document's own Put: what it returns.
  Conditions: the numbers are those of their kinds.
-/
import Derived.Test.YtmalcldpihpfpaaGreatGet6
import Derived.Test.YtmalcldpihpfpaaGreatRR
namespace Go.Proofs.YtmalcldpihpfpaaGreat
open Go.RowKit
open Vi
set_option linter.unusedVariables false
set_option linter.unusedSimpArgs false

/-- A field with its tag, as the document puts it. -/
def rdn (t : Nat) (P : ByteArray) : ByteArray := if P.size = 0 then ⟨#[]⟩ else putB t ++ P
theorem rdn_le (t : Nat) (P : ByteArray) (ht : t < 12) (h : P.size ≤ 74) : (rdn t P).size ≤ 84 := by
  unfold rdn
  split
  · exact Nat.zero_le _
  · rw [ByteArray.size_append]
    have := putB_le t (by omega)
    omega
section
set_option maxRecDepth 100000
set_option maxHeartbeats 1000000
theorem rnumber_any (t n : Nat) (w : World) (ht : t < 12) (hn : n < 18446744073709551616) :
    Calls Tryz.prog 35 #[.int .u64 t, .int .u64 n] w fun e w' => e = .returned (.string (rdn t (nb n))) ∧ Below w.heap.size w w' := by
  by_cases h0 : n = 0
  · subst h0
    have e0 : rdn t (nb ((0 : Nat) : Int)) = ⟨#[]⟩ := rfl
    rw [e0]
    clear e0
    go_enter Tryz.func35, Tryz.ntmps35
    go_wp2
    go_ret
    exact ⟨rfl, Below.refl _ _⟩
  · have e0 : rdn t (nb (n : Int)) = putB t ++ putB n := by
      have e1 : nb (n : Int) = putB n := by unfold nb; rw [if_neg (by omega), Int.toNat_natCast]
      have := putB_pos n
      unfold rdn
      rw [e1, if_neg (by omega)]
    have e1 : ((n : Int) == 0) = false := by simp; omega
    have k1 := putB_le t (by omega)
    have k2 := putB_le n hn
    have K1 := Lib.hid (fun W => rput_any t W (by omega))
    have K2 := Lib.hid (fun W => rput_any n W hn)
    rw [e0]
    clear e0 h0 hn ht
    have hsz : ¬ 9223372036854775807 < (putB t).size + (putB n).size := by omega
    go_enter Tryz.func35, Tryz.ntmps35
    go_wp2_with fail
    refine (K1.out _).mono ?_
    rintro e w1 ⟨rfl, b1⟩
    go_wp2_with fail
    refine (K2.out _).mono ?_
    rintro e w2 ⟨rfl, b2⟩
    go_wp2
    go_ret
    exact ⟨rfl, b1.trans (b2.mono b1.size)⟩
theorem rtext2_any (t : Nat) (d : ByteArray) (w : World) (ht : t < 12) (hd : d.size ≤ 64) :
    Calls Tryz.prog 36 #[.int .u64 t, .string d] w fun e w' => e = .returned (.string (rdn t (tb d))) ∧ Below w.heap.size w w' := by
  by_cases h0 : d.size = 0
  · have hde := (size0 d).1 h0
    subst hde
    have e0 : rdn t (tb ⟨#[]⟩) = ⟨#[]⟩ := rfl
    rw [e0]
    clear e0 h0
    go_enter Tryz.func36, Tryz.ntmps36
    go_wp2
    go_ret
    exact ⟨rfl, Below.refl _ _⟩
  · have e0 : rdn t (tb d) = putB t ++ (putB d.size ++ d) := by
      have e1 : tb d = putB d.size ++ d := by unfold tb; rw [if_neg h0]
      have := putB_pos d.size
      unfold rdn
      rw [e1, if_neg (by rw [ByteArray.size_append]; omega)]
    have h2 : ¬ d = ByteArray.empty := fun e => h0 (by rw [e]; rfl)
    have h3 : ¬ d.toList = [] := by
      rw [Lib.toList_data]
      intro e
      have := congrArg List.length e
      exact h0 (by simpa using this)
    have h6 : d.toList.isEmpty = false := by
      cases hq : d.toList with
      | nil => exact absurd hq h3
      | cons a l => rfl
    have k1 := putB_le t (by omega)
    have k2 := putB_le d.size (by omega)
    have K1 := Lib.hid (fun W => rput_any t W (by omega))
    have K2 := Lib.hid (fun W => rtext_any d W (by omega))
    rw [e0]
    clear e0 h0 ht
    have hsz : ¬ 9223372036854775807 < (putB t).size + (putB d.size ++ d).size := by rw [ByteArray.size_append]; omega
    have hsz2 : ¬ 9223372036854775807 < (putB t).size + ((putB d.size).size + d.size) := by omega
    go_enter Tryz.func36, Tryz.ntmps36
    go_wp2_with fail
    refine (K1.out _).mono ?_
    rintro e w1 ⟨rfl, b1⟩
    go_wp2_with fail
    refine (K2.out _).mono ?_
    rintro e w2 ⟨rfl, b2⟩
    go_wp2
    go_ret
    exact ⟨rfl, b1.trans (b2.mono b1.size)⟩
end
/-- The entry's block, in the midst of its being put. -/
structure Bq (w0 : World) (e : En) (w : World) : Prop where
  k : w.heap[w0.heap.size]? = some (.cells (ec e) 24 (0, 0))
  be : Below w0.heap.size w0 w
theorem Bq.on {w0 w w1 : World} {e : En} (h : Bq w0 e w) (hb : Below w.heap.size w w1) : Bq w0 e w1 :=
  ⟨(hb.block _ (Array.getElem?_eq_some_iff.1 h.k).1).trans h.k, h.be.trans (hb.mono h.be.size)⟩
theorem Bq.all {w w' : World} {e : En} (h : Bq w e w') : Bq w e w' ∧ w'.cell? ⟨w.heap.size, 0, none⟩ = some (.int .u64 e.term) ∧ w'.cell? ⟨w.heap.size, 1, none⟩ = some (.int .u64 e.index) ∧ w'.cell? ⟨w.heap.size, 2, none⟩ = some (.int .i64 e.kind) ∧ w'.cell? ⟨w.heap.size, 3, none⟩ = some (.int .u64 e.client) ∧ w'.cell? ⟨w.heap.size, 4, none⟩ = some (.int .u64 e.seq) ∧ w'.cell? ⟨w.heap.size, 5, none⟩ = some (.int .u64 e.block) ∧ w'.cell? ⟨w.heap.size, 6, none⟩ = some (.int .u64 e.many) ∧ w'.cell? ⟨w.heap.size, 7, none⟩ = some (.int .i64 e.node) ∧ w'.cell? ⟨w.heap.size, 8, none⟩ = some (.int .i64 e.level) ∧ w'.cell? ⟨w.heap.size, 9, none⟩ = some (.string e.data) ∧ w'.cell? ⟨w.heap.size, 10, none⟩ = some (.string e.old) :=
  ⟨h, cell_of_row w' _ 0 _ 24 (0, 0) h.k, cell_of_row w' _ 1 _ 24 (0, 0) h.k, cell_of_row w' _ 2 _ 24 (0, 0) h.k, cell_of_row w' _ 3 _ 24 (0, 0) h.k, cell_of_row w' _ 4 _ 24 (0, 0) h.k, cell_of_row w' _ 5 _ 24 (0, 0) h.k, cell_of_row w' _ 6 _ 24 (0, 0) h.k, cell_of_row w' _ 7 _ 24 (0, 0) h.k, cell_of_row w' _ 8 _ 24 (0, 0) h.k, cell_of_row w' _ 9 _ 24 (0, 0) h.k, cell_of_row w' _ 10 _ 24 (0, 0) h.k⟩
theorem sbE_eq (e : En) : sbE e = rdn 1 (nb e.kind) ++ rdn 2 (nb e.term) ++ rdn 3 (nb e.index) ++ rdn 4 (nb e.client) ++ rdn 5 (nb e.seq) ++ rdn 6 (nb e.block) ++ rdn 7 (nb e.many) ++ rdn 8 (nb e.node) ++ rdn 9 (nb e.level) ++ rdn 10 (tb e.data) ++ rdn 11 (tb e.old) ++ ⟨#[0]⟩ := by
  have h0 : putB 0 = ⟨#[0]⟩ := by unfold putB; rw [put_small 0 (by omega)]; rfl
  unfold sbE secB
  rw [h0]
  have hs : ∀ k, secU eF e (k + 1) = secU eF e k ++ rdn (k + 1) (fP (k + 1) e) := fun k => rfl
  have h00 : secU eF e 0 = ⟨#[]⟩ := rfl
  rw [hs 10, hs 9, hs 8, hs 7, hs 6, hs 5, hs 4, hs 3, hs 2, hs 1, hs 0, h00, empty_app]
  rfl

set_option maxHeartbeats 16000000 in
set_option maxRecDepth 100000 in
theorem rputE_any (e : En) (w : World) (ok : e.Ok) :
    Calls Tryz.prog 12 #[ev e] w fun q w' => q = .returned (.tuple #[.string (putS e), .bool (rightB e)]) ∧ Below w.heap.size w w' := by
  obtain ⟨W0, hW0⟩ : ∃ W0, W0 = w.alloc (Obj.cells (ec e) 24) := ⟨_, rfl⟩
  have S0 : Bq w e W0 := by
    rw [hW0]
    exact ⟨heap_alloc_new w _, (Below.refl _ _).alloc (Nat.le_refl _) _⟩
  have KR := Lib.hid (fun (W : World) (h : Bq w e W) => (rright_any e W ok).mono fun q w' ⟨h1, h2⟩ => And.intro h1 (h.on h2).all)
  have HW := Lib.hid hW0
  have HP : Hid (putS e = if rightB e then sbE e else ⟨#[]⟩) := rfl
  have S1 := Lib.hid S0
  clear hW0 S0
  obtain ⟨rb, hrb⟩ : ∃ rb, rb = rightB e := ⟨_, rfl⟩
  rw [← hrb] at KR HP ⊢
  cases rb with
  | false =>
    have HE : Hid (putS e = ⟨#[]⟩) := HP.out
    clear hrb
    go_enter Tryz.func12, Tryz.ntmps12
    go_wp2_with fail
    rw [← HW.out]
    refine (KR.out _ S1.out).mono ?_
    rintro q w1 ⟨rfl, T, _⟩
    go_wp2
    go_ret2
    exact ⟨ret_pair HE.out.symm rfl, T.be⟩
  | true =>
    have HE : Hid (putS e = sbE e) := HP.out
    have fw := few_of ok hrb.symm
    obtain ⟨a1, a2, a3, a4, a5, a6, a7, a8, a9, a10, a11⟩ := e_bounds ok fw
    have l1 := rdn_le 1 (nb e.kind) (by omega) (fP_le ok fw 1)
    have l2 := rdn_le 2 (nb e.term) (by omega) (fP_le ok fw 2)
    have l3 := rdn_le 3 (nb e.index) (by omega) (fP_le ok fw 3)
    have l4 := rdn_le 4 (nb e.client) (by omega) (fP_le ok fw 4)
    have l5 := rdn_le 5 (nb e.seq) (by omega) (fP_le ok fw 5)
    have l6 := rdn_le 6 (nb e.block) (by omega) (fP_le ok fw 6)
    have l7 := rdn_le 7 (nb e.many) (by omega) (fP_le ok fw 7)
    have l8 := rdn_le 8 (nb e.node) (by omega) (fP_le ok fw 8)
    have l9 := rdn_le 9 (nb e.level) (by omega) (fP_le ok fw 9)
    have l10 := rdn_le 10 (tb e.data) (by omega) (fP_le ok fw 10)
    have l11 := rdn_le 11 (tb e.old) (by omega) (fP_le ok fw 11)
    have y1 : ¬ 9223372036854775807 < (rdn 1 (nb e.kind)).size + (rdn 2 (nb e.term)).size := by omega
    have y2 : ¬ 9223372036854775807 < (rdn 1 (nb e.kind)).size + (rdn 2 (nb e.term)).size + (rdn 3 (nb e.index)).size := by omega
    have y3 : ¬ 9223372036854775807 < (rdn 1 (nb e.kind)).size + (rdn 2 (nb e.term)).size + (rdn 3 (nb e.index)).size + (rdn 4 (nb e.client)).size := by omega
    have y4 : ¬ 9223372036854775807 < (rdn 1 (nb e.kind)).size + (rdn 2 (nb e.term)).size + (rdn 3 (nb e.index)).size + (rdn 4 (nb e.client)).size + (rdn 5 (nb e.seq)).size := by omega
    have y5 : ¬ 9223372036854775807 < (rdn 1 (nb e.kind)).size + (rdn 2 (nb e.term)).size + (rdn 3 (nb e.index)).size + (rdn 4 (nb e.client)).size + (rdn 5 (nb e.seq)).size + (rdn 6 (nb e.block)).size := by omega
    have y6 : ¬ 9223372036854775807 < (rdn 1 (nb e.kind)).size + (rdn 2 (nb e.term)).size + (rdn 3 (nb e.index)).size + (rdn 4 (nb e.client)).size + (rdn 5 (nb e.seq)).size + (rdn 6 (nb e.block)).size + (rdn 7 (nb e.many)).size := by omega
    have y7 : ¬ 9223372036854775807 < (rdn 1 (nb e.kind)).size + (rdn 2 (nb e.term)).size + (rdn 3 (nb e.index)).size + (rdn 4 (nb e.client)).size + (rdn 5 (nb e.seq)).size + (rdn 6 (nb e.block)).size + (rdn 7 (nb e.many)).size + (rdn 8 (nb e.node)).size := by omega
    have y8 : ¬ 9223372036854775807 < (rdn 1 (nb e.kind)).size + (rdn 2 (nb e.term)).size + (rdn 3 (nb e.index)).size + (rdn 4 (nb e.client)).size + (rdn 5 (nb e.seq)).size + (rdn 6 (nb e.block)).size + (rdn 7 (nb e.many)).size + (rdn 8 (nb e.node)).size + (rdn 9 (nb e.level)).size := by omega
    have y9 : ¬ 9223372036854775807 < (rdn 1 (nb e.kind)).size + (rdn 2 (nb e.term)).size + (rdn 3 (nb e.index)).size + (rdn 4 (nb e.client)).size + (rdn 5 (nb e.seq)).size + (rdn 6 (nb e.block)).size + (rdn 7 (nb e.many)).size + (rdn 8 (nb e.node)).size + (rdn 9 (nb e.level)).size + (rdn 10 (tb e.data)).size := by omega
    have y10 : ¬ 9223372036854775807 < (rdn 1 (nb e.kind)).size + (rdn 2 (nb e.term)).size + (rdn 3 (nb e.index)).size + (rdn 4 (nb e.client)).size + (rdn 5 (nb e.seq)).size + (rdn 6 (nb e.block)).size + (rdn 7 (nb e.many)).size + (rdn 8 (nb e.node)).size + (rdn 9 (nb e.level)).size + (rdn 10 (tb e.data)).size + (rdn 11 (tb e.old)).size := by omega
    have y11 : ¬ 9223372036854775807 < (rdn 1 (nb e.kind)).size + (rdn 2 (nb e.term)).size + (rdn 3 (nb e.index)).size + (rdn 4 (nb e.client)).size + (rdn 5 (nb e.seq)).size + (rdn 6 (nb e.block)).size + (rdn 7 (nb e.many)).size + (rdn 8 (nb e.node)).size + (rdn 9 (nb e.level)).size + (rdn 10 (tb e.data)).size + (rdn 11 (tb e.old)).size + 1 := by omega
    have hk1 : IntKind.u64.wrap e.kind = e.kind := IntWalk.u64_in _ (by omega)
    have hk2 : IntKind.u64.wrap e.node = e.node := IntWalk.u64_in _ (by omega)
    have hk3 : IntKind.u64.wrap e.level = e.level := IntWalk.u64_in _ (by omega)
    have KN : Hid (∀ (t : Nat) (tt v : Int) (W : World), tt = (t : Int) → t < 12 → (0 ≤ v ∧ v ≤ 18446744073709551615) → Bq w e W → Calls Tryz.prog 35 #[.int .u64 tt, .int .u64 v] W fun q w' => q = .returned (.string (rdn t (nb v))) ∧ Bq w e w' ∧ w'.cell? ⟨w.heap.size, 0, none⟩ = some (.int .u64 e.term) ∧ w'.cell? ⟨w.heap.size, 1, none⟩ = some (.int .u64 e.index) ∧ w'.cell? ⟨w.heap.size, 2, none⟩ = some (.int .i64 e.kind) ∧ w'.cell? ⟨w.heap.size, 3, none⟩ = some (.int .u64 e.client) ∧ w'.cell? ⟨w.heap.size, 4, none⟩ = some (.int .u64 e.seq) ∧ w'.cell? ⟨w.heap.size, 5, none⟩ = some (.int .u64 e.block) ∧ w'.cell? ⟨w.heap.size, 6, none⟩ = some (.int .u64 e.many) ∧ w'.cell? ⟨w.heap.size, 7, none⟩ = some (.int .i64 e.node) ∧ w'.cell? ⟨w.heap.size, 8, none⟩ = some (.int .i64 e.level) ∧ w'.cell? ⟨w.heap.size, 9, none⟩ = some (.string e.data) ∧ w'.cell? ⟨w.heap.size, 10, none⟩ = some (.string e.old)) := by
      intro t tt v W htt ht hv hW
      subst htt
      obtain ⟨n, rfl⟩ := Int.eq_ofNat_of_zero_le hv.1
      exact (rnumber_any t n W ht (by omega)).mono fun q w' ⟨h1, h2⟩ => ⟨h1, (hW.on h2).all⟩
    have KT : Hid (∀ (t : Nat) (tt : Int) (d : ByteArray) (W : World), tt = (t : Int) → t < 12 → d.size ≤ 64 → Bq w e W → Calls Tryz.prog 36 #[.int .u64 tt, .string d] W fun q w' => q = .returned (.string (rdn t (tb d))) ∧ Bq w e w' ∧ w'.cell? ⟨w.heap.size, 0, none⟩ = some (.int .u64 e.term) ∧ w'.cell? ⟨w.heap.size, 1, none⟩ = some (.int .u64 e.index) ∧ w'.cell? ⟨w.heap.size, 2, none⟩ = some (.int .i64 e.kind) ∧ w'.cell? ⟨w.heap.size, 3, none⟩ = some (.int .u64 e.client) ∧ w'.cell? ⟨w.heap.size, 4, none⟩ = some (.int .u64 e.seq) ∧ w'.cell? ⟨w.heap.size, 5, none⟩ = some (.int .u64 e.block) ∧ w'.cell? ⟨w.heap.size, 6, none⟩ = some (.int .u64 e.many) ∧ w'.cell? ⟨w.heap.size, 7, none⟩ = some (.int .i64 e.node) ∧ w'.cell? ⟨w.heap.size, 8, none⟩ = some (.int .i64 e.level) ∧ w'.cell? ⟨w.heap.size, 9, none⟩ = some (.string e.data) ∧ w'.cell? ⟨w.heap.size, 10, none⟩ = some (.string e.old)) := fun t tt d W htt ht hd hW => htt ▸ (rtext2_any t d W ht hd).mono fun q w' ⟨h1, h2⟩ => ⟨h1, (hW.on h2).all⟩
    clear HP hrb fw l1 l2 l3 l4 l5 l6 l7 l8 l9 l10 l11
    have q1 : 0 ≤ e.kind ∧ e.kind ≤ 18446744073709551615 := by omega
    have q8 : 0 ≤ e.node ∧ e.node ≤ 18446744073709551615 := by omega
    have q9 : 0 ≤ e.level ∧ e.level ≤ 18446744073709551615 := by omega
    clear a1 a8 a9
    go_enter Tryz.func12, Tryz.ntmps12
    go_wp2_with fail
    rw [← HW.out]
    refine (KR.out _ S1.out).mono ?_
    rintro q w1 ⟨rfl, T, d0, d1, d2, d3, d4, d5, d6, d7, d8, d9, d10⟩
    go_upto_region 4 with fail
    have Td : Bq w e w1.drew := T.on (Below.refl _ w1).drew
    clear KR S1
    go_region_held3 (fun w' => w'.cell? ⟨w.heap.size, 0, none⟩ = some (.int .u64 e.term) ∧ w'.cell? ⟨w.heap.size, 1, none⟩ = some (.int .u64 e.index) ∧ w'.cell? ⟨w.heap.size, 2, none⟩ = some (.int .i64 e.kind) ∧ w'.cell? ⟨w.heap.size, 3, none⟩ = some (.int .u64 e.client) ∧ w'.cell? ⟨w.heap.size, 4, none⟩ = some (.int .u64 e.seq) ∧ w'.cell? ⟨w.heap.size, 5, none⟩ = some (.int .u64 e.block) ∧ w'.cell? ⟨w.heap.size, 6, none⟩ = some (.int .u64 e.many) ∧ w'.cell? ⟨w.heap.size, 7, none⟩ = some (.int .i64 e.node) ∧ w'.cell? ⟨w.heap.size, 8, none⟩ = some (.int .i64 e.level) ∧ w'.cell? ⟨w.heap.size, 9, none⟩ = some (.string e.data) ∧ w'.cell? ⟨w.heap.size, 10, none⟩ = some (.string e.old)) (first | exact ⟨d0, d1, d2, d3, d4, d5, d6, d7, d8, d9, d10⟩ | (refine ⟨?_, ?_, ?_, ?_, ?_, ?_, ?_, ?_, ?_, ?_, ?_⟩ <;> assumption)) (first
      | (go_at_call 35; (with_reducible refine (KN.out 1 1 e.kind _ (by decide) (by decide) q1 Td).mono ?_); rintro q x1 ⟨rfl, X1, x1_0, x1_1, x1_2, x1_3, x1_4, x1_5, x1_6, x1_7, x1_8, x1_9, x1_10⟩)
      | (go_at_call 35; (with_reducible refine (KN.out 2 2 e.term _ (by decide) (by decide) a2 X1).mono ?_); rintro q x2 ⟨rfl, X2, x2_0, x2_1, x2_2, x2_3, x2_4, x2_5, x2_6, x2_7, x2_8, x2_9, x2_10⟩)
      | (go_at_call 35; (with_reducible refine (KN.out 3 3 e.index _ (by decide) (by decide) a3 X2).mono ?_); rintro q x3 ⟨rfl, X3, x3_0, x3_1, x3_2, x3_3, x3_4, x3_5, x3_6, x3_7, x3_8, x3_9, x3_10⟩)
      | (go_at_call 35; (with_reducible refine (KN.out 4 4 e.client _ (by decide) (by decide) a4 X3).mono ?_); rintro q x4 ⟨rfl, X4, x4_0, x4_1, x4_2, x4_3, x4_4, x4_5, x4_6, x4_7, x4_8, x4_9, x4_10⟩)
      | (go_at_call 35; (with_reducible refine (KN.out 5 5 e.seq _ (by decide) (by decide) a5 X4).mono ?_); rintro q x5 ⟨rfl, X5, x5_0, x5_1, x5_2, x5_3, x5_4, x5_5, x5_6, x5_7, x5_8, x5_9, x5_10⟩)
      | (go_at_call 35; (with_reducible refine (KN.out 6 6 e.block _ (by decide) (by decide) a6 X5).mono ?_); rintro q x6 ⟨rfl, X6, x6_0, x6_1, x6_2, x6_3, x6_4, x6_5, x6_6, x6_7, x6_8, x6_9, x6_10⟩)
      | (go_at_call 35; (with_reducible refine (KN.out 7 7 e.many _ (by decide) (by decide) a7 X6).mono ?_); rintro q x7 ⟨rfl, X7, x7_0, x7_1, x7_2, x7_3, x7_4, x7_5, x7_6, x7_7, x7_8, x7_9, x7_10⟩)
      | (go_at_call 35; (with_reducible refine (KN.out 8 8 e.node _ (by decide) (by decide) q8 X7).mono ?_); rintro q x8 ⟨rfl, X8, x8_0, x8_1, x8_2, x8_3, x8_4, x8_5, x8_6, x8_7, x8_8, x8_9, x8_10⟩)
      | (go_at_call 35; (with_reducible refine (KN.out 9 9 e.level _ (by decide) (by decide) q9 X8).mono ?_); rintro q x9 ⟨rfl, X9, x9_0, x9_1, x9_2, x9_3, x9_4, x9_5, x9_6, x9_7, x9_8, x9_9, x9_10⟩)
      | (go_at_call 36; (with_reducible refine (KT.out 10 10 e.data _ (by decide) (by decide) a10 X9).mono ?_); rintro q x10 ⟨rfl, X10, x10_0, x10_1, x10_2, x10_3, x10_4, x10_5, x10_6, x10_7, x10_8, x10_9, x10_10⟩)
      | (go_at_call 36; (with_reducible refine (KT.out 11 11 e.old _ (by decide) (by decide) a11 X10).mono ?_); rintro q x11 ⟨rfl, X11, x11_0, x11_1, x11_2, x11_3, x11_4, x11_5, x11_6, x11_7, x11_8, x11_9, x11_10⟩))
    go_wp2_with fail
    go_ret2
    refine ⟨ret_pair ?_ rfl, X11.be⟩
    rw [HE.out, sbE_eq]
end Go.Proofs.YtmalcldpihpfpaaGreat
