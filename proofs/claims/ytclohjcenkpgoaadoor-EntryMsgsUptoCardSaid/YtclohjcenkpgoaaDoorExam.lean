/-
  The chapter's examples are so.
  Conditions: the table of powers of ten lies as its initialiser lays it.
-/
import Derived.Test.YtclohjcenkpgoaaDoorMTxt
namespace Go.Proofs.YtclohjcenkpgoaaDoor
open Go.RowKit
set_option linter.unusedVariables false

def lvl (k : Int) : Int := if k = 11 then 2 else 1
set_option maxRecDepth 100000 in
set_option maxHeartbeats 1000000 in
theorem level_any (e : En) (w : World) : Calls Tryd.prog 15 #[ev e] w fun r w' => r = .returned (.int .i64 (lvl e.kind)) ∧ Below w.heap.size w w' := by
  by_cases h : e.kind = 11
  · have hT : Hid (lvl e.kind = 2) := by show _ = _; unfold lvl; rw [if_pos h]
    have h2 : (e.kind == 11) = true := by simpa using h
    clear h
    go_enter Tryd.func15, Tryd.ntmps15
    go_wp2
    go_ret
    exact ⟨by rw [hT.out]; rfl, (Below.refl _ _).alloc (Nat.le_refl _) _⟩
  · have hT : Hid (lvl e.kind = 1) := by show _ = _; unfold lvl; rw [if_neg h]
    have h2 : (e.kind == 11) = false := beqF h
    clear h
    go_enter Tryd.func15, Tryd.ntmps15
    go_wp2
    go_ret
    exact ⟨by rw [hT.out]; rfl, (Below.refl _ _).alloc (Nat.le_refl _) _⟩

theorem dec_small (n : Nat) (h : n ≤ 9) : dec (n : Int) = str [d48 n] := by
  unfold dec str
  rw [Int.toNat_natCast, decD_small n h]
theorem num_small (n : Nat) (h : n ≤ 9) : num (n : Int) = str [d48 n] := by
  unfold num str Lib.itoa
  rw [if_neg (by omega), Int.toNat_natCast, decD_small n h]

/-- The example's entry. -/
abbrev e0 : En := ⟨2, 3, 1, 4, 5, 6, 0, 0, 0, ⟨#[97]⟩, ⟨#[]⟩⟩
abbrev ez : En := ⟨0, 0, 0, 0, 0, 0, 0, 0, 0, ⟨#[]⟩, ⟨#[]⟩⟩
/-- The example's message. -/
abbrev m0 : Ms := ⟨2, 1, 2, 0, 0, 0, 0, 0, true, none, 0, 0, [], ⟨#[]⟩⟩
theorem ok0 : e0.Ok := by constructor <;> decide
theorem okz : ez.Ok := by constructor <;> decide
theorem okm : m0.Ok := by constructor <;> first | decide | (intro e he; cases he)
theorem ents0 (B : Nat) (w : World) : Ents B m0.A m0.n m0.es w := ⟨rfl, fun i e he => by cases i <;> cases he⟩
theorem right0 : rightB e0 = true := by decide +kernel
theorem rightz : rightB ez = false := by decide +kernel
theorem text0 : textS e0 = ⟨#[49, 32, 50, 46, 51, 32, 99, 61, 52, 47, 53, 32, 98, 61, 54, 32, 100, 61, 54, 49]⟩ := by
  have a1 : num 1 = str [49] := num_small 1 (by omega)
  have a2 : dec 2 = str [50] := dec_small 2 (by omega)
  have a3 : dec 3 = str [51] := dec_small 3 (by omega)
  have a4 : dec 4 = str [52] := dec_small 4 (by omega)
  have a5 : dec 5 = str [53] := dec_small 5 (by omega)
  have a6 : dec 6 = str [54] := dec_small 6 (by omega)
  have t99 : tell 99 e0 = str [52, 47, 53] := by show dec 4 ++ str [47] ++ dec 5 = _; rw [a4, a5, str_app, str_app]; rfl
  have t98 : tell 98 e0 = str [54] := by show dec 6 = _; rw [a6]
  have t100 : tell 100 e0 = str [54, 49] := by decide +kernel
  have hb : bodyL (fl 1) e0 7 = [32, 99, 61, 52, 47, 53] ++ [32, 98, 61, 54] ++ [32, 100, 61, 54, 49] := by
    have p1 : piece (fl 1) e0 99 = [32, 99, 61, 52, 47, 53] := by unfold piece; rw [if_pos (by decide +kernel), t99]; rfl
    have p2 : piece (fl 1) e0 98 = [32, 98, 61, 54] := by unfold piece; rw [if_pos (by decide +kernel), t98]; rfl
    have p3 : piece (fl 1) e0 109 = [] := piece_no _ _ _ (by decide +kernel)
    have p4 : piece (fl 1) e0 110 = [] := piece_no _ _ _ (by decide +kernel)
    have p5 : piece (fl 1) e0 108 = [] := piece_no _ _ _ (by decide +kernel)
    have p6 : piece (fl 1) e0 100 = [32, 100, 61, 54, 49] := by unfold piece; rw [if_pos (by decide +kernel), t100]; rfl
    have p7 : piece (fl 1) e0 111 = [] := piece_no _ _ _ (by decide +kernel)
    show List.flatMap (piece (fl 1) e0) [99, 98, 109, 110, 108, 100, 111] = _
    simp only [List.flatMap_cons, List.flatMap_nil, p1, p2, p3, p4, p5, p6, p7, List.nil_append, List.append_nil, List.append_assoc]
  show (num 1 ++ str [32] ++ dec 2 ++ str [46] ++ dec 3) ++ str (bodyL (fl 1) e0 7) = _
  rw [hb, a1, a2, a3]
  decide +kernel
theorem mtext0 : mtextS m0 = ⟨#[50, 32, 49, 62, 50, 32, 48, 32, 121, 61, 49]⟩ := by
  have a0 : dec 0 = str [48] := dec_small 0 (by omega)
  have a1 : num 1 = str [49] := num_small 1 (by omega)
  have a2 : num 2 = str [50] := num_small 2 (by omega)
  have a3 : dec 1 = str [49] := dec_small 1 (by omega)
  have hb : mbodyL (mfl 2) m0 7 = [32, 121, 61, 49] := by
    have p1 : mpiece (mfl 2) m0 105 = [] := mpiece_no _ _ _ (by decide +kernel)
    have p2 : mpiece (mfl 2) m0 112 = [] := mpiece_no _ _ _ (by decide +kernel)
    have p3 : mpiece (mfl 2) m0 116 = [] := mpiece_no _ _ _ (by decide +kernel)
    have p4 : mpiece (mfl 2) m0 107 = [] := mpiece_no _ _ _ (by decide +kernel)
    have p5 : mpiece (mfl 2) m0 121 = [32, 121, 61, 49] := by unfold mpiece; rw [if_pos (by decide +kernel), show mtell 121 m0 = dec 1 from rfl, a3]; rfl
    have p6 : mpiece (mfl 2) m0 101 = [] := mpiece_no _ _ _ (by decide +kernel)
    have p7 : mpiece (mfl 2) m0 115 = [] := mpiece_no _ _ _ (by decide +kernel)
    show List.flatMap (mpiece (mfl 2) m0) [105, 112, 116, 107, 121, 101, 115] = _
    simp only [List.flatMap_cons, List.flatMap_nil, p1, p2, p3, p4, p5, p6, p7, List.nil_append, List.append_nil]
  show (num 2 ++ str [32] ++ num 1 ++ str [62] ++ num 2 ++ str [32] ++ dec 0) ++ str (mbodyL (mfl 2) m0 7) = _
  rw [hb, a0, a1, a2]
  decide +kernel

/-- What the examples keep: the entry's block, and the table. -/
def S3 (w W : World) : Prop := Bx w.heap.size e0 24 W ∧ Below w.heap.size w W ∧ Tab W
theorem S3.on {w W w1 : World} (h : S3 w W) (hb : Below W.heap.size W w1) : S3 w w1 := ⟨h.1.below hb, h.2.1.trans (hb.mono h.2.1.size), h.2.2.below hb⟩
def Cs (w w' : World) : Prop := w'.cell? ⟨w.heap.size, 0, none⟩ = some (.int .u64 2) ∧ w'.cell? ⟨w.heap.size, 1, none⟩ = some (.int .u64 3) ∧ w'.cell? ⟨w.heap.size, 2, none⟩ = some (.int .i64 1) ∧ w'.cell? ⟨w.heap.size, 3, none⟩ = some (.int .u64 4) ∧ w'.cell? ⟨w.heap.size, 4, none⟩ = some (.int .u64 5) ∧ w'.cell? ⟨w.heap.size, 5, none⟩ = some (.int .u64 6) ∧ w'.cell? ⟨w.heap.size, 6, none⟩ = some (.int .u64 0) ∧ w'.cell? ⟨w.heap.size, 7, none⟩ = some (.int .i64 0) ∧ w'.cell? ⟨w.heap.size, 8, none⟩ = some (.int .i64 0) ∧ w'.cell? ⟨w.heap.size, 9, none⟩ = some (.string ⟨#[97]⟩) ∧ w'.cell? ⟨w.heap.size, 10, none⟩ = some (.string ⟨#[]⟩)
theorem S3.cs {w w' : World} (h : S3 w w') : Cs w w' := ⟨h.1.cell 0, h.1.cell 1, h.1.cell 2, h.1.cell 3, h.1.cell 4, h.1.cell 5, h.1.cell 6, h.1.cell 7, h.1.cell 8, h.1.cell 9, h.1.cell 10⟩

set_option maxRecDepth 100000 in
set_option maxHeartbeats 2000000 in
theorem examples_any (w : World) (ht : Tab w) : Calls Tryd.prog 9 #[] w fun r w' => r = .returned (.bool true) ∧ Below w.heap.size w w' := by
  have hF : ∀ W, Calls Tryd.prog 11 #[.int .i64 1] W fun r w' => r = .returned (.tuple #[.string ⟨#[99, 98, 100]⟩, .bool true]) ∧ W = w' := fun W => fields_any 1 W
  have hR : ∀ W, S3 w W → Calls Tryd.prog 13 #[ev e0] W fun r w' => r = .returned (.bool true) ∧ S3 w w' ∧ w'.cell? ⟨w.heap.size, 0, none⟩ = some (.int .u64 2) ∧ w'.cell? ⟨w.heap.size, 1, none⟩ = some (.int .u64 3) ∧ w'.cell? ⟨w.heap.size, 2, none⟩ = some (.int .i64 1) ∧ w'.cell? ⟨w.heap.size, 3, none⟩ = some (.int .u64 4) ∧ w'.cell? ⟨w.heap.size, 4, none⟩ = some (.int .u64 5) ∧ w'.cell? ⟨w.heap.size, 5, none⟩ = some (.int .u64 6) ∧ w'.cell? ⟨w.heap.size, 6, none⟩ = some (.int .u64 0) ∧ w'.cell? ⟨w.heap.size, 7, none⟩ = some (.int .i64 0) ∧ w'.cell? ⟨w.heap.size, 8, none⟩ = some (.int .i64 0) ∧ w'.cell? ⟨w.heap.size, 9, none⟩ = some (.string ⟨#[97]⟩) ∧ w'.cell? ⟨w.heap.size, 10, none⟩ = some (.string ⟨#[]⟩) := fun W h => (right_any e0 W ok0).mono fun r w' ⟨h1, h2⟩ => ⟨by rw [h1, right0], h.on h2, (h.on h2).cs⟩
  have hL : ∀ W, S3 w W → Calls Tryd.prog 15 #[ev e0] W fun r w' => r = .returned (.int .i64 1) ∧ S3 w w' ∧ w'.cell? ⟨w.heap.size, 0, none⟩ = some (.int .u64 2) ∧ w'.cell? ⟨w.heap.size, 1, none⟩ = some (.int .u64 3) ∧ w'.cell? ⟨w.heap.size, 2, none⟩ = some (.int .i64 1) ∧ w'.cell? ⟨w.heap.size, 3, none⟩ = some (.int .u64 4) ∧ w'.cell? ⟨w.heap.size, 4, none⟩ = some (.int .u64 5) ∧ w'.cell? ⟨w.heap.size, 5, none⟩ = some (.int .u64 6) ∧ w'.cell? ⟨w.heap.size, 6, none⟩ = some (.int .u64 0) ∧ w'.cell? ⟨w.heap.size, 7, none⟩ = some (.int .i64 0) ∧ w'.cell? ⟨w.heap.size, 8, none⟩ = some (.int .i64 0) ∧ w'.cell? ⟨w.heap.size, 9, none⟩ = some (.string ⟨#[97]⟩) ∧ w'.cell? ⟨w.heap.size, 10, none⟩ = some (.string ⟨#[]⟩) := fun W h => (level_any e0 W).mono fun r w' ⟨h1, h2⟩ => ⟨by rw [h1]; rfl, h.on h2, (h.on h2).cs⟩
  have hT : ∀ W, S3 w W → Calls Tryd.prog 17 #[ev e0] W fun r w' => r = .returned (.string ⟨#[49, 32, 50, 46, 51, 32, 99, 61, 52, 47, 53, 32, 98, 61, 54, 32, 100, 61, 54, 49]⟩) ∧ S3 w w' := fun W h => (text_any e0 W ok0 (by decide) (by decide) h.2.2).mono fun r w' ⟨h1, h2⟩ => ⟨by rw [h1, text0], h.on h2⟩
  have hZ : ∀ W, S3 w W → Calls Tryd.prog 13 #[ev ez] W fun r w' => r = .returned (.bool false) ∧ S3 w w' := fun W h => (right_any ez W okz).mono fun r w' ⟨h1, h2⟩ => ⟨by rw [h1, rightz], h.on h2⟩
  have hM : ∀ W, S3 w W → Calls Tryd.prog 28 #[mv m0] W fun r w' => r = .returned (.string ⟨#[50, 32, 49, 62, 50, 32, 48, 32, 121, 61, 49]⟩) ∧ S3 w w' := fun W h => (mtext_any m0 W okm (ents0 _ _) h.2.2).mono fun r w' ⟨h1, h2⟩ => ⟨by rw [h1, mtext0], h.on h2⟩
  have s0 : S3 w (w.alloc (Obj.cells (ec e0) 24)) := by
    have hb : Below w.heap.size w (w.alloc (Obj.cells (ec e0) 24)) := (Below.refl _ _).alloc (Nat.le_refl _) _
    exact ⟨⟨heap_alloc_new w _⟩, hb, ht.below hb⟩
  have KF := Lib.hid hF
  have KR := Lib.hid hR
  have KZ := Lib.hid hZ
  have KL := Lib.hid hL
  have KT := Lib.hid hT
  have KM := Lib.hid hM
  have HT := Lib.hid ht
  have S0 := Lib.hid s0
  clear hF hR hZ hL hT hM ht s0
  go_enter Tryd.func9, Tryd.ntmps9
  go_wp2_with (first
    | (go_at_call 11; (with_reducible refine (KF.out _).mono ?_); rintro r w' ⟨rfl, rfl⟩)
    | (go_at_call 13; (with_reducible refine (KR.out _ S0.out).mono ?_); rintro r w1 ⟨rfl, s1, d0, d1, d2, d3, d4, d5, d6, d7, d8, d9, d10⟩)
    | (go_at_call 15; (with_reducible refine (KL.out _ s1).mono ?_); rintro r w2 ⟨rfl, s2, c0, c1, c2, c3, c4, c5, c6, c7, c8, c9, c10⟩)
    | (go_at_call 17; (with_reducible refine (KT.out _ s2).mono ?_); rintro r w3 ⟨rfl, s3⟩)
    | (go_at_call 13; (with_reducible refine (KZ.out _ s3).mono ?_); rintro r w4 ⟨rfl, s4⟩)
    | (go_at_call 28; (with_reducible refine (KM.out _ s4).mono ?_); rintro r w5 ⟨rfl, s5⟩))
  go_ret
  exact ⟨rfl, s5.2.1⟩
end Go.Proofs.YtclohjcenkpgoaaDoor
