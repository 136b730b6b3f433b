/-
  Two entries that are right, of which one is the other with something another one, have the same text just if they are the same.
  Conditions: named in each theorem.
-/
import Derived.Test.YtclohjcenkpgoaaDoorTMath
namespace Go.Proofs.YtclohjcenkpgoaaDoor
open Go.RowKit
set_option linter.unusedVariables false

theorem head_same {x y : En} (h1 : y.kind = x.kind) (h2 : y.term = x.term) (h3 : y.index = x.index) : headS x = headS y := by
  unfold headS
  rw [h1, h2, h3]
theorem body_of_text {x y : En} (h1 : y.kind = x.kind) (h2 : y.term = x.term) (h3 : y.index = x.index) (h : textS x = textS y) : bodyL (fl x.kind) x 7 = bodyL (fl x.kind) y 7 := by
  unfold textS at h
  rw [head_same h1 h2 h3, h1] at h
  exact str_inj (app_left h)
theorem piece_of_tell {L : ByteArray} {x y : En} {c : Int} (h : tell c x = tell c y) : piece L x c = piece L y c := by
  unfold piece
  rw [h]
/-- Two that have the same text, and tell the same of all letters but one, tell the same of that one, if it is theirs. -/
theorem tell_of_text {x y : En} (c : Int) (h1 : y.kind = x.kind) (h2 : y.term = x.term) (h3 : y.index = x.index) (hc : c ∈ ([99, 98, 109, 110, 108, 100, 111] : List Int))
    (ho : ∀ d ∈ ([99, 98, 109, 110, 108, 100, 111] : List Int), d ≠ c → tell d x = tell d y) (hh : hasL (fl x.kind) c = true) (h : textS x = textS y) : tell c x = tell c y := by
  have hb := body_of_text h1 h2 h3 h
  rw [body_eq, body_eq] at hb
  have hp : ∀ d ∈ ([99, 98, 109, 110, 108, 100, 111] : List Int), d ≠ c → piece (fl x.kind) y d = piece (fl x.kind) x d := fun d hd hne => (piece_of_tell (ho d hd hne)).symm
  simp only [List.mem_cons, List.not_mem_nil, or_false] at hc
  apply piece_tell hh
  rcases hc with rfl | rfl | rfl | rfl | rfl | rfl | rfl
  · rw [hp 98 (by simp) (by omega), hp 109 (by simp) (by omega), hp 110 (by simp) (by omega), hp 108 (by simp) (by omega), hp 100 (by simp) (by omega), hp 111 (by simp) (by omega)] at hb
    simpa using hb
  · rw [hp 99 (by simp) (by omega), hp 109 (by simp) (by omega), hp 110 (by simp) (by omega), hp 108 (by simp) (by omega), hp 100 (by simp) (by omega), hp 111 (by simp) (by omega)] at hb
    simpa using hb
  · rw [hp 99 (by simp) (by omega), hp 98 (by simp) (by omega), hp 110 (by simp) (by omega), hp 108 (by simp) (by omega), hp 100 (by simp) (by omega), hp 111 (by simp) (by omega)] at hb
    simpa using hb
  · rw [hp 99 (by simp) (by omega), hp 98 (by simp) (by omega), hp 109 (by simp) (by omega), hp 108 (by simp) (by omega), hp 100 (by simp) (by omega), hp 111 (by simp) (by omega)] at hb
    simpa using hb
  · rw [hp 99 (by simp) (by omega), hp 98 (by simp) (by omega), hp 109 (by simp) (by omega), hp 110 (by simp) (by omega), hp 100 (by simp) (by omega), hp 111 (by simp) (by omega)] at hb
    simpa using hb
  · rw [hp 99 (by simp) (by omega), hp 98 (by simp) (by omega), hp 109 (by simp) (by omega), hp 110 (by simp) (by omega), hp 108 (by simp) (by omega), hp 111 (by simp) (by omega)] at hb
    simpa using hb
  · rw [hp 99 (by simp) (by omega), hp 98 (by simp) (by omega), hp 109 (by simp) (by omega), hp 110 (by simp) (by omega), hp 108 (by simp) (by omega), hp 100 (by simp) (by omega)] at hb
    simpa using hb
/-- The second entry of the law: the first one with something another one. -/
def tw (x : En) (h n : Int) (s : ByteArray) : En :=
  if h = 0 then { x with term := n + 1 } else if h = 1 then { x with seq := n } else if h = 2 then { x with block := n } else if h = 3 then { x with data := cut64 s }
  else if h = 4 then { x with node := n % 7 + 1 } else if h = 5 then { x with old := cut64 s } else { x with many := n }

theorem iff_term {x : En} {n : Int} (hx : x.Ok) (hn : 0 ≤ n) (h : textS x = textS { x with term := n + 1 }) : x = { x with term := n + 1 } := by
  unfold textS at h
  have hh : headS x = headS { x with term := n + 1 } := app_right h
  unfold headS at hh
  have e := dec_inj hx.t0 (by show 0 ≤ n + 1; omega) (app_left (app_right (app_right hh)))
  have e2 : x.term = n + 1 := e
  cases x
  simp_all
theorem iff_seq {x : En} {n : Int} (hx : x.Ok) (hn : 0 ≤ n) (rx : rightB x = true) (ry : rightB { x with seq := n } = true) (h : textS x = textS { x with seq := n }) : x = { x with seq := n } := by
  have e : x.seq = n := by
    cases hh : hasL (fl x.kind) 99 with
    | true =>
      have ht := tell_of_text (x := x) (y := { x with seq := n }) 99 rfl rfl rfl (by simp) (fun d hd hne => by
        simp only [List.mem_cons, List.not_mem_nil, or_false] at hd
        rcases hd with rfl | rfl | rfl | rfl | rfl | rfl | rfl
        · exact absurd rfl hne
        all_goals rfl) hh h
      have ht2 : dec x.client ++ str [47] ++ dec x.seq = dec x.client ++ str [47] ++ dec n := ht
      exact dec_inj hx.s0 hn (app_left ht2)
    | false =>
      have a := lim_no hh (right_lims rx).2.2.2.2.1
      have b := lim_no (show hasL (fl ({ x with seq := n } : En).kind) 99 = false from hh) (right_lims ry).2.2.2.2.1
      rw [a]; exact b.symm
  cases x
  simp_all
theorem iff_block {x : En} {n : Int} (hx : x.Ok) (hn : 0 ≤ n) (rx : rightB x = true) (ry : rightB { x with block := n } = true) (h : textS x = textS { x with block := n }) : x = { x with block := n } := by
  have e : x.block = n := by
    cases hh : hasL (fl x.kind) 98 with
    | true =>
      have ht := tell_of_text (x := x) (y := { x with block := n }) 98 rfl rfl rfl (by simp) (fun d hd hne => by
        simp only [List.mem_cons, List.not_mem_nil, or_false] at hd
        rcases hd with rfl | rfl | rfl | rfl | rfl | rfl | rfl
        all_goals first | exact absurd rfl hne | rfl) hh h
      have ht2 : dec x.block = dec n := ht
      exact dec_inj hx.b0 hn ht2
    | false =>
      have a := lim_no hh (right_lims rx).2.2.2.2.2.1
      have b := lim_no (show hasL (fl ({ x with block := n } : En).kind) 98 = false from hh) (right_lims ry).2.2.2.2.2.1
      rw [a]; exact b.symm
  cases x
  simp_all
theorem iff_many {x : En} {n : Int} (hx : x.Ok) (hn : 0 ≤ n) (rx : rightB x = true) (ry : rightB { x with many := n } = true) (h : textS x = textS { x with many := n }) : x = { x with many := n } := by
  have e : x.many = n := by
    cases hh : hasL (fl x.kind) 109 with
    | true =>
      have ht := tell_of_text (x := x) (y := { x with many := n }) 109 rfl rfl rfl (by simp) (fun d hd hne => by
        simp only [List.mem_cons, List.not_mem_nil, or_false] at hd
        rcases hd with rfl | rfl | rfl | rfl | rfl | rfl | rfl
        all_goals first | exact absurd rfl hne | rfl) hh h
      have ht2 : dec x.many = dec n := ht
      exact dec_inj hx.m0 hn ht2
    | false =>
      have a := lim_no hh (right_lims rx).2.2.2.2.2.2.1
      have b := lim_no (show hasL (fl ({ x with many := n } : En).kind) 109 = false from hh) (right_lims ry).2.2.2.2.2.2.1
      rw [a]; exact b.symm
  cases x
  simp_all
theorem iff_node {x : En} {n : Int} (hx0 : 0 ≤ x.node) (hx1 : x.node ≤ 9) (hn : 0 ≤ n) (hn9 : n ≤ 9) (rx : rightB x = true) (ry : rightB { x with node := n } = true) (h : textS x = textS { x with node := n }) : x = { x with node := n } := by
  have e : x.node = n := by
    cases hh : hasL (fl x.kind) 110 with
    | true =>
      have ht := tell_of_text (x := x) (y := { x with node := n }) 110 rfl rfl rfl (by simp) (fun d hd hne => by
        simp only [List.mem_cons, List.not_mem_nil, or_false] at hd
        rcases hd with rfl | rfl | rfl | rfl | rfl | rfl | rfl
        all_goals first | exact absurd rfl hne | rfl) hh h
      have ht2 : num x.node = num n := ht
      rw [num_pos _ hx0, num_pos _ hn] at ht2
      exact dec_inj hx0 hn ht2
    | false =>
      have a := lim_no hh (right_lims rx).2.2.2.2.2.2.2.1
      have b := lim_no (show hasL (fl ({ x with node := n } : En).kind) 110 = false from hh) (right_lims ry).2.2.2.2.2.2.2.1
      rw [u64_id hx0 (by omega)] at a
      have b2 : IntKind.u64.wrap n = 0 := b
      rw [u64_id hn (by omega)] at b2
      omega
  cases x
  simp_all
theorem iff_data {x : En} {s : ByteArray} (hx : x.data.size ≤ 140737488351232) (hs : s.size ≤ 140737488351232) (rx : rightB x = true) (ry : rightB { x with data := s } = true) (h : textS x = textS { x with data := s }) : x = { x with data := s } := by
  have e : x.data = s := by
    cases hh : hasL (fl x.kind) 100 with
    | true =>
      have ht := tell_of_text (x := x) (y := { x with data := s }) 100 rfl rfl rfl (by simp) (fun d hd hne => by
        simp only [List.mem_cons, List.not_mem_nil, or_false] at hd
        rcases hd with rfl | rfl | rfl | rfl | rfl | rfl | rfl
        all_goals first | exact absurd rfl hne | rfl) hh h
      have ht2 : hex x.data = hex s := ht
      exact hex_inj ht2
    | false =>
      have a := lim_no hh (right_lims rx).2.2.2.2.2.2.2.2.2.1
      have b := lim_no (show hasL (fl ({ x with data := s } : En).kind) 100 = false from hh) (right_lims ry).2.2.2.2.2.2.2.2.2.1
      rw [size_no hx a, size_no hs b]
  cases x
  simp_all
theorem iff_old {x : En} {s : ByteArray} (hx : x.old.size ≤ 140737488351232) (hs : s.size ≤ 140737488351232) (rx : rightB x = true) (ry : rightB { x with old := s } = true) (h : textS x = textS { x with old := s }) : x = { x with old := s } := by
  have e : x.old = s := by
    cases hh : hasL (fl x.kind) 111 with
    | true =>
      have ht := tell_of_text (x := x) (y := { x with old := s }) 111 rfl rfl rfl (by simp) (fun d hd hne => by
        simp only [List.mem_cons, List.not_mem_nil, or_false] at hd
        rcases hd with rfl | rfl | rfl | rfl | rfl | rfl | rfl
        all_goals first | exact absurd rfl hne | rfl) hh h
      have ht2 : hex x.old = hex s := ht
      exact hex_inj ht2
    | false =>
      have a := lim_no hh (right_lims rx).2.2.2.2.2.2.2.2.2.2
      have b := lim_no (show hasL (fl ({ x with old := s } : En).kind) 111 = false from hh) (right_lims ry).2.2.2.2.2.2.2.2.2.2
      rw [size_no hx a, size_no hs b]
  cases x
  simp_all
end Go.Proofs.YtclohjcenkpgoaaDoor
