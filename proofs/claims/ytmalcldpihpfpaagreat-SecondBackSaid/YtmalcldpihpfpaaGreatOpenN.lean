/-
  The law's message by its parts, out of the lifting.
  Conditions: named in each theorem.
-/
import Derived.Test.YtmalcldpihpfpaaGreatOpen
import Derived.Test.YtmalcldpihpfpaaGreatNState
import Derived.Deep.Slices
namespace Go.Proofs.YtmalcldpihpfpaaGreat
open Go.ChangeShapes Go.WideShapes Go.ChangeAt Go.RowKit
set_option linter.unusedVariables false
theorem cells47 : Tryz.prog.cellsOf 47 = 13 := by kernel_rfl
theorem cells44 : Tryz.prog.cellsOf 44 = 11 := by kernel_rfl
theorem cells42 : Tryz.prog.cellsOf 42 = 1 := by kernel_rfl
theorem cells45 : Tryz.prog.cellsOf 45 = 1 := by kernel_rfl
theorem lt_of_cell {w : World} {a : Addr} {v : Value} (h : w.cell? a = some v) : a.block < w.heap.size := by
  rcases Nat.lt_or_ge a.block w.heap.size with h1 | h1
  · exact h1
  · simp [World.cell?, Array.getElem?_eq_none h1] at h
theorem weights_mem_all {H : Type} {P : Program} {e : TypeId} {d : DataW H} : ∀ {ds : List (DataW H)}, d ∈ ds → ∀ n ∈ d.weights P e, n ∈ DataW.weightsAll P e ds
  | x :: ds, h, n, hn => by
    rw [DataW.weightsAll, List.mem_append]
    rcases List.mem_cons.1 h with rfl | h
    · exact .inl hn
    · exact .inr (weights_mem_all h n hn)
theorem weights_mem_slice {H : Type} {P : Program} {t e : TypeId} {elems spare : List (DataW H)} (hu : P.underlying t = some (.slice e)) {d : DataW H} (h : d ∈ elems) : ∀ n ∈ d.weights P e, n ∈ (DataW.slice elems spare).weights P t := by
  intro n hn
  simp only [DataW.weights, hu]
  exact List.mem_cons_of_mem _ (List.mem_append_left _ (weights_mem_all h n hn))
set_option maxHeartbeats 2000000 in
set_option maxRecDepth 100000 in
/-- A slice of entries that came in. -/
theorem open_ents {H : Type} {enc : TypeId × Value → H} {w : World} {base fuel : Nat} {A : Option Addr} {len cap : Nat} {held : Bool} {x : DataW H × List MemPlace}
    (h : DataW.trod enc Tryz.prog w base (fun _ => true) held fuel 42 [.slice A len cap] = some x) (hz : ∀ n ∈ x.1.weights Tryz.prog 42, n ≤ reachBytes) :
    ∃ es : List En, Ents w.heap.size A len es w ∧ (∀ e ∈ es, e.Ok) ∧ (len : Int) ≤ 9223372036854775807 := by
  rcases Deep.open_slice Tryz.underlying42 h with ⟨hcs, _⟩ | ⟨a, len', cap', m, n, D, Pl, hcs, _, hl, hm, hmm, hxx, hx⟩
  · simp at hcs
    obtain ⟨rfl, rfl, rfl⟩ := hcs
    exact ⟨[], ⟨rfl, fun i e he => (by cases i <;> cases he)⟩, fun e he => (by cases he), by omega⟩
  · simp at hcs
    obtain ⟨rfl, rfl, rfl⟩ := hcs
    simp only [if_true] at hmm
    have each : ∀ i, i < len → ∃ e : En, (∀ j, j < 11 → w.cell? ((a.add (i * 11)).add j) = (ec e)[j]?) ∧ e.Ok := by
      intro i hi
      obtain ⟨cs', g1, g2⟩ := hx i (by omega)
      rw [cells24] at g1
      obtain ⟨_, hlen, hcell⟩ := World.cells?_some g1
      match cs', hlen with
      | [c0, c1, c2, c3, c4, c5, c6, c7, c8, c9, c10], _ =>
        obtain ⟨e, he, ok⟩ := open_entry g2 fun n hn => hz n (by
          rw [hxx]
          exact weights_mem_slice Tryz.underlying42 (List.mem_map.2 ⟨i, List.mem_range.2 hi, rfl⟩) n hn)
        refine ⟨e, fun j hj => ?_, ok⟩
        rw [hcell j (by omega), he, Array.getElem?_toList]
    haveI : Inhabited En := ⟨ezz⟩
    obtain ⟨q, hq⟩ := Deep.choose_lt each
    refine ⟨(List.range len).map q, ⟨by simp, fun i e he => ?_⟩, fun e he => ?_, by simp only [maxLen] at hm; omega⟩
    · have hi : i < len := by have := (List.getElem?_eq_some_iff.1 he).1; simpa using this
      have hqe : q i = e := by
        rw [List.getElem?_map, List.getElem?_range hi] at he
        exact Option.some.inj he
      have hc := (hq i hi).1
      rw [hqe] at hc
      refine ⟨a, rfl, ?_, hc⟩
      have h0 : w.cell? ((a.add (i * 11)).add 0) = some (.int .u64 e.term) := hc 0 (by omega)
      have := lt_of_cell h0
      rwa [block_of_add, block_of_add] at this
    · obtain ⟨i, hi, rfl⟩ := List.mem_map.1 he
      exact (hq i (List.mem_range.1 hi)).2
set_option maxHeartbeats 2000000 in
set_option maxRecDepth 100000 in
/-- A slice of made entries that came in. -/
theorem open_mades {H : Type} {enc : TypeId × Value → H} {w : World} {base fuel : Nat} {A : Option Addr} {len cap : Nat} {held : Bool} {x : DataW H × List MemPlace}
    (h : DataW.trod enc Tryz.prog w base (fun _ => true) held fuel 45 [.slice A len cap] = some x) (hz : ∀ n ∈ x.1.weights Tryz.prog 45, n ≤ reachBytes) :
    ∃ L : List (En × Bool), Mades w.heap.size A len L w ∧ (∀ p ∈ L, p.1.Ok) ∧ (len : Int) ≤ 9223372036854775807 := by
  rcases Deep.open_slice Tryz.underlying45 h with ⟨hcs, _⟩ | ⟨a, len', cap', m, n, D, Pl, hcs, _, hl, hm, hmm, hxx, hx⟩
  · simp at hcs
    obtain ⟨rfl, rfl, rfl⟩ := hcs
    exact ⟨[], ⟨rfl, fun i e he => (by cases i <;> cases he)⟩, fun e he => (by cases he), by omega⟩
  · simp at hcs
    obtain ⟨rfl, rfl, rfl⟩ := hcs
    simp only [if_true] at hmm
    have each : ∀ i, i < len → ∃ p : En × Bool, (∀ j, j < 12 → w.cell? ((a.add (i * 12)).add j) = (mdc p.1 p.2)[j]?) ∧ p.1.Ok := by
      intro i hi
      obtain ⟨cs', g1, g2⟩ := hx i (by omega)
      rw [cells26] at g1
      obtain ⟨_, hlen, hcell⟩ := World.cells?_some g1
      match cs', hlen with
      | [c0, c1, c2, c3, c4, c5, c6, c7, c8, c9, c10, c11], _ =>
        obtain ⟨y0, y1, m, hy, _, hy0, hy1⟩ := trod_struct2 Tryz.underlying26 g2
        simp [cells24, cells4] at hy0 hy1
        simp only [Prod.mk.injEq] at hy
        obtain ⟨hyD, _⟩ := hy
        obtain ⟨e, he, ok⟩ := open_entry hy0 fun n hn => hz n (by
          rw [hxx]
          refine weights_mem_slice Tryz.underlying45 (d := D i) (List.mem_map.2 ⟨i, List.mem_range.2 hi, rfl⟩) n ?_
          rw [hyD]
          exact DataW.weights_mem_agg Tryz.underlying26 0 rfl rfl n hn)
        obtain ⟨b, hb, _⟩ := DataW.trod_bool Tryz.underlying4 hy1
        simp at he hb
        obtain ⟨rfl, rfl, rfl, rfl, rfl, rfl, rfl, rfl, rfl, rfl, rfl⟩ := he
        subst hb
        refine ⟨(e, b), fun j hj => ?_, ok⟩
        rw [hcell j (by omega), ← Array.getElem?_toList]
    haveI : Inhabited En := ⟨ezz⟩
    obtain ⟨q, hq⟩ := Deep.choose_lt each
    refine ⟨(List.range len).map q, ⟨by simp, fun i e he => ?_⟩, fun e he => ?_, by simp only [maxLen] at hm; omega⟩
    · have hi : i < len := by have := (List.getElem?_eq_some_iff.1 he).1; simpa using this
      have hqe : q i = e := by
        rw [List.getElem?_map, List.getElem?_range hi] at he
        exact Option.some.inj he
      have hc := (hq i hi).1
      rw [hqe] at hc
      refine ⟨a, rfl, ?_, hc⟩
      have h0 : w.cell? ((a.add (i * 12)).add 0) = some (.int .u64 e.1.term) := hc 0 (by omega)
      have := lt_of_cell h0
      rwa [block_of_add, block_of_add] at this
    · obtain ⟨i, hi, rfl⟩ := List.mem_map.1 he
      exact (hq i (List.mem_range.1 hi)).2

set_option maxHeartbeats 4000000 in
set_option maxRecDepth 100000 in
/-- The cells of a message, as they read. -/
theorem open_msg {H : Type} {enc : TypeId × Value → H} {w : World} {base fuel : Nat} {held : Bool} {x : DataW H × List MemPlace} {c0 c1 c2 c3 c4 c5 c6 c7 c8 c9 c10 : Value}
    (h : DataW.trod enc Tryz.prog w base (fun _ => true) held fuel 44 [c0, c1, c2, c3, c4, c5, c6, c7, c8, c9, c10] = some x) (hz : ∀ n ∈ x.1.weights Tryz.prog 44, n ≤ reachBytes)
    (h9 : ∃ A n c, c9 = .slice A n c) :
    ∃ m : Ms, [c0, c1, c2, c3, c4, c5, c6, c7, c8, c9, c10] = (mc m).toList ∧ m.Wide ∧ Ents w.heap.size m.A m.n m.es w := by
  obtain ⟨A, n9, cc, rfl⟩ := h9
  obtain ⟨xs, n, _, rfl, hl, hlen, hf⟩ := DataW.trod_struct Tryz.underlying44 h
  match xs, hlen with
  | [y0, y1, y2, y3, y4, y5, y6, y7, y8, y9, y10], _ =>
    have t0 := hf 0 _ rfl
    have t1 := hf 1 _ rfl
    have t2 := hf 2 _ rfl
    have t3 := hf 3 _ rfl
    have t4 := hf 4 _ rfl
    have t5 := hf 5 _ rfl
    have t6 := hf 6 _ rfl
    have t7 := hf 7 _ rfl
    have t8 := hf 8 _ rfl
    have t9 := hf 9 _ rfl
    have t10 := hf 10 _ rfl
    simp [cells22, cells3, cells9, cells4, cells42] at t0 t1 t2 t3 t4 t5 t6 t7 t8 t9 t10
    obtain ⟨u0, h0, _, k0⟩ := DataW.trod_int Tryz.underlying3 t0
    obtain ⟨u1, h1, _, k1⟩ := DataW.trod_int Tryz.underlying3 t1
    obtain ⟨u2, h2, _, k2⟩ := DataW.trod_int Tryz.underlying3 t2
    obtain ⟨u3, h3, _, k3⟩ := DataW.trod_int Tryz.underlying22 t3
    obtain ⟨u4, h4, _, k4⟩ := DataW.trod_int Tryz.underlying22 t4
    obtain ⟨u5, h5, _, k5⟩ := DataW.trod_int Tryz.underlying22 t5
    obtain ⟨u6, h6, _, k6⟩ := DataW.trod_int Tryz.underlying22 t6
    obtain ⟨u7, h7, _, k7⟩ := DataW.trod_int Tryz.underlying22 t7
    obtain ⟨u8, h8, _⟩ := DataW.trod_bool Tryz.underlying4 t8
    obtain ⟨es, hE, hO, hN⟩ := open_ents t9 fun n hn => hz n (DataW.weights_mem_agg Tryz.underlying44 9 rfl rfl n hn)
    obtain ⟨u10, h10, d10, _⟩ := DataW.trod_string Tryz.underlying9 t10
    have b0 := bounds_i64 k0
    have b1 := bounds_i64 k1
    have b2 := bounds_i64 k2
    have b3 := bounds_u64 k3
    have b4 := bounds_u64 k4
    have b5 := bounds_u64 k5
    have b6 := bounds_u64 k6
    have b7 := bounds_u64 k7
    simp at h0 h1 h2 h3 h4 h5 h6 h7 h8 h10
    subst h0 h1 h2 h3 h4 h5 h6 h7 h8 h10
    have e10 : u10.size ≤ 140737488351232 := by
      have hq := hz u10.data.toList.length (DataW.weights_mem_agg Tryz.underlying44 10 rfl (by rw [d10]; rfl) _ (by simp [DataW.weights]))
      simp only [reachBytes, Array.length_toList] at hq
      exact hq
    refine ⟨⟨u0, u1, u2, u3, u4, u5, u6, u7, u8, A, n9, cc, es, u10⟩, rfl, ?_, hE⟩
    constructor <;> first | exact hO | exact e10 | exact hN | (dsimp only; omega)
set_option maxHeartbeats 4000000 in
set_option maxRecDepth 100000 in
/-- A message by its parts that came in: its value. -/
theorem open_note {H : Type} {enc : TypeId × Value → H} {w : World} {base base0 : Nat} {r : Reach} {held : Bool} {v : Value} {d : DataW H} {p : List MemPlace}
    (hv : Value.okWide Tryz.prog w r base0 47 v) (h : DataW.Trod enc Tryz.prog w base (fun _ => true) held 47 v d p) (hz : ∀ n ∈ d.weights Tryz.prog 47, n ≤ reachBytes) :
    ∃ (m : Ms) (o : Bool) (LA : Option Addr) (ln lc : Nat) (L : List (En × Bool)), v = nvv m o LA ln lc ∧ NoteIn w m LA ln L := by
  obtain ⟨cs, rfl, hsz⟩ := okWide_struct Tryz.underlying47 hv
  rw [cells47] at hsz
  obtain ⟨fuel, hf⟩ := h
  obtain ⟨xs, n, _, hxx, hl, hlen, hff⟩ := DataW.trod_struct Tryz.underlying47 hf
  obtain ⟨l⟩ := cs
  match l, hsz, xs, hlen with
  | [c0, c1, c2, c3, c4, c5, c6, c7, c8, c9, c10, c11, c12], _, [y0, y1, y2], _ =>
    have t0 := hff 0 _ rfl
    have t1 := hff 1 _ rfl
    have t2 := hff 2 _ rfl
    simp [Value.cells, cells44, cells4, cells45] at t0 t1 t2
    simp only [Prod.mk.injEq] at hxx
    obtain ⟨rfl, _⟩ := hxx
    have g9 : ∃ A n c, c9 = .slice A n c := by
      obtain ⟨xs2, n2, _, _, _, hlen2, hf2⟩ := DataW.trod_struct Tryz.underlying44 t0
      match xs2, hlen2 with
      | [z0, z1, z2, z3, z4, z5, z6, z7, z8, z9, z10], _ =>
        have q9 := hf2 9 _ rfl
        simp [cells42] at q9
        rcases Deep.open_slice Tryz.underlying42 q9 with ⟨hcs, _⟩ | ⟨a, len', cap', m, n, D, Pl, hcs, _⟩
        · exact ⟨_, _, _, by simpa using hcs⟩
        · exact ⟨_, _, _, by simpa using hcs⟩
    have g12 : ∃ A n c, c12 = .slice A n c := by
      rcases Deep.open_slice Tryz.underlying45 t2 with ⟨hcs, _⟩ | ⟨a, len', cap', m, n, D, Pl, hcs, _⟩
      · exact ⟨_, _, _, by simpa using hcs⟩
      · exact ⟨_, _, _, by simpa using hcs⟩
    obtain ⟨m, hm, mw, hE⟩ := open_msg t0 (fun n hn => hz n (DataW.weights_mem_agg Tryz.underlying47 0 rfl rfl n hn)) g9
    obtain ⟨b, hb, _⟩ := DataW.trod_bool Tryz.underlying4 t1
    obtain ⟨LA, ln, lc, rfl⟩ := g12
    obtain ⟨L, hL, hO, hN⟩ := open_mades t2 fun n hn => hz n (DataW.weights_mem_agg Tryz.underlying47 2 rfl rfl n hn)
    simp at hm hb
    obtain ⟨rfl, rfl, rfl, rfl, rfl, rfl, rfl, rfl, rfl, rfl, rfl⟩ := hm
    subst hb
    exact ⟨m, b, LA, ln, lc, L, rfl, ⟨mw, hE, hL, hO, hN⟩⟩
end Go.Proofs.YtmalcldpihpfpaaGreat
