/-
  A message as it is read by people: the package's way.
  Conditions: the table of powers of ten lies as its initialiser lays it; the message's numbers are those of their kinds, its texts and its entries' of at most 2^20 bytes, its entries at most 2^20.
-/
import Derived.Test.YtclohjcenkpgoaaDoorMEnts
import Derived.BigCall
namespace Go.Proofs.YtclohjcenkpgoaaDoor
open Go.RowKit
set_option linter.unusedVariables false

/-- The order in which a message's fields are told. -/
def mord : ByteArray := ⟨#[105, 112, 116, 107, 121, 101, 115]⟩
def mordL : List Int := [105, 112, 116, 107, 121, 101, 115]
def mpiece (L : ByteArray) (m : Ms) (c : Int) : List UInt8 := if hasL L c then [32, UInt8.ofNat c.toNat, 61] ++ (mtell c m).data.toList else []
def mbodyL (L : ByteArray) (m : Ms) (n : Nat) : List UInt8 := (mordL.take n).flatMap (mpiece L m)
theorem mpiece_step (L : ByteArray) (m : Ms) (n : Nat) (c : Int) (h : mordL[n]? = some c) : mbodyL L m (n + 1) = mbodyL L m n ++ mpiece L m c := by
  unfold mbodyL
  rw [List.take_add_one, h, List.flatMap_append]
  simp
theorem mpiece_yes (L : ByteArray) (m : Ms) (c : Int) (h : hasL L c = true) (acc : List UInt8) (x : ByteArray) (hx : x.data.toList = [32, UInt8.ofNat c.toNat, 61] ++ (mtell c m).data.toList) : Lib.byteCells acc ++ Lib.strCells x = Lib.byteCells (acc ++ mpiece L m c) := by
  unfold mpiece
  rw [if_pos h, ← hx, Lib.byteCells_append]
  rfl
theorem mpiece_no (L : ByteArray) (m : Ms) (c : Int) (h : hasL L c = false) : mpiece L m c = [] := by
  unfold mpiece
  rw [if_neg (by simp [h])]

theorem Ents.more {B B' : Nat} {A : Option Addr} {n : Nat} {es : List En} {w : World} (h : Ents B A n es w) (hB : B ≤ B') : Ents B' A n es w :=
  ⟨h.len, fun i e he => by
    obtain ⟨a, hA, h1, hc⟩ := h.at_ i e he
    exact ⟨a, hA, Nat.lt_of_lt_of_le h1 hB, hc⟩⟩
theorem ents_length (m : Ms) (ok : m.Ok) (hl : m.es.length = m.n) : (entsL m.es).length ≤ 15400000000002 := by
  have h := join_le (m.es.map fun e => (textS e).data.toList) 14680148 (fun x hx => by
    obtain ⟨e, he, rfl⟩ := List.mem_map.1 hx
    exact textS_size2 e (ok.eo e he) (ok.ed e he) (ok.ee e he))
  have hn := ok.n1
  rw [List.length_map, hl] at h
  unfold entsL
  rw [List.length_append, List.length_append]
  simp only [List.length_cons, List.length_nil]
  omega
set_option maxRecDepth 100000 in
theorem mtell_size (c : Int) (m : Ms) (ok : m.Ok) (hl : m.es.length = m.n) : (mtell c m).size ≤ 15400000000002 := by
  have k1 := dec_size m.index ok.i1
  have k2 := dec_size m.prev ok.p1
  have k3 := dec_size m.commit ok.c1
  have k4 := dec_size m.mark ok.m1
  have k5 := dec_size (bitI m.ok) (by cases m.ok <;> decide)
  have k6 := ents_length m ok hl
  have k7 := hex_size m.snap
  have k8 := ok.s1
  unfold mtell
  repeat' split
  · omega
  · omega
  · omega
  · omega
  · omega
  · rw [str_size]; omega
  · omega
  · show 0 ≤ _; omega
theorem mpiece_length (L : ByteArray) (c : Int) (m : Ms) (ok : m.Ok) (hl : m.es.length = m.n) : (mpiece L m c).length ≤ 15400000000005 := by
  have h := mtell_size c m ok hl
  have h2 : (mtell c m).data.toList.length = (mtell c m).size := by simp
  unfold mpiece
  split
  · simp only [List.length_append, List.length_cons, List.length_nil]; omega
  · simp
theorem mbody_length (L : ByteArray) (m : Ms) (ok : m.Ok) (hl : m.es.length = m.n) (n : Nat) : (mbodyL L m n).length ≤ n * 15400000000005 := by
  obtain ⟨M, hM⟩ : ∃ M, M = 15400000000005 := ⟨_, rfl⟩
  have hp : ∀ c, (mpiece L m c).length ≤ M := fun c => hM ▸ mpiece_length L c m ok hl
  rw [← hM]
  clear hM
  induction n with
  | zero => simp [mbodyL]
  | succ n ih =>
    have hs : (n + 1) * M = n * M + M := Nat.succ_mul n M
    cases h : mordL[n]? with
    | none =>
      have : mbodyL L m (n + 1) = mbodyL L m n := by unfold mbodyL; rw [List.take_add_one, h]; simp
      rw [this]; omega
    | some c =>
      rw [mpiece_step L m n c h, List.length_append]
      have := hp c
      omega

/-- The state of the loop that tells a message's fields. -/
structure Gs (w0 : World) (m : Ms) (g pos : Nat) (acc : List UInt8) (wr : World) : Prop where
  bu : Lib.IsBuilderF 85 5 (w0.heap.size + 1) (w0.heap.size + 1) (Lib.byteCells acc) wr
  it : wr.heap[w0.heap.size + 1 + 1]? = some (.stringIter mord pos)
  bx : wr.heap[w0.heap.size]? = some (.cells (mc m) 70 (0, 0))
  mp : wr.heap[g]? = some (.map mtm 7)
  tb : Tab wr
  be : Below w0.heap.size w0 wr
  gl : g < w0.heap.size
theorem Gs.sz {w0 : World} {m : Ms} {g pos : Nat} {acc : List UInt8} {wr : World} (h : Gs w0 m g pos acc wr) : w0.heap.size + 1 + 1 < wr.heap.size := (Array.getElem?_eq_some_iff.1 h.it).1
theorem Gs.call {w0 : World} {m : Ms} {g pos : Nat} {acc : List UInt8} {wr w1 : World} (h : Gs w0 m g pos acc wr) (hb : Below wr.heap.size wr w1) : Gs w0 m g pos acc w1 := by
  have := h.sz
  have := h.gl
  exact ⟨isBuilderF_below h.bu hb, (hb.block _ (by omega)).trans h.it, (hb.block _ (by omega)).trans h.bx, (hb.block _ (by omega)).trans h.mp, h.tb.below hb, h.be.trans (hb.mono h.be.size), h.gl⟩
theorem Gs.write {w0 : World} {m : Ms} {g pos : Nat} {acc acc' : List UInt8} {wr w1 : World} (h : Gs w0 m g pos acc wr) (hI : Lib.IsBuilderF 85 5 (w0.heap.size + 1) (w0.heap.size + 1) (Lib.byteCells acc') w1)
    (hb : Below (w0.heap.size + 1) wr w1) (hk : Lib.OthersKept 5 (some (w0.heap.size + 1)) wr w1) (ht : Tab w0) : Gs w0 m g pos acc' w1 := by
  have := h.sz
  have := h.gl
  have hbe : Below w0.heap.size w0 w1 := h.be.trans (hb.mono (by omega))
  exact ⟨hI, hk.iter h.it (by omega), (hb.block _ (by omega)).trans h.bx, (hb.block _ (by omega)).trans h.mp, ht.below hbe, hbe, h.gl⟩
theorem Gs.next {w0 : World} {m : Ms} {g pos : Nat} {acc : List UInt8} {wr : World} (h : Gs w0 m g pos acc wr) (pos' : Nat) (ht : Tab w0) : Gs w0 m g pos' acc (wr.iterAt (w0.heap.size + 1 + 1) mord pos') := by
  have := h.sz
  have := h.gl
  have hbe : Below w0.heap.size w0 (wr.iterAt (w0.heap.size + 1 + 1) mord pos') := Lib.below_iterAt h.be (by omega) _ _
  exact ⟨h.bu.iterAt h.it pos', Lib.iterAt_heap _ _ _ _ _ h.it, (Lib.iterAt_other _ _ _ _ _ (by omega)).trans h.bx, (Lib.iterAt_other _ _ _ _ _ (by omega)).trans h.mp, ht.below hbe, hbe, h.gl⟩
theorem Gs.cell {w0 : World} {m : Ms} {g pos : Nat} {acc : List UInt8} {wr : World} (h : Gs w0 m g pos acc wr) (i : Nat) : wr.cell? ⟨w0.heap.size, i, none⟩ = (mc m)[i]? := cell_of_row wr _ i _ 70 (0, 0) h.bx
theorem Gs.start {w : World} {m : Ms} {g : Nat} (ht : Tab w) (hm : w.heap[g]? = some (.map mtm 7)) (hg : g < w.heap.size) :
    Gs w m g 0 [] (((w.alloc (Obj.cells (mc m) 70)).alloc (Obj.cells #[Value.pointer none, Value.slice none 0 0] 85)).iter mord 0) := by
  have e1 : (w.alloc (Obj.cells (mc m) 70)).heap.size = w.heap.size + 1 := by simp
  have e2 : ((w.alloc (Obj.cells (mc m) 70)).alloc (Obj.cells #[Value.pointer none, Value.slice none 0 0] 85)).heap.size = w.heap.size + 1 + 1 := by simp
  have hb1 : Below w.heap.size w (w.alloc (Obj.cells (mc m) 70)) := (Below.refl _ _).alloc (Nat.le_refl _) _
  have hb2 := hb1.alloc (o := Obj.cells #[Value.pointer none, Value.slice none 0 0] 85) (by rw [e1]; omega)
  have hb3 : Below w.heap.size w (((w.alloc (Obj.cells (mc m) 70)).alloc (Obj.cells #[Value.pointer none, Value.slice none 0 0] 85)).iter mord 0) := hb2.alloc (by rw [e2]; omega) _
  have hit : (((w.alloc (Obj.cells (mc m) 70)).alloc (Obj.cells #[Value.pointer none, Value.slice none 0 0] 85)).iter mord 0).heap[w.heap.size + 1 + 1]? = some (.stringIter mord 0) := by
    have := World.iter_heap ((w.alloc (Obj.cells (mc m) 70)).alloc (Obj.cells #[Value.pointer none, Value.slice none 0 0] 85)) mord 0
    rw [e2] at this
    exact this
  refine ⟨?_, hit, ?_, (hb3.block g hg).trans hm, ht.below hb3, hb3, hg⟩
  · have h := (Lib.IsBuilderF.of (Lib.fresh_isBuilder 85 5 (w.alloc (Obj.cells (mc m) 70)))).alloc (.stringIter mord 0)
    rw [e1] at h
    exact h
  · exact (Lib.alloc_old _ _ _ (by rw [e2]; omega)).trans ((Lib.alloc_old _ _ _ (by rw [e1]; omega)).trans (heap_alloc_new w _))

set_option maxRecDepth 100000 in
set_option maxHeartbeats 4000000 in
theorem fields45_any (L : ByteArray) (m : Ms) (g : Nat) (w : World) (ok : m.Ok) (hE : Ents w.heap.size m.A m.n m.es w) (ht : Tab w) (hg : g < w.heap.size) (hm : w.heap[g]? = some (.map mtm 7)) :
    Calls Tryd.prog 45 #[.string mord, .string L, .map (some g), mv m] w fun r w' => r = .returned (.string (str (mbodyL L m 7))) ∧ Below w.heap.size w w' := by
  have hF := Gs.start (m := m) ht hm hg
  have HT := Lib.hid ht
  have HM := Lib.hid hm
  have hoL : mord.size = 7 := rfl
  have HOL := Lib.hid hoL
  have OK := Lib.hid ok
  have BL := Lib.hid (mbody_length L m ok hE.len)
  have TS := Lib.hid (fun c => mtell_size c m ok hE.len)
  have K64 := Lib.hid (fun (W : World) (h : Tab W) (hb : Below w.heap.size w W) => mindex_any m W ok.i0 ok.i1 h)
  have K65 := Lib.hid (fun (W : World) (h : Tab W) (hb : Below w.heap.size w W) => mprev_any m W ok.p0 ok.p1 h)
  have K66 := Lib.hid (fun (W : World) (h : Tab W) (hb : Below w.heap.size w W) => mcommit_any m W ok.c0 ok.c1 h)
  have K67 := Lib.hid (fun (W : World) (h : Tab W) (hb : Below w.heap.size w W) => mmark_any m W ok.m0 ok.m1 h)
  have K68 := Lib.hid (fun (W : World) (h : Tab W) (hb : Below w.heap.size w W) => mok_any m W h)
  have K69 := Lib.hid (fun (W : World) (h : Tab W) (hb : Below w.heap.size w W) => ments_any m W ok ((hE.below hb).more hb.size) h)
  have K70 := Lib.hid (fun (W : World) (h : Tab W) (hb : Below w.heap.size w W) => msnap_any m W (Nat.le_trans ok.s1 (by omega)) h)
  clear ok hm ht hoL hE
  go_enter Tryd.func45, Tryd.ntmps45
  go_wp2
  go_loopw [] (fun wr => ∃ pos : Nat, pos ≤ 7 ∧ Gs w m g pos (mbodyL L m pos) wr) (fun wr => 7 - wr.iterPos (w.heap.size + 1 + 1))
  case atStart => exact ⟨0, by omega, hF⟩
  case round =>
    obtain ⟨pos, hp, hF⟩ := hrel
    rcases (show pos = 0 ∨ pos = 1 ∨ pos = 2 ∨ pos = 3 ∨ pos = 4 ∨ pos = 5 ∨ pos = 6 ∨ pos = 7 by omega) with rfl | rfl | rfl | rfl | rfl | rfl | rfl | rfl
    · have hnx : ∀ ty, (Instr.next (.pointer (some ⟨w.heap.size + 1 + 1, 0, none⟩)) true ty).run Tryd.prog wr = .ok (.tuple #[.bool true, .int .i64 0, .int .i32 105]) (wr.iterAt (w.heap.size + 1 + 1) mord 1) := fun ty => Lib.run_next_ascii_at wr _ mord 0 ty hF.it (by decide) (by decide)
      have hm0 : Hid (wr.iterPos (w.heap.size + 1 + 1) = 0) := by show _ = _; simp only [World.iterPos, hF.it]
      have hn := hF.next 1 HT.out
      clear hF
      generalize wr.iterAt (w.heap.size + 1 + 1) mord 1 = wi at hnx hn
      have hsz := hn.sz
      have HP := Lib.hid (mpiece_step L m 0 105 rfl)
      have hu : Utf8.encode 105 = ⟨#[105]⟩ := by decide +kernel
      have HF := Lib.hid hn
      by_cases hh : hasL L 105 = true
      · have hlk := look_mtm 105 0 64 hn.mp rfl
        have hts := TS.out 105
        have hbl : (Lib.byteCells (mbodyL L m 0)).length ≤ 0 * 15400000000005 := by rw [Lib.byteCells_length]; exact BL.out 0
        have c0 := hn.cell 0
        have c1 := hn.cell 1
        have c2 := hn.cell 2
        have c3 := hn.cell 3
        have c4 := hn.cell 4
        have c5 := hn.cell 5
        have c6 := hn.cell 6
        have c7 := hn.cell 7
        have c8 := hn.cell 8
        have c9 := hn.cell 9
        have c10 := hn.cell 10
        simp only [mc, List.getElem?_toArray, List.getElem?_cons_succ, List.getElem?_cons_zero] at c0 c1 c2 c3 c4 c5 c6 c7 c8 c9 c10
        clear hn
        go_wp2_with (first
          | (go_at_call 61; (with_reducible refine (rune_asc L 105 _ (by omega) (by omega)).mono ?_); rintro r w' ⟨rfl, rfl⟩)
          | (go_at_call 64; (with_reducible refine (K64.out _ HF.out.tb HF.out.be).mono ?_); rintro r w1 ⟨rfl, hb1⟩; have hn1 := Lib.hid (HF.out.call hb1); have hs1 := hn1.out.sz)
          | (go_at_call 62; (refine (Tryd.Builder_WriteString_k (w.heap.size + 1) (w.heap.size + 1) _ _ w1 hn1.out.bu (by rw [size_app, size_app, size_app]; show _ + (1 + 1 + 1 + _) ≤ _; omega) (by omega)).mono ?_); rintro r w2 ⟨rfl, hI2, hb2, hk2⟩))
        have hI3 : Lib.IsBuilderF 85 5 (w.heap.size + 1) (w.heap.size + 1) (Lib.byteCells (mbodyL L m 0 ++ mpiece L m 105)) w2 := by
          rw [← mpiece_yes L m 105 hh (mbodyL L m 0) ((⟨#[32]⟩ : ByteArray) ++ ⟨#[105]⟩ ++ ⟨#[61]⟩ ++ mtell 105 m) (by simp [ByteArray.data_append])]
          exact .inr hI2
        have hF2 := hn1.out.write hI3 hb2 hk2 HT.out
        rw [← HP.out] at hF2
        go_roundw
        case rel => exact ⟨1, by omega, hF2⟩
        case measure =>
          rw [hm0.out]
          simp only [World.iterPos, hF2.it]
          omega
      · have hh2 : hasL L 105 = false := by simpa using hh
        clear hh hn
        go_wp2_with (first
          | (go_at_call 61; (with_reducible refine (rune_asc L 105 _ (by omega) (by omega)).mono ?_); rintro r w' ⟨rfl, rfl⟩))
        have hF2 := HF.out
        rw [← List.append_nil (mbodyL L m 0), ← mpiece_no L m 105 hh2, ← HP.out] at hF2
        go_roundw
        case rel => exact ⟨1, by omega, hF2⟩
        case measure =>
          rw [hm0.out]
          simp only [World.iterPos, hF2.it]
          omega
    · have hnx : ∀ ty, (Instr.next (.pointer (some ⟨w.heap.size + 1 + 1, 0, none⟩)) true ty).run Tryd.prog wr = .ok (.tuple #[.bool true, .int .i64 1, .int .i32 112]) (wr.iterAt (w.heap.size + 1 + 1) mord 2) := fun ty => Lib.run_next_ascii_at wr _ mord 1 ty hF.it (by decide) (by decide)
      have hm0 : Hid (wr.iterPos (w.heap.size + 1 + 1) = 1) := by show _ = _; simp only [World.iterPos, hF.it]
      have hn := hF.next 2 HT.out
      clear hF
      generalize wr.iterAt (w.heap.size + 1 + 1) mord 2 = wi at hnx hn
      have hsz := hn.sz
      have HP := Lib.hid (mpiece_step L m 1 112 rfl)
      have hu : Utf8.encode 112 = ⟨#[112]⟩ := by decide +kernel
      have HF := Lib.hid hn
      by_cases hh : hasL L 112 = true
      · have hlk := look_mtm 112 1 65 hn.mp rfl
        have hts := TS.out 112
        have hbl : (Lib.byteCells (mbodyL L m 1)).length ≤ 1 * 15400000000005 := by rw [Lib.byteCells_length]; exact BL.out 1
        have c0 := hn.cell 0
        have c1 := hn.cell 1
        have c2 := hn.cell 2
        have c3 := hn.cell 3
        have c4 := hn.cell 4
        have c5 := hn.cell 5
        have c6 := hn.cell 6
        have c7 := hn.cell 7
        have c8 := hn.cell 8
        have c9 := hn.cell 9
        have c10 := hn.cell 10
        simp only [mc, List.getElem?_toArray, List.getElem?_cons_succ, List.getElem?_cons_zero] at c0 c1 c2 c3 c4 c5 c6 c7 c8 c9 c10
        clear hn
        go_wp2_with (first
          | (go_at_call 61; (with_reducible refine (rune_asc L 112 _ (by omega) (by omega)).mono ?_); rintro r w' ⟨rfl, rfl⟩)
          | (go_at_call 65; (with_reducible refine (K65.out _ HF.out.tb HF.out.be).mono ?_); rintro r w1 ⟨rfl, hb1⟩; have hn1 := Lib.hid (HF.out.call hb1); have hs1 := hn1.out.sz)
          | (go_at_call 62; (refine (Tryd.Builder_WriteString_k (w.heap.size + 1) (w.heap.size + 1) _ _ w1 hn1.out.bu (by rw [size_app, size_app, size_app]; show _ + (1 + 1 + 1 + _) ≤ _; omega) (by omega)).mono ?_); rintro r w2 ⟨rfl, hI2, hb2, hk2⟩))
        have hI3 : Lib.IsBuilderF 85 5 (w.heap.size + 1) (w.heap.size + 1) (Lib.byteCells (mbodyL L m 1 ++ mpiece L m 112)) w2 := by
          rw [← mpiece_yes L m 112 hh (mbodyL L m 1) ((⟨#[32]⟩ : ByteArray) ++ ⟨#[112]⟩ ++ ⟨#[61]⟩ ++ mtell 112 m) (by simp [ByteArray.data_append])]
          exact .inr hI2
        have hF2 := hn1.out.write hI3 hb2 hk2 HT.out
        rw [← HP.out] at hF2
        go_roundw
        case rel => exact ⟨2, by omega, hF2⟩
        case measure =>
          rw [hm0.out]
          simp only [World.iterPos, hF2.it]
          omega
      · have hh2 : hasL L 112 = false := by simpa using hh
        clear hh hn
        go_wp2_with (first
          | (go_at_call 61; (with_reducible refine (rune_asc L 112 _ (by omega) (by omega)).mono ?_); rintro r w' ⟨rfl, rfl⟩))
        have hF2 := HF.out
        rw [← List.append_nil (mbodyL L m 1), ← mpiece_no L m 112 hh2, ← HP.out] at hF2
        go_roundw
        case rel => exact ⟨2, by omega, hF2⟩
        case measure =>
          rw [hm0.out]
          simp only [World.iterPos, hF2.it]
          omega
    · have hnx : ∀ ty, (Instr.next (.pointer (some ⟨w.heap.size + 1 + 1, 0, none⟩)) true ty).run Tryd.prog wr = .ok (.tuple #[.bool true, .int .i64 2, .int .i32 116]) (wr.iterAt (w.heap.size + 1 + 1) mord 3) := fun ty => Lib.run_next_ascii_at wr _ mord 2 ty hF.it (by decide) (by decide)
      have hm0 : Hid (wr.iterPos (w.heap.size + 1 + 1) = 2) := by show _ = _; simp only [World.iterPos, hF.it]
      have hn := hF.next 3 HT.out
      clear hF
      generalize wr.iterAt (w.heap.size + 1 + 1) mord 3 = wi at hnx hn
      have hsz := hn.sz
      have HP := Lib.hid (mpiece_step L m 2 116 rfl)
      have hu : Utf8.encode 116 = ⟨#[116]⟩ := by decide +kernel
      have HF := Lib.hid hn
      by_cases hh : hasL L 116 = true
      · have hlk := look_mtm 116 2 66 hn.mp rfl
        have hts := TS.out 116
        have hbl : (Lib.byteCells (mbodyL L m 2)).length ≤ 2 * 15400000000005 := by rw [Lib.byteCells_length]; exact BL.out 2
        have c0 := hn.cell 0
        have c1 := hn.cell 1
        have c2 := hn.cell 2
        have c3 := hn.cell 3
        have c4 := hn.cell 4
        have c5 := hn.cell 5
        have c6 := hn.cell 6
        have c7 := hn.cell 7
        have c8 := hn.cell 8
        have c9 := hn.cell 9
        have c10 := hn.cell 10
        simp only [mc, List.getElem?_toArray, List.getElem?_cons_succ, List.getElem?_cons_zero] at c0 c1 c2 c3 c4 c5 c6 c7 c8 c9 c10
        clear hn
        go_wp2_with (first
          | (go_at_call 61; (with_reducible refine (rune_asc L 116 _ (by omega) (by omega)).mono ?_); rintro r w' ⟨rfl, rfl⟩)
          | (go_at_call 66; (with_reducible refine (K66.out _ HF.out.tb HF.out.be).mono ?_); rintro r w1 ⟨rfl, hb1⟩; have hn1 := Lib.hid (HF.out.call hb1); have hs1 := hn1.out.sz)
          | (go_at_call 62; (refine (Tryd.Builder_WriteString_k (w.heap.size + 1) (w.heap.size + 1) _ _ w1 hn1.out.bu (by rw [size_app, size_app, size_app]; show _ + (1 + 1 + 1 + _) ≤ _; omega) (by omega)).mono ?_); rintro r w2 ⟨rfl, hI2, hb2, hk2⟩))
        have hI3 : Lib.IsBuilderF 85 5 (w.heap.size + 1) (w.heap.size + 1) (Lib.byteCells (mbodyL L m 2 ++ mpiece L m 116)) w2 := by
          rw [← mpiece_yes L m 116 hh (mbodyL L m 2) ((⟨#[32]⟩ : ByteArray) ++ ⟨#[116]⟩ ++ ⟨#[61]⟩ ++ mtell 116 m) (by simp [ByteArray.data_append])]
          exact .inr hI2
        have hF2 := hn1.out.write hI3 hb2 hk2 HT.out
        rw [← HP.out] at hF2
        go_roundw
        case rel => exact ⟨3, by omega, hF2⟩
        case measure =>
          rw [hm0.out]
          simp only [World.iterPos, hF2.it]
          omega
      · have hh2 : hasL L 116 = false := by simpa using hh
        clear hh hn
        go_wp2_with (first
          | (go_at_call 61; (with_reducible refine (rune_asc L 116 _ (by omega) (by omega)).mono ?_); rintro r w' ⟨rfl, rfl⟩))
        have hF2 := HF.out
        rw [← List.append_nil (mbodyL L m 2), ← mpiece_no L m 116 hh2, ← HP.out] at hF2
        go_roundw
        case rel => exact ⟨3, by omega, hF2⟩
        case measure =>
          rw [hm0.out]
          simp only [World.iterPos, hF2.it]
          omega
    · have hnx : ∀ ty, (Instr.next (.pointer (some ⟨w.heap.size + 1 + 1, 0, none⟩)) true ty).run Tryd.prog wr = .ok (.tuple #[.bool true, .int .i64 3, .int .i32 107]) (wr.iterAt (w.heap.size + 1 + 1) mord 4) := fun ty => Lib.run_next_ascii_at wr _ mord 3 ty hF.it (by decide) (by decide)
      have hm0 : Hid (wr.iterPos (w.heap.size + 1 + 1) = 3) := by show _ = _; simp only [World.iterPos, hF.it]
      have hn := hF.next 4 HT.out
      clear hF
      generalize wr.iterAt (w.heap.size + 1 + 1) mord 4 = wi at hnx hn
      have hsz := hn.sz
      have HP := Lib.hid (mpiece_step L m 3 107 rfl)
      have hu : Utf8.encode 107 = ⟨#[107]⟩ := by decide +kernel
      have HF := Lib.hid hn
      by_cases hh : hasL L 107 = true
      · have hlk := look_mtm 107 3 67 hn.mp rfl
        have hts := TS.out 107
        have hbl : (Lib.byteCells (mbodyL L m 3)).length ≤ 3 * 15400000000005 := by rw [Lib.byteCells_length]; exact BL.out 3
        have c0 := hn.cell 0
        have c1 := hn.cell 1
        have c2 := hn.cell 2
        have c3 := hn.cell 3
        have c4 := hn.cell 4
        have c5 := hn.cell 5
        have c6 := hn.cell 6
        have c7 := hn.cell 7
        have c8 := hn.cell 8
        have c9 := hn.cell 9
        have c10 := hn.cell 10
        simp only [mc, List.getElem?_toArray, List.getElem?_cons_succ, List.getElem?_cons_zero] at c0 c1 c2 c3 c4 c5 c6 c7 c8 c9 c10
        clear hn
        go_wp2_with (first
          | (go_at_call 61; (with_reducible refine (rune_asc L 107 _ (by omega) (by omega)).mono ?_); rintro r w' ⟨rfl, rfl⟩)
          | (go_at_call 67; (with_reducible refine (K67.out _ HF.out.tb HF.out.be).mono ?_); rintro r w1 ⟨rfl, hb1⟩; have hn1 := Lib.hid (HF.out.call hb1); have hs1 := hn1.out.sz)
          | (go_at_call 62; (refine (Tryd.Builder_WriteString_k (w.heap.size + 1) (w.heap.size + 1) _ _ w1 hn1.out.bu (by rw [size_app, size_app, size_app]; show _ + (1 + 1 + 1 + _) ≤ _; omega) (by omega)).mono ?_); rintro r w2 ⟨rfl, hI2, hb2, hk2⟩))
        have hI3 : Lib.IsBuilderF 85 5 (w.heap.size + 1) (w.heap.size + 1) (Lib.byteCells (mbodyL L m 3 ++ mpiece L m 107)) w2 := by
          rw [← mpiece_yes L m 107 hh (mbodyL L m 3) ((⟨#[32]⟩ : ByteArray) ++ ⟨#[107]⟩ ++ ⟨#[61]⟩ ++ mtell 107 m) (by simp [ByteArray.data_append])]
          exact .inr hI2
        have hF2 := hn1.out.write hI3 hb2 hk2 HT.out
        rw [← HP.out] at hF2
        go_roundw
        case rel => exact ⟨4, by omega, hF2⟩
        case measure =>
          rw [hm0.out]
          simp only [World.iterPos, hF2.it]
          omega
      · have hh2 : hasL L 107 = false := by simpa using hh
        clear hh hn
        go_wp2_with (first
          | (go_at_call 61; (with_reducible refine (rune_asc L 107 _ (by omega) (by omega)).mono ?_); rintro r w' ⟨rfl, rfl⟩))
        have hF2 := HF.out
        rw [← List.append_nil (mbodyL L m 3), ← mpiece_no L m 107 hh2, ← HP.out] at hF2
        go_roundw
        case rel => exact ⟨4, by omega, hF2⟩
        case measure =>
          rw [hm0.out]
          simp only [World.iterPos, hF2.it]
          omega
    · have hnx : ∀ ty, (Instr.next (.pointer (some ⟨w.heap.size + 1 + 1, 0, none⟩)) true ty).run Tryd.prog wr = .ok (.tuple #[.bool true, .int .i64 4, .int .i32 121]) (wr.iterAt (w.heap.size + 1 + 1) mord 5) := fun ty => Lib.run_next_ascii_at wr _ mord 4 ty hF.it (by decide) (by decide)
      have hm0 : Hid (wr.iterPos (w.heap.size + 1 + 1) = 4) := by show _ = _; simp only [World.iterPos, hF.it]
      have hn := hF.next 5 HT.out
      clear hF
      generalize wr.iterAt (w.heap.size + 1 + 1) mord 5 = wi at hnx hn
      have hsz := hn.sz
      have HP := Lib.hid (mpiece_step L m 4 121 rfl)
      have hu : Utf8.encode 121 = ⟨#[121]⟩ := by decide +kernel
      have HF := Lib.hid hn
      by_cases hh : hasL L 121 = true
      · have hlk := look_mtm 121 4 68 hn.mp rfl
        have hts := TS.out 121
        have hbl : (Lib.byteCells (mbodyL L m 4)).length ≤ 4 * 15400000000005 := by rw [Lib.byteCells_length]; exact BL.out 4
        have c0 := hn.cell 0
        have c1 := hn.cell 1
        have c2 := hn.cell 2
        have c3 := hn.cell 3
        have c4 := hn.cell 4
        have c5 := hn.cell 5
        have c6 := hn.cell 6
        have c7 := hn.cell 7
        have c8 := hn.cell 8
        have c9 := hn.cell 9
        have c10 := hn.cell 10
        simp only [mc, List.getElem?_toArray, List.getElem?_cons_succ, List.getElem?_cons_zero] at c0 c1 c2 c3 c4 c5 c6 c7 c8 c9 c10
        clear hn
        go_wp2_with (first
          | (go_at_call 61; (with_reducible refine (rune_asc L 121 _ (by omega) (by omega)).mono ?_); rintro r w' ⟨rfl, rfl⟩)
          | (go_at_call 68; (with_reducible refine (K68.out _ HF.out.tb HF.out.be).mono ?_); rintro r w1 ⟨rfl, hb1⟩; have hn1 := Lib.hid (HF.out.call hb1); have hs1 := hn1.out.sz)
          | (go_at_call 62; (refine (Tryd.Builder_WriteString_k (w.heap.size + 1) (w.heap.size + 1) _ _ w1 hn1.out.bu (by rw [size_app, size_app, size_app]; show _ + (1 + 1 + 1 + _) ≤ _; omega) (by omega)).mono ?_); rintro r w2 ⟨rfl, hI2, hb2, hk2⟩))
        have hI3 : Lib.IsBuilderF 85 5 (w.heap.size + 1) (w.heap.size + 1) (Lib.byteCells (mbodyL L m 4 ++ mpiece L m 121)) w2 := by
          rw [← mpiece_yes L m 121 hh (mbodyL L m 4) ((⟨#[32]⟩ : ByteArray) ++ ⟨#[121]⟩ ++ ⟨#[61]⟩ ++ mtell 121 m) (by simp [ByteArray.data_append])]
          exact .inr hI2
        have hF2 := hn1.out.write hI3 hb2 hk2 HT.out
        rw [← HP.out] at hF2
        go_roundw
        case rel => exact ⟨5, by omega, hF2⟩
        case measure =>
          rw [hm0.out]
          simp only [World.iterPos, hF2.it]
          omega
      · have hh2 : hasL L 121 = false := by simpa using hh
        clear hh hn
        go_wp2_with (first
          | (go_at_call 61; (with_reducible refine (rune_asc L 121 _ (by omega) (by omega)).mono ?_); rintro r w' ⟨rfl, rfl⟩))
        have hF2 := HF.out
        rw [← List.append_nil (mbodyL L m 4), ← mpiece_no L m 121 hh2, ← HP.out] at hF2
        go_roundw
        case rel => exact ⟨5, by omega, hF2⟩
        case measure =>
          rw [hm0.out]
          simp only [World.iterPos, hF2.it]
          omega
    · have hnx : ∀ ty, (Instr.next (.pointer (some ⟨w.heap.size + 1 + 1, 0, none⟩)) true ty).run Tryd.prog wr = .ok (.tuple #[.bool true, .int .i64 5, .int .i32 101]) (wr.iterAt (w.heap.size + 1 + 1) mord 6) := fun ty => Lib.run_next_ascii_at wr _ mord 5 ty hF.it (by decide) (by decide)
      have hm0 : Hid (wr.iterPos (w.heap.size + 1 + 1) = 5) := by show _ = _; simp only [World.iterPos, hF.it]
      have hn := hF.next 6 HT.out
      clear hF
      generalize wr.iterAt (w.heap.size + 1 + 1) mord 6 = wi at hnx hn
      have hsz := hn.sz
      have HP := Lib.hid (mpiece_step L m 5 101 rfl)
      have hu : Utf8.encode 101 = ⟨#[101]⟩ := by decide +kernel
      have HF := Lib.hid hn
      by_cases hh : hasL L 101 = true
      · have hlk := look_mtm 101 5 69 hn.mp rfl
        have hts := TS.out 101
        have hbl : (Lib.byteCells (mbodyL L m 5)).length ≤ 5 * 15400000000005 := by rw [Lib.byteCells_length]; exact BL.out 5
        have c0 := hn.cell 0
        have c1 := hn.cell 1
        have c2 := hn.cell 2
        have c3 := hn.cell 3
        have c4 := hn.cell 4
        have c5 := hn.cell 5
        have c6 := hn.cell 6
        have c7 := hn.cell 7
        have c8 := hn.cell 8
        have c9 := hn.cell 9
        have c10 := hn.cell 10
        simp only [mc, List.getElem?_toArray, List.getElem?_cons_succ, List.getElem?_cons_zero] at c0 c1 c2 c3 c4 c5 c6 c7 c8 c9 c10
        clear hn
        go_wp2_with (first
          | (go_at_call 61; (with_reducible refine (rune_asc L 101 _ (by omega) (by omega)).mono ?_); rintro r w' ⟨rfl, rfl⟩)
          | (go_at_call 69; (with_reducible refine (K69.out _ HF.out.tb HF.out.be).mono ?_); rintro r w1 ⟨rfl, hb1⟩; have hn1 := Lib.hid (HF.out.call hb1); have hs1 := hn1.out.sz)
          | (go_at_call 62; (refine (Tryd.Builder_WriteString_k (w.heap.size + 1) (w.heap.size + 1) _ _ w1 hn1.out.bu (by rw [size_app, size_app, size_app]; show _ + (1 + 1 + 1 + _) ≤ _; omega) (by omega)).mono ?_); rintro r w2 ⟨rfl, hI2, hb2, hk2⟩))
        have hI3 : Lib.IsBuilderF 85 5 (w.heap.size + 1) (w.heap.size + 1) (Lib.byteCells (mbodyL L m 5 ++ mpiece L m 101)) w2 := by
          rw [← mpiece_yes L m 101 hh (mbodyL L m 5) ((⟨#[32]⟩ : ByteArray) ++ ⟨#[101]⟩ ++ ⟨#[61]⟩ ++ mtell 101 m) (by simp [ByteArray.data_append])]
          exact .inr hI2
        have hF2 := hn1.out.write hI3 hb2 hk2 HT.out
        rw [← HP.out] at hF2
        go_roundw
        case rel => exact ⟨6, by omega, hF2⟩
        case measure =>
          rw [hm0.out]
          simp only [World.iterPos, hF2.it]
          omega
      · have hh2 : hasL L 101 = false := by simpa using hh
        clear hh hn
        go_wp2_with (first
          | (go_at_call 61; (with_reducible refine (rune_asc L 101 _ (by omega) (by omega)).mono ?_); rintro r w' ⟨rfl, rfl⟩))
        have hF2 := HF.out
        rw [← List.append_nil (mbodyL L m 5), ← mpiece_no L m 101 hh2, ← HP.out] at hF2
        go_roundw
        case rel => exact ⟨6, by omega, hF2⟩
        case measure =>
          rw [hm0.out]
          simp only [World.iterPos, hF2.it]
          omega
    · have hnx : ∀ ty, (Instr.next (.pointer (some ⟨w.heap.size + 1 + 1, 0, none⟩)) true ty).run Tryd.prog wr = .ok (.tuple #[.bool true, .int .i64 6, .int .i32 115]) (wr.iterAt (w.heap.size + 1 + 1) mord 7) := fun ty => Lib.run_next_ascii_at wr _ mord 6 ty hF.it (by decide) (by decide)
      have hm0 : Hid (wr.iterPos (w.heap.size + 1 + 1) = 6) := by show _ = _; simp only [World.iterPos, hF.it]
      have hn := hF.next 7 HT.out
      clear hF
      generalize wr.iterAt (w.heap.size + 1 + 1) mord 7 = wi at hnx hn
      have hsz := hn.sz
      have HP := Lib.hid (mpiece_step L m 6 115 rfl)
      have hu : Utf8.encode 115 = ⟨#[115]⟩ := by decide +kernel
      have HF := Lib.hid hn
      by_cases hh : hasL L 115 = true
      · have hlk := look_mtm 115 6 70 hn.mp rfl
        have hts := TS.out 115
        have hbl : (Lib.byteCells (mbodyL L m 6)).length ≤ 6 * 15400000000005 := by rw [Lib.byteCells_length]; exact BL.out 6
        have c0 := hn.cell 0
        have c1 := hn.cell 1
        have c2 := hn.cell 2
        have c3 := hn.cell 3
        have c4 := hn.cell 4
        have c5 := hn.cell 5
        have c6 := hn.cell 6
        have c7 := hn.cell 7
        have c8 := hn.cell 8
        have c9 := hn.cell 9
        have c10 := hn.cell 10
        simp only [mc, List.getElem?_toArray, List.getElem?_cons_succ, List.getElem?_cons_zero] at c0 c1 c2 c3 c4 c5 c6 c7 c8 c9 c10
        clear hn
        go_wp2_with (first
          | (go_at_call 61; (with_reducible refine (rune_asc L 115 _ (by omega) (by omega)).mono ?_); rintro r w' ⟨rfl, rfl⟩)
          | (go_at_call 70; (with_reducible refine (K70.out _ HF.out.tb HF.out.be).mono ?_); rintro r w1 ⟨rfl, hb1⟩; have hn1 := Lib.hid (HF.out.call hb1); have hs1 := hn1.out.sz)
          | (go_at_call 62; (refine (Tryd.Builder_WriteString_k (w.heap.size + 1) (w.heap.size + 1) _ _ w1 hn1.out.bu (by rw [size_app, size_app, size_app]; show _ + (1 + 1 + 1 + _) ≤ _; omega) (by omega)).mono ?_); rintro r w2 ⟨rfl, hI2, hb2, hk2⟩))
        have hI3 : Lib.IsBuilderF 85 5 (w.heap.size + 1) (w.heap.size + 1) (Lib.byteCells (mbodyL L m 6 ++ mpiece L m 115)) w2 := by
          rw [← mpiece_yes L m 115 hh (mbodyL L m 6) ((⟨#[32]⟩ : ByteArray) ++ ⟨#[115]⟩ ++ ⟨#[61]⟩ ++ mtell 115 m) (by simp [ByteArray.data_append])]
          exact .inr hI2
        have hF2 := hn1.out.write hI3 hb2 hk2 HT.out
        rw [← HP.out] at hF2
        go_roundw
        case rel => exact ⟨7, by omega, hF2⟩
        case measure =>
          rw [hm0.out]
          simp only [World.iterPos, hF2.it]
          omega
      · have hh2 : hasL L 115 = false := by simpa using hh
        clear hh hn
        go_wp2_with (first
          | (go_at_call 61; (with_reducible refine (rune_asc L 115 _ (by omega) (by omega)).mono ?_); rintro r w' ⟨rfl, rfl⟩))
        have hF2 := HF.out
        rw [← List.append_nil (mbodyL L m 6), ← mpiece_no L m 115 hh2, ← HP.out] at hF2
        go_roundw
        case rel => exact ⟨7, by omega, hF2⟩
        case measure =>
          rw [hm0.out]
          simp only [World.iterPos, hF2.it]
          omega
    · have hsz := hF.sz
      have hnx : ∀ ty, (Instr.next (.pointer (some ⟨w.heap.size + 1 + 1, 0, none⟩)) true ty).run Tryd.prog wr = .ok (.tuple #[.bool false]) wr := fun ty => Lib.run_next_end_at wr _ mord 7 ty hF.it (by decide)
      have HF := Lib.hid hF
      clear hF
      go_wp2_with (go_at_call 63; (refine (Tryd.Builder_String_any_k (w.heap.size + 1) (w.heap.size + 1) (mbodyL L m 7) _ HF.out.bu (by omega)).mono ?_); rintro r w1 ⟨rfl, hI1, hb1, hk1⟩)
      go_ret
      exact ⟨rfl, HF.out.be.trans (hb1.mono (by omega))⟩
end Go.Proofs.YtclohjcenkpgoaaDoor
