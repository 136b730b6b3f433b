/-
  What the entries of a message tell.
  Conditions: the table of powers of ten lies as its initialiser lays it; the entries' numbers are those of their kinds, their texts of at most 2^20 bytes, and there are at most 2^20 of them.
-/
import Derived.Test.YtclohjcenkpgoaaDoorMTell
namespace Go.Proofs.YtclohjcenkpgoaaDoor
open Go.RowKit
set_option linter.unusedVariables false

set_option maxRecDepth 100000 in
theorem tell_size2 (c : Int) (e : En) (ok : e.Ok) (hd : e.data.size ≤ 1048576) (ho : e.old.size ≤ 1048576) : (tell c e).size ≤ 2097152 := by
  have k1 := dec_size e.client ok.c1
  have k2 := dec_size e.seq ok.s1
  have k3 := dec_size e.block ok.b1
  have k4 := dec_size e.many ok.m1
  have k5 := num_size e.node ok.n0 ok.n1
  have k6 := num_size e.level ok.l0 ok.l1
  have k7 := hex_size e.data
  have k8 := hex_size e.old
  have k9 : (str [47]).size = 1 := rfl
  unfold tell
  repeat' split
  · rw [size_app, size_app]; omega
  · omega
  · omega
  · omega
  · omega
  · omega
  · omega
  · show 0 ≤ _; omega
theorem piece_length2 (L : ByteArray) (c : Int) (e : En) (ok : e.Ok) (hd : e.data.size ≤ 1048576) (ho : e.old.size ≤ 1048576) : (piece L e c).length ≤ 2097155 := by
  have h := tell_size2 c e ok hd ho
  have h2 : (tell c e).data.toList.length = (tell c e).size := by simp
  unfold piece
  split
  · simp only [List.length_append, List.length_cons, List.length_nil]; omega
  · simp
theorem body_length2 (L : ByteArray) (e : En) (ok : e.Ok) (hd : e.data.size ≤ 1048576) (ho : e.old.size ≤ 1048576) (n : Nat) : (bodyL L e n).length ≤ n * 2097155 := by
  obtain ⟨M, hM⟩ : ∃ M, M = 2097155 := ⟨_, rfl⟩
  have hp : ∀ c, (piece L e c).length ≤ M := fun c => hM ▸ piece_length2 L c e ok hd ho
  rw [← hM]
  clear hM hd ho
  induction n with
  | zero => simp [bodyL]
  | succ n ih =>
    have hs : (n + 1) * M = n * M + M := Nat.succ_mul n M
    cases h : ordL[n]? with
    | none =>
      have : bodyL L e (n + 1) = bodyL L e n := by unfold bodyL; rw [List.take_add_one, h]; simp
      rw [this]; omega
    | some c =>
      rw [piece_step L e n c h, List.length_append]
      have := hp c
      omega
theorem textS_size2 (e : En) (ok : e.Ok) (hd : e.data.size ≤ 1048576) (ho : e.old.size ≤ 1048576) : (textS e).size ≤ 14680148 := by
  have h1 := head_size e ok
  have h2 := body_length2 (fl e.kind) e ok hd ho 7
  unfold textS
  rw [size_app, str_size]
  omega

theorem lens_le (l : List (List UInt8)) (M : Nat) (h : ∀ x ∈ l, x.length ≤ M) : Lib.lens l ≤ l.length * M := by
  unfold Lib.lens
  induction l with
  | nil => simp
  | cons a l ih =>
    have h1 := h a (.head _)
    have h2 := ih fun x hx => h x (.tail _ hx)
    have h3 : (l.length + 1) * M = l.length * M + M := Nat.succ_mul _ _
    simp only [List.map_cons, List.sum_cons, List.length_cons]
    omega
theorem join_le (l : List (List UInt8)) (M : Nat) (h : ∀ x ∈ l, x.length ≤ M) : (Lib.join l [59]).length ≤ l.length * M + l.length := by
  cases l with
  | nil => simp [Lib.join_nil]
  | cons a l =>
    have h1 := lens_le (a :: l) M h
    rw [Lib.join_length]
    simp only [List.length_cons, List.length_nil] at *
    omega

def texts (es : List En) : List ByteArray := es.map textS
/-- The row of texts, of which k are there. -/
def tx (es : List En) (k n : Nat) : List Value := ((es.take k).map fun e => Value.string (textS e)) ++ List.replicate (n - k) (.string ⟨#[]⟩)
theorem tx_length (es : List En) (k n : Nat) (h : es.length = n) (hk : k ≤ n) : (tx es k n).length = n := by
  unfold tx
  rw [List.length_append, List.length_map, List.length_take, List.length_replicate]
  omega
theorem tx_set (es : List En) (k n : Nat) (e : En) (h : es.length = n) (hk : k < n) (he : es[k]? = some e) : (tx es k n).set k (.string (textS e)) = tx es (k + 1) n := by
  unfold tx
  have hl : ((es.take k).map fun e => Value.string (textS e)).length = k := by rw [List.length_map, List.length_take]; omega
  rw [List.set_append_right _ _ (by omega), hl, Nat.sub_self]
  obtain ⟨r, hr⟩ : ∃ r, n - k = r + 1 := ⟨n - k - 1, by omega⟩
  rw [hr, List.replicate_succ, List.set_cons_zero, show n - (k + 1) = r by omega, List.take_add_one, he, List.map_append, List.append_assoc]
  rfl
theorem tx_done (es : List En) (n : Nat) (h : es.length = n) : tx es n n = es.map fun e => Value.string (textS e) := by
  unfold tx
  rw [List.take_of_length_le (by omega), Nat.sub_self, List.replicate_zero, List.append_nil]

/-- The state of the loop that tells a message's entries. -/
structure Es (w0 : World) (m : Ms) (gm tb k : Nat) (wr : World) : Prop where
  mp : wr.heap[gm]? = some (.map tm 7)
  row : wr.heap[tb]? = some (.cells (tx m.es k m.n).toArray 9 (0, 0))
  tab : Tab wr
  be : Below w0.heap.size w0 wr
  l1 : w0.heap.size ≤ gm
  l2 : gm < tb

theorem Es.sz {w0 : World} {m : Ms} {gm tb k : Nat} {wr : World} (h : Es w0 m gm tb k wr) : tb < wr.heap.size := (Array.getElem?_eq_some_iff.1 h.row).1
theorem Es.call {w0 : World} {m : Ms} {gm tb k : Nat} {wr w1 : World} (h : Es w0 m gm tb k wr) (hb : Below wr.heap.size wr w1) : Es w0 m gm tb k w1 := by
  have := h.sz
  have := h.l2
  exact ⟨(hb.block _ (by omega)).trans h.mp, (hb.block _ (by omega)).trans h.row, h.tab.below hb, h.be.trans (hb.mono h.be.size), h.l1, h.l2⟩
theorem Es.cell {w0 : World} {m : Ms} {gm tb k : Nat} {wr : World} (h : Es w0 m gm tb k wr) (hl : m.es.length = m.n) (hk : k < m.n) : wr.cell? ⟨tb, k, none⟩ = some (.string ⟨#[]⟩) := by
  have := cell_of_row wr tb k _ 9 (0, 0) h.row
  rw [this, List.getElem?_toArray]
  unfold tx
  have hl2 : ((m.es.take k).map fun e => Value.string (textS e)).length = k := by rw [List.length_map, List.length_take]; omega
  rw [List.getElem?_append_right (by omega), hl2, Nat.sub_self, List.getElem?_replicate]
  simp
  omega
theorem Es.frozen {w0 : World} {m : Ms} {gm tb k : Nat} {wr : World} (h : Es w0 m gm tb k wr) (i : Nat) : wr.frozen? ⟨tb, i, none⟩ = false := by
  have := h.row
  simp [World.frozen?, this]
theorem Es.store {w0 : World} {m : Ms} {gm tb k : Nat} {wr : World} (h : Es w0 m gm tb k wr) (hl : m.es.length = m.n) (hk : k < m.n) (e : En) (he : m.es[k]? = some e) (ht : Tab w0) : Es w0 m gm tb (k + 1) (wr.setCell ⟨tb, k, none⟩ (.string (textS e))) := by
  have hs := h.sz
  have h2 := h.l2
  have h1 := h.l1
  have hbe : Below w0.heap.size w0 (wr.setCell ⟨tb, k, none⟩ (.string (textS e))) := h.be.setCell (by simp; omega) _
  have hrow : (wr.setCell ⟨tb, k, none⟩ (.string (textS e))).heap[tb]? = some (.cells (tx m.es (k + 1) m.n).toArray 9 (0, 0)) := by
    have := h.row
    simp only [World.setCell, Array.getElem?_modify, this]
    simp [← tx_set m.es k m.n e hl hk he]
  exact ⟨(Below.heap_setCell wr _ _ gm (by simp; omega)).trans h.mp, hrow, ht.below hbe, hbe, h1, h2⟩

set_option maxRecDepth 100000 in
set_option maxHeartbeats 2000000 in
theorem ments_any (m : Ms) (w : World) (ok : m.Ok) (hE : Ents w.heap.size m.A m.n m.es w) (ht : Tab w) :
    Calls Tryd.prog 69 #[mv m] w fun r w' => r = .returned (.string (mtell 101 m)) ∧ Below w.heap.size w w' := by
  have hb0 : Below w.heap.size w (w.alloc (Obj.cells (mc m) 70)) := (Below.refl _ _).alloc (Nat.le_refl _) _
  obtain ⟨i0, hi0, hz0, hz1, hz2⟩ := info_parts (show (Tryd.prog.info? 9).map (fun i => (i.zero, i.size, i.bytes)) = some (some (.string ⟨#[]⟩), 1, 16) by kernel_rfl)
  have hn1 := ok.n1
  have hmk : ∀ W, (Instr.makeSlice 55 (.int .i64 (m.n : Int)) (.int .i64 (m.n : Int))).run Tryd.prog W = .ok (.slice (some ⟨W.heap.size, 0, none⟩) m.n m.n) (W.alloc (.cells (tx m.es 0 m.n).toArray 9)) := by
    intro W
    have h := run_make (P := Tryd.prog) W 55 9 i0 _ Tryd.underlying55 hi0 hz0 .i64 .i64 m.n m.n (by omega) (by omega) (by rw [hz2]; omega) (by omega)
    have e1 : madeCells (Value.string ⟨#[]⟩).cells ((m.n : Int).toNat * i0.size) = (tx m.es 0 m.n).toArray := by
      rw [hz1, Int.toNat_natCast]
      unfold madeCells tx
      apply Array.ext
      · simp
      · intro i h1 h2
        simp [Value.cells, Nat.mod_one]
    rw [e1] at h
    simpa using h
  have HO := Lib.hid ok
  have HB := Lib.hid hb0
  have HT := Lib.hid ht
  have HE := Lib.hid hE
  clear ok hb0 ht hE
  go_enter Tryd.func69, Tryd.ntmps69
  go_wp2_with (go_at_call 36; (with_reducible refine (tells_any _).mono ?_); rintro r w1 ⟨rfl, hm1, hb1⟩; have hsz1 : w.heap.size + 1 < w1.heap.size := (by have := (Array.getElem?_eq_some_iff.1 hm1).1; simpa using this); have c9 : w1.cell? ⟨w.heap.size, 9, none⟩ = some (.slice m.A m.n m.c) := ((hb1.cell (p := ⟨w.heap.size, 9, none⟩) (by simp)).trans (by rw [World.cell?_alloc_new]; rfl)); have c9' : (w1.alloc (.cells (tx m.es 0 m.n).toArray 9)).cell? ⟨w.heap.size, 9, none⟩ = some (.slice m.A m.n m.c) := (World.cell?_alloc_lt w1 _ ⟨w.heap.size, 9, none⟩ (Nat.lt_trans (Nat.lt_succ_self _) hsz1)).trans c9)
  have hbe : Below w.heap.size w w1 := HB.out.trans (hb1.mono (by simp))
  have hs0 : Es w m (w.heap.size + 1) w1.heap.size 0 (w1.alloc (.cells (tx m.es 0 m.n).toArray 9)) := by
    have hb2 := hbe.alloc (o := .cells (tx m.es 0 m.n).toArray 9) hbe.size
    have hm2 : w1.heap[w.heap.size + 1]? = some (.map tm 7) := by simpa using hm1
    exact ⟨(Lib.alloc_old _ _ _ hsz1).trans hm2, heap_alloc_new w1 _, HT.out.below hb2, hb2, by omega, hsz1⟩
  clear c9 c9' hm1 hb1
  go_loopw [17] (fun i wr => ∃ k : Nat, k ≤ m.n ∧ i = .int .i64 k ∧ Es w m (w.heap.size + 1) w1.heap.size k wr) (fun i _ => m.n - (intOf i).toNat)
  case atStart => exact ⟨0, Nat.zero_le _, rfl, hs0⟩
  case round =>
    obtain ⟨k, hk, rfl, hS⟩ := hrel
    by_cases hlt : k < m.n
    · obtain ⟨e, he⟩ : ∃ e, m.es[k]? = some e := ⟨_, List.getElem?_eq_getElem (by rw [HE.out.len]; exact hlt)⟩
      obtain ⟨a, hA, hB, hc⟩ := (HE.out.below hS.be).at_ k e he
      have HC := Lib.hid hA
      have hmem := List.mem_of_getElem? he
      have d0 : wr.cell? (a.add (k * 11)) = some (.int .u64 e.term) := hc 0 (by omega)
      have d1 : wr.cell? ⟨(a.add (k * 11)).block, (a.add (k * 11)).off + 1, none⟩ = some (.int .u64 e.index) := hc 1 (by omega)
      have d2 : wr.cell? ⟨(a.add (k * 11)).block, (a.add (k * 11)).off + 2, none⟩ = some (.int .i64 e.kind) := hc 2 (by omega)
      have d3 : wr.cell? ⟨(a.add (k * 11)).block, (a.add (k * 11)).off + 3, none⟩ = some (.int .u64 e.client) := hc 3 (by omega)
      have d4 : wr.cell? ⟨(a.add (k * 11)).block, (a.add (k * 11)).off + 4, none⟩ = some (.int .u64 e.seq) := hc 4 (by omega)
      have d5 : wr.cell? ⟨(a.add (k * 11)).block, (a.add (k * 11)).off + 5, none⟩ = some (.int .u64 e.block) := hc 5 (by omega)
      have d6 : wr.cell? ⟨(a.add (k * 11)).block, (a.add (k * 11)).off + 6, none⟩ = some (.int .u64 e.many) := hc 6 (by omega)
      have d7 : wr.cell? ⟨(a.add (k * 11)).block, (a.add (k * 11)).off + 7, none⟩ = some (.int .i64 e.node) := hc 7 (by omega)
      have d8 : wr.cell? ⟨(a.add (k * 11)).block, (a.add (k * 11)).off + 8, none⟩ = some (.int .i64 e.level) := hc 8 (by omega)
      have d9 : wr.cell? ⟨(a.add (k * 11)).block, (a.add (k * 11)).off + 9, none⟩ = some (.string e.data) := hc 9 (by omega)
      have d10 : wr.cell? ⟨(a.add (k * 11)).block, (a.add (k * 11)).off + 10, none⟩ = some (.string e.old) := hc 10 (by omega)
      have hS1 : Es w m (w.heap.size + 1) w1.heap.size k (wr.alloc (.cells (ec e) 24)) := hS.call ((Below.refl _ _).alloc (Nat.le_refl _) _)
      have K35 := Lib.hid (text35_any e (w.heap.size + 1) (wr.alloc (.cells (ec e) 24)) (HO.out.eo e hmem) (Nat.le_trans (HO.out.ed e hmem) (by omega)) (Nat.le_trans (HO.out.ee e hmem) (by omega)) hS1.tab (by have := hS1.sz; have := hS1.l2; omega) hS1.mp)
      have HS := Lib.hid hS1
      have HX := Lib.hid he
      clear hS hS1 hc he hmem
      rw [hA]
      clear hA
      go_wp2_with (go_at_call 35; (with_reducible refine K35.out.mono ?_); rintro r w2 ⟨rfl, hb2⟩; have HS2 := Lib.hid (HS.out.call hb2); have r1 := HS2.out.cell HE.out.len hlt; have r2 := HS2.out.frozen k)
      have hS3 := HS2.out.store HE.out.len hlt e HX.out HT.out
      go_roundw
      case rel => exact ⟨k + 1, by omega, by go_num, hS3⟩
      case measure => simp [intOf]; omega
    · have hkn : k = m.n := by omega
      subst hkn
      have hxl : (texts m.es).length = m.n := by unfold texts; rw [List.length_map]; exact HE.out.len
      have hcells : ∀ (j : Nat) x, (texts m.es)[j]? = some x → wr.cell? ⟨w1.heap.size, 0 + j, none⟩ = some (.string x) := by
        intro j x hx
        have := cell_of_row wr w1.heap.size (0 + j) _ 9 (0, 0) hS.row
        rw [this, List.getElem?_toArray, tx_done _ _ HE.out.len, Nat.zero_add]
        unfold texts at hx
        rw [List.getElem?_map] at hx ⊢
        cases h : m.es[j]? with
        | none => rw [h] at hx; cases hx
        | some e => rw [h] at hx; cases hx; rfl
      have hmap : (texts m.es).map (·.data.toList) = m.es.map fun e => (textS e).data.toList := by unfold texts; rw [List.map_map]; rfl
      have hjl : (Lib.join ((texts m.es).map (·.data.toList)) [59]).length ≤ 15400000000000 := by
        have h := join_le ((texts m.es).map (·.data.toList)) 14680148 (fun x hx => by
          rw [hmap] at hx
          obtain ⟨e, he, rfl⟩ := List.mem_map.1 hx
          have := textS_size2 e (HO.out.eo e he) (HO.out.ed e he) (HO.out.ee e he)
          show (textS e).data.size ≤ _
          exact this)
        rw [List.length_map, hxl] at h
        omega
      have hJ := Tryd.strings_Join w1.heap.size 0 m.n (texts m.es) ⟨#[59]⟩ wr hcells hS.sz (by omega) (by omega) (Nat.le_trans hjl (by omega))
      rw [hxl] at hJ
      have KJ := Lib.hid hJ
      have HS := Lib.hid hS
      have hT : Hid (mtell 101 m = str (entsL m.es)) := by show _ = _; simp [mtell]
      have hJ2 : Hid ((⟨#[91]⟩ : ByteArray) ++ ⟨(Lib.join ((texts m.es).map (·.data.toList)) [59]).toArray⟩ ++ ⟨#[93]⟩ = str (entsL m.es)) := by
        show _ = _
        unfold entsL
        rw [← hmap, ← str_app, ← str_app]
        rfl
      clear hcells hmap hJ hS hxl
      go_wp2_with (go_at_call 77; (refine KJ.out.mono ?_); rintro r w2 ⟨rfl, hb2⟩)
      go_ret
      exact ⟨ret_str (hJ2.out.trans hT.out.symm), HS.out.be.trans (hb2.mono HS.out.be.size)⟩
end Go.Proofs.YtclohjcenkpgoaaDoor
