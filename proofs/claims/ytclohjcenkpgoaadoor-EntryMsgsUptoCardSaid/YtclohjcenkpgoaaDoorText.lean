/-
  The fields of an entry, told in order.
  Conditions: the table of powers of ten lies as its initialiser lays it; the entry's numbers are those of their kinds, its texts of at most 2^40 bytes.
-/
import Derived.Test.YtclohjcenkpgoaaDoorTell
import Derived.BigCall
namespace Go.Proofs.YtclohjcenkpgoaaDoor
open Go.RowKit
set_option linter.unusedVariables false

/-- The order in which an entry's fields are told. -/
def ord : ByteArray := ⟨#[99, 98, 109, 110, 108, 100, 111]⟩
def ordL : List Int := [99, 98, 109, 110, 108, 100, 111]
/-- What is told of one letter. -/
def piece (L : ByteArray) (e : En) (c : Int) : List UInt8 := if hasL L c then [32, UInt8.ofNat c.toNat, 61] ++ (tell c e).data.toList else []
/-- What is told of the first n letters. -/
def bodyL (L : ByteArray) (e : En) (n : Nat) : List UInt8 := (ordL.take n).flatMap (piece L e)

theorem isBuilderF_below {T e : TypeId} {B b : Nat} {bs : List Value} {W W' : World} (h : Lib.IsBuilderF T e B b bs W) (hb : Below W.heap.size W W') : Lib.IsBuilderF T e B b bs W' := by
  have hg : ∀ row, W.grownBy W' row := fun row => ⟨hb.os, hb.tape, hb.output, hb.size, fun i hi _ => hb.block i hi⟩
  have one : ∀ p, Lib.BuilderAtF T e B b p bs W → Lib.BuilderAtF T e B b p bs W' := by
    rintro p ⟨hB, v, hc, hown, hne⟩
    have hlt : b < W.heap.size := (Array.getElem?_eq_some_iff.1 hc).1
    exact ⟨hB, v, (hb.block b hlt).trans hc, hown.kept (hg none) (by cases v.ownBlock <;> simp), hne⟩
  exact h.elim (fun x => .inl (one _ x)) (fun x => .inr (one _ x))

/-- The state of the loop that tells an entry's fields. -/
structure Fs (w0 : World) (e : En) (g pos : Nat) (acc : List UInt8) (wr : World) : Prop where
  bu : Lib.IsBuilderF 85 5 (w0.heap.size + 1) (w0.heap.size + 1) (Lib.byteCells acc) wr
  it : wr.heap[w0.heap.size + 1 + 1]? = some (.stringIter ord pos)
  bx : wr.heap[w0.heap.size]? = some (.cells (ec e) 78 (0, 0))
  mp : wr.heap[g]? = some (.map tm 7)
  tb : Tab wr
  be : Below w0.heap.size w0 wr
  gl : g < w0.heap.size

theorem Fs.sz {w0 : World} {e : En} {g pos : Nat} {acc : List UInt8} {wr : World} (h : Fs w0 e g pos acc wr) : w0.heap.size + 1 + 1 < wr.heap.size := (Array.getElem?_eq_some_iff.1 h.it).1
theorem Fs.call {w0 : World} {e : En} {g pos : Nat} {acc : List UInt8} {wr w1 : World} (h : Fs w0 e g pos acc wr) (hb : Below wr.heap.size wr w1) : Fs w0 e g pos acc w1 := by
  have := h.sz
  have := h.gl
  exact ⟨isBuilderF_below h.bu hb, (hb.block _ (by omega)).trans h.it, (hb.block _ (by omega)).trans h.bx, (hb.block _ (by omega)).trans h.mp, h.tb.below hb, h.be.trans (hb.mono h.be.size), h.gl⟩
theorem Fs.write {w0 : World} {e : En} {g pos : Nat} {acc acc' : List UInt8} {wr w1 : World} (h : Fs w0 e g pos acc wr) (hI : Lib.IsBuilderF 85 5 (w0.heap.size + 1) (w0.heap.size + 1) (Lib.byteCells acc') w1)
    (hb : Below (w0.heap.size + 1) wr w1) (hk : Lib.OthersKept 5 (some (w0.heap.size + 1)) wr w1) (ht : Tab w0) : Fs w0 e g pos acc' w1 := by
  have := h.sz
  have := h.gl
  have hbe : Below w0.heap.size w0 w1 := h.be.trans (hb.mono (by omega))
  exact ⟨hI, hk.iter h.it (by omega), (hb.block _ (by omega)).trans h.bx, (hb.block _ (by omega)).trans h.mp, ht.below hbe, hbe, h.gl⟩
theorem Fs.next {w0 : World} {e : En} {g pos : Nat} {acc : List UInt8} {wr : World} (h : Fs w0 e g pos acc wr) (pos' : Nat) (ht : Tab w0) : Fs w0 e g pos' acc (wr.iterAt (w0.heap.size + 1 + 1) ord pos') := by
  have := h.sz
  have := h.gl
  have hbe : Below w0.heap.size w0 (wr.iterAt (w0.heap.size + 1 + 1) ord pos') := Lib.below_iterAt h.be (by omega) _ _
  exact ⟨h.bu.iterAt h.it pos', Lib.iterAt_heap _ _ _ _ _ h.it, (Lib.iterAt_other _ _ _ _ _ (by omega)).trans h.bx, (Lib.iterAt_other _ _ _ _ _ (by omega)).trans h.mp, ht.below hbe, hbe, h.gl⟩
theorem Fs.cell {w0 : World} {e : En} {g pos : Nat} {acc : List UInt8} {wr : World} (h : Fs w0 e g pos acc wr) (i : Nat) : wr.cell? ⟨w0.heap.size, i, none⟩ = (ec e)[i]? := cell_of_row wr _ i _ 78 (0, 0) h.bx

theorem rune_asc (s : ByteArray) (r : Int) (w : World) (h0 : 0 ≤ r) (hr : r < 128) :
    Calls Tryd.prog 61 #[.string s, .int .i32 r] w fun e w' => e = .returned (.bool (hasL s r)) ∧ w = w' := by
  obtain ⟨m, rfl⟩ : ∃ m : Nat, r = m := ⟨r.toNat, by omega⟩
  exact (Tryd.strings_ContainsRune_ascii s m w (by omega) (by omega)).mono fun e w' ⟨he, hw⟩ => ⟨by rw [he, Int.toNat_natCast, hasL_index s m (by omega)], hw.symm⟩

theorem Fs.start {w : World} {e : En} {g : Nat} (ht : Tab w) (hm : w.heap[g]? = some (.map tm 7)) (hg : g < w.heap.size) :
    Fs w e g 0 [] (((w.alloc (Obj.cells (ec e) 78)).alloc (Obj.cells #[Value.pointer none, Value.slice none 0 0] 85)).iter ord 0) := by
  have e1 : (w.alloc (Obj.cells (ec e) 78)).heap.size = w.heap.size + 1 := by simp
  have e2 : ((w.alloc (Obj.cells (ec e) 78)).alloc (Obj.cells #[Value.pointer none, Value.slice none 0 0] 85)).heap.size = w.heap.size + 1 + 1 := by simp
  have hb1 : Below w.heap.size w (w.alloc (Obj.cells (ec e) 78)) := (Below.refl _ _).alloc (Nat.le_refl _) _
  have hb2 := hb1.alloc (o := Obj.cells #[Value.pointer none, Value.slice none 0 0] 85) (by rw [e1]; omega)
  have hb3 : Below w.heap.size w (((w.alloc (Obj.cells (ec e) 78)).alloc (Obj.cells #[Value.pointer none, Value.slice none 0 0] 85)).iter ord 0) := hb2.alloc (by rw [e2]; omega) _
  have hit : (((w.alloc (Obj.cells (ec e) 78)).alloc (Obj.cells #[Value.pointer none, Value.slice none 0 0] 85)).iter ord 0).heap[w.heap.size + 1 + 1]? = some (.stringIter ord 0) := by
    have := World.iter_heap ((w.alloc (Obj.cells (ec e) 78)).alloc (Obj.cells #[Value.pointer none, Value.slice none 0 0] 85)) ord 0
    rw [e2] at this
    exact this
  refine ⟨?_, hit, ?_, (hb3.block g hg).trans hm, ht.below hb3, hb3, hg⟩
  · have h := (Lib.IsBuilderF.of (Lib.fresh_isBuilder 85 5 (w.alloc (Obj.cells (ec e) 78)))).alloc (.stringIter ord 0)
    rw [e1] at h
    exact h
  · exact (Lib.alloc_old _ _ _ (by rw [e2]; omega)).trans ((Lib.alloc_old _ _ _ (by rw [e1]; omega)).trans (heap_alloc_new w _))

theorem piece_step (L : ByteArray) (e : En) (n : Nat) (c : Int) (h : ordL[n]? = some c) : bodyL L e (n + 1) = bodyL L e n ++ piece L e c := by
  unfold bodyL
  rw [List.take_add_one, h, List.flatMap_append]
  simp
theorem size_app (a b : ByteArray) : (a ++ b).size = a.size + b.size := ByteArray.size_append
set_option maxRecDepth 100000 in
theorem tell_size (c : Int) (e : En) (ok : e.Ok) (hd : e.data.size ≤ 1099511627776) (ho : e.old.size ≤ 1099511627776) : (tell c e).size ≤ 2199023255600 := by
  have k1 := dec_size e.client ok.c1
  have k2 := dec_size e.seq ok.s1
  have k3 := dec_size e.block ok.b1
  have k4 := dec_size e.many ok.m1
  have k5 := num_size e.node ok.n0 ok.n1
  have k6 := num_size e.level ok.l0 ok.l1
  have k7 := hex_size e.data
  have k8 := hex_size e.old
  have k9 : (str [47]).size = 1 := rfl
  unfold tell
  repeat' split
  · rw [size_app, size_app]; omega
  · omega
  · omega
  · omega
  · omega
  · omega
  · omega
  · show 0 ≤ _; omega
theorem piece_length (L : ByteArray) (c : Int) (e : En) (ok : e.Ok) (hd : e.data.size ≤ 1099511627776) (ho : e.old.size ≤ 1099511627776) : (piece L e c).length ≤ 2199023255603 := by
  have h := tell_size c e ok hd ho
  have h2 : (tell c e).data.toList.length = (tell c e).size := by simp
  unfold piece
  split
  · simp only [List.length_append, List.length_cons, List.length_nil]; omega
  · simp
theorem body_length (L : ByteArray) (e : En) (ok : e.Ok) (hd : e.data.size ≤ 1099511627776) (ho : e.old.size ≤ 1099511627776) (n : Nat) : (bodyL L e n).length ≤ n * 2199023255603 := by
  obtain ⟨M, hM⟩ : ∃ M, M = 2199023255603 := ⟨_, rfl⟩
  have hp : ∀ c, (piece L e c).length ≤ M := fun c => hM ▸ piece_length L c e ok hd ho
  rw [← hM]
  clear hM hd ho
  induction n with
  | zero => simp [bodyL]
  | succ n ih =>
    have hs : (n + 1) * M = n * M + M := Nat.succ_mul n M
    cases h : ordL[n]? with
    | none =>
      have : bodyL L e (n + 1) = bodyL L e n := by unfold bodyL; rw [List.take_add_one, h]; simp
      rw [this]; omega
    | some c =>
      rw [piece_step L e n c h, List.length_append]
      have := hp c
      omega
theorem piece_yes (L : ByteArray) (e : En) (c : Int) (h : hasL L c = true) (acc : List UInt8) (x : ByteArray) (hx : x.data.toList = [32, UInt8.ofNat c.toNat, 61] ++ (tell c e).data.toList) : Lib.byteCells acc ++ Lib.strCells x = Lib.byteCells (acc ++ piece L e c) := by
  unfold piece
  rw [if_pos h, ← hx, Lib.byteCells_append]
  rfl
theorem piece_no (L : ByteArray) (e : En) (c : Int) (h : hasL L c = false) : piece L e c = [] := by
  unfold piece
  rw [if_neg (by simp [h])]
set_option maxRecDepth 100000 in
set_option maxHeartbeats 2000000 in
theorem fields50_any (L : ByteArray) (e : En) (g : Nat) (w : World) (ok : e.Ok) (hd : e.data.size ≤ 1099511627776) (ho : e.old.size ≤ 1099511627776) (ht : Tab w) (hg : g < w.heap.size) (hm : w.heap[g]? = some (.map tm 7)) :
    Calls Tryd.prog 50 #[.string ord, .string L, .map (some g), ev e] w fun r w' => r = .returned (.string (str (bodyL L e 7))) ∧ Below w.heap.size w w' := by
  have hF := Fs.start (e := e) ht hm hg
  have HT := Lib.hid ht
  have HM := Lib.hid hm
  have hoL : ord.size = 7 := rfl
  have HOL := Lib.hid hoL
  have OK := Lib.hid ok
  have BL := Lib.hid (body_length L e ok hd ho)
  have TS := Lib.hid (fun c => tell_size c e ok hd ho)
  have K51 := Lib.hid (fun (W : World) (h : Tab W) => tclient_any e W ok.c0 ok.c1 ok.s0 ok.s1 h)
  have K52 := Lib.hid (fun (W : World) (h : Tab W) => tblock_any e W ok.b0 ok.b1 h)
  have K53 := Lib.hid (fun (W : World) (h : Tab W) => tmany_any e W ok.m0 ok.m1 h)
  have K54 := Lib.hid (fun (W : World) (h : Tab W) => tnode_any e W ok.n0 ok.n1 h)
  have K55 := Lib.hid (fun (W : World) (h : Tab W) => tlevel_any e W ok.l0 ok.l1 h)
  have K56 := Lib.hid (fun (W : World) (h : Tab W) => tdata_any e W (by omega) h)
  have K57 := Lib.hid (fun (W : World) (h : Tab W) => told_any e W (by omega) h)
  clear ok
  clear hm ht hoL
  go_enter Tryd.func50, Tryd.ntmps50
  go_wp2
  go_loopw [] (fun wr => ∃ pos : Nat, pos ≤ 7 ∧ Fs w e g pos (bodyL L e pos) wr) (fun wr => 7 - wr.iterPos (w.heap.size + 1 + 1))
  case atStart => exact ⟨0, by omega, hF⟩
  case round =>
    obtain ⟨pos, hp, hF⟩ := hrel
    rcases (show pos = 0 ∨ pos = 1 ∨ pos = 2 ∨ pos = 3 ∨ pos = 4 ∨ pos = 5 ∨ pos = 6 ∨ pos = 7 by omega) with rfl | rfl | rfl | rfl | rfl | rfl | rfl | rfl
    · have hnx : ∀ ty, (Instr.next (.pointer (some ⟨w.heap.size + 1 + 1, 0, none⟩)) true ty).run Tryd.prog wr = .ok (.tuple #[.bool true, .int .i64 0, .int .i32 99]) (wr.iterAt (w.heap.size + 1 + 1) ord 1) := fun ty => Lib.run_next_ascii_at wr _ ord 0 ty hF.it (by decide) (by decide)
      have hm0 : Hid (wr.iterPos (w.heap.size + 1 + 1) = 0) := by show _ = _; simp only [World.iterPos, hF.it]
      have hn := hF.next 1 HT.out
      clear hF
      generalize wr.iterAt (w.heap.size + 1 + 1) ord 1 = wi at hnx hn
      have hsz := hn.sz
      have HP := Lib.hid (piece_step L e 0 99 rfl)
      have hu : Utf8.encode 99 = ⟨#[99]⟩ := by decide +kernel
      have HF := Lib.hid hn
      by_cases hh : hasL L 99 = true
      · have hlk := look_tm 99 0 51 hn.mp rfl
        have hts := TS.out 99
        have hbl : (Lib.byteCells (bodyL L e 0)).length ≤ 0 * 2199023255603 := by rw [Lib.byteCells_length]; exact BL.out 0
        have c0 := hn.cell 0
        have c1 := hn.cell 1
        have c2 := hn.cell 2
        have c3 := hn.cell 3
        have c4 := hn.cell 4
        have c5 := hn.cell 5
        have c6 := hn.cell 6
        have c7 := hn.cell 7
        have c8 := hn.cell 8
        have c9 := hn.cell 9
        have c10 := hn.cell 10
        simp only [ec, List.getElem?_toArray, List.getElem?_cons_succ, List.getElem?_cons_zero] at c0 c1 c2 c3 c4 c5 c6 c7 c8 c9 c10
        clear hn
        go_wp2_with (first
          | (go_at_call 61; (with_reducible refine (rune_asc L 99 _ (by omega) (by omega)).mono ?_); rintro r w' ⟨rfl, rfl⟩)
          | (go_at_call 51; (with_reducible refine (K51.out _ HF.out.tb).mono ?_); rintro r w1 ⟨rfl, hb1⟩; have hn1 := Lib.hid (HF.out.call hb1); have hs1 := hn1.out.sz)
          | (go_at_call 62; (refine (Tryd.Builder_WriteString_k (w.heap.size + 1) (w.heap.size + 1) _ _ w1 hn1.out.bu (by rw [size_app, size_app, size_app]; show _ + (1 + 1 + 1 + _) ≤ _; omega) (by omega)).mono ?_); rintro r w2 ⟨rfl, hI2, hb2, hk2⟩))
        have hI3 : Lib.IsBuilderF 85 5 (w.heap.size + 1) (w.heap.size + 1) (Lib.byteCells (bodyL L e 0 ++ piece L e 99)) w2 := by
          rw [← piece_yes L e 99 hh (bodyL L e 0) ((⟨#[32]⟩ : ByteArray) ++ ⟨#[99]⟩ ++ ⟨#[61]⟩ ++ tell 99 e) (by simp [ByteArray.data_append])]
          exact .inr hI2
        have hF2 := hn1.out.write hI3 hb2 hk2 HT.out
        rw [← HP.out] at hF2
        go_roundw
        case rel => exact ⟨1, by omega, hF2⟩
        case measure =>
          rw [hm0.out]
          simp only [World.iterPos, hF2.it]
          omega
      · have hh2 : hasL L 99 = false := by simpa using hh
        clear hh hn
        go_wp2_with (first
          | (go_at_call 61; (with_reducible refine (rune_asc L 99 _ (by omega) (by omega)).mono ?_); rintro r w' ⟨rfl, rfl⟩))
        have hF2 := HF.out
        rw [← List.append_nil (bodyL L e 0), ← piece_no L e 99 hh2, ← HP.out] at hF2
        go_roundw
        case rel => exact ⟨1, by omega, hF2⟩
        case measure =>
          rw [hm0.out]
          simp only [World.iterPos, hF2.it]
          omega
    · have hnx : ∀ ty, (Instr.next (.pointer (some ⟨w.heap.size + 1 + 1, 0, none⟩)) true ty).run Tryd.prog wr = .ok (.tuple #[.bool true, .int .i64 1, .int .i32 98]) (wr.iterAt (w.heap.size + 1 + 1) ord 2) := fun ty => Lib.run_next_ascii_at wr _ ord 1 ty hF.it (by decide) (by decide)
      have hm0 : Hid (wr.iterPos (w.heap.size + 1 + 1) = 1) := by show _ = _; simp only [World.iterPos, hF.it]
      have hn := hF.next 2 HT.out
      clear hF
      generalize wr.iterAt (w.heap.size + 1 + 1) ord 2 = wi at hnx hn
      have hsz := hn.sz
      have HP := Lib.hid (piece_step L e 1 98 rfl)
      have hu : Utf8.encode 98 = ⟨#[98]⟩ := by decide +kernel
      have HF := Lib.hid hn
      by_cases hh : hasL L 98 = true
      · have hlk := look_tm 98 1 52 hn.mp rfl
        have hts := TS.out 98
        have hbl : (Lib.byteCells (bodyL L e 1)).length ≤ 1 * 2199023255603 := by rw [Lib.byteCells_length]; exact BL.out 1
        have c0 := hn.cell 0
        have c1 := hn.cell 1
        have c2 := hn.cell 2
        have c3 := hn.cell 3
        have c4 := hn.cell 4
        have c5 := hn.cell 5
        have c6 := hn.cell 6
        have c7 := hn.cell 7
        have c8 := hn.cell 8
        have c9 := hn.cell 9
        have c10 := hn.cell 10
        simp only [ec, List.getElem?_toArray, List.getElem?_cons_succ, List.getElem?_cons_zero] at c0 c1 c2 c3 c4 c5 c6 c7 c8 c9 c10
        clear hn
        go_wp2_with (first
          | (go_at_call 61; (with_reducible refine (rune_asc L 98 _ (by omega) (by omega)).mono ?_); rintro r w' ⟨rfl, rfl⟩)
          | (go_at_call 52; (with_reducible refine (K52.out _ HF.out.tb).mono ?_); rintro r w1 ⟨rfl, hb1⟩; have hn1 := Lib.hid (HF.out.call hb1); have hs1 := hn1.out.sz)
          | (go_at_call 62; (refine (Tryd.Builder_WriteString_k (w.heap.size + 1) (w.heap.size + 1) _ _ w1 hn1.out.bu (by rw [size_app, size_app, size_app]; show _ + (1 + 1 + 1 + _) ≤ _; omega) (by omega)).mono ?_); rintro r w2 ⟨rfl, hI2, hb2, hk2⟩))
        have hI3 : Lib.IsBuilderF 85 5 (w.heap.size + 1) (w.heap.size + 1) (Lib.byteCells (bodyL L e 1 ++ piece L e 98)) w2 := by
          rw [← piece_yes L e 98 hh (bodyL L e 1) ((⟨#[32]⟩ : ByteArray) ++ ⟨#[98]⟩ ++ ⟨#[61]⟩ ++ tell 98 e) (by simp [ByteArray.data_append])]
          exact .inr hI2
        have hF2 := hn1.out.write hI3 hb2 hk2 HT.out
        rw [← HP.out] at hF2
        go_roundw
        case rel => exact ⟨2, by omega, hF2⟩
        case measure =>
          rw [hm0.out]
          simp only [World.iterPos, hF2.it]
          omega
      · have hh2 : hasL L 98 = false := by simpa using hh
        clear hh hn
        go_wp2_with (first
          | (go_at_call 61; (with_reducible refine (rune_asc L 98 _ (by omega) (by omega)).mono ?_); rintro r w' ⟨rfl, rfl⟩))
        have hF2 := HF.out
        rw [← List.append_nil (bodyL L e 1), ← piece_no L e 98 hh2, ← HP.out] at hF2
        go_roundw
        case rel => exact ⟨2, by omega, hF2⟩
        case measure =>
          rw [hm0.out]
          simp only [World.iterPos, hF2.it]
          omega
    · have hnx : ∀ ty, (Instr.next (.pointer (some ⟨w.heap.size + 1 + 1, 0, none⟩)) true ty).run Tryd.prog wr = .ok (.tuple #[.bool true, .int .i64 2, .int .i32 109]) (wr.iterAt (w.heap.size + 1 + 1) ord 3) := fun ty => Lib.run_next_ascii_at wr _ ord 2 ty hF.it (by decide) (by decide)
      have hm0 : Hid (wr.iterPos (w.heap.size + 1 + 1) = 2) := by show _ = _; simp only [World.iterPos, hF.it]
      have hn := hF.next 3 HT.out
      clear hF
      generalize wr.iterAt (w.heap.size + 1 + 1) ord 3 = wi at hnx hn
      have hsz := hn.sz
      have HP := Lib.hid (piece_step L e 2 109 rfl)
      have hu : Utf8.encode 109 = ⟨#[109]⟩ := by decide +kernel
      have HF := Lib.hid hn
      by_cases hh : hasL L 109 = true
      · have hlk := look_tm 109 2 53 hn.mp rfl
        have hts := TS.out 109
        have hbl : (Lib.byteCells (bodyL L e 2)).length ≤ 2 * 2199023255603 := by rw [Lib.byteCells_length]; exact BL.out 2
        have c0 := hn.cell 0
        have c1 := hn.cell 1
        have c2 := hn.cell 2
        have c3 := hn.cell 3
        have c4 := hn.cell 4
        have c5 := hn.cell 5
        have c6 := hn.cell 6
        have c7 := hn.cell 7
        have c8 := hn.cell 8
        have c9 := hn.cell 9
        have c10 := hn.cell 10
        simp only [ec, List.getElem?_toArray, List.getElem?_cons_succ, List.getElem?_cons_zero] at c0 c1 c2 c3 c4 c5 c6 c7 c8 c9 c10
        clear hn
        go_wp2_with (first
          | (go_at_call 61; (with_reducible refine (rune_asc L 109 _ (by omega) (by omega)).mono ?_); rintro r w' ⟨rfl, rfl⟩)
          | (go_at_call 53; (with_reducible refine (K53.out _ HF.out.tb).mono ?_); rintro r w1 ⟨rfl, hb1⟩; have hn1 := Lib.hid (HF.out.call hb1); have hs1 := hn1.out.sz)
          | (go_at_call 62; (refine (Tryd.Builder_WriteString_k (w.heap.size + 1) (w.heap.size + 1) _ _ w1 hn1.out.bu (by rw [size_app, size_app, size_app]; show _ + (1 + 1 + 1 + _) ≤ _; omega) (by omega)).mono ?_); rintro r w2 ⟨rfl, hI2, hb2, hk2⟩))
        have hI3 : Lib.IsBuilderF 85 5 (w.heap.size + 1) (w.heap.size + 1) (Lib.byteCells (bodyL L e 2 ++ piece L e 109)) w2 := by
          rw [← piece_yes L e 109 hh (bodyL L e 2) ((⟨#[32]⟩ : ByteArray) ++ ⟨#[109]⟩ ++ ⟨#[61]⟩ ++ tell 109 e) (by simp [ByteArray.data_append])]
          exact .inr hI2
        have hF2 := hn1.out.write hI3 hb2 hk2 HT.out
        rw [← HP.out] at hF2
        go_roundw
        case rel => exact ⟨3, by omega, hF2⟩
        case measure =>
          rw [hm0.out]
          simp only [World.iterPos, hF2.it]
          omega
      · have hh2 : hasL L 109 = false := by simpa using hh
        clear hh hn
        go_wp2_with (first
          | (go_at_call 61; (with_reducible refine (rune_asc L 109 _ (by omega) (by omega)).mono ?_); rintro r w' ⟨rfl, rfl⟩))
        have hF2 := HF.out
        rw [← List.append_nil (bodyL L e 2), ← piece_no L e 109 hh2, ← HP.out] at hF2
        go_roundw
        case rel => exact ⟨3, by omega, hF2⟩
        case measure =>
          rw [hm0.out]
          simp only [World.iterPos, hF2.it]
          omega
    · have hnx : ∀ ty, (Instr.next (.pointer (some ⟨w.heap.size + 1 + 1, 0, none⟩)) true ty).run Tryd.prog wr = .ok (.tuple #[.bool true, .int .i64 3, .int .i32 110]) (wr.iterAt (w.heap.size + 1 + 1) ord 4) := fun ty => Lib.run_next_ascii_at wr _ ord 3 ty hF.it (by decide) (by decide)
      have hm0 : Hid (wr.iterPos (w.heap.size + 1 + 1) = 3) := by show _ = _; simp only [World.iterPos, hF.it]
      have hn := hF.next 4 HT.out
      clear hF
      generalize wr.iterAt (w.heap.size + 1 + 1) ord 4 = wi at hnx hn
      have hsz := hn.sz
      have HP := Lib.hid (piece_step L e 3 110 rfl)
      have hu : Utf8.encode 110 = ⟨#[110]⟩ := by decide +kernel
      have HF := Lib.hid hn
      by_cases hh : hasL L 110 = true
      · have hlk := look_tm 110 3 54 hn.mp rfl
        have hts := TS.out 110
        have hbl : (Lib.byteCells (bodyL L e 3)).length ≤ 3 * 2199023255603 := by rw [Lib.byteCells_length]; exact BL.out 3
        have c0 := hn.cell 0
        have c1 := hn.cell 1
        have c2 := hn.cell 2
        have c3 := hn.cell 3
        have c4 := hn.cell 4
        have c5 := hn.cell 5
        have c6 := hn.cell 6
        have c7 := hn.cell 7
        have c8 := hn.cell 8
        have c9 := hn.cell 9
        have c10 := hn.cell 10
        simp only [ec, List.getElem?_toArray, List.getElem?_cons_succ, List.getElem?_cons_zero] at c0 c1 c2 c3 c4 c5 c6 c7 c8 c9 c10
        clear hn
        go_wp2_with (first
          | (go_at_call 61; (with_reducible refine (rune_asc L 110 _ (by omega) (by omega)).mono ?_); rintro r w' ⟨rfl, rfl⟩)
          | (go_at_call 54; (with_reducible refine (K54.out _ HF.out.tb).mono ?_); rintro r w1 ⟨rfl, hb1⟩; have hn1 := Lib.hid (HF.out.call hb1); have hs1 := hn1.out.sz)
          | (go_at_call 62; (refine (Tryd.Builder_WriteString_k (w.heap.size + 1) (w.heap.size + 1) _ _ w1 hn1.out.bu (by rw [size_app, size_app, size_app]; show _ + (1 + 1 + 1 + _) ≤ _; omega) (by omega)).mono ?_); rintro r w2 ⟨rfl, hI2, hb2, hk2⟩))
        have hI3 : Lib.IsBuilderF 85 5 (w.heap.size + 1) (w.heap.size + 1) (Lib.byteCells (bodyL L e 3 ++ piece L e 110)) w2 := by
          rw [← piece_yes L e 110 hh (bodyL L e 3) ((⟨#[32]⟩ : ByteArray) ++ ⟨#[110]⟩ ++ ⟨#[61]⟩ ++ tell 110 e) (by simp [ByteArray.data_append])]
          exact .inr hI2
        have hF2 := hn1.out.write hI3 hb2 hk2 HT.out
        rw [← HP.out] at hF2
        go_roundw
        case rel => exact ⟨4, by omega, hF2⟩
        case measure =>
          rw [hm0.out]
          simp only [World.iterPos, hF2.it]
          omega
      · have hh2 : hasL L 110 = false := by simpa using hh
        clear hh hn
        go_wp2_with (first
          | (go_at_call 61; (with_reducible refine (rune_asc L 110 _ (by omega) (by omega)).mono ?_); rintro r w' ⟨rfl, rfl⟩))
        have hF2 := HF.out
        rw [← List.append_nil (bodyL L e 3), ← piece_no L e 110 hh2, ← HP.out] at hF2
        go_roundw
        case rel => exact ⟨4, by omega, hF2⟩
        case measure =>
          rw [hm0.out]
          simp only [World.iterPos, hF2.it]
          omega
    · have hnx : ∀ ty, (Instr.next (.pointer (some ⟨w.heap.size + 1 + 1, 0, none⟩)) true ty).run Tryd.prog wr = .ok (.tuple #[.bool true, .int .i64 4, .int .i32 108]) (wr.iterAt (w.heap.size + 1 + 1) ord 5) := fun ty => Lib.run_next_ascii_at wr _ ord 4 ty hF.it (by decide) (by decide)
      have hm0 : Hid (wr.iterPos (w.heap.size + 1 + 1) = 4) := by show _ = _; simp only [World.iterPos, hF.it]
      have hn := hF.next 5 HT.out
      clear hF
      generalize wr.iterAt (w.heap.size + 1 + 1) ord 5 = wi at hnx hn
      have hsz := hn.sz
      have HP := Lib.hid (piece_step L e 4 108 rfl)
      have hu : Utf8.encode 108 = ⟨#[108]⟩ := by decide +kernel
      have HF := Lib.hid hn
      by_cases hh : hasL L 108 = true
      · have hlk := look_tm 108 4 55 hn.mp rfl
        have hts := TS.out 108
        have hbl : (Lib.byteCells (bodyL L e 4)).length ≤ 4 * 2199023255603 := by rw [Lib.byteCells_length]; exact BL.out 4
        have c0 := hn.cell 0
        have c1 := hn.cell 1
        have c2 := hn.cell 2
        have c3 := hn.cell 3
        have c4 := hn.cell 4
        have c5 := hn.cell 5
        have c6 := hn.cell 6
        have c7 := hn.cell 7
        have c8 := hn.cell 8
        have c9 := hn.cell 9
        have c10 := hn.cell 10
        simp only [ec, List.getElem?_toArray, List.getElem?_cons_succ, List.getElem?_cons_zero] at c0 c1 c2 c3 c4 c5 c6 c7 c8 c9 c10
        clear hn
        go_wp2_with (first
          | (go_at_call 61; (with_reducible refine (rune_asc L 108 _ (by omega) (by omega)).mono ?_); rintro r w' ⟨rfl, rfl⟩)
          | (go_at_call 55; (with_reducible refine (K55.out _ HF.out.tb).mono ?_); rintro r w1 ⟨rfl, hb1⟩; have hn1 := Lib.hid (HF.out.call hb1); have hs1 := hn1.out.sz)
          | (go_at_call 62; (refine (Tryd.Builder_WriteString_k (w.heap.size + 1) (w.heap.size + 1) _ _ w1 hn1.out.bu (by rw [size_app, size_app, size_app]; show _ + (1 + 1 + 1 + _) ≤ _; omega) (by omega)).mono ?_); rintro r w2 ⟨rfl, hI2, hb2, hk2⟩))
        have hI3 : Lib.IsBuilderF 85 5 (w.heap.size + 1) (w.heap.size + 1) (Lib.byteCells (bodyL L e 4 ++ piece L e 108)) w2 := by
          rw [← piece_yes L e 108 hh (bodyL L e 4) ((⟨#[32]⟩ : ByteArray) ++ ⟨#[108]⟩ ++ ⟨#[61]⟩ ++ tell 108 e) (by simp [ByteArray.data_append])]
          exact .inr hI2
        have hF2 := hn1.out.write hI3 hb2 hk2 HT.out
        rw [← HP.out] at hF2
        go_roundw
        case rel => exact ⟨5, by omega, hF2⟩
        case measure =>
          rw [hm0.out]
          simp only [World.iterPos, hF2.it]
          omega
      · have hh2 : hasL L 108 = false := by simpa using hh
        clear hh hn
        go_wp2_with (first
          | (go_at_call 61; (with_reducible refine (rune_asc L 108 _ (by omega) (by omega)).mono ?_); rintro r w' ⟨rfl, rfl⟩))
        have hF2 := HF.out
        rw [← List.append_nil (bodyL L e 4), ← piece_no L e 108 hh2, ← HP.out] at hF2
        go_roundw
        case rel => exact ⟨5, by omega, hF2⟩
        case measure =>
          rw [hm0.out]
          simp only [World.iterPos, hF2.it]
          omega
    · have hnx : ∀ ty, (Instr.next (.pointer (some ⟨w.heap.size + 1 + 1, 0, none⟩)) true ty).run Tryd.prog wr = .ok (.tuple #[.bool true, .int .i64 5, .int .i32 100]) (wr.iterAt (w.heap.size + 1 + 1) ord 6) := fun ty => Lib.run_next_ascii_at wr _ ord 5 ty hF.it (by decide) (by decide)
      have hm0 : Hid (wr.iterPos (w.heap.size + 1 + 1) = 5) := by show _ = _; simp only [World.iterPos, hF.it]
      have hn := hF.next 6 HT.out
      clear hF
      generalize wr.iterAt (w.heap.size + 1 + 1) ord 6 = wi at hnx hn
      have hsz := hn.sz
      have HP := Lib.hid (piece_step L e 5 100 rfl)
      have hu : Utf8.encode 100 = ⟨#[100]⟩ := by decide +kernel
      have HF := Lib.hid hn
      by_cases hh : hasL L 100 = true
      · have hlk := look_tm 100 5 56 hn.mp rfl
        have hts := TS.out 100
        have hbl : (Lib.byteCells (bodyL L e 5)).length ≤ 5 * 2199023255603 := by rw [Lib.byteCells_length]; exact BL.out 5
        have c0 := hn.cell 0
        have c1 := hn.cell 1
        have c2 := hn.cell 2
        have c3 := hn.cell 3
        have c4 := hn.cell 4
        have c5 := hn.cell 5
        have c6 := hn.cell 6
        have c7 := hn.cell 7
        have c8 := hn.cell 8
        have c9 := hn.cell 9
        have c10 := hn.cell 10
        simp only [ec, List.getElem?_toArray, List.getElem?_cons_succ, List.getElem?_cons_zero] at c0 c1 c2 c3 c4 c5 c6 c7 c8 c9 c10
        clear hn
        go_wp2_with (first
          | (go_at_call 61; (with_reducible refine (rune_asc L 100 _ (by omega) (by omega)).mono ?_); rintro r w' ⟨rfl, rfl⟩)
          | (go_at_call 56; (with_reducible refine (K56.out _ HF.out.tb).mono ?_); rintro r w1 ⟨rfl, hb1⟩; have hn1 := Lib.hid (HF.out.call hb1); have hs1 := hn1.out.sz)
          | (go_at_call 62; (refine (Tryd.Builder_WriteString_k (w.heap.size + 1) (w.heap.size + 1) _ _ w1 hn1.out.bu (by rw [size_app, size_app, size_app]; show _ + (1 + 1 + 1 + _) ≤ _; omega) (by omega)).mono ?_); rintro r w2 ⟨rfl, hI2, hb2, hk2⟩))
        have hI3 : Lib.IsBuilderF 85 5 (w.heap.size + 1) (w.heap.size + 1) (Lib.byteCells (bodyL L e 5 ++ piece L e 100)) w2 := by
          rw [← piece_yes L e 100 hh (bodyL L e 5) ((⟨#[32]⟩ : ByteArray) ++ ⟨#[100]⟩ ++ ⟨#[61]⟩ ++ tell 100 e) (by simp [ByteArray.data_append])]
          exact .inr hI2
        have hF2 := hn1.out.write hI3 hb2 hk2 HT.out
        rw [← HP.out] at hF2
        go_roundw
        case rel => exact ⟨6, by omega, hF2⟩
        case measure =>
          rw [hm0.out]
          simp only [World.iterPos, hF2.it]
          omega
      · have hh2 : hasL L 100 = false := by simpa using hh
        clear hh hn
        go_wp2_with (first
          | (go_at_call 61; (with_reducible refine (rune_asc L 100 _ (by omega) (by omega)).mono ?_); rintro r w' ⟨rfl, rfl⟩))
        have hF2 := HF.out
        rw [← List.append_nil (bodyL L e 5), ← piece_no L e 100 hh2, ← HP.out] at hF2
        go_roundw
        case rel => exact ⟨6, by omega, hF2⟩
        case measure =>
          rw [hm0.out]
          simp only [World.iterPos, hF2.it]
          omega
    · have hnx : ∀ ty, (Instr.next (.pointer (some ⟨w.heap.size + 1 + 1, 0, none⟩)) true ty).run Tryd.prog wr = .ok (.tuple #[.bool true, .int .i64 6, .int .i32 111]) (wr.iterAt (w.heap.size + 1 + 1) ord 7) := fun ty => Lib.run_next_ascii_at wr _ ord 6 ty hF.it (by decide) (by decide)
      have hm0 : Hid (wr.iterPos (w.heap.size + 1 + 1) = 6) := by show _ = _; simp only [World.iterPos, hF.it]
      have hn := hF.next 7 HT.out
      clear hF
      generalize wr.iterAt (w.heap.size + 1 + 1) ord 7 = wi at hnx hn
      have hsz := hn.sz
      have HP := Lib.hid (piece_step L e 6 111 rfl)
      have hu : Utf8.encode 111 = ⟨#[111]⟩ := by decide +kernel
      have HF := Lib.hid hn
      by_cases hh : hasL L 111 = true
      · have hlk := look_tm 111 6 57 hn.mp rfl
        have hts := TS.out 111
        have hbl : (Lib.byteCells (bodyL L e 6)).length ≤ 6 * 2199023255603 := by rw [Lib.byteCells_length]; exact BL.out 6
        have c0 := hn.cell 0
        have c1 := hn.cell 1
        have c2 := hn.cell 2
        have c3 := hn.cell 3
        have c4 := hn.cell 4
        have c5 := hn.cell 5
        have c6 := hn.cell 6
        have c7 := hn.cell 7
        have c8 := hn.cell 8
        have c9 := hn.cell 9
        have c10 := hn.cell 10
        simp only [ec, List.getElem?_toArray, List.getElem?_cons_succ, List.getElem?_cons_zero] at c0 c1 c2 c3 c4 c5 c6 c7 c8 c9 c10
        clear hn
        go_wp2_with (first
          | (go_at_call 61; (with_reducible refine (rune_asc L 111 _ (by omega) (by omega)).mono ?_); rintro r w' ⟨rfl, rfl⟩)
          | (go_at_call 57; (with_reducible refine (K57.out _ HF.out.tb).mono ?_); rintro r w1 ⟨rfl, hb1⟩; have hn1 := Lib.hid (HF.out.call hb1); have hs1 := hn1.out.sz)
          | (go_at_call 62; (refine (Tryd.Builder_WriteString_k (w.heap.size + 1) (w.heap.size + 1) _ _ w1 hn1.out.bu (by rw [size_app, size_app, size_app]; show _ + (1 + 1 + 1 + _) ≤ _; omega) (by omega)).mono ?_); rintro r w2 ⟨rfl, hI2, hb2, hk2⟩))
        have hI3 : Lib.IsBuilderF 85 5 (w.heap.size + 1) (w.heap.size + 1) (Lib.byteCells (bodyL L e 6 ++ piece L e 111)) w2 := by
          rw [← piece_yes L e 111 hh (bodyL L e 6) ((⟨#[32]⟩ : ByteArray) ++ ⟨#[111]⟩ ++ ⟨#[61]⟩ ++ tell 111 e) (by simp [ByteArray.data_append])]
          exact .inr hI2
        have hF2 := hn1.out.write hI3 hb2 hk2 HT.out
        rw [← HP.out] at hF2
        go_roundw
        case rel => exact ⟨7, by omega, hF2⟩
        case measure =>
          rw [hm0.out]
          simp only [World.iterPos, hF2.it]
          omega
      · have hh2 : hasL L 111 = false := by simpa using hh
        clear hh hn
        go_wp2_with (first
          | (go_at_call 61; (with_reducible refine (rune_asc L 111 _ (by omega) (by omega)).mono ?_); rintro r w' ⟨rfl, rfl⟩))
        have hF2 := HF.out
        rw [← List.append_nil (bodyL L e 6), ← piece_no L e 111 hh2, ← HP.out] at hF2
        go_roundw
        case rel => exact ⟨7, by omega, hF2⟩
        case measure =>
          rw [hm0.out]
          simp only [World.iterPos, hF2.it]
          omega
    · have hsz := hF.sz
      have hnx : ∀ ty, (Instr.next (.pointer (some ⟨w.heap.size + 1 + 1, 0, none⟩)) true ty).run Tryd.prog wr = .ok (.tuple #[.bool false]) wr := fun ty => Lib.run_next_end_at wr _ ord 7 ty hF.it (by decide)
      have HF := Lib.hid hF
      clear hF
      go_wp2_with (go_at_call 63; (refine (Tryd.Builder_String_any_k (w.heap.size + 1) (w.heap.size + 1) (bodyL L e 7) _ HF.out.bu (by omega)).mono ?_); rintro r w1 ⟨rfl, hI1, hb1, hk1⟩)
      go_ret
      exact ⟨rfl, HF.out.be.trans (hb1.mono (by omega))⟩
end Go.Proofs.YtclohjcenkpgoaaDoor
