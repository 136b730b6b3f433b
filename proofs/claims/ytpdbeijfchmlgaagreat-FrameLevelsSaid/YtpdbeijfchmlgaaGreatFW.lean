/-
  The frame's small functions, and Pack, the package's and the document's own: what they return.
  Conditions: texts of at most 2^48 bytes.
-/
import Derived.Test.YtpdbeijfchmlgaaGreatFM
import Derived.MapKept
namespace Go.Proofs.YtpdbeijfchmlgaaGreat
open Go.RowKit
open Vi
set_option linter.unusedVariables false
set_option linter.unusedSimpArgs false
/-- A key that is not there is stored into a map. -/
theorem ins_step {T E : TypeId} {g clock : Nat} {es : Array MapEntry} (c : Int) (v : Value) {B : Nat} {a w : World} (hT : Tryz.prog.underlying T = some (.map 3 E)) (hb : w.heap[g]? = some (.map es clock))
    (hf : Instr.findNow (.int .i64) (.int .i64 c) es.toList 0 = some none) (hbw : Below B a w) (hg : B ≤ g) :
    ∃ w', (Instr.mapUpdate T (.map (some g)) (.int .i64 c) v).run Tryz.prog w = .ok () w' ∧ w'.heap[g]? = some (.map (es.push { key := .int .i64 c, val := v, born := clock }) (clock + 1)) ∧ Below B a w' ∧ (∀ k, k ≠ g → w'.heap[k]? = w.heap[k]?) ∧ w'.heap.size = w.heap.size := by
  have hk : Tryz.prog.underlying 3 = some (.int .i64) := Tryz.underlying3
  have hc : (Instr.checkKey false 10000 3 (.int .i64 c)).run Tryz.prog w = .ok () w := MapKept.run_checkKey (k := .int .i64 c) hk (by simp [MapKept.IsKey]) false 9999
  refine ⟨{ w with heap := w.heap.setIfInBounds g (.map (es.push { key := .int .i64 c, val := v, born := clock }) (clock + 1)) }, ?_, ?_, ?_, ?_, by simp⟩
  · simp [Instr.mapUpdate, run_underlying hT, MapKept.run_getObj_map hb, hc, MapKept.run_findKey hk hf, MapKept.run_setObj_map _ hb, Result.andThen]
  · exact (MapKept.heap_set hb).1
  · refine ⟨hbw.os, hbw.tape, hbw.output, by simpa using hbw.size, fun k hk => ?_⟩
    exact ((MapKept.heap_set hb).2 k (by omega)).trans (hbw.block k hk)
  · exact fun k hk => (MapKept.heap_set hb).2 k hk
/-- What a key holds is looked up. -/
theorem look_step {T E : TypeId} {g clock i : Nat} {es : Array MapEntry} (c : Int) (v : Value) {w : World} (hT : Tryz.prog.underlying T = some (.map 3 E)) (hb : w.heap[g]? = some (.map es clock))
    (hf : Instr.findNow (.int .i64) (.int .i64 c) es.toList 0 = some (some (i, v))) :
    (Instr.lookup T (.map (some g)) (.int .i64 c) true).run Tryz.prog w = .ok (.tuple #[v, .bool true]) w := by
  have hk : Tryz.prog.underlying 3 = some (.int .i64) := Tryz.underlying3
  have hc : (Instr.checkKey es.isEmpty 10000 3 (.int .i64 c)).run Tryz.prog w = .ok () w := MapKept.run_checkKey (k := .int .i64 c) hk (by simp [MapKept.IsKey]) es.isEmpty 9999
  simp [Instr.lookup, run_underlying hT, MapKept.run_getObj_map hb, hc, MapKept.run_findKey hk hf, Result.andThen]
theorem look_none {T E : TypeId} {g clock : Nat} {es : Array MapEntry} (c : Int) {w : World} (hT : Tryz.prog.underlying T = some (.map 3 E)) (hE : ∀ w, (zeroValue E).run Tryz.prog w = .ok .nilFunc w) (hb : w.heap[g]? = some (.map es clock))
    (hf : Instr.findNow (.int .i64) (.int .i64 c) es.toList 0 = some none) :
    (Instr.lookup T (.map (some g)) (.int .i64 c) true).run Tryz.prog w = .ok (.tuple #[.nilFunc, .bool false]) w := by
  have hk : Tryz.prog.underlying 3 = some (.int .i64) := Tryz.underlying3
  have hc : (Instr.checkKey es.isEmpty 10000 3 (.int .i64 c)).run Tryz.prog w = .ok () w := MapKept.run_checkKey (k := .int .i64 c) hk (by simp [MapKept.IsKey]) es.isEmpty 9999
  simp [Instr.lookup, run_underlying hT, MapKept.run_getObj_map hb, hc, MapKept.run_findKey hk hf, hE, Result.andThen]
/-- A map of two. -/
abbrev two (a b : Value) : Array MapEntry := #[{ key := .int .i64 1, val := a, born := 0 }, { key := .int .i64 2, val := b, born := 1 }]
theorem two_1 (a b : Value) : Instr.findNow (.int .i64) (.int .i64 1) (two a b).toList 0 = some (some (0, a)) := rfl
theorem two_2 (a b : Value) : Instr.findNow (.int .i64) (.int .i64 2) (two a b).toList 0 = some (some (1, b)) := rfl
theorem two_n (a b : Value) (c : Int) (h1 : c ≠ 1) (h2 : c ≠ 2) : Instr.findNow (.int .i64) (.int .i64 c) (two a b).toList 0 = some none := by
  have e1 : (c == 1) = false := by simpa using h1
  have e2 : (c == 2) = false := by simpa using h2
  simp [Instr.findNow, Instr.sameNow, e1, e2]
abbrev fv (n : Nat) : Value := .func (.func n) #[] #[]
set_option maxHeartbeats 1000000 in
set_option maxRecDepth 100000 in
theorem puts_any (w : World) :
    Calls Tryz.prog 55 #[] w fun r w' => r = .returned (.map (some w.heap.size)) ∧ w'.heap[w.heap.size]? = some (.map (two (fv 103) (fv 104)) 2) ∧ Below w.heap.size w w' := by
  have hmm := @run_makeMap Tryz.prog
  obtain ⟨w1, e1, h1, b1, _, _⟩ := ins_step (T := 83) 1 (fv 103) Tryz.underlying83 (heap_alloc_new w (.map #[] 0)) rfl ((Below.refl _ _).alloc (Nat.le_refl _) _) (Nat.le_refl _)
  obtain ⟨w2, e2, h2, b2, _, _⟩ := ins_step (T := 83) 2 (fv 104) Tryz.underlying83 h1 rfl b1 (Nat.le_refl _)
  have H2 : Hid (w2.heap[w.heap.size]? = some (.map (two (fv 103) (fv 104)) 2)) := h2
  have B2 := Lib.hid b2
  clear h1 h2 b1 b2
  go_enter Tryz.func55, Tryz.ntmps55
  go_wp2
  go_ret
  exact ⟨rfl, H2.out, B2.out⟩
theorem len1_any (n : Nat) (w : World) (hn : n < 18446744073709551616) : Calls Tryz.prog 103 #[.int .u64 n] w fun e w' => e = .returned (.string (fxB n 4)) ∧ Below w.heap.size w w' := by
  go_enter Tryz.func103, Tryz.ntmps103
  go_wp2_with fail
  refine (fixed_any n 4 _).mono ?_
  rintro e w1 ⟨rfl, b1⟩
  go_wp2
  go_ret
  exact ⟨rfl, b1⟩
theorem seal_any (h b : ByteArray) (w : World) (hh : h.size ≤ 281474976710656) (hb : b.size ≤ 281474976710656) : Calls Tryz.prog 57 #[.string h, .string b] w fun e w' => e = .returned (.string (sealB h b)) ∧ Below w.heap.size w w' := by
  have m1 := Crc.moreB_lt 0 h
  have m2 := Crc.moreB_lt (Crc.moreB 0 h) b
  go_enter Tryz.func57, Tryz.ntmps57
  go_wp2_with fail
  refine (sum_any h _ (by unfold maxLen; omega)).mono ?_
  rintro e w1 ⟨rfl, b1⟩
  go_wp2_with fail
  refine (more_any _ b _ (by unfold maxLen; omega) m1).mono ?_
  rintro e w2 ⟨rfl, b2⟩
  have hw : IntKind.u64.wrap ((Crc.moreB (Crc.moreB 0 h) b : Nat) : Int) = ((Crc.moreB (Crc.moreB 0 h) b : Nat) : Int) := by rw [IntKind.wrap_u64]; omega
  go_wp2_with fail
  refine (fixed_any _ 4 _).mono ?_
  rintro e w3 ⟨rfl, b3⟩
  go_wp2
  go_ret
  exact ⟨rfl, (b1.trans (b2.mono b1.size)).trans (b3.mono (Nat.le_trans b1.size b2.size))⟩

theorem fx_small (h b : ByteArray) (n : Nat) (hh : h.size ≤ 11) (hb : b.size ≤ 1048576) : (h ++ sealB h b).size + b.size ≤ 9223372036854775807 := by
  rw [ByteArray.size_append, seal_size]; omega
set_option maxHeartbeats 2000000 in
set_option maxRecDepth 100000 in
/-- Pack of a version that there is. -/
theorem packK_any (v : Int) (b : ByteArray) (w : World) (hv : v = 1 ∨ v = 2) (hb : b.size ≤ 1048576) :
    Calls Tryz.prog 22 #[.int .i64 v, .string b] w fun e w' => e = .returned (.tuple #[.string (pack v b), .bool true]) ∧ Below w.heap.size w w' := by
  have hgt : ¬ ((1048576 : Int) < b.size) := by omega
  have hw : IntKind.u64.wrap (b.size : Int) = b.size := by rw [IntKind.wrap_u64]; omega
  have hz := hdF_size v b.size (by omega)
  have hfx := fx_small (hdF v b.size) b 0 hz hb
  have hs := seal_size (hdF v b.size) b
  have KS := Lib.hid (fun (W : World) => seal_any (hdF v b.size) b W (by omega) (by omega))
  have KP := Lib.hid (fun (W : World) => puts_any W)
  rcases hv with rfl | rfl
  · have h1 : (fxB 161 1).size = 1 := fxB_size 161 1 (by omega)
    have h2 : (fxB b.size 4).size = 4 := fxB_size b.size 4 (by omega)
    obtain ⟨H, hH⟩ : ∃ H, H = hdF 1 b.size := ⟨_, rfl⟩
    have hcat : Hid (fxB 161 1 ++ fxB b.size 4 = H) := hH.symm
    have hfin : Hid (H ++ sealB H b ++ b = pack 1 b) := by show _ = _; rw [hH]; rfl
    rw [← hH] at KS hfx hz hs
    have HZ := Lib.hid hz
    clear hH hz
    go_enter Tryz.func22, Tryz.ntmps22
    go_wp2_with fail
    refine (KP.out _).mono ?_
    rintro e w1 ⟨rfl, m1, b1⟩
    have hl := look_step (T := 83) 1 (fv 103) Tryz.underlying83 m1 (two_1 _ _)
    have HB1 := Lib.hid b1
    clear m1 b1
    go_wp2_with fail
    refine (fixed_any 161 1 _).mono ?_
    rintro e w2 ⟨rfl, b2⟩
    have HB2 : Hid (Below w.heap.size w w2) := HB1.out.trans (b2.mono HB1.out.size)
    clear b2 hl
    go_wp2_with fail
    refine (len1_any b.size _ (by omega)).mono ?_
    rintro e w3 ⟨rfl, b3⟩
    have HB3 : Hid (Below w.heap.size w w3) := HB2.out.trans (b3.mono HB2.out.size)
    clear b3
    go_wp2_with fail
    rw [hcat.out]
    refine (KS.out _).mono ?_
    rintro e w4 ⟨rfl, b4⟩
    have HB4 : Hid (Below w.heap.size w w4) := HB3.out.trans (b4.mono HB3.out.size)
    clear b4
    have hz2 := HZ.out
    go_wp2
    go_ret2
    rw [hfin.out]
    exact ⟨rfl, HB4.out⟩
  · have h1 : (fxB 162 1).size = 1 := fxB_size 162 1 (by omega)
    have h2 := _root_.Go.Proofs.YtpdbeijfchmlgaaGreat.putB_size b.size (by omega)
    obtain ⟨H, hH⟩ : ∃ H, H = hdF 2 b.size := ⟨_, rfl⟩
    have hcat : Hid (fxB 162 1 ++ putB b.size = H) := hH.symm
    have hfin : Hid (H ++ sealB H b ++ b = pack 2 b) := by show _ = _; rw [hH]; rfl
    rw [← hH] at KS hfx hz hs
    have HZ := Lib.hid hz
    clear hH hz
    go_enter Tryz.func22, Tryz.ntmps22
    go_wp2_with fail
    refine (KP.out _).mono ?_
    rintro e w1 ⟨rfl, m1, b1⟩
    have hl := look_step (T := 83) 2 (fv 104) Tryz.underlying83 m1 (two_2 _ _)
    have HB1 := Lib.hid b1
    clear m1 b1
    go_wp2_with fail
    refine (fixed_any 162 1 _).mono ?_
    rintro e w2 ⟨rfl, b2⟩
    have HB2 : Hid (Below w.heap.size w w2) := HB1.out.trans (b2.mono HB1.out.size)
    clear b2 hl
    go_wp2_with fail
    refine (put_any b.size _ (by omega)).mono ?_
    rintro e w3 ⟨rfl, b3⟩
    have HB3 : Hid (Below w.heap.size w w3) := HB2.out.trans (b3.mono HB2.out.size)
    clear b3
    go_wp2_with fail
    rw [hcat.out]
    refine (KS.out _).mono ?_
    rintro e w4 ⟨rfl, b4⟩
    have HB4 : Hid (Below w.heap.size w w4) := HB3.out.trans (b4.mono HB3.out.size)
    clear b4
    have hz2 := HZ.out
    go_wp2
    go_ret2
    rw [hfin.out]
    exact ⟨rfl, HB4.out⟩
set_option maxHeartbeats 2000000 in
set_option maxRecDepth 100000 in
/-- Pack of what is too long. -/
theorem packL_any (v : Int) (b : ByteArray) (w : World) (hv : v = 1 ∨ v = 2) (hb : 1048576 < b.size) :
    Calls Tryz.prog 22 #[.int .i64 v, .string b] w fun e w' => e = .returned (.tuple #[.string ⟨#[]⟩, .bool false]) ∧ Below w.heap.size w w' := by
  have hgt : (1048576 : Int) < b.size := by omega
  have KP := Lib.hid (fun (W : World) => puts_any W)
  rcases hv with rfl | rfl
  · go_enter Tryz.func22, Tryz.ntmps22
    go_wp2_with fail
    refine (KP.out _).mono ?_
    rintro e w1 ⟨rfl, m1, b1⟩
    have hl := look_step (T := 83) 1 (fv 103) Tryz.underlying83 m1 (two_1 _ _)
    have HB1 := Lib.hid b1
    clear m1 b1
    go_wp2
    go_ret2
    exact ⟨rfl, HB1.out⟩
  · go_enter Tryz.func22, Tryz.ntmps22
    go_wp2_with fail
    refine (KP.out _).mono ?_
    rintro e w1 ⟨rfl, m1, b1⟩
    have hl := look_step (T := 83) 2 (fv 104) Tryz.underlying83 m1 (two_2 _ _)
    have HB1 := Lib.hid b1
    clear m1 b1
    go_wp2
    go_ret2
    exact ⟨rfl, HB1.out⟩
set_option maxHeartbeats 2000000 in
set_option maxRecDepth 100000 in
/-- Pack of a version that there is not. -/
theorem packN_any (v : Int) (b : ByteArray) (w : World) (h1 : v ≠ 1) (h2 : v ≠ 2) :
    Calls Tryz.prog 22 #[.int .i64 v, .string b] w fun e w' => e = .returned (.tuple #[.string ⟨#[]⟩, .bool false]) ∧ Below w.heap.size w w' := by
  have KP := Lib.hid (fun (W : World) => puts_any W)
  go_enter Tryz.func22, Tryz.ntmps22
  go_wp2_with fail
  refine (KP.out _).mono ?_
  rintro e w1 ⟨rfl, m1, b1⟩
  have hl := look_none (T := 83) v Tryz.underlying83 Tryz.zeroValue81 m1 (two_n _ _ v h1 h2)
  have HB1 := Lib.hid b1
  clear m1 b1
  go_wp2
  go_ret2
  exact ⟨rfl, HB1.out⟩
theorem pk_cases (v : Int) (b : ByteArray) : ((v = 1 ∨ v = 2) ∧ b.size ≤ 1048576 ∧ pkO v b = true ∧ pkS v b = pack v b) ∨ ((v = 1 ∨ v = 2) ∧ 1048576 < b.size ∧ pkO v b = false ∧ pkS v b = ⟨#[]⟩) ∨ (v ≠ 1 ∧ v ≠ 2 ∧ pkO v b = false ∧ pkS v b = ⟨#[]⟩) := by
  have hs : pkS v b = if pkO v b then pack v b else ⟨#[]⟩ := rfl
  by_cases hv : v = 1 ∨ v = 2
  · have e : (decide (v = 1) || decide (v = 2)) = true := by rcases hv with rfl | rfl <;> rfl
    by_cases hb : b.size ≤ 1048576
    · have ho : pkO v b = true := by unfold pkO; rw [e, decide_eq_true hb]; rfl
      exact .inl ⟨hv, hb, ho, by rw [hs, if_pos ho]⟩
    · have ho : pkO v b = false := by unfold pkO; rw [decide_eq_false hb]; cases (decide (v = 1) || decide (v = 2)) <;> rfl
      exact .inr (.inl ⟨hv, by omega, ho, by rw [hs, ho]; rfl⟩)
  · have h1 : v ≠ 1 := fun h => hv (.inl h)
    have h2 : v ≠ 2 := fun h => hv (.inr h)
    have ho : pkO v b = false := by unfold pkO; rw [decide_eq_false h1, decide_eq_false h2]; rfl
    exact .inr (.inr ⟨h1, h2, ho, by rw [hs, ho]; rfl⟩)
theorem pack_any (v : Int) (b : ByteArray) (w : World) :
    Calls Tryz.prog 22 #[.int .i64 v, .string b] w fun e w' => e = .returned (.tuple #[.string (pkS v b), .bool (pkO v b)]) ∧ Below w.heap.size w w' := by
  rcases pk_cases v b with ⟨hv, hb, h1, h2⟩ | ⟨hv, hb, h1, h2⟩ | ⟨hv, hb, h1, h2⟩
  · rw [h1, h2]; exact packK_any v b w hv hb
  · rw [h1, h2]; exact packL_any v b w hv hb
  · rw [h1, h2]; exact packN_any v b w hv hb
theorem one_cell (a : Int) (w : World) : ∀ i, i < 1 → (w.alloc (.cells #[.int .u8 a] 5)).cell? ⟨w.heap.size, 0 + i, none⟩ = some (.int .u8 ([a].getD i 0))
  | 0, _ => by simp
  | k + 1, h => by omega
theorem mark_eq (v : Nat) (h : v < 256) : strOfNums [(v : Int)] = fxB v 1 := by
  have e : fxB v 1 = str (fx v 1) := fxB_eq v 1 (by omega)
  rw [e]
  show strOfNums [(v : Int)] = strOfNums [((v / 256 ^ 0 % 256 : Nat) : Int)]
  have e2 : v / 256 ^ 0 % 256 = v := by rw [Nat.pow_zero, Nat.div_one]; omega
  rw [e2]
theorem mark161 : strOfNums [(161 : Int)] = fxB 161 1 := mark_eq 161 (by omega)
theorem mark162 : strOfNums [(162 : Int)] = fxB 162 1 := mark_eq 162 (by omega)
theorem moreB_app (h b : ByteArray) : Crc.moreB 0 (h ++ b) = Crc.moreB (Crc.moreB 0 h) b := by
  unfold Crc.moreB
  rw [Crc.more_append]
  congr 1
set_option maxHeartbeats 2000000 in
set_option maxRecDepth 100000 in
theorem rpackK_any (v : Int) (b : ByteArray) (w : World) (hv : v = 1 ∨ v = 2) (hb : b.size ≤ 1048576) :
    Calls Tryz.prog 30 #[.int .i64 v, .string b] w fun e w' => e = .returned (.tuple #[.string (pack v b), .bool true]) ∧ Below w.heap.size w w' := by
  have hgt : ¬ ((1048576 : Int) < b.size) := by omega
  have hw : IntKind.u64.wrap (b.size : Int) = b.size := by rw [IntKind.wrap_u64]; omega
  have hz := hdF_size v b.size (by omega)
  have hfx := fx_small (hdF v b.size) b 0 hz hb
  have hs := seal_size (hdF v b.size) b
  have KX := Lib.hid (fun (W : World) => rfixed_any b.size 4 W (by omega))
  have KY := Lib.hid (fun (W : World) => rput_any b.size W (by omega))
  rcases hv with rfl | rfl
  · have h1 : (fxB 161 1).size = 1 := fxB_size 161 1 (by omega)
    have h2 : (fxB b.size 4).size = 4 := fxB_size b.size 4 (by omega)
    obtain ⟨H, hH⟩ : ∃ H, H = hdF 1 b.size := ⟨_, rfl⟩
    have hcat : Hid (fxB 161 1 ++ fxB b.size 4 = H) := hH.symm
    have hfin : Hid (H ++ sealB H b ++ b = pack 1 b) := by show _ = _; rw [hH]; rfl
    rw [← hH] at hfx hz hs
    have hsum := Crc.moreB_lt 0 (H ++ b)
    have hw2 : IntKind.u64.wrap ((Crc.moreB 0 (H ++ b) : Nat) : Int) = ((Crc.moreB 0 (H ++ b) : Nat) : Int) := by rw [IntKind.wrap_u64]; omega
    have hsl : Hid (fxB (Crc.moreB 0 (H ++ b)) 4 = sealB H b) := by show _ = _; rw [moreB_app]; rfl
    have KS := Lib.hid (fun (W : World) => rsum_any (H ++ b) W (by unfold maxLen; rw [ByteArray.size_append]; omega))
    have hhb : H.size + b.size ≤ 9223372036854775807 := by omega
    have HZ := Lib.hid hz
    have hcv : ∀ W : World, (convert 62 9 (.slice (some ⟨W.heap.size, 0, none⟩) 1 1)).run Tryz.prog (W.alloc (.cells #[.int .u8 161] 5)) = .ok (.string (fxB 161 1)) (W.alloc (.cells #[.int .u8 161] 5)) := fun W => by
      have h := run_convert_bytes_arg (P := Tryz.prog) (W.alloc (.cells #[.int .u8 161] 5)) 62 5 Tryz.underlying62 Tryz.underlying5 W.heap.size 0 1 1 [161] rfl (one_cell 161 W) 9 Tryz.underlying9
      rw [mark161] at h
      exact h
    clear hH hz
    go_enter Tryz.func30, Tryz.ntmps30
    go_wp2_with fail
    refine (KX.out _).mono ?_
    rintro e w1 ⟨rfl, b1⟩
    have HB1 := Lib.hid b1
    clear b1
    have hcv1 := hcv w1
    go_wp2_with fail
    rw [hcat.out]
    refine (KS.out _).mono ?_
    rintro e w2 ⟨rfl, rfl⟩
    have KF := Lib.hid (fun (W : World) => rfixed_any (Crc.moreB 0 (H ++ b)) 4 W (by omega))
    have hz2 := HZ.out
    go_wp2_with fail
    refine (KF.out _).mono ?_
    rintro e w3 ⟨rfl, b3⟩
    rw [hsl.out]
    have HB3 : Hid (Below w.heap.size w w3) := (HB1.out.alloc HB1.out.size _).trans (b3.mono (by have := HB1.out.size; simp; omega))
    clear b3
    go_wp2
    go_ret2
    rw [hfin.out]
    exact ⟨rfl, HB3.out⟩
  · have h1 : (fxB 162 1).size = 1 := fxB_size 162 1 (by omega)
    have h2 := _root_.Go.Proofs.YtpdbeijfchmlgaaGreat.putB_size b.size (by omega)
    obtain ⟨H, hH⟩ : ∃ H, H = hdF 2 b.size := ⟨_, rfl⟩
    have hcat : Hid (fxB 162 1 ++ putB b.size = H) := hH.symm
    have hfin : Hid (H ++ sealB H b ++ b = pack 2 b) := by show _ = _; rw [hH]; rfl
    rw [← hH] at hfx hz hs
    have hsum := Crc.moreB_lt 0 (H ++ b)
    have hw2 : IntKind.u64.wrap ((Crc.moreB 0 (H ++ b) : Nat) : Int) = ((Crc.moreB 0 (H ++ b) : Nat) : Int) := by rw [IntKind.wrap_u64]; omega
    have hsl : Hid (fxB (Crc.moreB 0 (H ++ b)) 4 = sealB H b) := by show _ = _; rw [moreB_app]; rfl
    have KS := Lib.hid (fun (W : World) => rsum_any (H ++ b) W (by unfold maxLen; rw [ByteArray.size_append]; omega))
    have hhb : H.size + b.size ≤ 9223372036854775807 := by omega
    have HZ := Lib.hid hz
    have hcv : ∀ W : World, (convert 62 9 (.slice (some ⟨W.heap.size, 0, none⟩) 1 1)).run Tryz.prog (W.alloc (.cells #[.int .u8 162] 5)) = .ok (.string (fxB 162 1)) (W.alloc (.cells #[.int .u8 162] 5)) := fun W => by
      have h := run_convert_bytes_arg (P := Tryz.prog) (W.alloc (.cells #[.int .u8 162] 5)) 62 5 Tryz.underlying62 Tryz.underlying5 W.heap.size 0 1 1 [162] rfl (one_cell 162 W) 9 Tryz.underlying9
      rw [mark162] at h
      exact h
    clear hH hz
    go_enter Tryz.func30, Tryz.ntmps30
    go_wp2_with fail
    refine (KX.out _).mono ?_
    rintro e w1 ⟨rfl, b1⟩
    have HB1 := Lib.hid b1
    clear b1
    go_wp2_with fail
    refine (KY.out _).mono ?_
    rintro e w2 ⟨rfl, b2⟩
    have HB2 : Hid (Below w.heap.size w w2) := HB1.out.trans (b2.mono HB1.out.size)
    clear b2
    have hcv1 := hcv w2
    go_wp2_with fail
    rw [hcat.out]
    refine (KS.out _).mono ?_
    rintro e w4 ⟨rfl, rfl⟩
    have KF := Lib.hid (fun (W : World) => rfixed_any (Crc.moreB 0 (H ++ b)) 4 W (by omega))
    have hz2 := HZ.out
    go_wp2_with fail
    refine (KF.out _).mono ?_
    rintro e w3 ⟨rfl, b3⟩
    rw [hsl.out]
    have HB3 : Hid (Below w.heap.size w w3) := (HB2.out.alloc HB2.out.size _).trans (b3.mono (by have := HB2.out.size; simp; omega))
    clear b3
    go_wp2
    go_ret2
    rw [hfin.out]
    exact ⟨rfl, HB3.out⟩
set_option maxHeartbeats 2000000 in
set_option maxRecDepth 100000 in
theorem rpackN_any (v : Int) (b : ByteArray) (w : World) (h : (v = 1 ∨ v = 2) ∧ 1048576 < b.size ∨ v ≠ 1 ∧ v ≠ 2) :
    Calls Tryz.prog 30 #[.int .i64 v, .string b] w fun e w' => e = .returned (.tuple #[.string ⟨#[]⟩, .bool false]) ∧ Below w.heap.size w w' := by
  rcases h with ⟨rfl | rfl, hb⟩ | ⟨h1, h2⟩
  · have hgt : (1048576 : Int) < b.size := by omega
    go_enter Tryz.func30, Tryz.ntmps30
    go_wp2
    go_ret2
    exact ⟨rfl, Below.refl _ _⟩
  · have hgt : (1048576 : Int) < b.size := by omega
    go_enter Tryz.func30, Tryz.ntmps30
    go_wp2
    go_ret2
    exact ⟨rfl, Below.refl _ _⟩
  · go_enter Tryz.func30, Tryz.ntmps30
    go_wp2
    go_ret2
    exact ⟨rfl, Below.refl _ _⟩
theorem rpack_any (v : Int) (b : ByteArray) (w : World) :
    Calls Tryz.prog 30 #[.int .i64 v, .string b] w fun e w' => e = .returned (.tuple #[.string (pkS v b), .bool (pkO v b)]) ∧ Below w.heap.size w w' := by
  rcases pk_cases v b with ⟨hv, hb, h1, h2⟩ | ⟨hv, hb, h1, h2⟩ | ⟨hv, hb, h1, h2⟩
  · rw [h1, h2]; exact rpackK_any v b w hv hb
  · rw [h1, h2]; exact rpackN_any v b w (.inl ⟨hv, hb⟩)
  · rw [h1, h2]; exact rpackN_any v b w (.inr ⟨hv, hb⟩)
end Go.Proofs.YtpdbeijfchmlgaaGreat
