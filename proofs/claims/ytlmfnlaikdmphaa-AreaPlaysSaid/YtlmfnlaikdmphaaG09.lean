/-
  Texts of the layer below and of this one: ShelfR, WShelf, AB, AP, AR, AE.
  Conditions: named in each theorem.
-/
import Derived.Shelf.Strings.Repeat
import Derived.Test.YtlmfnlaikdmphaaG01
import Derived.Test.YtlmfnlaikdmphaaG04
import Derived.Test.YtlmfnlaikdmphaaG06
import Derived.Test.YtlmfnlaikdmphaaG07
import Derived.Test.YtlmfnlaikdmphaaG08
import Derived.Deep.RegionHeld3
import Derived.BigQuiet
import Derived.Deep.QuietTactic
namespace Go.Proofs
open Go.Shelf
def Try.lays105_ren : Go.Shelf.Ren := ⟨fun | 105 => 52 | 212 => 88 | 99 => 89 | 165 => 66 | 166 => 63 | 170 => 90 | 169 => 64 | 263 => 103 | 264 => 104 | 206 => 105 | 240 => 91 | 241 => 92 | 276 => 106 | 277 => 107 | n => n, fun | 9 => 9 | 3 => 3 | 4 => 4 | 20 => 20 | 0 => 0 | 46 => 26 | 109 => 132 | 5 => 5 | 72 => 112 | 76 => 115 | 51 => 126 | 146 => 141 | 53 => 22 | 148 => 143 | 70 => 110 | 37 => 75 | 75 => 114 | 127 => 135 | 164 => 145 | 80 => 60 | n => n, fun | n => n⟩
theorem Try.lays105 : Go.Proofs.Lays.n105 Try.prog Try.lays105_ren := {
  mixed := by kernel_rfl
  f99 := Try.func89.trans (congrArg some (by kernel_rfl))
  f105 := Try.func52.trans (congrArg some (by kernel_rfl))
  f165 := Try.func66.trans (congrArg some (by kernel_rfl))
  f166 := Try.func63.trans (congrArg some (by kernel_rfl))
  f169 := Try.func64.trans (congrArg some (by kernel_rfl))
  f170 := Try.func90.trans (congrArg some (by kernel_rfl))
  f206 := Try.func105.trans (congrArg some (by kernel_rfl))
  f212 := Try.func88.trans (congrArg some (by kernel_rfl))
  f240 := Try.func91.trans (congrArg some (by kernel_rfl))
  f241 := Try.func92.trans (congrArg some (by kernel_rfl))
  f263 := Try.func103.trans (congrArg some (by kernel_rfl))
  f264 := Try.func104.trans (congrArg some (by kernel_rfl))
  f276 := Try.func106.trans (congrArg some (by kernel_rfl))
  f277 := Try.func107.trans (congrArg some (by kernel_rfl))
  t0 := Try.underlying0
  a0 := Try.isAgg0
  z0 := Try.sizeOf0
  v0 := Try.zeroValue0
  t3 := Try.underlying3
  a3 := Try.isAgg3
  z3 := Try.sizeOf3
  v3 := Try.zeroValue3
  t4 := Try.underlying4
  a4 := Try.isAgg4
  z4 := Try.sizeOf4
  v4 := Try.zeroValue4
  t5 := Try.underlying5
  a5 := Try.isAgg5
  z5 := Try.sizeOf5
  v5 := Try.zeroValue5
  t9 := Try.underlying9
  a9 := Try.isAgg9
  z9 := Try.sizeOf9
  v9 := Try.zeroValue9
  t20 := Try.underlying20
  a20 := Try.isAgg20
  z20 := Try.sizeOf20
  v20 := Try.zeroValue20
  t37 := Try.underlying75
  a37 := Try.isAgg75
  z37 := Try.sizeOf75
  v37 := Try.zeroValue75
  t46 := Try.underlying26
  a46 := Try.isAgg26
  z46 := Try.sizeOf26
  v46 := Try.zeroValue26
  t51 := Try.underlying126
  a51 := Try.isAgg126
  z51 := Try.sizeOf126
  v51 := Try.zeroValue126
  t53 := Try.underlying22
  a53 := Try.isAgg22
  z53 := Try.sizeOf22
  v53 := Try.zeroValue22
  t70 := Try.underlying110
  a70 := Try.isAgg110
  z70 := Try.sizeOf110
  v70 := Try.zeroValue110
  t72 := Try.underlying112
  a72 := Try.isAgg112
  z72 := Try.sizeOf112
  v72 := Try.zeroValue112
  t75 := Try.underlying114
  a75 := Try.isAgg114
  z75 := Try.sizeOf114
  v75 := Try.zeroValue114
  t76 := Try.underlying115
  a76 := Try.isAgg115
  z76 := Try.sizeOf115
  v76 := Try.zeroValue115
  t109 := Try.underlying132
  a109 := Try.isAgg132
  z109 := Try.sizeOf132
  v109 := Try.zeroValue132
  t127 := Try.underlying135
  a127 := Try.isAgg135
  z127 := Try.sizeOf135
  v127 := Try.zeroValue135
  t146 := Try.underlying141
  a146 := Try.isAgg141
  z146 := Try.sizeOf141
  v146 := Try.zeroValue141
  t148 := Try.underlying143
  a148 := Try.isAgg143
  z148 := Try.sizeOf143
  v148 := Try.zeroValue143
  t164 := Try.underlying145
  a164 := Try.isAgg145
  z164 := Try.sizeOf145
  v164 := Try.zeroValue145 }
theorem Try.Builder_Extra_105 : Builder.Extra Try.prog Try.lays105_ren := {
  sizeBuilder := by kernel_rfl
  liesBuilder := by kernel_rfl
  t5 := Try.underlying5
  a5 := Try.isAgg5
  z5 := Try.sizeOf5
  v5 := Try.zeroValue5
  infoByte := by kernel_rfl
  cellsByte := by kernel_rfl
  sizeByte := by kernel_rfl
  neB5 := by decide }
open Go.RowKit Go.Lib in
theorem Try.strings_Repeat (s : ByteArray) (c : Nat) (w : World) (hc : c ≤ 9223372036854775807) (hlen : s.size * c ≤ 140737488355328) :
    Calls Try.prog 52 #[.string s, .int .i64 c] w fun e w' => e = .returned (.string ⟨(Lib.repeatL s.data.toList c).toArray⟩) ∧ Below w.heap.size w w' := Any.strings_Repeat Try.lays105 Try.Builder_Extra_105 s c w hc hlen
end Go.Proofs
namespace Go.Proofs
open Go.Shelf
def Try.lays166_ren : Go.Shelf.Ren := ⟨fun | 166 => 63 | 240 => 91 | 276 => 106 | n => n, fun | 70 => 110 | 3 => 3 | 0 => 0 | 4 => 4 | 9 => 9 | 20 => 20 | 72 => 112 | 37 => 75 | 164 => 145 | 5 => 5 | 75 => 114 | 80 => 60 | n => n, fun | n => n⟩
theorem Try.lays166 : Go.Proofs.Lays.n166 Try.prog Try.lays166_ren := {
  mixed := by kernel_rfl
  f166 := Try.func63.trans (congrArg some (by kernel_rfl))
  f240 := Try.func91.trans (congrArg some (by kernel_rfl))
  f276 := Try.func106.trans (congrArg some (by kernel_rfl))
  t0 := Try.underlying0
  a0 := Try.isAgg0
  z0 := Try.sizeOf0
  v0 := Try.zeroValue0
  t3 := Try.underlying3
  a3 := Try.isAgg3
  z3 := Try.sizeOf3
  v3 := Try.zeroValue3
  t4 := Try.underlying4
  a4 := Try.isAgg4
  z4 := Try.sizeOf4
  v4 := Try.zeroValue4
  t9 := Try.underlying9
  a9 := Try.isAgg9
  z9 := Try.sizeOf9
  v9 := Try.zeroValue9
  t20 := Try.underlying20
  a20 := Try.isAgg20
  z20 := Try.sizeOf20
  v20 := Try.zeroValue20
  t37 := Try.underlying75
  a37 := Try.isAgg75
  z37 := Try.sizeOf75
  v37 := Try.zeroValue75
  t70 := Try.underlying110
  a70 := Try.isAgg110
  z70 := Try.sizeOf110
  v70 := Try.zeroValue110
  t72 := Try.underlying112
  a72 := Try.isAgg112
  z72 := Try.sizeOf112
  v72 := Try.zeroValue112
  t75 := Try.underlying114
  a75 := Try.isAgg114
  z75 := Try.sizeOf114
  v75 := Try.zeroValue114
  t164 := Try.underlying145
  a164 := Try.isAgg145
  z164 := Try.sizeOf145
  v164 := Try.zeroValue145 }
theorem Try.Builder_Extra_166 : Builder.Extra Try.prog Try.lays166_ren := {
  sizeBuilder := by kernel_rfl
  liesBuilder := by kernel_rfl
  t5 := Try.underlying5
  a5 := Try.isAgg5
  z5 := Try.sizeOf5
  v5 := Try.zeroValue5
  infoByte := by kernel_rfl
  cellsByte := by kernel_rfl
  sizeByte := by kernel_rfl
  neB5 := by decide }
open Go.RowKit in
theorem Try.Builder_WriteString (B b : Nat) (bs : List Value) (s : ByteArray) (w : World) (h : Lib.IsBuilder 112 5 B b bs w) (hlen : bs.length + s.size ≤ 140737488355328) (hBw : B ≤ w.heap.size) :
    Calls Try.prog 63 #[.pointer (some ⟨b, 0, none⟩), .string s] w fun e w' => e = .returned (.tuple #[.int .i64 s.size, .nilIface]) ∧ (Lib.BuilderAt 112 5 B b (.pointer (some ⟨b, 0, none⟩)) (bs ++ Lib.strCells s) w' ∧ Below B w w') :=
  Any.Builder_WriteString Try.lays166 Try.Builder_Extra_166 B b bs s w h hlen hBw
end Go.Proofs
namespace Go.Proofs.Ytlmfnlaikdmphaa
open Go.RowKit Vi Dk
set_option linter.unusedVariables false
set_option linter.unusedSimpArgs false
theorem beqF {a b : Int} (h : a ≠ b) : (a == b) = false := by simpa using h
theorem strCells_app (x s : ByteArray) : Lib.strCells x ++ Lib.strCells s = Lib.strCells (x ++ s) := by
  unfold Lib.strCells
  simp
def zer (n : Nat) : ByteArray := ⟨(List.replicate n (0 : UInt8)).toArray⟩
theorem zer_size (n : Nat) : (zer n).size = n := by
  show (List.replicate n (0 : UInt8)).toArray.size = n
  simp
theorem zer_rep (n : Nat) : (⟨(Lib.repeatL (⟨#[0]⟩ : ByteArray).data.toList n).toArray⟩ : ByteArray) = zer n := by
  unfold zer
  congr 2
  induction n with
  | zero => rfl
  | succ n ih =>
    rw [List.replicate_succ, ← ih]
    rfl
def Sb (B b : Nat) (s : ByteArray) (w : World) : Prop := Lib.IsBuilder 112 5 B b (Lib.strCells s) w
theorem wstr_any (B b : Nat) (x s : ByteArray) (w : World) (h : Sb B b x w) (hlen : x.size + s.size ≤ 140737488355328) (hBw : B ≤ w.heap.size) :
    Calls Try.prog 63 #[.pointer (some ⟨b, 0, none⟩), .string s] w fun e w' => e = .returned (.tuple #[.int .i64 s.size, .nilIface]) ∧ Sb B b (x ++ s) w' ∧ Below B w w' := by
  refine (Try.Builder_WriteString B b _ s w h (by rw [Lib.strCells_length]; exact hlen) hBw).mono ?_
  rintro e w' ⟨rfl, h1, h2⟩
  refine ⟨rfl, .inr ?_, h2⟩
  rw [← strCells_app]
  exact h1
theorem bstr_any (B b : Nat) (x : ByteArray) (w : World) (h : Sb B b x w) (hBw : B ≤ w.heap.size) :
    Calls Try.prog 64 #[.pointer (some ⟨b, 0, none⟩)] w fun e w' => e = .returned (.string x) ∧ Below B w w' := by
  have h1 := Try.Builder_String_any B b x.data.toList w (by rw [← show Lib.strCells x = Lib.byteCells x.data.toList from rfl]; exact h) hBw
  exact h1
theorem Sb.below {B b : Nat} {s : ByteArray} {w w' : World} (h : Sb B b s w) (hb : Below w.heap.size w w') : Sb B b s w' := isBuilder_below h hb
theorem nOk_pos {t : ByteArray} (h : nOk t = true) : 0 < (nxN t).toNat ∧ ((nxN t).toNat : Int) = nxN t ∧ (nxN t).toNat ≤ t.size := by
  obtain ⟨_, e2, e3⟩ := nx_yes h
  have h2 := nxN_eq h
  have h3 : 0 < (pack (nV t) (nBd t)).size := by
    unfold pack
    rw [ByteArray.size_append, ByteArray.size_append, seal_size]
    omega
  have h4 := (nOk_sound h).2.1
  have h5 : t.size = (pack (nV t) (nBd t)).size + (nW t).size := by
    have := congrArg ByteArray.size h4
    rw [ByteArray.size_append] at this
    exact this
  omega
theorem nOk_nil {t : ByteArray} (h : t.size = 0) : nOk t = false := by
  cases hk : nOk t with
  | false => rfl
  | true => have := nOk_pos hk; omega
theorem app_nil (s : ByteArray) : s ++ (⟨#[]⟩ : ByteArray) = s := by apply ByteArray.ext; simp
theorem dsec_any (g : Nat) (L : List Nat) (d : St) (w : World) (h : Dv w g L d) : Calls Try.prog 87 #[ptr g] w fun e w' => e = .returned (.int .i64 d.n) ∧ w = w' := by
  obtain ⟨ho, fb, mb, cap, rfl, h⟩ := h
  have c0 := h.c0
  clear h
  unfold ptr
  go_enter Try.func87, Try.ntmps87
  go_wp2
  go_ret
  exact ⟨rfl, rfl⟩
def zz (n : Nat) : ByteArray := txt (zeros n)
theorem txt_cut (l : List UInt8) (a b : Nat) (hb : b = min (a + 64) l.length) : (txt l).extract a b = txt ((l.drop a).take 64) := by
  apply ByteArray.ext
  apply Array.toList_inj.1
  rw [ByteArray.data_extract, Array.toList_extract, txt_list, txt_list, List.extract_eq_take_drop]
  rw [List.take_eq_take_iff, List.length_drop]
  omega
def wrL (first : Nat) (l : List UInt8) : Nat → Nat → St → St × Int
  | 0, _, d => (d, 0)
  | r + 1, k, d => if (d.write ((first + k : Nat) : Int) ((l.drop (k * 64)).take 64)).2 = 0 then wrL first l r (k + 1) (d.write ((first + k : Nat) : Int) ((l.drop (k * 64)).take 64)).1 else d.write ((first + k : Nat) : Int) ((l.drop (k * 64)).take 64)
def wrS (d : St) (first : Nat) (l : List UInt8) : St × Int := wrL first l ((l.length + 63) / 64) 0 d
theorem txt_app (a : List UInt8) (s : ByteArray) : txt a ++ s = txt (a ++ s.data.toList) := by
  apply ByteArray.ext
  apply Array.toList_inj.1
  rw [ByteArray.data_append, Array.toList_append, txt_list, txt_list]
structure Alv (d : St) (n : Nat) : Prop where
  n : d.n = n
  l : d.left = -1
  x : d.dead = false
theorem Alv.fresh (n : Nat) (F : Nat → Sec) : Alv (St.fresh n F) n := ⟨rfl, rfl, rfl⟩
theorem Alv.refuses {d : St} {n : Nat} (h : Alv d n) {i : Nat} (hi : i < n) : d.refuses (i : Int) = 0 := by
  unfold St.refuses
  rw [h.x, h.n]
  simp
  omega
theorem Alv.write {d : St} {n : Nat} (h : Alv d n) {i : Nat} (hi : i < n) (s : List UInt8) (hs : s.length ≤ 64) : d.write (i : Int) s = (d.step.put i (pad s), 0) ∧ Alv (d.step.put i (pad s)) n := by
  have hl : d.step.left = -1 := by show (if 0 < d.left then d.left - 1 else d.left) = -1; rw [h.l]; rfl
  refine ⟨?_, ⟨h.n, hl, h.x⟩⟩
  unfold St.write St.try_
  rw [h.refuses hi, if_neg (by simp), if_neg (by omega), if_neg (by rw [h.l]; decide), if_neg (by rw [h.x]; decide), Int.toNat_natCast]
theorem wrL_ok (first : Nat) (l : List UInt8) (n : Nat) : ∀ (r k : Nat) (d : St), Alv d n → first + k + r ≤ n → (wrL first l r k d).2 = 0 ∧ Alv (wrL first l r k d).1 n
  | 0, k, d, h, _ => ⟨rfl, h⟩
  | r + 1, k, d, h, hk => by
    obtain ⟨h1, h2⟩ := h.write (i := first + k) (by omega) ((l.drop (k * 64)).take 64) (by rw [List.length_take]; omega)
    have ih := wrL_ok first l n r (k + 1) _ h2 (by omega)
    have e : wrL first l (r + 1) k d = wrL first l r (k + 1) (d.step.put (first + k) (pad ((l.drop (k * 64)).take 64))) := by
      rw [wrL, h1, if_pos rfl]
    rw [e]
    exact ih
theorem zz_list (n : Nat) : (zz n).data.toList = List.replicate n 0 := by
  unfold zz
  rw [txt_list]
  rfl
theorem catS_len (F : Nat → Sec) (h : ∀ i, (F i).length = 64) : ∀ k, (catS F k).length = k * 64
  | 0 => rfl
  | k + 1 => by rw [catS, List.length_append, catS_len F h k, h]; omega
def sx (T : List UInt8) (i : Nat) : Sec := pad ((T.drop (i * 64)).take 64)
theorem put_now (d : St) (i j : Nat) (s : Sec) : (d.step.put i s).now j = if j = i then s else d.now j := by
  unfold St.put St.now
  by_cases h : j = i
  · simp [h]
  · simp only [h, if_false]
    rfl
theorem wrL_now (first : Nat) (l : List UInt8) (n : Nat) : ∀ (r k : Nat) (d : St), Alv d n → first + k + r ≤ n → ∀ j, (wrL first l r k d).1.now j = if first + k ≤ j ∧ j < first + k + r then sx l (j - first) else d.now j
  | 0, k, d, h, _, j => by rw [if_neg (by omega)]; rfl
  | r + 1, k, d, h, hk, j => by
    obtain ⟨h1, h2⟩ := h.write (i := first + k) (by omega) ((l.drop (k * 64)).take 64) (by rw [List.length_take]; omega)
    have ih := wrL_now first l n r (k + 1) _ h2 (by omega) j
    have e : wrL first l (r + 1) k d = wrL first l r (k + 1) (d.step.put (first + k) (pad ((l.drop (k * 64)).take 64))) := by
      rw [wrL, h1, if_pos rfl]
    rw [e, ih, put_now]
    by_cases hj : j = first + k
    · rw [if_neg (by omega), if_pos hj, if_pos (by omega)]
      unfold sx
      rw [show j - first = k by omega]
    · rw [if_neg hj]
      by_cases h3 : first + (k + 1) ≤ j ∧ j < first + (k + 1) + r
      · rw [if_pos h3, if_pos (by omega)]
      · rw [if_neg h3, if_neg (by omega)]
theorem sx_far {T : List UInt8} {i : Nat} (h : T.length ≤ i * 64) : sx T i = zsec := by
  unfold sx pad zsec
  rw [List.drop_eq_nil_of_le h]
  rfl
theorem cat_sx (F : Nat → Sec) (T : List UInt8) : ∀ m, (∀ i, i < m → F i = sx T i) → catS F m = (T ++ List.replicate (m * 64 - T.length) 0).take (m * 64)
  | 0, _ => by simp [catS]
  | m + 1, h => by
    have ih := cat_sx F T m fun i hi => h i (by omega)
    rw [catS, ih, h m (by omega)]
    have e0 : (T ++ List.replicate (m * 64 - T.length) (0 : UInt8)).take (m * 64) = (T ++ List.replicate ((m + 1) * 64 - T.length) 0).take (m * 64) := by
      by_cases h1 : m * 64 ≤ T.length
      · rw [List.take_append_of_le_length h1, List.take_append_of_le_length h1]
      · rw [List.take_append, List.take_append, List.take_replicate, List.take_replicate]
        congr 2
        omega
    rw [e0, show (m + 1) * 64 = m * 64 + 64 by omega, List.take_add]
    congr 1
    unfold sx pad
    by_cases h1 : T.length ≤ m * 64
    · rw [List.drop_eq_nil_of_le h1, List.drop_append, List.drop_eq_nil_of_le h1, List.drop_replicate, List.nil_append, List.take_replicate]
      show List.replicate 64 (0 : UInt8) = _
      congr 1
      omega
    · rw [List.drop_append_of_le_length (by omega), List.take_append, List.take_replicate, List.length_take, List.length_drop]
      congr 2
      omega
theorem flush_now {d : St} {n : Nat} (h : Alv d n) : d.flush.2 = 0 ∧ Alv d.flush.1 n ∧ ∀ j, d.flush.1.now j = d.now j := by
  have hl : d.step.left = -1 := by show (if 0 < d.left then d.left - 1 else d.left) = -1; rw [h.l]; rfl
  have e : d.flush = (d.step.settle, 0) := by
    unfold St.flush St.try_
    rw [if_neg (by rw [h.l]; decide), if_neg (by rw [h.x]; decide)]
  rw [e]
  exact ⟨rfl, ⟨h.n, hl, h.x⟩, fun j => rfl⟩
theorem nOk_zz (n : Nat) : nOk (zz n) = false := by
  cases n with
  | zero => exact nOk_nil rfl
  | succ n =>
    have hf : Vi.fixV (zz (n + 1)) 1 = 0 := by
      unfold Vi.fixV
      split
      · have hn : Vi.nums (zz (n + 1)) = 0 :: Vi.nums (zz n) := by
          unfold Vi.nums
          rw [zz_list, zz_list]
          rfl
        rw [hn]
        rfl
      · rfl
    unfold nOk nV
    rw [hf]
    rfl
end Go.Proofs.Ytlmfnlaikdmphaa
namespace Go.Proofs.Ytlmfnlaikdmphaa
open Go.RowKit Vi Dk
set_option linter.unusedVariables false
set_option linter.unusedSimpArgs false
set_option maxHeartbeats 1000000 in
set_option maxRecDepth 100000 in
theorem aputs_any (w : World) :
    Calls Try.prog 34 #[] w fun r w' => r = .returned (.map (some w.heap.size)) ∧ w'.heap[w.heap.size]? = some (.map (two (fv 73) (fv 75)) 2) ∧ Below w.heap.size w w' := by
  have hmm := @run_makeMap Try.prog
  obtain ⟨w1, e1, h1, b1, _, _⟩ := ins_step (T := 71) 1 (fv 73) Try.underlying71 (heap_alloc_new w (.map #[] 0)) rfl ((Below.refl _ _).alloc (Nat.le_refl _) _) (Nat.le_refl _)
  obtain ⟨w2, e2, h2, b2, _, _⟩ := ins_step (T := 71) 2 (fv 75) Try.underlying71 h1 rfl b1 (Nat.le_refl _)
  have H2 : Hid (w2.heap[w.heap.size]? = some (.map (two (fv 73) (fv 75)) 2)) := h2
  have B2 := Lib.hid b2
  clear h1 h2 b1 b2
  go_enter Try.func34, Try.ntmps34
  go_wp2
  go_ret
  exact ⟨rfl, H2.out, B2.out⟩
theorem long_any (n : Nat) (w : World) : Calls Try.prog 73 #[.int .u64 n] w fun e w' => e = .returned (.string (fxB n 8)) ∧ Below w.heap.size w w' := by
  go_enter Try.func73, Try.ntmps73
  go_wp2_with fail
  refine (fixed_any n 8 _).mono ?_
  rintro e w1 ⟨rfl, b1⟩
  go_wp2
  go_ret
  exact ⟨rfl, b1⟩
theorem sn_cells {w : World} {b T : Nat} {s : Sn} (h : w.heap[b]? = some (.cells s.c T (0, 0))) : w.cell? ⟨b, 0, none⟩ = some (.int .u64 s.ix) ∧ w.cell? ⟨b, 1, none⟩ = some (.int .u64 s.tm) ∧ w.cell? ⟨b, 2, none⟩ = some (.string s.da) :=
  ⟨cell_of_row _ _ 0 _ T (0, 0) h, cell_of_row _ _ 1 _ T (0, 0) h, cell_of_row _ _ 2 _ T (0, 0) h⟩
theorem sn_no {v : Int} {s : Sn} (h : snO v s = false) : snS v s = ⟨#[]⟩ := by unfold snS; rw [h]; rfl
set_option maxHeartbeats 4000000 in
set_option maxRecDepth 100000 in
theorem aput_any (v : Int) (s : Sn) (w : World) (ok : s.Ok) :
    Calls Try.prog 9 #[.int .i64 v, s.v] w fun e w' => e = .returned (.tuple #[.string (snS v s), .bool (snO v s)]) ∧ Below w.heap.size w w' := by
  obtain ⟨W, hW⟩ : ∃ W, W = w.alloc (.cells s.c 24) := ⟨_, rfl⟩
  have hB : Below w.heap.size w W := by rw [hW]; exact (Below.refl _ w).alloc (Nat.le_refl _) _
  have hc : W.heap[w.heap.size]? = some (.cells s.c 24 (0, 0)) := by rw [hW]; exact heap_alloc_new w _
  have KP := Lib.hid (aputs_any W)
  have HB := Lib.hid hB
  have HC := Lib.hid hc
  have HW := Lib.hid hW
  have hi := ok.i
  have ht := ok.t
  have hbz := snB_size v s ok
  by_cases hv : v = 1 ∨ v = 2
  · by_cases hd : s.da.size ≤ 16384
    · have hO : snO v s = true := snO_iff.2 ⟨hv, hd⟩
      have hS : snS v s = pack v (snB v s) := by unfold snS; rw [if_pos hO]
      have KK := Lib.hid (fun (W : World) => packK_any v (snB v s) W hv (by omega))
      have HBE : Hid (snB v s = (if v = 1 then fxB s.ix 8 ++ fxB s.tm 8 ++ s.da else putB s.ix ++ putB s.tm ++ s.da)) := rfl
      rw [hO, hS]
      generalize pack v (snB v s) = Q at *
      generalize snB v s = X at *
      have K1 := Lib.hid (fun (W : World) => long_any s.ix W)
      have K2 := Lib.hid (fun (W : World) => long_any s.tm W)
      have K3 := Lib.hid (fun (W : World) => put_any s.ix W hi)
      have K4 := Lib.hid (fun (W : World) => put_any s.tm W ht)
      have z1 : (fxB s.ix 8).size = 8 := fxB_size s.ix 8 (by omega)
      have z2 : (fxB s.tm 8).size = 8 := fxB_size s.tm 8 (by omega)
      have z3 := putB_10 s.ix hi
      have z4 := putB_10 s.tm ht
      have KC : Hid (∀ W', Below W.heap.size W W' → W'.cell? ⟨w.heap.size, 0, none⟩ = some (.int .u64 s.ix) ∧ W'.cell? ⟨w.heap.size, 1, none⟩ = some (.int .u64 s.tm) ∧ W'.cell? ⟨w.heap.size, 2, none⟩ = some (.string s.da)) := fun W' hb => sn_cells ((hb.block _ (Array.getElem?_eq_some_iff.1 HC.out).1).trans HC.out)
      obtain ⟨c0, c1, c2⟩ := KC.out W (Below.refl _ _)
      have hdn : ¬ (16384 : Int) < s.da.size := by omega
      generalize fxB s.ix 8 = A1 at *
      generalize fxB s.tm 8 = A2 at *
      generalize putB s.ix = B1 at *
      generalize putB s.tm = B2 at *
      unfold Sn.c at HW
      obtain ⟨ix, tm, D⟩ := s
      dsimp only at *
      clear hc hB hW hO hS hbz hi ht ok
      rcases hv with rfl | rfl
      · have hX : X = A1 ++ A2 ++ D := HBE.out
        subst hX
        have hs1 : ¬ 9223372036854775807 < A1.size + A2.size := by omega
        have hs2 : ¬ 9223372036854775807 < A1.size + A2.size + D.size := by omega
        clear HBE z1 z2 z3 z4
        go_enter Try.func9, Try.ntmps9
        go_upto_region 1 with fail
        refine wp_at (w := W) HW.out.symm ?_
        go_upto_region 2 with (go_at_call 34; (with_reducible refine KP.out.mono ?_); rintro q w1 ⟨rfl, m1, b1⟩; have hl := look_step (T := 71) 1 (fv 73) Try.underlying71 m1 (two_1 _ _); have HB1 := Lib.hid b1; clear m1 b1)
        obtain ⟨d0, d1, d2⟩ := KC.out _ HB1.out
        clear c0 c1 c2 hl
        go_upto_region 4 with fail
        have PB := HB1.out.drew
        obtain ⟨d0, d1, d2⟩ := KC.out _ PB
        go_region_held3 (fun w' => w'.cell? ⟨w.heap.size, 0, none⟩ = some (.int .u64 ix) ∧ w'.cell? ⟨w.heap.size, 1, none⟩ = some (.int .u64 tm) ∧ w'.cell? ⟨w.heap.size, 2, none⟩ = some (.string D)) (first | exact ⟨d0, d1, d2⟩ | exact KC.out _ (by assumption)) (first
          | (go_at_call 73; (with_reducible refine (K1.out _).mono ?_); rintro q w2 ⟨rfl, b2⟩; have Q2 : Below W.heap.size W w2 := PB.trans (b2.mono PB.size))
          | (go_at_call 73; (with_reducible refine (K2.out _).mono ?_); rintro q w3 ⟨rfl, b3⟩; have Q3 : Below W.heap.size W w3 := Q2.trans (b3.mono Q2.size))
          | (go_at_call 35; (with_reducible refine (KK.out _).mono ?_); rintro q w4 ⟨rfl, b4⟩; have Q4 : Below W.heap.size W w4 := Q3.trans (b4.mono Q3.size)))
        all_goals
          go_wp2
          go_ret2
          exact ⟨rfl, HB.out.trans (Q4.mono HB.out.size)⟩
      · have hX : X = B1 ++ B2 ++ D := HBE.out
        subst hX
        have hs1 : ¬ 9223372036854775807 < B1.size + B2.size := by omega
        have hs2 : ¬ 9223372036854775807 < B1.size + B2.size + D.size := by omega
        clear HBE z1 z2 z3 z4
        go_enter Try.func9, Try.ntmps9
        go_upto_region 1 with fail
        refine wp_at (w := W) HW.out.symm ?_
        go_upto_region 2 with (go_at_call 34; (with_reducible refine KP.out.mono ?_); rintro q w1 ⟨rfl, m1, b1⟩; have hl := look_step (T := 71) 2 (fv 75) Try.underlying71 m1 (two_2 _ _); have HB1 := Lib.hid b1; clear m1 b1)
        obtain ⟨d0, d1, d2⟩ := KC.out _ HB1.out
        clear c0 c1 c2 hl
        go_upto_region 4 with fail
        have PB := HB1.out.drew
        obtain ⟨d0, d1, d2⟩ := KC.out _ PB
        go_region_held3 (fun w' => w'.cell? ⟨w.heap.size, 0, none⟩ = some (.int .u64 ix) ∧ w'.cell? ⟨w.heap.size, 1, none⟩ = some (.int .u64 tm) ∧ w'.cell? ⟨w.heap.size, 2, none⟩ = some (.string D)) (first | exact ⟨d0, d1, d2⟩ | exact KC.out _ (by assumption)) (first
          | (go_at_call 75; (with_reducible refine (K3.out _).mono ?_); rintro q w2 ⟨rfl, b2⟩; have Q2 : Below W.heap.size W w2 := PB.trans (b2.mono PB.size))
          | (go_at_call 75; (with_reducible refine (K4.out _).mono ?_); rintro q w3 ⟨rfl, b3⟩; have Q3 : Below W.heap.size W w3 := Q2.trans (b3.mono Q2.size))
          | (go_at_call 35; (with_reducible refine (KK.out _).mono ?_); rintro q w4 ⟨rfl, b4⟩; have Q4 : Below W.heap.size W w4 := Q3.trans (b4.mono Q3.size)))
        all_goals
          go_wp2
          go_ret2
          exact ⟨rfl, HB.out.trans (Q4.mono HB.out.size)⟩
    · have hO : snO v s = false := by
        cases h : snO v s with
        | false => rfl
        | true => exact absurd (snO_iff.1 h).2 hd
      rw [sn_no hO, hO]
      have KC : Hid (∀ W', Below W.heap.size W W' → W'.cell? ⟨w.heap.size, 0, none⟩ = some (.int .u64 s.ix) ∧ W'.cell? ⟨w.heap.size, 1, none⟩ = some (.int .u64 s.tm) ∧ W'.cell? ⟨w.heap.size, 2, none⟩ = some (.string s.da)) := fun W' hb => sn_cells ((hb.block _ (Array.getElem?_eq_some_iff.1 HC.out).1).trans HC.out)
      have hdn : (16384 : Int) < s.da.size := by omega
      unfold Sn.c at HW
      obtain ⟨ix, tm, D⟩ := s
      dsimp only at *
      clear hc hB hW hO hbz hi ht ok hd
      rcases hv with rfl | rfl
      · go_enter Try.func9, Try.ntmps9
        go_upto_region 1 with fail
        refine wp_at (w := W) HW.out.symm ?_
        go_upto_region 2 with (go_at_call 34; (with_reducible refine KP.out.mono ?_); rintro q w1 ⟨rfl, m1, b1⟩; have hl := look_step (T := 71) 1 (fv 73) Try.underlying71 m1 (two_1 _ _); have HB1 := Lib.hid b1; clear m1 b1)
        obtain ⟨d0, d1, d2⟩ := KC.out _ HB1.out
        clear hl
        go_wp2
        go_ret2
        exact ⟨rfl, HB.out.trans (HB1.out.mono HB.out.size)⟩
      · go_enter Try.func9, Try.ntmps9
        go_upto_region 1 with fail
        refine wp_at (w := W) HW.out.symm ?_
        go_upto_region 2 with (go_at_call 34; (with_reducible refine KP.out.mono ?_); rintro q w1 ⟨rfl, m1, b1⟩; have hl := look_step (T := 71) 2 (fv 75) Try.underlying71 m1 (two_2 _ _); have HB1 := Lib.hid b1; clear m1 b1)
        obtain ⟨d0, d1, d2⟩ := KC.out _ HB1.out
        clear hl
        go_wp2
        go_ret2
        exact ⟨rfl, HB.out.trans (HB1.out.mono HB.out.size)⟩
  · have hO : snO v s = false := by
      cases h : snO v s with
      | false => rfl
      | true => exact absurd (snO_iff.1 h).1 hv
    rw [sn_no hO, hO]
    have h1 : v ≠ 1 := fun h => hv (.inl h)
    have h2 : v ≠ 2 := fun h => hv (.inr h)
    have KL := Lib.hid (fun (g : Nat) (a b : Value) (W : World) (m : W.heap[g]? = some (.map (two a b) 2)) => look_none (T := 71) v Try.underlying71 Try.zeroValue69 m (two_n a b v h1 h2))
    unfold Sn.c at HW
    obtain ⟨ix, tm, D⟩ := s
    dsimp only at *
    clear hc hB hW hO hbz hi ht ok hv h1 h2
    go_enter Try.func9, Try.ntmps9
    go_upto_region 1 with fail
    refine wp_at (w := W) HW.out.symm ?_
    go_upto_region 2 with (go_at_call 34; (with_reducible refine KP.out.mono ?_); rintro q w1 ⟨rfl, m1, b1⟩; have hl := KL.out _ _ _ _ m1; have HB1 := Lib.hid b1; clear m1 b1)
    clear hl
    go_wp2
    go_ret2
    exact ⟨rfl, HB.out.trans (HB1.out.mono HB.out.size)⟩
theorem fits_any (b : ByteArray) (m : Int) (w : World) (hb : b.size ≤ 1099511627776) : Calls Try.prog 49 #[.string b, .int .i64 m] w fun e w' => e = .returned (.bool (decide ((((b.size + 63) / 64 : Nat) : Int) ≤ m))) ∧ w = w' := by
  have e1 : (((b.size + 63) / 64 : Nat) : Int) = ((b.size : Int) + 64 - 1) / 64 := by omega
  have q1 : wrap64 ((b.size : Int) + 64) = (b.size : Int) + 64 := by unfold wrap64; omega
  have q2 : wrap64 ((b.size : Int) + 64 - 1) = (b.size : Int) + 64 - 1 := by unfold wrap64; omega
  have q3 : wrap64 (((b.size : Int) + 64 - 1).tdiv 64) = ((b.size : Int) + 64 - 1) / 64 := by
    rw [Int.tdiv_eq_ediv_of_nonneg (by omega)]; unfold wrap64; omega
  rw [e1]
  clear e1
  go_enter Try.func49, Try.ntmps49
  go_wp2
  go_ret
  exact ⟨rfl, rfl⟩
set_option maxHeartbeats 2000000 in
set_option maxRecDepth 100000 in
theorem aroom_any (v m : Int) (s : Sn) (w : World) (ok : s.Ok) :
    Calls Try.prog 15 #[.int .i64 v, .int .i64 m, s.v] w fun e w' => e = .returned (.bool (rmB v m s)) ∧ Below w.heap.size w w' := by
  obtain ⟨W, hW⟩ : ∃ W, W = w.alloc (.cells s.c 24) := ⟨_, rfl⟩
  have hB : Below w.heap.size w W := by rw [hW]; exact (Below.refl _ w).alloc (Nat.le_refl _) _
  have hc : W.heap[w.heap.size]? = some (.cells s.c 24 (0, 0)) := by rw [hW]; exact heap_alloc_new w _
  obtain ⟨c0, c1, c2⟩ := sn_cells hc
  have KP := Lib.hid (aput_any v s W ok)
  have hsz := snS_size v s ok
  have KF := Lib.hid (fun (W : World) => fits_any (snS v s) m W (by omega))
  have HB := Lib.hid hB
  have HW := Lib.hid hW
  unfold rmB
  generalize snS v s = b at *
  generalize snO v s = o at *
  generalize decide ((((b.size + 63) / 64 : Nat) : Int) ≤ m) = f at *
  unfold Sn.c at HW
  obtain ⟨ix, tm, D⟩ := s
  dsimp only at *
  clear hc hB hW hsz ok
  cases o
  · go_enter Try.func15, Try.ntmps15
    go_upto_region 1 with fail
    refine wp_at (w := W) HW.out.symm ?_
    go_wp2_with (go_at_call 9; (with_reducible refine KP.out.mono ?_); rintro q w1 ⟨rfl, b1⟩)
    go_ret
    exact ⟨rfl, HB.out.trans (b1.mono HB.out.size)⟩
  · go_enter Try.func15, Try.ntmps15
    go_upto_region 1 with fail
    refine wp_at (w := W) HW.out.symm ?_
    go_wp2_with (first | (go_at_call 9; (with_reducible refine KP.out.mono ?_); rintro q w1 ⟨rfl, b1⟩) | (go_at_call 49; (with_reducible refine (KF.out _).mono ?_); rintro q w2 ⟨rfl, rfl⟩))
    go_ret
    exact ⟨by cases f <;> rfl, HB.out.trans (b1.mono HB.out.size)⟩
end Go.Proofs.Ytlmfnlaikdmphaa
namespace Go.Proofs.Ytlmfnlaikdmphaa
open Go.RowKit Vi Dk
set_option linter.unusedVariables false
set_option linter.unusedSimpArgs false
theorem snS_pk {v : Int} {s : Sn} (ok : s.Ok) (hd : s.da.size ≤ 16384) : snO v s = pkO v (snB v s) ∧ snS v s = pkS v (snB v s) := by
  have hz := snB_size v s ok
  have h : snO v s = pkO v (snB v s) := by
    unfold snO pkO
    rw [decide_eq_true hd, decide_eq_true (show (snB v s).size ≤ 1048576 by omega)]
  refine ⟨h, ?_⟩
  unfold snS pkS
  rw [← h]
theorem beqI {a b : Int} (h : a ≠ b) : (a == b) = false := by simpa using h
set_option maxHeartbeats 4000000 in
set_option maxRecDepth 100000 in
theorem rput_sn (v : Int) (s : Sn) (w : World) (ok : s.Ok) :
    Calls Try.prog 10 #[.int .i64 v, s.v] w fun e w' => e = .returned (.tuple #[.string (snS v s), .bool (snO v s)]) ∧ Below w.heap.size w w' := by
  obtain ⟨W, hW⟩ : ∃ W, W = w.alloc (.cells s.c 30) := ⟨_, rfl⟩
  have hB : Below w.heap.size w W := by rw [hW]; exact (Below.refl _ w).alloc (Nat.le_refl _) _
  have hc : W.heap[w.heap.size]? = some (.cells s.c 30 (0, 0)) := by rw [hW]; exact heap_alloc_new w _
  have HB := Lib.hid hB
  have HC := Lib.hid hc
  have HW := Lib.hid hW
  have hi := ok.i
  have ht := ok.t
  have hbz := snB_size v s ok
  have KC : Hid (∀ W', Below W.heap.size W W' → W'.cell? ⟨w.heap.size, 0, none⟩ = some (.int .u64 s.ix) ∧ W'.cell? ⟨w.heap.size, 1, none⟩ = some (.int .u64 s.tm) ∧ W'.cell? ⟨w.heap.size, 2, none⟩ = some (.string s.da)) := fun W' hb => sn_cells ((hb.block _ (Array.getElem?_eq_some_iff.1 HC.out).1).trans HC.out)
  by_cases hd : s.da.size ≤ 16384
  · obtain ⟨e1, e2⟩ := snS_pk (v := v) ok hd
    have KK := Lib.hid (fun (W : World) => rpack_any v (snB v s) W)
    have HBE : Hid (snB v s = (if v = 1 then fxB s.ix 8 ++ fxB s.tm 8 ++ s.da else putB s.ix ++ putB s.tm ++ s.da)) := rfl
    rw [e1, e2]
    generalize pkS v (snB v s) = Q at *
    generalize pkO v (snB v s) = o at *
    generalize snB v s = X at *
    have K1 := Lib.hid (fun (W : World) => rfixed_any s.ix 8 W hi)
    have K2 := Lib.hid (fun (W : World) => rfixed_any s.tm 8 W ht)
    have K3 := Lib.hid (fun (W : World) => rput_any s.ix W hi)
    have K4 := Lib.hid (fun (W : World) => rput_any s.tm W ht)
    have z1 : (fxB s.ix 8).size = 8 := fxB_size s.ix 8 (by omega)
    have z2 : (fxB s.tm 8).size = 8 := fxB_size s.tm 8 (by omega)
    have z3 := putB_10 s.ix hi
    have z4 := putB_10 s.tm ht
    obtain ⟨c0, c1, c2⟩ := KC.out W (Below.refl _ _)
    have hdn : ¬ (16384 : Int) < s.da.size := by omega
    generalize fxB s.ix 8 = A1 at *
    generalize fxB s.tm 8 = A2 at *
    generalize putB s.ix = B1 at *
    generalize putB s.tm = B2 at *
    unfold Sn.c at HW
    obtain ⟨ix, tm, D⟩ := s
    dsimp only at *
    have hs1 : ¬ 9223372036854775807 < A1.size + A2.size := by omega
    have hs2 : ¬ 9223372036854775807 < A1.size + A2.size + D.size := by omega
    have hs3 : ¬ 9223372036854775807 < B1.size + B2.size := by omega
    have hs4 : ¬ 9223372036854775807 < B1.size + B2.size + D.size := by omega
    have hB0 := (Below.refl W.heap.size W)
    clear hc hB hW e1 e2 hbz hi ht ok z1 z2 z3 z4 hd
    by_cases hv : v = 1
    · subst hv
      have hX : X = A1 ++ A2 ++ D := HBE.out
      subst hX
      clear HBE
      go_enter Try.func10, Try.ntmps10
      go_upto_region 1 with fail
      refine wp_at (w := W) HW.out.symm ?_
      go_upto_region 3 with fail
      have PB := hB0.drew
      obtain ⟨d0, d1, d2⟩ := KC.out _ PB
      go_region_held3 (fun w' => w'.cell? ⟨w.heap.size, 0, none⟩ = some (.int .u64 ix) ∧ w'.cell? ⟨w.heap.size, 1, none⟩ = some (.int .u64 tm) ∧ w'.cell? ⟨w.heap.size, 2, none⟩ = some (.string D)) (first | exact ⟨d0, d1, d2⟩ | exact KC.out _ (by assumption)) (first
        | (go_at_call 36; (with_reducible refine (K3.out _).mono ?_); rintro q w2 ⟨rfl, b2⟩; have Q2 : Below W.heap.size W w2 := PB.trans (b2.mono PB.size))
        | (go_at_call 36; (with_reducible refine (K4.out _).mono ?_); rintro q w3 ⟨rfl, b3⟩; have Q3 : Below W.heap.size W w3 := Q2.trans (b3.mono Q2.size)))
      all_goals
        have P3 := Q3.drew
        obtain ⟨f0, f1, f2⟩ := KC.out _ P3
        clear c0 c1 c2 d0 d1 d2 b2 b3 Q2 PB
        go_upto_region 5 with fail
        go_region_held3 (fun w' => w'.cell? ⟨w.heap.size, 0, none⟩ = some (.int .u64 ix) ∧ w'.cell? ⟨w.heap.size, 1, none⟩ = some (.int .u64 tm) ∧ w'.cell? ⟨w.heap.size, 2, none⟩ = some (.string D)) (first | exact ⟨f0, f1, f2⟩ | exact KC.out _ (by assumption)) (first
          | (go_at_call 37; (with_reducible refine (K1.out _).mono ?_); rintro q w4 ⟨rfl, b4⟩; have Q4 : Below W.heap.size W w4 := P3.trans (b4.mono P3.size))
          | (go_at_call 37; (with_reducible refine (K2.out _).mono ?_); rintro q w5 ⟨rfl, b5⟩; have Q5 : Below W.heap.size W w5 := Q4.trans (b5.mono Q4.size)))
        all_goals
          go_wp2_with (go_at_call 38; (with_reducible refine (KK.out _).mono ?_); rintro q w6 ⟨rfl, b6⟩; have Q6 : Below W.heap.size W w6 := Q5.trans (b6.mono Q5.size))
          go_ret2
          exact ⟨rfl, HB.out.trans (Q6.mono HB.out.size)⟩
    · have hX : X = B1 ++ B2 ++ D := by rw [HBE.out, if_neg hv]
      subst hX
      have hv1 : (v == 1) = false := beqI hv
      clear HBE hv
      go_enter Try.func10, Try.ntmps10
      go_upto_region 1 with fail
      refine wp_at (w := W) HW.out.symm ?_
      go_upto_region 3 with fail
      have PB := hB0.drew
      obtain ⟨d0, d1, d2⟩ := KC.out _ PB
      go_region_held3 (fun w' => w'.cell? ⟨w.heap.size, 0, none⟩ = some (.int .u64 ix) ∧ w'.cell? ⟨w.heap.size, 1, none⟩ = some (.int .u64 tm) ∧ w'.cell? ⟨w.heap.size, 2, none⟩ = some (.string D)) (first | exact ⟨d0, d1, d2⟩ | exact KC.out _ (by assumption)) (first
        | (go_at_call 36; (with_reducible refine (K3.out _).mono ?_); rintro q w2 ⟨rfl, b2⟩; have Q2 : Below W.heap.size W w2 := PB.trans (b2.mono PB.size))
        | (go_at_call 36; (with_reducible refine (K4.out _).mono ?_); rintro q w3 ⟨rfl, b3⟩; have Q3 : Below W.heap.size W w3 := Q2.trans (b3.mono Q2.size)))
      all_goals
        go_wp2_with (go_at_call 38; (with_reducible refine (KK.out _).mono ?_); rintro q w6 ⟨rfl, b6⟩; have Q6 : Below W.heap.size W w6 := Q3.trans (b6.mono Q3.size))
        go_ret2
        exact ⟨rfl, HB.out.trans (Q6.mono HB.out.size)⟩
  · have hO : snO v s = false := by
      cases h : snO v s with
      | false => rfl
      | true => exact absurd (snO_iff.1 h).2 hd
    rw [sn_no hO, hO]
    obtain ⟨c0, c1, c2⟩ := KC.out W (Below.refl _ _)
    have hdn : (16384 : Int) < s.da.size := by omega
    unfold Sn.c at HW
    obtain ⟨ix, tm, D⟩ := s
    dsimp only at *
    clear hc hB hW hO hbz hi ht ok hd
    go_enter Try.func10, Try.ntmps10
    go_upto_region 1 with fail
    refine wp_at (w := W) HW.out.symm ?_
    go_wp2
    go_ret2
    exact ⟨rfl, HB.out⟩
set_option maxHeartbeats 2000000 in
set_option maxRecDepth 100000 in
theorem rroom_any (v m : Int) (s : Sn) (w : World) (ok : s.Ok) :
    Calls Try.prog 16 #[.int .i64 v, .int .i64 m, s.v] w fun e w' => e = .returned (.bool (rmB v m s)) ∧ Below w.heap.size w w' := by
  obtain ⟨W, hW⟩ : ∃ W, W = w.alloc (.cells s.c 30) := ⟨_, rfl⟩
  have hB : Below w.heap.size w W := by rw [hW]; exact (Below.refl _ w).alloc (Nat.le_refl _) _
  have hc : W.heap[w.heap.size]? = some (.cells s.c 30 (0, 0)) := by rw [hW]; exact heap_alloc_new w _
  obtain ⟨c0, c1, c2⟩ := sn_cells hc
  have KP := Lib.hid (rput_sn v s W ok)
  have hsz := snS_size v s ok
  have HB := Lib.hid hB
  have HW := Lib.hid hW
  unfold rmB
  generalize snS v s = b at *
  generalize snO v s = o at *
  have e1 : (((b.size + 63) / 64 : Nat) : Int) = ((b.size : Int) + 64 - 1) / 64 := by omega
  have q1 : wrap64 ((b.size : Int) + 64) = (b.size : Int) + 64 := by unfold wrap64; omega
  have q2 : wrap64 ((b.size : Int) + 64 - 1) = (b.size : Int) + 64 - 1 := by unfold wrap64; omega
  have q3 : wrap64 (((b.size : Int) + 64 - 1).tdiv 64) = ((b.size : Int) + 64 - 1) / 64 := by
    rw [Int.tdiv_eq_ediv_of_nonneg (by omega)]; unfold wrap64; omega
  rw [e1]
  unfold Sn.c at HW
  obtain ⟨ix, tm, D⟩ := s
  dsimp only at *
  clear hc hB hW hsz ok e1
  cases o
  · go_enter Try.func16, Try.ntmps16
    go_upto_region 1 with fail
    refine wp_at (w := W) HW.out.symm ?_
    go_wp2_with (go_at_call 10; (with_reducible refine KP.out.mono ?_); rintro q w1 ⟨rfl, b1⟩)
    go_ret
    exact ⟨rfl, HB.out.trans (b1.mono HB.out.size)⟩
  · go_enter Try.func16, Try.ntmps16
    go_upto_region 1 with fail
    refine wp_at (w := W) HW.out.symm ?_
    go_wp2_with (go_at_call 10; (with_reducible refine KP.out.mono ?_); rintro q w1 ⟨rfl, b1⟩)
    go_ret
    exact ⟨rfl, HB.out.trans (b1.mono HB.out.size)⟩
end Go.Proofs.Ytlmfnlaikdmphaa
namespace Go.Proofs.Ytlmfnlaikdmphaa
open Go.RowKit Vi Dk
set_option linter.unusedVariables false
set_option linter.unusedSimpArgs false
/-- The device has so many sectors from there on. -/
def onA (n : Nat) (at_ m : Int) : Bool := decide (0 ≤ at_) && (decide (1 ≤ m) && decide (m ≤ (n : Int) - at_))
theorem onA_iff {n : Nat} {at_ m : Int} : onA n at_ m = true ↔ 0 ≤ at_ ∧ 1 ≤ m ∧ m ≤ (n : Int) - at_ := by
  unfold onA
  simp
set_option maxHeartbeats 2000000 in
set_option maxRecDepth 100000 in
theorem aon_any (g : Nat) (L : List Nat) (d : St) (at_ m : Int) (w : World) (h : Dv w g L d) (ha : at_ ≤ 9223372036854775807) :
    Calls Try.prog 51 #[ptr g, .int .i64 at_, .int .i64 m] w fun e w' => e = .returned (.bool (onA d.n at_ m)) ∧ w = w' := by
  have n2 := h.1.n2
  have KD := Lib.hid (dsec_any g L d w h)
  have q1 : 0 ≤ at_ → wrap64 ((d.n : Int) - at_) = (d.n : Int) - at_ := fun h0 => by unfold wrap64; omega
  unfold onA
  obtain ⟨n, hn⟩ : ∃ n, n = d.n := ⟨_, rfl⟩
  rw [← hn] at KD q1 ⊢
  clear hn n2 h
  unfold ptr at *
  by_cases h0 : 0 ≤ at_
  · have q2 := q1 h0
    by_cases h1 : 1 ≤ m
    · clear q1
      rw [decide_eq_true h0, decide_eq_true h1, Bool.true_and, Bool.true_and]
      go_enter Try.func51, Try.ntmps51
      go_wp2_with (go_at_call 87; (with_reducible refine KD.out.mono ?_); rintro q w1 ⟨rfl, rfl⟩)
      go_ret
      exact ⟨rfl, rfl⟩
    · clear q1
      rw [decide_eq_true h0, decide_eq_false h1]
      have h1' : m < 1 := by omega
      go_enter Try.func51, Try.ntmps51
      go_wp2_with fail
      go_ret
      exact ⟨rfl, rfl⟩
  · clear q1
    rw [decide_eq_false h0]
    have h0' : at_ < 0 := by omega
    go_enter Try.func51, Try.ntmps51
    go_wp2_with fail
    go_ret
    exact ⟨rfl, rfl⟩
set_option maxHeartbeats 2000000 in
set_option maxRecDepth 100000 in
theorem rright_any (B gr : Nat) (L : List Nat) (d : St) (at_ m : Int) (w : World) (h : Rf w B gr L d) (ha : at_ ≤ 9223372036854775807) :
    Calls Try.prog 55 #[ptr gr, .int .i64 at_, .int .i64 m] w fun e w' => e = .returned (.bool (onA d.n at_ m)) ∧ w = w' := by
  have n2 := h.1.n2
  obtain ⟨g1, k1, g2, k2, g3, k3, rfl, hA⟩ := RAt.of_rf h
  have q0 := hA.c 0
  change w.cell? ⟨gr, 0, none⟩ = some (.slice (some ⟨g1, 0, none⟩) d.n k1) at q0
  have q1 : 0 ≤ at_ → wrap64 ((d.n : Int) - at_) = (d.n : Int) - at_ := fun h0 => by unfold wrap64; omega
  unfold onA
  obtain ⟨n, hn⟩ : ∃ n, n = d.n := ⟨_, rfl⟩
  rw [← hn] at q0 q1 ⊢
  clear hn n2 h hA
  unfold ptr at *
  by_cases h0 : 0 ≤ at_
  · have q2 := q1 h0
    by_cases h1 : 1 ≤ m
    · clear q1
      rw [decide_eq_true h0, decide_eq_true h1, Bool.true_and, Bool.true_and]
      by_cases h2 : at_ < n
      · go_enter Try.func55, Try.ntmps55
        go_wp2
        go_ret
        exact ⟨rfl, rfl⟩
      · have h3 : ¬ m ≤ (n : Int) - at_ := by omega
        have h2' : (n : Int) ≤ at_ := by omega
        rw [decide_eq_false h3]
        go_enter Try.func55, Try.ntmps55
        go_wp2
        go_ret
        exact ⟨rfl, rfl⟩
    · clear q1
      rw [decide_eq_true h0, decide_eq_false h1]
      have h1' : m < 1 := by omega
      go_enter Try.func55, Try.ntmps55
      go_wp2_with fail
      go_ret
      exact ⟨rfl, rfl⟩
  · clear q1
    rw [decide_eq_false h0]
    have h0' : at_ < 0 := by omega
    go_enter Try.func55, Try.ntmps55
    go_wp2_with fail
    go_ret
    exact ⟨rfl, rfl⟩
set_option maxHeartbeats 2000000 in
set_option maxRecDepth 100000 in
theorem aeach_any (F : Nat) (hF : F = 54 ∨ F = 62) (a b c : Value) (til : Nat) (P : Nat → World → Prop) (R : Int → World → Prop) (w : World) (hto : til ≤ 1099511627776) (h0 : P 0 w)
    (hs : ∀ k w1, k < til → P k w1 → Calls Try.prog F #[.int .i64 k, a, b, c] w1 fun e w' => ∃ z : Int, e = .returned (.int .i64 z) ∧ (z = 0 → P (k + 1) w') ∧ (z ≠ 0 → R z w')) :
    Calls Try.prog 53 #[.int .i64 til, .func (.func F) #[] #[a, b, c]] w fun e w' => ∃ z : Int, e = .returned (.int .i64 z) ∧ (z = 0 → P til w') ∧ (z ≠ 0 → R z w') := by
  have HS := Lib.hid hs
  have H0 := Lib.hid h0
  clear hs h0
  rcases hF with rfl | rfl
  all_goals
    go_enter Try.func53, Try.ntmps53
    go_wp2
    go_loopw [8] (fun i wr => ∃ k : Nat, i = .int .i64 k ∧ k ≤ til ∧ Hid (P k wr)) (fun i _ => til - (Go.RowKit.intOf i).toNat)
    case atStart => exact ⟨0, rfl, Nat.zero_le _, H0⟩
    case round =>
      obtain ⟨k, rfl, hk2, hP⟩ := hrel
      by_cases hlt : k < til
      · have t1 : decide ((k : Int) < (til : Int)) = true := decide_eq_true (by omega)
        have K := Lib.hid (HS.out k wr hlt hP.out)
        go_upto_region 5 with fail
        refine K.out.mono ?_
        rintro q w1 ⟨z, rfl, hz0, hz1⟩
        clear K hP
        by_cases hz : z = 0
        · have Z0 : Hid (P (k + 1) w1) := hz0 hz
          clear hz0 hz1
          subst hz
          go_wp2
          go_roundw
          case rel => exact ⟨k + 1, by go_num, by omega, Z0⟩
          case measure => simp [Go.RowKit.intOf]; omega
        · have Z1 := Lib.hid (hz1 hz)
          clear hz0 hz1
          have e1 : (z == 0) = false := beqI hz
          have e2 : (z != 0) = true := by unfold bne; rw [e1]; rfl
          go_wp2
          go_ret
          exact ⟨z, rfl, fun h => absurd h hz, fun _ => Z1.out⟩
      · have hkt : k = til := by omega
        subst hkt
        have t1 : decide ((k : Int) < (k : Int)) = false := decide_eq_false (by omega)
        go_wp2
        go_ret
        exact ⟨0, rfl, fun _ => hP.out, fun h => absurd rfl h⟩
end Go.Proofs.Ytlmfnlaikdmphaa
