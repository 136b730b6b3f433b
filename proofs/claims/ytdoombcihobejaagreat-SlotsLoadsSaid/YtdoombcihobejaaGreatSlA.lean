/-
  A Super and a Hard as mathematics and as text: what puts, takes and makes them small.
  Conditions: named in each theorem.
-/
import Derived.Test.YtdoombcihobejaaGreatFM
import Derived.Test.YtdoombcihobejaaGreatFW
import Derived.Test.YtdoombcihobejaaGreatW2
import Derived.Deep.CutRange
import Derived.Laws.EntriesVeiled
import Derived.Test.YtdoombcihobejaaGreatNw
import Derived.Laws.ResultCell
import Derived.Deep.WholeRow
import Derived.Carry
namespace Go.Proofs.YtdoombcihobejaaGreat
open Go.RowKit Vi
set_option linter.unusedVariables false
namespace Sl
/-- A Super. -/
structure Su where
  v : Int
  sn : Int
  lg : Int
  ar : Int
  hf : Int
  gl : Int
  sp : Int
def Su.c (s : Su) : Array Value := #[.int .i64 s.v, .int .i64 s.sn, .int .i64 s.lg, .int .i64 s.ar, .int .i64 s.hf, .int .i64 s.gl, .int .i64 s.sp]
def Su.val (s : Su) : Value := .agg s.c
def su0 : Su := ⟨0, 0, 0, 0, 0, 0, 0⟩
/-- A Hard. -/
structure Hd where
  tm : Nat
  vo : Int
  cm : Nat
def Hd.c (h : Hd) : Array Value := #[.int .u64 h.tm, .int .i64 h.vo, .int .u64 h.cm]
def Hd.val (h : Hd) : Value := .agg h.c
def hd0 : Hd := ⟨0, 0, 0⟩
def ins (n lo hi : Int) : Bool := decide (lo ≤ n) && decide (n ≤ hi)
def rgt (s : Su) : Bool := ins s.v 1 2 && (ins s.sn 1 1000 && (ins s.lg 1 1000 && (ins s.ar 0 1 && (ins s.hf 0 1 && (ins s.gl 0 2 && (ins s.sp 0 9 && (decide (s.gl ≠ 0) || decide (s.sp = 0))))))))
theorem rgt_iff (s : Su) : rgt s = true ↔ (1 ≤ s.v ∧ s.v ≤ 2) ∧ (1 ≤ s.sn ∧ s.sn ≤ 1000) ∧ (1 ≤ s.lg ∧ s.lg ≤ 1000) ∧ (0 ≤ s.ar ∧ s.ar ≤ 1) ∧ (0 ≤ s.hf ∧ s.hf ≤ 1) ∧ (0 ≤ s.gl ∧ s.gl ≤ 2) ∧ (0 ≤ s.sp ∧ s.sp ≤ 9) ∧ (s.gl ≠ 0 ∨ s.sp = 0) := by
  unfold rgt ins
  simp only [Bool.and_eq_true, Bool.or_eq_true, decide_eq_true_eq]
/-- A number of a version; k bytes in the first. -/
def num (v : Int) (n k : Nat) : ByteArray := if v = 1 then fxB n k else putB n
def takV (v : Int) (s : ByteArray) (k : Nat) : Nat := if v = 1 then fixV s k else varV s
def takT (v : Int) (s : ByteArray) (k : Nat) : ByteArray := if v = 1 then fixT s k else varT s
theorem num_size (v : Int) (n k : Nat) (hk : k ≤ 8) (hn : n < 18446744073709551616) : (num v n k).size ≤ 10 := by
  unfold num
  split
  · rw [fxB_size n k hk]; omega
  · exact putB_size n hn
theorem pow8 (k : Nat) (hk : k ≤ 8) : 256 ^ k ≤ 18446744073709551616 := Nat.le_trans (Nat.pow_le_pow_right (by omega) hk) (by decide)
theorem tak_put (v : Int) (n k : Nat) (hk : k ≤ 8) (hn : n < 256 ^ k) (t : ByteArray) : takV v (num v n k ++ t) k = n ∧ takT v (num v n k ++ t) k = t := by
  unfold takV takT num
  split
  · obtain ⟨h1, h2, _⟩ := fix_put n k hk t
    exact ⟨by rw [h1, Nat.mod_eq_of_lt hn], h2⟩
  · obtain ⟨h1, h2, _⟩ := var_put n (Nat.lt_of_lt_of_le hn (pow8 k hk)) t
    exact ⟨h1, h2⟩
theorem takV_lt (v : Int) (s : ByteArray) (k : Nat) (hk : k ≤ 8) : takV v s k < 18446744073709551616 := by
  unfold takV
  split
  · unfold fixV
    split
    · rw [Int.toNat_natCast]
      exact Nat.lt_of_lt_of_le (be_take_lt (nums s) (nums_getD_lt s) k) (pow8 k hk)
    · omega
  · exact varV_lt s
theorem takT_size (v : Int) (s : ByteArray) (k : Nat) : (takT v s k).size ≤ s.size := by
  unfold takT
  split
  · exact fixT_size s k
  · exact varT_size s
/-- A number of 64 bits, taken as a signed one. -/
def w64 (n : Nat) : Int := IntKind.i64.wrap (n : Int)
theorem w64_small (n : Nat) (h : n < 9223372036854775808) : w64 n = n := by
  unfold w64
  simp [IntKind.wrap, IntKind.bits, IntKind.signed]; omega
theorem w64_range (n : Nat) : -9223372036854775808 ≤ w64 n ∧ w64 n ≤ 9223372036854775807 := by
  unfold w64
  simp [IntKind.wrap, IntKind.bits, IntKind.signed]; omega
/-- The bytes of a Super. -/
def supB (s : Su) : ByteArray := fxB s.v.toNat 1 ++ num s.v s.sn.toNat 2 ++ num s.v s.lg.toNat 2 ++ num s.v s.ar.toNat 1 ++ num s.v s.hf.toNat 1 ++ num s.v s.gl.toNat 1 ++ num s.v s.sp.toNat 1
def supS (s : Su) : ByteArray := if rgt s then supB s else ⟨#[]⟩
def u1 (v : Int) (u : ByteArray) : ByteArray := takT v u 2
def u2 (v : Int) (u : ByteArray) : ByteArray := takT v (u1 v u) 2
def u3 (v : Int) (u : ByteArray) : ByteArray := takT v (u2 v u) 1
def u4 (v : Int) (u : ByteArray) : ByteArray := takT v (u3 v u) 1
def u5 (v : Int) (u : ByteArray) : ByteArray := takT v (u4 v u) 1
def rv (b : ByteArray) : Int := (fixV b 1 : Nat)
/-- What is read as a Super, of version v. -/
def rdS (v : Int) (u : ByteArray) : Su := ⟨v, w64 (takV v u 2), w64 (takV v (u1 v u) 2), w64 (takV v (u2 v u) 1), w64 (takV v (u3 v u) 1), w64 (takV v (u4 v u) 1), w64 (takV v (u5 v u) 1)⟩
def rdS2 (v : Int) (u : ByteArray) : Su := ⟨v, (takV v u 2 % 9999 : Nat), (takV v (u1 v u) 2 % 9999 : Nat), (takV v (u2 v u) 1 % 99 : Nat), (takV v (u3 v u) 1 % 99 : Nat), (takV v (u4 v u) 1 % 99 : Nat), (takV v (u5 v u) 1 % 99 : Nat)⟩
def rs (b : ByteArray) : Su := rdS (rv b) (fixT b 1)
def rs2 (b : ByteArray) : Su := rdS2 (rv b) (fixT b 1)
def gO (b : ByteArray) : Bool := rgt (rs b) && ((supB (rs b)).toList == b.toList)
def gO2 (b : ByteArray) : Bool := rgt (rs2 b) && ((supB (rs2 b)).toList == b.toList)
def gS (b : ByteArray) : Su := if gO b then rs b else su0
theorem app_empty (t : ByteArray) : t ++ (⟨#[]⟩ : ByteArray) = t := by apply ByteArray.ext; simp
theorem su_read {s : Su} (h : rgt s = true) : rs (supB s) = s ∧ rs2 (supB s) = s := by
  obtain ⟨v, sn, lg, ar, hf, gl, sp⟩ := s
  obtain ⟨h1, h2, h3, h4, h5, h6, h7, _⟩ := (rgt_iff _).1 h
  dsimp only at h1 h2 h3 h4 h5 h6 h7
  obtain ⟨v, rfl⟩ := Int.eq_ofNat_of_zero_le (by omega : 0 ≤ v)
  obtain ⟨a, rfl⟩ := Int.eq_ofNat_of_zero_le (by omega : 0 ≤ sn)
  obtain ⟨b, rfl⟩ := Int.eq_ofNat_of_zero_le (by omega : 0 ≤ lg)
  obtain ⟨c, rfl⟩ := Int.eq_ofNat_of_zero_le (by omega : 0 ≤ ar)
  obtain ⟨d, rfl⟩ := Int.eq_ofNat_of_zero_le (by omega : 0 ≤ hf)
  obtain ⟨e, rfl⟩ := Int.eq_ofNat_of_zero_le (by omega : 0 ≤ gl)
  obtain ⟨f, rfl⟩ := Int.eq_ofNat_of_zero_le (by omega : 0 ≤ sp)
  have E : supB ⟨v, a, b, c, d, e, f⟩ = fxB v (1 : Nat) ++ (num v a 2 ++ (num v b 2 ++ (num v c 1 ++ (num v d 1 ++ (num v e 1 ++ (num v f 1 ++ ⟨#[]⟩)))))) := by
    unfold supB
    simp only [Int.toNat_natCast, append_assoc3, app_empty]
    rfl
  obtain ⟨p1, p2, _⟩ := fix_put v 1 (by omega) (num v a 2 ++ (num v b 2 ++ (num v c 1 ++ (num v d 1 ++ (num v e 1 ++ (num v f 1 ++ ⟨#[]⟩))))))
  rw [← E] at p1 p2
  obtain ⟨q1, q2⟩ := tak_put v a 2 (by omega) (by omega) (num v b 2 ++ (num v c 1 ++ (num v d 1 ++ (num v e 1 ++ (num v f 1 ++ ⟨#[]⟩)))))
  obtain ⟨r1, r2⟩ := tak_put v b 2 (by omega) (by omega) (num v c 1 ++ (num v d 1 ++ (num v e 1 ++ (num v f 1 ++ ⟨#[]⟩))))
  obtain ⟨s1, s2⟩ := tak_put v c 1 (by omega) (by omega) (num v d 1 ++ (num v e 1 ++ (num v f 1 ++ ⟨#[]⟩)))
  obtain ⟨t1, t2⟩ := tak_put v d 1 (by omega) (by omega) (num v e 1 ++ (num v f 1 ++ ⟨#[]⟩))
  obtain ⟨w1, w2⟩ := tak_put v e 1 (by omega) (by omega) (num v f 1 ++ ⟨#[]⟩)
  obtain ⟨x1, x2⟩ := tak_put v f 1 (by omega) (by omega) ⟨#[]⟩
  have hv : rv (supB ⟨v, a, b, c, d, e, f⟩) = v := by
    unfold rv
    have := p1
    rw [show ((1 : Nat) : Int) = 1 from rfl] at this
    rw [this, Nat.mod_eq_of_lt (by omega)]
  have hp2 : fixT (supB ⟨v, a, b, c, d, e, f⟩) 1 = num v a 2 ++ (num v b 2 ++ (num v c 1 ++ (num v d 1 ++ (num v e 1 ++ (num v f 1 ++ ⟨#[]⟩))))) := p2
  unfold rs rs2
  rw [hv, hp2]
  unfold rdS rdS2 u5 u4 u3 u2 u1
  rw [q2, r2, s2, t2, w2, q1, r1, s1, t1, w1, x1]
  rw [w64_small a (by omega), w64_small b (by omega), w64_small c (by omega), w64_small d (by omega), w64_small e (by omega), w64_small f (by omega)]
  rw [Nat.mod_eq_of_lt (by omega : a < 9999), Nat.mod_eq_of_lt (by omega : b < 9999), Nat.mod_eq_of_lt (by omega : c < 99), Nat.mod_eq_of_lt (by omega : d < 99), Nat.mod_eq_of_lt (by omega : e < 99), Nat.mod_eq_of_lt (by omega : f < 99)]
  exact ⟨rfl, rfl⟩
theorem gO_iff (b : ByteArray) : gO b = true ↔ ∃ s, rgt s = true ∧ b = supB s := by
  unfold gO
  rw [Bool.and_eq_true, beq_iff]
  constructor
  · rintro ⟨h1, h2⟩; exact ⟨_, h1, h2.symm⟩
  · rintro ⟨s, h1, rfl⟩; rw [(su_read h1).1]; exact ⟨h1, rfl⟩
theorem gO2_iff (b : ByteArray) : gO2 b = true ↔ ∃ s, rgt s = true ∧ b = supB s := by
  unfold gO2
  rw [Bool.and_eq_true, beq_iff]
  constructor
  · rintro ⟨h1, h2⟩; exact ⟨_, h1, h2.symm⟩
  · rintro ⟨s, h1, rfl⟩; rw [(su_read h1).2]; exact ⟨h1, rfl⟩
theorem gO2_eq (b : ByteArray) : gO2 b = gO b := by
  rw [Bool.eq_iff_iff, gO_iff, gO2_iff]
theorem rs2_eq {b : ByteArray} (h : gO b = true) : rs2 b = rs b := by
  obtain ⟨s, h1, rfl⟩ := (gO_iff b).1 h
  rw [(su_read h1).1, (su_read h1).2]
theorem gO_sup {s : Su} (h : rgt s = true) : gO (supB s) = true := (gO_iff _).2 ⟨s, h, rfl⟩
theorem gS_sup {s : Su} (h : rgt s = true) : gS (supB s) = s := by unfold gS; rw [if_pos (gO_sup h)]; exact (su_read h).1
theorem gO_empty : gO ⟨#[]⟩ = false := by decide +kernel
theorem rgt_zero : rgt su0 = false := by decide
theorem supB_size {s : Su} (h : rgt s = true) : (supB s).size ≤ 61 ∧ 0 < (supB s).size := by
  obtain ⟨h1, h2, h3, h4, h5, h6, h7, _⟩ := (rgt_iff _).1 h
  have e1 := fxB_size s.v.toNat 1 (by omega)
  have e2 := num_size s.v s.sn.toNat 2 (by omega) (by omega)
  have e3 := num_size s.v s.lg.toNat 2 (by omega) (by omega)
  have e4 := num_size s.v s.ar.toNat 1 (by omega) (by omega)
  have e5 := num_size s.v s.hf.toNat 1 (by omega) (by omega)
  have e6 := num_size s.v s.gl.toNat 1 (by omega) (by omega)
  have e7 := num_size s.v s.sp.toNat 1 (by omega) (by omega)
  unfold supB
  have e1' : (fxB s.v.toNat 1).size = 1 := e1
  simp only [ByteArray.size_append, e1']
  omega
/-- How many sectors. -/
def sec (s : Su) : Int := if rgt s then 4 + 2 * (s.sn + s.lg) else 0

/-- The bytes of a Hard. -/
def hO (v : Int) (h : Hd) : Bool := (decide (v = 1) || decide (v = 2)) && ins h.vo 0 7
theorem hO_iff (v : Int) (h : Hd) : hO v h = true ↔ (v = 1 ∨ v = 2) ∧ 0 ≤ h.vo ∧ h.vo ≤ 7 := by
  unfold hO ins
  simp only [Bool.and_eq_true, Bool.or_eq_true, decide_eq_true_eq]
def hB (v : Int) (h : Hd) : ByteArray := fxB (16 + v).toNat 1 ++ num v h.tm 8 ++ num v h.vo.toNat 1 ++ num v h.cm 8
def hS (v : Int) (h : Hd) : ByteArray := if hO v h then hB v h else ⟨#[]⟩
def hv (b : ByteArray) : Int := (fixV b 1 : Nat) - 16
def k1 (v : Int) (u : ByteArray) : ByteArray := takT v u 8
def k2 (v : Int) (u : ByteArray) : ByteArray := takT v (k1 v u) 1
def rdH (v : Int) (u : ByteArray) : Hd := ⟨takV v u 8, w64 (takV v (k1 v u) 1), takV v (k2 v u) 8⟩
def rdH2 (v : Int) (u : ByteArray) : Hd := ⟨takV v u 8, (takV v (k1 v u) 1 % 99 : Nat), takV v (k2 v u) 8⟩
def rh (b : ByteArray) : Hd := rdH (hv b) (fixT b 1)
def rh2 (b : ByteArray) : Hd := rdH2 (hv b) (fixT b 1)
structure Hd.Ok (h : Hd) : Prop where
  t : h.tm < 18446744073709551616
  c : h.cm < 18446744073709551616
  v1 : -9223372036854775808 ≤ h.vo
  v2 : h.vo ≤ 9223372036854775807
theorem rh_ok (b : ByteArray) : (rh b).Ok := ⟨takV_lt _ _ _ (by omega), takV_lt _ _ _ (by omega), (w64_range _).1, (w64_range _).2⟩
theorem rh2_ok (b : ByteArray) : (rh2 b).Ok := ⟨takV_lt _ _ _ (by omega), takV_lt _ _ _ (by omega), by show _ ≤ ((_ : Nat) : Int); omega, by show ((_ : Nat) : Int) ≤ _; omega⟩
def jO (b : ByteArray) : Bool := hO (hv b) (rh b) && ((hB (hv b) (rh b)).toList == b.toList)
def jO2 (b : ByteArray) : Bool := hO (hv b) (rh2 b) && ((hB (hv b) (rh2 b)).toList == b.toList)
def jH (b : ByteArray) : Hd := if jO b then rh b else hd0
def jV (b : ByteArray) : Int := if jO b then hv b else 0
theorem hd_read {v : Int} {h : Hd} (hh : hO v h = true) (ho : h.Ok) : hv (hB v h) = v ∧ rh (hB v h) = h ∧ rh2 (hB v h) = h := by
  obtain ⟨tm, vo, cm⟩ := h
  obtain ⟨h1, h2, h3⟩ := (hO_iff _ _).1 hh
  obtain ⟨ht, hc, _, _⟩ := ho
  dsimp only at h2 h3 ht hc
  obtain ⟨x, rfl⟩ := Int.eq_ofNat_of_zero_le h2
  obtain ⟨y, hy⟩ := Int.eq_ofNat_of_zero_le (by omega : 0 ≤ 16 + v)
  have E : hB v ⟨tm, x, cm⟩ = fxB y (1 : Nat) ++ (num v tm 8 ++ (num v x 1 ++ (num v cm 8 ++ ⟨#[]⟩))) := by
    unfold hB
    rw [hy]
    simp only [Int.toNat_natCast, append_assoc3, app_empty]
    rfl
  obtain ⟨p1, p2, _⟩ := fix_put y 1 (by omega) (num v tm 8 ++ (num v x 1 ++ (num v cm 8 ++ ⟨#[]⟩)))
  rw [← E] at p1 p2
  obtain ⟨q1, q2⟩ := tak_put v tm 8 (by omega) (by omega) (num v x 1 ++ (num v cm 8 ++ ⟨#[]⟩))
  obtain ⟨r1, r2⟩ := tak_put v x 1 (by omega) (by omega) (num v cm 8 ++ ⟨#[]⟩)
  obtain ⟨s1, s2⟩ := tak_put v cm 8 (by omega) (by omega) ⟨#[]⟩
  have hvv : hv (hB v ⟨tm, x, cm⟩) = v := by
    unfold hv
    have := p1
    rw [show ((1 : Nat) : Int) = 1 from rfl] at this
    rw [this, Nat.mod_eq_of_lt (by omega)]; omega
  have hp2 : fixT (hB v ⟨tm, x, cm⟩) 1 = num v tm 8 ++ (num v x 1 ++ (num v cm 8 ++ ⟨#[]⟩)) := p2
  refine ⟨hvv, ?_⟩
  unfold rh rh2
  rw [hvv, hp2]
  unfold rdH rdH2 k2 k1
  rw [q2, r2, q1, r1, s1]
  rw [w64_small x (by omega), Nat.mod_eq_of_lt (by omega : x < 99)]
  exact ⟨rfl, rfl⟩
theorem jO_iff (b : ByteArray) : jO b = true ↔ ∃ v h, hO v h = true ∧ Hd.Ok h ∧ b = hB v h := by
  unfold jO
  rw [Bool.and_eq_true, beq_iff]
  constructor
  · rintro ⟨h1, h2⟩; exact ⟨_, _, h1, rh_ok b, h2.symm⟩
  · rintro ⟨v, h, h1, h2, rfl⟩; obtain ⟨e1, e2, _⟩ := hd_read h1 h2; rw [e1, e2]; exact ⟨h1, rfl⟩
theorem jO2_iff (b : ByteArray) : jO2 b = true ↔ ∃ v h, hO v h = true ∧ Hd.Ok h ∧ b = hB v h := by
  unfold jO2
  rw [Bool.and_eq_true, beq_iff]
  constructor
  · rintro ⟨h1, h2⟩; exact ⟨_, _, h1, rh2_ok b, h2.symm⟩
  · rintro ⟨v, h, h1, h2, rfl⟩; obtain ⟨e1, _, e2⟩ := hd_read h1 h2; rw [e1, e2]; exact ⟨h1, rfl⟩
theorem jO2_eq (b : ByteArray) : jO2 b = jO b := by
  rw [Bool.eq_iff_iff, jO_iff, jO2_iff]
theorem rh2_eq {b : ByteArray} (h : jO b = true) : rh2 b = rh b := by
  obtain ⟨v, x, h1, h2, rfl⟩ := (jO_iff b).1 h
  obtain ⟨_, e2, e3⟩ := hd_read h1 h2
  rw [e2, e3]
theorem jO_hard {v : Int} {h : Hd} (h1 : hO v h = true) (h2 : h.Ok) : jO (hB v h) = true := (jO_iff _).2 ⟨v, h, h1, h2, rfl⟩
theorem jH_hard {v : Int} {h : Hd} (h1 : hO v h = true) (h2 : h.Ok) : jH (hB v h) = h ∧ jV (hB v h) = v := by
  obtain ⟨e1, e2, _⟩ := hd_read h1 h2
  unfold jH jV; rw [if_pos (jO_hard h1 h2), if_pos (jO_hard h1 h2)]; exact ⟨e2, e1⟩
theorem hB_size {v : Int} {h : Hd} (hh : hO v h = true) (ho : h.Ok) : (hB v h).size ≤ 31 ∧ 0 < (hB v h).size := by
  obtain ⟨h1, h2, h3⟩ := (hO_iff _ _).1 hh
  obtain ⟨ht, hc, _, _⟩ := ho
  have e1' : (fxB (16 + v).toNat 1).size = 1 := fxB_size (16 + v).toNat 1 (by omega)
  have e2 := num_size v h.tm 8 (by omega) ht
  have e3 := num_size v h.vo.toNat 1 (by omega) (by omega)
  have e4 := num_size v h.cm 8 (by omega) hc
  unfold hB
  simp only [ByteArray.size_append, e1']
  omega
end Sl
end Go.Proofs.YtdoombcihobejaaGreat
namespace Go.Proofs.YtdoombcihobejaaGreat
open Go.RowKit Vi Sl
set_option linter.unusedVariables false
set_option linter.unusedSimpArgs false
theorem within_any (n lo hi : Int) (w : World) : Calls Tryz.prog 78 #[.int .i64 n, .int .i64 lo, .int .i64 hi] w fun e w' => e = .returned (.bool (ins n lo hi)) ∧ w' = w := by
  unfold ins
  by_cases h1 : lo ≤ n
  · have d1 : decide (lo ≤ n) = true := decide_eq_true h1
    rw [d1, Bool.true_and]
    by_cases h2 : n ≤ hi
    · have d2 : decide (n ≤ hi) = true := decide_eq_true h2
      rw [d2]
      go_enter Tryz.func78, Tryz.ntmps78
      go_wp2
      go_ret
      exact ⟨rfl, rfl⟩
    · have d2 : decide (n ≤ hi) = false := decide_eq_false h2
      rw [d2]
      go_enter Tryz.func78, Tryz.ntmps78
      go_wp2
      go_ret
      exact ⟨rfl, rfl⟩
  · have d1 : decide (lo ≤ n) = false := decide_eq_false h1
    rw [d1, Bool.false_and]
    go_enter Tryz.func78, Tryz.ntmps78
    go_wp2
    go_ret
    exact ⟨rfl, rfl⟩
/-- A Super in a block of its own. -/
def sbx (w : World) (s : Su) : World := w.alloc (.cells s.c 23)
theorem sbx_cells (w : World) (s : Su) : (sbx w s).heap[w.heap.size]? = some (.cells s.c 23 (0, 0)) := heap_alloc_new w _
theorem sbx_below (w : World) (s : Su) : Below w.heap.size w (sbx w s) := (Below.refl _ _).alloc (Nat.le_refl _) _
theorem su_cells {w : World} {g : Nat} {s : Su} (h : w.heap[g]? = some (.cells s.c 23 (0, 0))) :
    w.cell? ⟨g, 0, none⟩ = some (.int .i64 s.v) ∧ w.cell? ⟨g, 1, none⟩ = some (.int .i64 s.sn) ∧ w.cell? ⟨g, 2, none⟩ = some (.int .i64 s.lg) ∧ w.cell? ⟨g, 3, none⟩ = some (.int .i64 s.ar) ∧ w.cell? ⟨g, 4, none⟩ = some (.int .i64 s.hf) ∧ w.cell? ⟨g, 5, none⟩ = some (.int .i64 s.gl) ∧ w.cell? ⟨g, 6, none⟩ = some (.int .i64 s.sp) :=
  ⟨cell_of_row w g 0 _ 23 (0, 0) h, cell_of_row w g 1 _ 23 (0, 0) h, cell_of_row w g 2 _ 23 (0, 0) h, cell_of_row w g 3 _ 23 (0, 0) h, cell_of_row w g 4 _ 23 (0, 0) h, cell_of_row w g 5 _ 23 (0, 0) h, cell_of_row w g 6 _ 23 (0, 0) h⟩

set_option maxHeartbeats 2000000 in
set_option maxRecDepth 100000 in
theorem right_any (s : Su) (w : World) : Calls Tryz.prog 50 #[s.val] w fun e w' => e = .returned (.bool (rgt s)) ∧ Below w.heap.size w w' := by
  obtain ⟨W, hW⟩ : ∃ W, W = sbx w s := ⟨_, rfl⟩
  obtain ⟨c0, c1, c2, c3, c4, c5, c6⟩ := su_cells (sbx_cells w s)
  have hb := sbx_below w s
  rw [← hW] at c0 c1 c2 c3 c4 c5 c6 hb
  have K0 := fun (W : World) => within_any s.v 1 2 W
  obtain ⟨b0, hb0⟩ : ∃ b, b = ins s.v 1 2 := ⟨_, rfl⟩
  rw [← hb0] at K0
  have HK0 := Lib.hid K0
  have K1 := fun (W : World) => within_any s.sn 1 1000 W
  obtain ⟨b1, hb1⟩ : ∃ b, b = ins s.sn 1 1000 := ⟨_, rfl⟩
  rw [← hb1] at K1
  have HK1 := Lib.hid K1
  have K2 := fun (W : World) => within_any s.lg 1 1000 W
  obtain ⟨b2, hb2⟩ : ∃ b, b = ins s.lg 1 1000 := ⟨_, rfl⟩
  rw [← hb2] at K2
  have HK2 := Lib.hid K2
  have K3 := fun (W : World) => within_any s.ar 0 1 W
  obtain ⟨b3, hb3⟩ : ∃ b, b = ins s.ar 0 1 := ⟨_, rfl⟩
  rw [← hb3] at K3
  have HK3 := Lib.hid K3
  have K4 := fun (W : World) => within_any s.hf 0 1 W
  obtain ⟨b4, hb4⟩ : ∃ b, b = ins s.hf 0 1 := ⟨_, rfl⟩
  rw [← hb4] at K4
  have HK4 := Lib.hid K4
  have K5 := fun (W : World) => within_any s.gl 0 2 W
  obtain ⟨b5, hb5⟩ : ∃ b, b = ins s.gl 0 2 := ⟨_, rfl⟩
  rw [← hb5] at K5
  have HK5 := Lib.hid K5
  have K6 := fun (W : World) => within_any s.sp 0 9 W
  obtain ⟨b6, hb6⟩ : ∃ b, b = ins s.sp 0 9 := ⟨_, rfl⟩
  rw [← hb6] at K6
  have HK6 := Lib.hid K6
  have HR : Hid (rgt s = (b0 && (b1 && (b2 && (b3 && (b4 && (b5 && (b6 && (decide (s.gl ≠ 0) || decide (s.sp = 0)))))))))) := by show _ = _; rw [hb0, hb1, hb2, hb3, hb4, hb5, hb6]; rfl
  obtain ⟨r, hr⟩ : ∃ r, r = rgt s := ⟨_, rfl⟩
  rw [← hr] at HR ⊢
  have HW := Lib.hid hW
  have HB := Lib.hid hb
  clear hr hb hW K0 K1 K2 K3 K4 K5 K6 hb0 hb1 hb2 hb3 hb4 hb5 hb6
  unfold sbx Su.val Su.c at *
  go_enter Tryz.func50, Tryz.ntmps50
  go_wp2_with fail
  rw [← HW.out]
  refine (HK0.out _).mono ?_
  rintro e w1 ⟨rfl, rfl⟩
  cases b0 with
  | false =>
    obtain rfl : r = false := HR.out
    go_wp2
    go_ret
    exact ⟨rfl, HB.out⟩
  | true =>
    go_wp2_with fail
    refine (HK1.out _).mono ?_
    rintro e w1 ⟨rfl, rfl⟩
    cases b1 with
    | false =>
      obtain rfl : r = false := HR.out
      go_wp2
      go_ret
      exact ⟨rfl, HB.out⟩
    | true =>
      go_wp2_with fail
      refine (HK2.out _).mono ?_
      rintro e w1 ⟨rfl, rfl⟩
      cases b2 with
      | false =>
        obtain rfl : r = false := HR.out
        go_wp2
        go_ret
        exact ⟨rfl, HB.out⟩
      | true =>
        go_wp2_with fail
        refine (HK3.out _).mono ?_
        rintro e w1 ⟨rfl, rfl⟩
        cases b3 with
        | false =>
          obtain rfl : r = false := HR.out
          go_wp2
          go_ret
          exact ⟨rfl, HB.out⟩
        | true =>
          go_wp2_with fail
          refine (HK4.out _).mono ?_
          rintro e w1 ⟨rfl, rfl⟩
          cases b4 with
          | false =>
            obtain rfl : r = false := HR.out
            go_wp2
            go_ret
            exact ⟨rfl, HB.out⟩
          | true =>
            go_wp2_with fail
            refine (HK5.out _).mono ?_
            rintro e w1 ⟨rfl, rfl⟩
            cases b5 with
            | false =>
              obtain rfl : r = false := HR.out
              go_wp2
              go_ret
              exact ⟨rfl, HB.out⟩
            | true =>
              go_wp2_with fail
              refine (HK6.out _).mono ?_
              rintro e w1 ⟨rfl, rfl⟩
              cases b6 with
              | false =>
                obtain rfl : r = false := HR.out
                go_wp2
                go_ret
                exact ⟨rfl, HB.out⟩
              | true =>
                by_cases h : s.gl = 0
                · have e1 : (s.gl != 0) = false := by simpa using h
                  by_cases h2 : s.sp = 0
                  · obtain rfl : r = true := by have := HR.out; rw [decide_eq_true h2, Bool.or_true] at this; exact this
                    have e2 : (s.sp == 0) = true := by simpa using h2
                    go_wp2
                    go_ret
                    exact ⟨rfl, HB.out⟩
                  · obtain rfl : r = false := by have := HR.out; rw [decide_eq_false h2, decide_eq_false (by simpa using h)] at this; exact this
                    have e2 : (s.sp == 0) = false := by simpa using h2
                    go_wp2
                    go_ret
                    exact ⟨rfl, HB.out⟩
                · have e1 : (s.gl != 0) = true := by simpa using h
                  obtain rfl : r = true := by have := HR.out; rw [decide_eq_true (by simpa using h)] at this; exact this
                  go_wp2
                  go_ret
                  exact ⟨rfl, HB.out⟩
set_option maxHeartbeats 1000000 in
set_option maxRecDepth 100000 in
theorem puts_any (w : World) :
    Calls Tryz.prog 51 #[] w fun r w' => r = .returned (.map (some w.heap.size)) ∧ w'.heap[w.heap.size]? = some (.map (two (fv 54) (fv 81)) 2) ∧ Below w.heap.size w w' ∧ w'.heap.size = w.heap.size + 1 := by
  have hmm := @run_makeMap Tryz.prog
  obtain ⟨w1, e1, h1, b1, _, s1⟩ := ins_step (T := 105) 1 (fv 54) Tryz.underlying105 (heap_alloc_new w (.map #[] 0)) rfl ((Below.refl _ _).alloc (Nat.le_refl _) _) (Nat.le_refl _)
  obtain ⟨w2, e2, h2, b2, _, s2⟩ := ins_step (T := 105) 2 (fv 81) Tryz.underlying105 h1 rfl b1 (Nat.le_refl _)
  have H2 : Hid (w2.heap[w.heap.size]? = some (.map (two (fv 54) (fv 81)) 2)) := h2
  have B2 := Lib.hid b2
  have S2 : Hid (w2.heap.size = w.heap.size + 1) := by show _ = _; rw [s2, s1]; simp
  clear h1 h2 b1 b2 s1 s2
  go_enter Tryz.func51, Tryz.ntmps51
  go_wp2
  go_ret
  exact ⟨rfl, H2.out, B2.out, S2.out⟩
set_option maxHeartbeats 1000000 in
set_option maxRecDepth 100000 in
theorem takes_any (w : World) :
    Calls Tryz.prog 57 #[] w fun r w' => r = .returned (.map (some w.heap.size)) ∧ w'.heap[w.heap.size]? = some (.map (two (fv 56) (fv 87)) 2) ∧ Below w.heap.size w w' ∧ w'.heap.size = w.heap.size + 1 := by
  have hmm := @run_makeMap Tryz.prog
  obtain ⟨w1, e1, h1, b1, _, s1⟩ := ins_step (T := 116) 1 (fv 56) Tryz.underlying116 (heap_alloc_new w (.map #[] 0)) rfl ((Below.refl _ _).alloc (Nat.le_refl _) _) (Nat.le_refl _)
  obtain ⟨w2, e2, h2, b2, _, s2⟩ := ins_step (T := 116) 2 (fv 87) Tryz.underlying116 h1 rfl b1 (Nat.le_refl _)
  have H2 : Hid (w2.heap[w.heap.size]? = some (.map (two (fv 56) (fv 87)) 2)) := h2
  have B2 := Lib.hid b2
  have S2 : Hid (w2.heap.size = w.heap.size + 1) := by show _ = _; rw [s2, s1]; simp
  clear h1 h2 b1 b2 s1 s2
  go_enter Tryz.func57, Tryz.ntmps57
  go_wp2
  go_ret
  exact ⟨rfl, H2.out, B2.out, S2.out⟩
set_option maxHeartbeats 1000000 in
set_option maxRecDepth 100000 in
/-- The number of version 2, put. -/
theorem wvar_any (B b n : Nat) (k : Int) (x : ByteArray) (w : World) (h : Wt B b x w) (hlen : x.size ≤ 140737488000000) (hB : B ≤ w.heap.size) (hn : n < 18446744073709551616) :
    Calls Tryz.prog 81 #[.pointer (some ⟨b, 0, none⟩), .int .u64 n, .int .i64 k] w fun e w' => e = .returned (.tuple #[]) ∧ Ws w B b (x ++ Vi.putB n) w' := by
  have hfs := putB_size n hn
  obtain ⟨s, hs⟩ : ∃ s, s = Vi.putB n := ⟨_, rfl⟩
  have K1 : Hid (∀ W, Ws w B b x W → Calls Tryz.prog 83 #[.int .u64 n] W fun e w' => e = .returned (.string s) ∧ Ws w B b x w') := fun W hW => (put_any n W hn).mono fun e w' ⟨h1, h2⟩ => ⟨by rw [h1, hs], hW.below h2⟩
  have K2 : Hid (∀ W, Ws w B b x W → Calls Tryz.prog 82 #[.pointer (some ⟨b, 0, none⟩), .string s] W fun e w' => e = .returned (.tuple #[.int .i64 s.size, .nilIface]) ∧ Ws w B b (x ++ s) w') := fun W hW => (wwrite B b x s W hW.t (by rw [hs]; omega) hW.sz).mono fun e w' ⟨h1, h2, h3, h4⟩ => ⟨h1, h2, hW.be.trans h3, hW.ok.trans h4, Nat.le_trans hW.sz h3.size, Nat.le_trans hW.sw h3.size⟩
  have S0 : Ws w B b x w := Ws.start h hB
  have S1 := S0.drew
  rw [← hs]
  clear h hlen hB hn hfs hs
  go_enter Tryz.func81, Tryz.ntmps81
  go_region_held3 (fun _ => True) (trivial) (first
    | (go_at_call 83; (with_reducible refine (K1.out _ (by assumption)).mono ?_); rintro r w6 ⟨rfl, s5⟩)
    | (go_at_call 82; (with_reducible refine (K2.out _ (by assumption)).mono ?_); rintro r w7 ⟨rfl, s6⟩))
  all_goals
    go_wp2
    go_end0
    exact ⟨rfl, s6⟩
set_option maxHeartbeats 1000000 in
set_option maxRecDepth 100000 in
theorem sectors_any (s : Su) (w : World) : Calls Tryz.prog 27 #[s.val] w fun e w' => e = .returned (.int .i64 (sec s)) ∧ Below w.heap.size w w' := by
  obtain ⟨W, hW⟩ : ∃ W, W = sbx w s := ⟨_, rfl⟩
  obtain ⟨c0, c1, c2, c3, c4, c5, c6⟩ := su_cells (sbx_cells w s)
  have hc := sbx_cells w s
  have hb := sbx_below w s
  have hsz : (sbx w s).heap.size = w.heap.size + 1 := by simp [sbx]
  rw [← hW] at c0 c1 c2 c3 c4 c5 c6 hb hc hsz
  have HK := Lib.hid (fun (W : World) => right_any s W)
  have HI := Lib.hid (rgt_iff s)
  have HS : Hid (sec s = if rgt s then 4 + 2 * (s.sn + s.lg) else 0) := rfl
  obtain ⟨r, hr⟩ : ∃ r, r = rgt s := ⟨_, rfl⟩
  rw [← hr] at HK HS HI
  have HC := Lib.hid hc
  have HZ := Lib.hid hsz
  have HW := Lib.hid hW
  have HB := Lib.hid hb
  clear hr hb hW c0 c1 c2 c3 c4 c5 c6 hc hsz
  unfold sbx Su.val Su.c at *
  go_enter Tryz.func27, Tryz.ntmps27
  go_wp2_with fail
  rw [← HW.out]
  refine (HK.out _).mono ?_
  rintro e w1 ⟨rfl, b1⟩
  have HB1 := Lib.hid (HB.out.trans (b1.mono HB.out.size))
  cases r with
  | false =>
    have hs : Hid (sec s = 0) := HS.out
    go_wp2
    go_ret
    exact ⟨by rw [hs.out]; rfl, HB1.out⟩
  | true =>
    have hs : Hid (sec s = 4 + 2 * (s.sn + s.lg)) := HS.out
    obtain ⟨_, h2, h3, _⟩ := HI.out.1 rfl
    have hc1 : w1.heap[w.heap.size]? = some (.cells s.c 23 (0, 0)) := (b1.block _ (by have := HZ.out; omega)).trans HC.out
    obtain ⟨c0, c1, c2, c3, c4, c5, c6⟩ := su_cells hc1
    clear HC HZ HW HB b1 hc1
    go_wp2
    go_ret
    exact ⟨by rw [hs.out]; rfl, HB1.out⟩
end Go.Proofs.YtdoombcihobejaaGreat
namespace Go.Proofs.YtdoombcihobejaaGreat
open Go.RowKit Vi Sl
set_option linter.unusedVariables false
set_option linter.unusedSimpArgs false
theorem look_one {T E : TypeId} {g clock i : Nat} {es : Array MapEntry} (c : Int) (v : Value) {w : World} (hT : Tryz.prog.underlying T = some (.map 3 E)) (hb : w.heap[g]? = some (.map es clock))
    (hf : Instr.findNow (.int .i64) (.int .i64 c) es.toList 0 = some (some (i, v))) :
    (Instr.lookup T (.map (some g)) (.int .i64 c) false).run Tryz.prog w = .ok v w := by
  have hk : Tryz.prog.underlying 3 = some (.int .i64) := Tryz.underlying3
  have hc : (Instr.checkKey es.isEmpty 10000 3 (.int .i64 c)).run Tryz.prog w = .ok () w := MapKept.run_checkKey (k := .int .i64 c) hk (by simp [MapKept.IsKey]) es.isEmpty 9999
  simp [Instr.lookup, run_underlying hT, MapKept.run_getObj_map hb, hc, MapKept.run_findKey hk hf, Result.andThen]
/-- A call that holds its Super in a block of its own. -/
structure Pq (w : World) (s : Su) (W : World) : Prop where
  be : Below w.heap.size w W
  bx : W.heap[w.heap.size]? = some (.cells s.c 23 (0, 0))
  lt : w.heap.size < W.heap.size
theorem Pq.c0 {w W : World} {s : Su} (h : Pq w s W) : W.cell? ⟨w.heap.size, 0, none⟩ = some (.int .i64 s.v) := (su_cells h.bx).1
theorem Pq.drew {w W : World} {s : Su} (h : Pq w s W) : Pq w s W.drew := ⟨h.be.drew, h.bx, h.lt⟩
theorem Pq.below {w W W' : World} {s : Su} (h : Pq w s W) (hb : Below W.heap.size W W') : Pq w s W' :=
  ⟨h.be.trans (hb.mono h.be.size), (hb.block _ h.lt).trans h.bx, Nat.lt_of_lt_of_le h.lt hb.size⟩
theorem Pq.alloc {w W : World} {s : Su} (h : Pq w s W) (o : Obj) : Pq w s (W.alloc o) := h.below ((Below.refl _ _).alloc (Nat.le_refl _) _)
theorem Pq.set {w W : World} {s : Su} (h : Pq w s W) (c : Nat) (hc : w.heap.size < c) (v : Value) : Pq w s (W.setCell ⟨c, 0, none⟩ v) :=
  ⟨h.be.setCell (p := ⟨c, 0, none⟩) (by show w.heap.size ≤ c; omega) _, (heap_setCell_other W ⟨c, 0, none⟩ w.heap.size v (by simp; omega)).trans h.bx, by simpa using h.lt⟩
theorem puts_pq {w W : World} {s : Su} (h : Pq w s W) : Calls Tryz.prog 51 #[] W fun r w' => ∃ g, r = .returned (.map (some g)) ∧ Pq w s w' ∧ w'.heap[g]? = some (.map (two (fv 54) (fv 81)) 2) ∧ Below W.heap.size W w' :=
  (puts_any W).mono fun r w' ⟨h1, h2, h3, _⟩ => ⟨_, h1, h.below h3, h2, h3⟩
theorem fresh_wt (w : World) (B : Nat) (hB : B ≤ w.heap.size) : Wt B w.heap.size ⟨#[]⟩ (w.alloc (.cells #[.pointer none, .slice none 0 0] 108)) := by
  have h := Lib.fresh_isBuilder 108 5 w
  rcases h with h | h
  · obtain ⟨h1, v, h2, h3, h4⟩ := h
    refine .inl ⟨hB, v, h2, ?_, h4⟩
    obtain rfl : v = .slice none 0 0 := by
      have e := heap_alloc_new w (.cells #[.pointer none, .slice none 0 0] 108)
      rw [e] at h2
      simp at h2
      exact h2.symm
    exact World.ownsRow_nil _ _ _ _
  · obtain ⟨h1, v, h2, _⟩ := h
    have e := heap_alloc_new w (.cells #[.pointer none, .slice none 0 0] 108)
    rw [e] at h2
    simp at h2
/-- What is put so far: the Super, how its numbers are put, the writer. -/
structure Pw (w : World) (s : Su) (fn c b : Nat) (x : ByteArray) (W : World) : Prop where
  q : Pq w s W
  fc : W.heap[c]? = some (.cells #[fv fn] 104 (0, 0))
  wt : Wt b b x W
  l1 : w.heap.size < c
  l2 : c < b
  l3 : b ≤ W.heap.size
theorem Pw.step {w W W' : World} {s : Su} {fn c b : Nat} {x y : ByteArray} (h : Pw w s fn c b x W) (hs : Ws W b b y W') : Pw w s fn c b y W' :=
  ⟨⟨h.q.be.trans (hs.be.mono (by have := h.l1; have := h.l2; omega)), (hs.be.block _ (by have := h.l1; have := h.l2; omega)).trans h.q.bx, Nat.lt_of_lt_of_le h.q.lt hs.sw⟩, (hs.be.block _ h.l2).trans h.fc, hs.t, h.l1, h.l2, hs.sz⟩

set_option maxHeartbeats 1000000 in
set_option maxRecDepth 100000 in
theorem cnt12_any {w : World} {s : Su} {c b : Nat} {x : ByteArray} (n : Nat) (hn : n < 65536) (W : World) (h : Pw w s 54 c b x W) (hx : x.size ≤ 1000) :
    Calls Tryz.prog 52 #[.int .i64 n, .pointer (some ⟨c, 0, none⟩), .pointer (some ⟨b, 0, none⟩)] W fun e w' => e = .returned (.tuple #[]) ∧ Pw w s 54 c b (x ++ num 1 n 2) w' := by
  have hw : IntKind.u64.wrap (n : Int) = n := by rw [IntKind.wrap_u64]; omega
  have cc : W.cell? ⟨c, 0, none⟩ = some (fv 54) := cell_of_row W c 0 _ 104 (0, 0) h.fc
  have K : Hid (Calls Tryz.prog 54 #[.pointer (some ⟨b, 0, none⟩), .int .u64 n, .int .i64 2] W fun e w' => e = .returned (.tuple #[]) ∧ Pw w s 54 c b (x ++ num 1 n 2) w') := (number_any b b n 2 x W h.wt (by omega) h.l3 (by omega)).mono fun e w' ⟨h1, h2⟩ => ⟨h1, h.step h2⟩
  clear h hx hn
  go_enter Tryz.func52, Tryz.ntmps52
  go_wp2_with fail
  refine K.out.mono ?_
  rintro e w1 ⟨rfl, h1⟩
  go_wp2
  go_end0
  exact ⟨rfl, h1⟩
set_option maxHeartbeats 1000000 in
set_option maxRecDepth 100000 in
theorem cnt11_any {w : World} {s : Su} {c b : Nat} {x : ByteArray} (n : Nat) (hn : n < 65536) (W : World) (h : Pw w s 54 c b x W) (hx : x.size ≤ 1000) :
    Calls Tryz.prog 53 #[.int .i64 n, .pointer (some ⟨c, 0, none⟩), .pointer (some ⟨b, 0, none⟩)] W fun e w' => e = .returned (.tuple #[]) ∧ Pw w s 54 c b (x ++ num 1 n 1) w' := by
  have hw : IntKind.u64.wrap (n : Int) = n := by rw [IntKind.wrap_u64]; omega
  have cc : W.cell? ⟨c, 0, none⟩ = some (fv 54) := cell_of_row W c 0 _ 104 (0, 0) h.fc
  have K : Hid (Calls Tryz.prog 54 #[.pointer (some ⟨b, 0, none⟩), .int .u64 n, .int .i64 1] W fun e w' => e = .returned (.tuple #[]) ∧ Pw w s 54 c b (x ++ num 1 n 1) w') := (number_any b b n 1 x W h.wt (by omega) h.l3 (by omega)).mono fun e w' ⟨h1, h2⟩ => ⟨h1, h.step h2⟩
  clear h hx hn
  go_enter Tryz.func53, Tryz.ntmps53
  go_wp2_with fail
  refine K.out.mono ?_
  rintro e w1 ⟨rfl, h1⟩
  go_wp2
  go_end0
  exact ⟨rfl, h1⟩
set_option maxHeartbeats 1000000 in
set_option maxRecDepth 100000 in
theorem cnt22_any {w : World} {s : Su} {c b : Nat} {x : ByteArray} (n : Nat) (hn : n < 65536) (W : World) (h : Pw w s 81 c b x W) (hx : x.size ≤ 1000) :
    Calls Tryz.prog 52 #[.int .i64 n, .pointer (some ⟨c, 0, none⟩), .pointer (some ⟨b, 0, none⟩)] W fun e w' => e = .returned (.tuple #[]) ∧ Pw w s 81 c b (x ++ num 2 n 2) w' := by
  have hw : IntKind.u64.wrap (n : Int) = n := by rw [IntKind.wrap_u64]; omega
  have cc : W.cell? ⟨c, 0, none⟩ = some (fv 81) := cell_of_row W c 0 _ 104 (0, 0) h.fc
  have K : Hid (Calls Tryz.prog 81 #[.pointer (some ⟨b, 0, none⟩), .int .u64 n, .int .i64 2] W fun e w' => e = .returned (.tuple #[]) ∧ Pw w s 81 c b (x ++ num 2 n 2) w') := (wvar_any b b n 2 x W h.wt (by omega) h.l3 (by omega)).mono fun e w' ⟨h1, h2⟩ => ⟨h1, h.step h2⟩
  clear h hx hn
  go_enter Tryz.func52, Tryz.ntmps52
  go_wp2_with fail
  refine K.out.mono ?_
  rintro e w1 ⟨rfl, h1⟩
  go_wp2
  go_end0
  exact ⟨rfl, h1⟩
set_option maxHeartbeats 1000000 in
set_option maxRecDepth 100000 in
theorem cnt21_any {w : World} {s : Su} {c b : Nat} {x : ByteArray} (n : Nat) (hn : n < 65536) (W : World) (h : Pw w s 81 c b x W) (hx : x.size ≤ 1000) :
    Calls Tryz.prog 53 #[.int .i64 n, .pointer (some ⟨c, 0, none⟩), .pointer (some ⟨b, 0, none⟩)] W fun e w' => e = .returned (.tuple #[]) ∧ Pw w s 81 c b (x ++ num 2 n 1) w' := by
  have hw : IntKind.u64.wrap (n : Int) = n := by rw [IntKind.wrap_u64]; omega
  have cc : W.cell? ⟨c, 0, none⟩ = some (fv 81) := cell_of_row W c 0 _ 104 (0, 0) h.fc
  have K : Hid (Calls Tryz.prog 81 #[.pointer (some ⟨b, 0, none⟩), .int .u64 n, .int .i64 1] W fun e w' => e = .returned (.tuple #[]) ∧ Pw w s 81 c b (x ++ num 2 n 1) w') := (wvar_any b b n 1 x W h.wt (by omega) h.l3 (by omega)).mono fun e w' ⟨h1, h2⟩ => ⟨h1, h.step h2⟩
  clear h hx hn
  go_enter Tryz.func53, Tryz.ntmps53
  go_wp2_with fail
  refine K.out.mono ?_
  rintro e w1 ⟨rfl, h1⟩
  go_wp2
  go_end0
  exact ⟨rfl, h1⟩
theorem sup_steps1 (a1 a2 a3 a4 a5 a6 : Nat) : ((((((((⟨#[]⟩ : ByteArray) ++ fxB 1 1) ++ num 1 a1 2) ++ num 1 a2 2) ++ num 1 a3 1) ++ num 1 a4 1) ++ num 1 a5 1) ++ num 1 a6 1) = supB ⟨1, (a1 : Nat), (a2 : Nat), (a3 : Nat), (a4 : Nat), (a5 : Nat), (a6 : Nat)⟩ := by
  rw [empty_app]; unfold supB; simp only [Int.toNat_natCast]; rfl
set_option maxHeartbeats 4000000 in
set_option maxRecDepth 100000 in
theorem putSuperN1_any (a1 a2 a3 a4 a5 a6 : Nat) (w : World) (h : rgt ⟨1, (a1 : Nat), (a2 : Nat), (a3 : Nat), (a4 : Nat), (a5 : Nat), (a6 : Nat)⟩ = true) : Calls Tryz.prog 24 #[Su.val ⟨1, (a1 : Nat), (a2 : Nat), (a3 : Nat), (a4 : Nat), (a5 : Nat), (a6 : Nat)⟩] w fun e w' => e = .returned (.tuple #[.string (supB ⟨1, (a1 : Nat), (a2 : Nat), (a3 : Nat), (a4 : Nat), (a5 : Nat), (a6 : Nat)⟩), .bool true]) ∧ Below w.heap.size w w' := by
  obtain ⟨W, hW⟩ : ∃ W, W = sbx w ⟨1, (a1 : Nat), (a2 : Nat), (a3 : Nat), (a4 : Nat), (a5 : Nat), (a6 : Nat)⟩ := ⟨_, rfl⟩
  have hc := sbx_cells w ⟨1, (a1 : Nat), (a2 : Nat), (a3 : Nat), (a4 : Nat), (a5 : Nat), (a6 : Nat)⟩
  have hb := sbx_below w ⟨1, (a1 : Nat), (a2 : Nat), (a3 : Nat), (a4 : Nat), (a5 : Nat), (a6 : Nat)⟩
  have hsz : (sbx w ⟨1, (a1 : Nat), (a2 : Nat), (a3 : Nat), (a4 : Nat), (a5 : Nat), (a6 : Nat)⟩).heap.size = w.heap.size + 1 := by simp [sbx]
  rw [← hW] at hb hc hsz
  have HK := Lib.hid (fun (W : World) => right_any ⟨1, (a1 : Nat), (a2 : Nat), (a3 : Nat), (a4 : Nat), (a5 : Nat), (a6 : Nat)⟩ W)
  rw [h] at HK
  have HN := Lib.hid (sup_steps1 a1 a2 a3 a4 a5 a6)
  have HC := Lib.hid hc
  have HZ := Lib.hid hsz
  have HW := Lib.hid hW
  have HB := Lib.hid hb
  have HPS := Lib.hid (supB_size h).2
  obtain ⟨_, r1, r2, r3, r4, r5, r6, _⟩ := (rgt_iff _).1 h
  dsimp only at r1 r2 r3 r4 r5 r6
  have HR : Hid (a1 < 65536 ∧ a2 < 65536 ∧ a3 < 65536 ∧ a4 < 65536 ∧ a5 < 65536 ∧ a6 < 65536) := ⟨by omega, by omega, by omega, by omega, by omega, by omega⟩
  clear hb hW hc hsz r1 r2 r3 r4 r5 r6
  unfold sbx Su.val at *
  unfold Su.c at HW HK ⊢
  dsimp only at HW HK ⊢
  go_enter Tryz.func24, Tryz.ntmps24
  go_wp2_with fail
  rw [← HW.out]
  refine (HK.out _).mono ?_
  rintro e w1 ⟨rfl, b1⟩
  have hB1 := HB.out.trans (b1.mono HB.out.size)
  have hc1 : w1.heap[w.heap.size]? = some (.cells (Su.c ⟨1, (a1 : Nat), (a2 : Nat), (a3 : Nat), (a4 : Nat), (a5 : Nat), (a6 : Nat)⟩) 23 (0, 0)) := (b1.block _ (by have := HZ.out; omega)).trans HC.out
  have hlt : w.heap.size < w1.heap.size := (Array.getElem?_eq_some_iff.1 hc1).1
  have HQ1 : Hid (Pq w ⟨1, (a1 : Nat), (a2 : Nat), (a3 : Nat), (a4 : Nat), (a5 : Nat), (a6 : Nat)⟩ w1) := ⟨hB1, hc1, hlt⟩
  have c0 : w1.cell? ⟨w.heap.size, 0, none⟩ = some (.int .i64 1) := cell_of_row w1 _ 0 _ 23 (0, 0) hc1
  have KP := Lib.hid (fun (W : World) (hQ : Pq w ⟨1, (a1 : Nat), (a2 : Nat), (a3 : Nat), (a4 : Nat), (a5 : Nat), (a6 : Nat)⟩ W) => puts_pq hQ)
  clear HC HZ HW HB b1 hc1 hlt HK h hB1
  go_upto_region 3 with fail
  go_cut [4] from 8 to 46 (fun s4 wx => ∃ c, s4 = .pointer (some ⟨c, 0, none⟩) ∧ Pq w ⟨1, (a1 : Nat), (a2 : Nat), (a3 : Nat), (a4 : Nat), (a5 : Nat), (a6 : Nat)⟩ wx ∧ wx.heap[c]? = some (.cells #[fv 54] 104 (0, 0)) ∧ w.heap.size < c)
  case first =>
    refine wp_region_noPanic ?_
    refine wp_region_held_drew (S := (fun w' => w'.cell? ⟨w.heap.size, 0, none⟩ = some (.int .i64 1))) (by kernel_rfl) (by exact c0) (fun hHeld => ?_)
    refine wpAnyH_take (v := ?v1) (i := 1) rfl (by kernel_rfl) (by kernel_rfl) (by kernel_rfl) (fun _ _ _ h => h) (Or.inl ⟨by kernel_rfl, ?hy1⟩) (by assumption) ?rest1
    case hy1 => (intro w hSw; (try dsimp only at hSw); go_simp; first | done | (with_reducible rfl))
    try simp only [Act.put, List.setIfInBounds_toArray, List.set_cons_zero, List.set_cons_succ]
    refine wpAnyH_take (v := ?v2) (i := 2) rfl (by kernel_rfl) (by kernel_rfl) (by kernel_rfl) (fun _ _ _ h => h) (Or.inl ⟨by kernel_rfl, ?hy2⟩) (by assumption) ?rest2
    case hy2 => (intro w hSw; (try dsimp only at hSw); go_simp; first | done | (with_reducible rfl))
    try simp only [Act.put, List.setIfInBounds_toArray, List.set_cons_zero, List.set_cons_succ]
    have HQd : Hid (Pq w ⟨1, (a1 : Nat), (a2 : Nat), (a3 : Nat), (a4 : Nat), (a5 : Nat), (a6 : Nat)⟩ w1.drew) := Pq.drew HQ1.out
    refine wpAnyH_ready (rs := [0, 4]) (by kernel_rfl) (by simp) ?_
    refine AllReadyH.cons rfl (fun K hK => ?_) (AllReadyH.cons rfl (fun K hK => ?_) AllReadyH.nil)
    · go_simp
      go_at_call 51
      (with_reducible refine (KP.out _ HQd.out).mono ?_)
      rintro q w2 ⟨g2, rfl, HQ2, m2, b2⟩
      try go_wp2_with fail
      refine hK.out _ _ ?_ (fun hHeld => ?_)
      · exact HQ2.c0
      clear hK K
      try simp only [Act.put, List.setIfInBounds_toArray, List.set_cons_zero, List.set_cons_succ]
      refine wpAnyH_ready (rs := [3, 4]) (by kernel_rfl) (by simp) ?_
      refine AllReadyH.cons rfl (fun K hK => ?_) (AllReadyH.cons rfl (fun K hK => ?_) AllReadyH.nil)
      · have hl := look_one (T := 105) 1 (fv 54) Tryz.underlying105 m2 (two_1 _ _)
        go_simp
        refine hK.out _ _ ?_ (fun hHeld => ?_)
        · exact HQ2.c0
        clear hK K hl
        try simp only [Act.put, List.setIfInBounds_toArray, List.set_cons_zero, List.set_cons_succ]
        refine wpAnyH_ready (rs := [4]) (by kernel_rfl) (by simp) ?_
        refine AllReadyH.cons rfl (fun K hK => ?_) AllReadyH.nil
        go_simp
        refine hK.out _ _ ?_ (fun hHeld => ?_)
        · exact (HQ2.alloc _).c0
        clear hK K
        try simp only [Act.put, List.setIfInBounds_toArray, List.set_cons_zero, List.set_cons_succ]
        refine wpAnyH_ready (rs := [5]) (by kernel_rfl) (by simp) ?_
        refine AllReadyH.cons rfl (fun K hK => ?_) AllReadyH.nil
        go_simp
        refine hK.out _ _ ?_ (fun hHeld => ?_)
        · exact (HQ2.alloc _).c0
        clear hK K
        try simp only [Act.put, List.setIfInBounds_toArray, List.set_cons_zero, List.set_cons_succ]
        refine wpAnyH_done (by kernel_rfl) ?_ _
        refine NoPanic.normal ?_
        go_wp2_with fail
        go_meet
        exact ⟨_, rfl, HQ2.alloc _, heap_alloc_new w2 _, HQ2.lt⟩
      · go_simp
        refine hK.out _ _ ?_ (fun hHeld => ?_)
        · exact (HQ2.alloc _).c0
        clear hK K
        try simp only [Act.put, List.setIfInBounds_toArray, List.set_cons_zero, List.set_cons_succ]
        refine wpAnyH_ready (rs := [3]) (by kernel_rfl) (by simp) ?_
        refine AllReadyH.cons rfl (fun K hK => ?_) AllReadyH.nil
        have m2' : (w2.alloc (Obj.cells #[Value.nilFunc] 104)).heap[g2]? = some (.map (two (fv 54) (fv 81)) 2) := (Lib.alloc_old _ _ _ (Array.getElem?_eq_some_iff.1 m2).1).trans m2
        have hl := look_one (T := 105) 1 (fv 54) Tryz.underlying105 m2' (two_1 _ _)
        go_simp
        refine hK.out _ _ ?_ (fun hHeld => ?_)
        · exact (HQ2.alloc _).c0
        clear hK K hl
        try simp only [Act.put, List.setIfInBounds_toArray, List.set_cons_zero, List.set_cons_succ]
        refine wpAnyH_ready (rs := [5]) (by kernel_rfl) (by simp) ?_
        refine AllReadyH.cons rfl (fun K hK => ?_) AllReadyH.nil
        go_simp
        refine hK.out _ _ ?_ (fun hHeld => ?_)
        · exact (HQ2.alloc _).c0
        clear hK K
        try simp only [Act.put, List.setIfInBounds_toArray, List.set_cons_zero, List.set_cons_succ]
        refine wpAnyH_done (by kernel_rfl) ?_ _
        refine NoPanic.normal ?_
        go_wp2_with fail
        go_meet
        exact ⟨_, rfl, HQ2.alloc _, heap_alloc_new w2 _, HQ2.lt⟩
    · go_simp
      refine hK.out _ _ ?_ (fun hHeld => ?_)
      · exact (Pq.drew (Pq.alloc HQ1.out _)).c0
      clear hK K
      try simp only [Act.put, List.setIfInBounds_toArray, List.set_cons_zero, List.set_cons_succ]
      refine wpAnyH_ready (rs := [0]) (by kernel_rfl) (by simp) ?_
      refine AllReadyH.cons rfl (fun K hK => ?_) AllReadyH.nil
      go_simp
      go_at_call 51
      (with_reducible refine (KP.out _ (Pq.drew (Pq.alloc HQ1.out _))).mono ?_)
      rintro q w2 ⟨g2, rfl, HQ2, m2, b2⟩
      try go_wp2_with fail
      refine hK.out _ _ ?_ (fun hHeld => ?_)
      · exact HQ2.c0
      clear hK K
      try simp only [Act.put, List.setIfInBounds_toArray, List.set_cons_zero, List.set_cons_succ]
      refine wpAnyH_ready (rs := [3]) (by kernel_rfl) (by simp) ?_
      refine AllReadyH.cons rfl (fun K hK => ?_) AllReadyH.nil
      have hl := look_one (T := 105) 1 (fv 54) Tryz.underlying105 m2 (two_1 _ _)
      go_simp
      refine hK.out _ _ ?_ (fun hHeld => ?_)
      · exact HQ2.c0
      clear hK K hl
      try simp only [Act.put, List.setIfInBounds_toArray, List.set_cons_zero, List.set_cons_succ]
      have f2 : w2.heap[w1.heap.size]? = some (.cells #[.nilFunc] 104 (0, 0)) := (b2.block _ (by simp)).trans (heap_alloc_new w1 _)
      have z2 : w2.frozen? ⟨w1.heap.size, 0, none⟩ = false := frozen_of_row w2 w1.heap.size 0 _ 104 f2
      have y2 : w2.cell? ⟨w1.heap.size, 0, none⟩ = some .nilFunc := cell_of_row w2 w1.heap.size 0 _ 104 (0, 0) f2
      refine wpAnyH_ready (rs := [5]) (by kernel_rfl) (by simp) ?_
      refine AllReadyH.cons rfl (fun K hK => ?_) AllReadyH.nil
      go_simp
      refine hK.out _ _ ?_ (fun hHeld => ?_)
      · exact (HQ2.set _ HQ1.out.lt _).c0
      clear hK K
      try simp only [Act.put, List.setIfInBounds_toArray, List.set_cons_zero, List.set_cons_succ]
      refine wpAnyH_done (by kernel_rfl) ?_ _
      refine NoPanic.normal ?_
      go_wp2_with fail
      go_meet
      exact ⟨_, rfl, HQ2.set _ HQ1.out.lt _, heap_setCell_same w2 w1.heap.size 0 _ 104 _ f2, HQ1.out.lt⟩
  case rest =>
    obtain ⟨c, rfl, Q, fc, hlc⟩ := hcut
    have hcb : c < wc.heap.size := (Array.getElem?_eq_some_iff.1 fc).1
    have PW0 : Hid (Pw w ⟨1, (a1 : Nat), (a2 : Nat), (a3 : Nat), (a4 : Nat), (a5 : Nat), (a6 : Nat)⟩ 54 c wc.heap.size ⟨#[]⟩ (wc.alloc (.cells #[.pointer none, .slice none 0 0] 108))) :=
      ⟨Q.alloc _, (Lib.alloc_old _ _ _ hcb).trans fc, fresh_wt wc _ (Nat.le_refl _), hlc, hcb, by simp⟩
    obtain ⟨x0, x1, x2, x3, x4, x5, x6⟩ := su_cells Q.bx
    obtain ⟨z0, z1, z2, z3, z4, z5, z6⟩ := su_cells PW0.out.q.bx
    obtain ⟨V, hV⟩ : ∃ V, V = wc.alloc (.cells #[.pointer none, .slice none 0 0] 108) := ⟨_, rfl⟩
    rw [← hV] at PW0
    have HV := Lib.hid hV
    clear c0 HQ1 KP Q fc hlc hcb hV w1
    generalize hb : wc.heap.size = b at *
    have HBB := Lib.hid hb
    clear hb
    go_wp2_with fail
    rw [← HV.out, HBB.out]
    have KF : Hid (Calls Tryz.prog 54 #[.pointer (some ⟨b, 0, none⟩), .int .u64 1, .int .i64 1] V fun e w' => e = .returned (.tuple #[]) ∧ Pw w ⟨1, (a1 : Nat), (a2 : Nat), (a3 : Nat), (a4 : Nat), (a5 : Nat), (a6 : Nat)⟩ 54 c b ((⟨#[]⟩ : ByteArray) ++ fxB 1 1) w') := (number_any b b 1 1 ⟨#[]⟩ V PW0.out.wt (by decide) PW0.out.l3 (by omega)).mono fun e w' ⟨h1, h2⟩ => ⟨h1, PW0.out.step h2⟩
    refine KF.out.mono ?_
    rintro e y0 ⟨rfl, PW1⟩
    have HP1 := Lib.hid PW1
    clear KF PW0 HV PW1 x0 x1 x2 x3 x4 x5 x6 z0 z1 z2 z3 z4 z5 z6
    have hx0 : Hid (((⟨#[]⟩ : ByteArray) ++ fxB 1 1).size ≤ 1000) := by
      obtain ⟨r1, r2, r3, r4, r5, r6⟩ := HR.out
      have e0 : (fxB 1 1).size = 1 := fxB_size 1 1 (by omega)
      show _ ≤ _
      simp only [ByteArray.size_append, e0]
      have e9 : (ByteArray.mk #[]).size = 0 := rfl
      omega
    have KF := Lib.hid (cnt12_any a1 (by have := HR.out; omega) _ HP1.out hx0.out)
    obtain ⟨x0, x1, x2, x3, x4, x5, x6⟩ := su_cells HP1.out.q.bx
    go_wp2_with fail
    refine KF.out.mono ?_
    rintro e y1 ⟨rfl, PW1⟩
    have HP2 := Lib.hid PW1
    clear KF HP1 PW1 x0 x1 x2 x3 x4 x5 x6 hx0
    have hx1 : Hid ((((⟨#[]⟩ : ByteArray) ++ fxB 1 1) ++ num 1 a1 2).size ≤ 1000) := by
      obtain ⟨r1, r2, r3, r4, r5, r6⟩ := HR.out
      have e0 : (fxB 1 1).size = 1 := fxB_size 1 1 (by omega)
      have e1 := num_size 1 a1 2 (by omega) (by omega)
      show _ ≤ _
      simp only [ByteArray.size_append, e0]
      have e9 : (ByteArray.mk #[]).size = 0 := rfl
      omega
    have KF := Lib.hid (cnt12_any a2 (by have := HR.out; omega) _ HP2.out hx1.out)
    obtain ⟨x0, x1, x2, x3, x4, x5, x6⟩ := su_cells HP2.out.q.bx
    go_wp2_with fail
    refine KF.out.mono ?_
    rintro e y2 ⟨rfl, PW1⟩
    have HP3 := Lib.hid PW1
    clear KF HP2 PW1 x0 x1 x2 x3 x4 x5 x6 hx1
    have hx2 : Hid (((((⟨#[]⟩ : ByteArray) ++ fxB 1 1) ++ num 1 a1 2) ++ num 1 a2 2).size ≤ 1000) := by
      obtain ⟨r1, r2, r3, r4, r5, r6⟩ := HR.out
      have e0 : (fxB 1 1).size = 1 := fxB_size 1 1 (by omega)
      have e1 := num_size 1 a1 2 (by omega) (by omega)
      have e2 := num_size 1 a2 2 (by omega) (by omega)
      show _ ≤ _
      simp only [ByteArray.size_append, e0]
      have e9 : (ByteArray.mk #[]).size = 0 := rfl
      omega
    have KF := Lib.hid (cnt11_any a3 (by have := HR.out; omega) _ HP3.out hx2.out)
    obtain ⟨x0, x1, x2, x3, x4, x5, x6⟩ := su_cells HP3.out.q.bx
    go_wp2_with fail
    refine KF.out.mono ?_
    rintro e y3 ⟨rfl, PW1⟩
    have HP4 := Lib.hid PW1
    clear KF HP3 PW1 x0 x1 x2 x3 x4 x5 x6 hx2
    have hx3 : Hid ((((((⟨#[]⟩ : ByteArray) ++ fxB 1 1) ++ num 1 a1 2) ++ num 1 a2 2) ++ num 1 a3 1).size ≤ 1000) := by
      obtain ⟨r1, r2, r3, r4, r5, r6⟩ := HR.out
      have e0 : (fxB 1 1).size = 1 := fxB_size 1 1 (by omega)
      have e1 := num_size 1 a1 2 (by omega) (by omega)
      have e2 := num_size 1 a2 2 (by omega) (by omega)
      have e3 := num_size 1 a3 1 (by omega) (by omega)
      show _ ≤ _
      simp only [ByteArray.size_append, e0]
      have e9 : (ByteArray.mk #[]).size = 0 := rfl
      omega
    have KF := Lib.hid (cnt11_any a4 (by have := HR.out; omega) _ HP4.out hx3.out)
    obtain ⟨x0, x1, x2, x3, x4, x5, x6⟩ := su_cells HP4.out.q.bx
    go_wp2_with fail
    refine KF.out.mono ?_
    rintro e y4 ⟨rfl, PW1⟩
    have HP5 := Lib.hid PW1
    clear KF HP4 PW1 x0 x1 x2 x3 x4 x5 x6 hx3
    have hx4 : Hid (((((((⟨#[]⟩ : ByteArray) ++ fxB 1 1) ++ num 1 a1 2) ++ num 1 a2 2) ++ num 1 a3 1) ++ num 1 a4 1).size ≤ 1000) := by
      obtain ⟨r1, r2, r3, r4, r5, r6⟩ := HR.out
      have e0 : (fxB 1 1).size = 1 := fxB_size 1 1 (by omega)
      have e1 := num_size 1 a1 2 (by omega) (by omega)
      have e2 := num_size 1 a2 2 (by omega) (by omega)
      have e3 := num_size 1 a3 1 (by omega) (by omega)
      have e4 := num_size 1 a4 1 (by omega) (by omega)
      show _ ≤ _
      simp only [ByteArray.size_append, e0]
      have e9 : (ByteArray.mk #[]).size = 0 := rfl
      omega
    have KF := Lib.hid (cnt11_any a5 (by have := HR.out; omega) _ HP5.out hx4.out)
    obtain ⟨x0, x1, x2, x3, x4, x5, x6⟩ := su_cells HP5.out.q.bx
    go_wp2_with fail
    refine KF.out.mono ?_
    rintro e y5 ⟨rfl, PW1⟩
    have HP6 := Lib.hid PW1
    clear KF HP5 PW1 x0 x1 x2 x3 x4 x5 x6 hx4
    have hx5 : Hid ((((((((⟨#[]⟩ : ByteArray) ++ fxB 1 1) ++ num 1 a1 2) ++ num 1 a2 2) ++ num 1 a3 1) ++ num 1 a4 1) ++ num 1 a5 1).size ≤ 1000) := by
      obtain ⟨r1, r2, r3, r4, r5, r6⟩ := HR.out
      have e0 : (fxB 1 1).size = 1 := fxB_size 1 1 (by omega)
      have e1 := num_size 1 a1 2 (by omega) (by omega)
      have e2 := num_size 1 a2 2 (by omega) (by omega)
      have e3 := num_size 1 a3 1 (by omega) (by omega)
      have e4 := num_size 1 a4 1 (by omega) (by omega)
      have e5 := num_size 1 a5 1 (by omega) (by omega)
      show _ ≤ _
      simp only [ByteArray.size_append, e0]
      have e9 : (ByteArray.mk #[]).size = 0 := rfl
      omega
    have KF := Lib.hid (cnt11_any a6 (by have := HR.out; omega) _ HP6.out hx5.out)
    obtain ⟨x0, x1, x2, x3, x4, x5, x6⟩ := su_cells HP6.out.q.bx
    go_wp2_with fail
    refine KF.out.mono ?_
    rintro e y6 ⟨rfl, PW1⟩
    have HP7 := Lib.hid PW1
    clear KF HP6 PW1 x0 x1 x2 x3 x4 x5 x6 hx5
    have KS := Lib.hid (wstring b b _ _ HP7.out.wt (by rw [HN.out]; exact HPS.out))
    go_wp2_with fail
    refine KS.out.mono ?_
    rintro e y8 ⟨rfl, b8⟩
    have HF := Lib.hid (HP7.out.q.be.trans (b8.mono (by have := HP7.out.l1; have := HP7.out.l2; omega)))
    clear KS b8 HP7
    go_wp2
    go_ret2
    exact ⟨by rw [← HN.out]; rfl, HF.out⟩

theorem sup_steps2 (a1 a2 a3 a4 a5 a6 : Nat) : ((((((((⟨#[]⟩ : ByteArray) ++ fxB 2 1) ++ num 2 a1 2) ++ num 2 a2 2) ++ num 2 a3 1) ++ num 2 a4 1) ++ num 2 a5 1) ++ num 2 a6 1) = supB ⟨2, (a1 : Nat), (a2 : Nat), (a3 : Nat), (a4 : Nat), (a5 : Nat), (a6 : Nat)⟩ := by
  rw [empty_app]; unfold supB; simp only [Int.toNat_natCast]; rfl
set_option maxHeartbeats 4000000 in
set_option maxRecDepth 100000 in
theorem putSuperN2_any (a1 a2 a3 a4 a5 a6 : Nat) (w : World) (h : rgt ⟨2, (a1 : Nat), (a2 : Nat), (a3 : Nat), (a4 : Nat), (a5 : Nat), (a6 : Nat)⟩ = true) : Calls Tryz.prog 24 #[Su.val ⟨2, (a1 : Nat), (a2 : Nat), (a3 : Nat), (a4 : Nat), (a5 : Nat), (a6 : Nat)⟩] w fun e w' => e = .returned (.tuple #[.string (supB ⟨2, (a1 : Nat), (a2 : Nat), (a3 : Nat), (a4 : Nat), (a5 : Nat), (a6 : Nat)⟩), .bool true]) ∧ Below w.heap.size w w' := by
  obtain ⟨W, hW⟩ : ∃ W, W = sbx w ⟨2, (a1 : Nat), (a2 : Nat), (a3 : Nat), (a4 : Nat), (a5 : Nat), (a6 : Nat)⟩ := ⟨_, rfl⟩
  have hc := sbx_cells w ⟨2, (a1 : Nat), (a2 : Nat), (a3 : Nat), (a4 : Nat), (a5 : Nat), (a6 : Nat)⟩
  have hb := sbx_below w ⟨2, (a1 : Nat), (a2 : Nat), (a3 : Nat), (a4 : Nat), (a5 : Nat), (a6 : Nat)⟩
  have hsz : (sbx w ⟨2, (a1 : Nat), (a2 : Nat), (a3 : Nat), (a4 : Nat), (a5 : Nat), (a6 : Nat)⟩).heap.size = w.heap.size + 1 := by simp [sbx]
  rw [← hW] at hb hc hsz
  have HK := Lib.hid (fun (W : World) => right_any ⟨2, (a1 : Nat), (a2 : Nat), (a3 : Nat), (a4 : Nat), (a5 : Nat), (a6 : Nat)⟩ W)
  rw [h] at HK
  have HN := Lib.hid (sup_steps2 a1 a2 a3 a4 a5 a6)
  have HC := Lib.hid hc
  have HZ := Lib.hid hsz
  have HW := Lib.hid hW
  have HB := Lib.hid hb
  have HPS := Lib.hid (supB_size h).2
  obtain ⟨_, r1, r2, r3, r4, r5, r6, _⟩ := (rgt_iff _).1 h
  dsimp only at r1 r2 r3 r4 r5 r6
  have HR : Hid (a1 < 65536 ∧ a2 < 65536 ∧ a3 < 65536 ∧ a4 < 65536 ∧ a5 < 65536 ∧ a6 < 65536) := ⟨by omega, by omega, by omega, by omega, by omega, by omega⟩
  clear hb hW hc hsz r1 r2 r3 r4 r5 r6
  unfold sbx Su.val at *
  unfold Su.c at HW HK ⊢
  dsimp only at HW HK ⊢
  go_enter Tryz.func24, Tryz.ntmps24
  go_wp2_with fail
  rw [← HW.out]
  refine (HK.out _).mono ?_
  rintro e w1 ⟨rfl, b1⟩
  have hB1 := HB.out.trans (b1.mono HB.out.size)
  have hc1 : w1.heap[w.heap.size]? = some (.cells (Su.c ⟨2, (a1 : Nat), (a2 : Nat), (a3 : Nat), (a4 : Nat), (a5 : Nat), (a6 : Nat)⟩) 23 (0, 0)) := (b1.block _ (by have := HZ.out; omega)).trans HC.out
  have hlt : w.heap.size < w1.heap.size := (Array.getElem?_eq_some_iff.1 hc1).1
  have HQ1 : Hid (Pq w ⟨2, (a1 : Nat), (a2 : Nat), (a3 : Nat), (a4 : Nat), (a5 : Nat), (a6 : Nat)⟩ w1) := ⟨hB1, hc1, hlt⟩
  have c0 : w1.cell? ⟨w.heap.size, 0, none⟩ = some (.int .i64 2) := cell_of_row w1 _ 0 _ 23 (0, 0) hc1
  have KP := Lib.hid (fun (W : World) (hQ : Pq w ⟨2, (a1 : Nat), (a2 : Nat), (a3 : Nat), (a4 : Nat), (a5 : Nat), (a6 : Nat)⟩ W) => puts_pq hQ)
  clear HC HZ HW HB b1 hc1 hlt HK h hB1
  go_upto_region 3 with fail
  go_cut [4] from 8 to 46 (fun s4 wx => ∃ c, s4 = .pointer (some ⟨c, 0, none⟩) ∧ Pq w ⟨2, (a1 : Nat), (a2 : Nat), (a3 : Nat), (a4 : Nat), (a5 : Nat), (a6 : Nat)⟩ wx ∧ wx.heap[c]? = some (.cells #[fv 81] 104 (0, 0)) ∧ w.heap.size < c)
  case first =>
    refine wp_region_noPanic ?_
    refine wp_region_held_drew (S := (fun w' => w'.cell? ⟨w.heap.size, 0, none⟩ = some (.int .i64 2))) (by kernel_rfl) (by exact c0) (fun hHeld => ?_)
    refine wpAnyH_take (v := ?v1) (i := 1) rfl (by kernel_rfl) (by kernel_rfl) (by kernel_rfl) (fun _ _ _ h => h) (Or.inl ⟨by kernel_rfl, ?hy1⟩) (by assumption) ?rest1
    case hy1 => (intro w hSw; (try dsimp only at hSw); go_simp; first | done | (with_reducible rfl))
    try simp only [Act.put, List.setIfInBounds_toArray, List.set_cons_zero, List.set_cons_succ]
    refine wpAnyH_take (v := ?v2) (i := 2) rfl (by kernel_rfl) (by kernel_rfl) (by kernel_rfl) (fun _ _ _ h => h) (Or.inl ⟨by kernel_rfl, ?hy2⟩) (by assumption) ?rest2
    case hy2 => (intro w hSw; (try dsimp only at hSw); go_simp; first | done | (with_reducible rfl))
    try simp only [Act.put, List.setIfInBounds_toArray, List.set_cons_zero, List.set_cons_succ]
    have HQd : Hid (Pq w ⟨2, (a1 : Nat), (a2 : Nat), (a3 : Nat), (a4 : Nat), (a5 : Nat), (a6 : Nat)⟩ w1.drew) := Pq.drew HQ1.out
    refine wpAnyH_ready (rs := [0, 4]) (by kernel_rfl) (by simp) ?_
    refine AllReadyH.cons rfl (fun K hK => ?_) (AllReadyH.cons rfl (fun K hK => ?_) AllReadyH.nil)
    · go_simp
      go_at_call 51
      (with_reducible refine (KP.out _ HQd.out).mono ?_)
      rintro q w2 ⟨g2, rfl, HQ2, m2, b2⟩
      try go_wp2_with fail
      refine hK.out _ _ ?_ (fun hHeld => ?_)
      · exact HQ2.c0
      clear hK K
      try simp only [Act.put, List.setIfInBounds_toArray, List.set_cons_zero, List.set_cons_succ]
      refine wpAnyH_ready (rs := [3, 4]) (by kernel_rfl) (by simp) ?_
      refine AllReadyH.cons rfl (fun K hK => ?_) (AllReadyH.cons rfl (fun K hK => ?_) AllReadyH.nil)
      · have hl := look_one (T := 105) 2 (fv 81) Tryz.underlying105 m2 (two_2 _ _)
        go_simp
        refine hK.out _ _ ?_ (fun hHeld => ?_)
        · exact HQ2.c0
        clear hK K hl
        try simp only [Act.put, List.setIfInBounds_toArray, List.set_cons_zero, List.set_cons_succ]
        refine wpAnyH_ready (rs := [4]) (by kernel_rfl) (by simp) ?_
        refine AllReadyH.cons rfl (fun K hK => ?_) AllReadyH.nil
        go_simp
        refine hK.out _ _ ?_ (fun hHeld => ?_)
        · exact (HQ2.alloc _).c0
        clear hK K
        try simp only [Act.put, List.setIfInBounds_toArray, List.set_cons_zero, List.set_cons_succ]
        refine wpAnyH_ready (rs := [5]) (by kernel_rfl) (by simp) ?_
        refine AllReadyH.cons rfl (fun K hK => ?_) AllReadyH.nil
        go_simp
        refine hK.out _ _ ?_ (fun hHeld => ?_)
        · exact (HQ2.alloc _).c0
        clear hK K
        try simp only [Act.put, List.setIfInBounds_toArray, List.set_cons_zero, List.set_cons_succ]
        refine wpAnyH_done (by kernel_rfl) ?_ _
        refine NoPanic.normal ?_
        go_wp2_with fail
        go_meet
        exact ⟨_, rfl, HQ2.alloc _, heap_alloc_new w2 _, HQ2.lt⟩
      · go_simp
        refine hK.out _ _ ?_ (fun hHeld => ?_)
        · exact (HQ2.alloc _).c0
        clear hK K
        try simp only [Act.put, List.setIfInBounds_toArray, List.set_cons_zero, List.set_cons_succ]
        refine wpAnyH_ready (rs := [3]) (by kernel_rfl) (by simp) ?_
        refine AllReadyH.cons rfl (fun K hK => ?_) AllReadyH.nil
        have m2' : (w2.alloc (Obj.cells #[Value.nilFunc] 104)).heap[g2]? = some (.map (two (fv 54) (fv 81)) 2) := (Lib.alloc_old _ _ _ (Array.getElem?_eq_some_iff.1 m2).1).trans m2
        have hl := look_one (T := 105) 2 (fv 81) Tryz.underlying105 m2' (two_2 _ _)
        go_simp
        refine hK.out _ _ ?_ (fun hHeld => ?_)
        · exact (HQ2.alloc _).c0
        clear hK K hl
        try simp only [Act.put, List.setIfInBounds_toArray, List.set_cons_zero, List.set_cons_succ]
        refine wpAnyH_ready (rs := [5]) (by kernel_rfl) (by simp) ?_
        refine AllReadyH.cons rfl (fun K hK => ?_) AllReadyH.nil
        go_simp
        refine hK.out _ _ ?_ (fun hHeld => ?_)
        · exact (HQ2.alloc _).c0
        clear hK K
        try simp only [Act.put, List.setIfInBounds_toArray, List.set_cons_zero, List.set_cons_succ]
        refine wpAnyH_done (by kernel_rfl) ?_ _
        refine NoPanic.normal ?_
        go_wp2_with fail
        go_meet
        exact ⟨_, rfl, HQ2.alloc _, heap_alloc_new w2 _, HQ2.lt⟩
    · go_simp
      refine hK.out _ _ ?_ (fun hHeld => ?_)
      · exact (Pq.drew (Pq.alloc HQ1.out _)).c0
      clear hK K
      try simp only [Act.put, List.setIfInBounds_toArray, List.set_cons_zero, List.set_cons_succ]
      refine wpAnyH_ready (rs := [0]) (by kernel_rfl) (by simp) ?_
      refine AllReadyH.cons rfl (fun K hK => ?_) AllReadyH.nil
      go_simp
      go_at_call 51
      (with_reducible refine (KP.out _ (Pq.drew (Pq.alloc HQ1.out _))).mono ?_)
      rintro q w2 ⟨g2, rfl, HQ2, m2, b2⟩
      try go_wp2_with fail
      refine hK.out _ _ ?_ (fun hHeld => ?_)
      · exact HQ2.c0
      clear hK K
      try simp only [Act.put, List.setIfInBounds_toArray, List.set_cons_zero, List.set_cons_succ]
      refine wpAnyH_ready (rs := [3]) (by kernel_rfl) (by simp) ?_
      refine AllReadyH.cons rfl (fun K hK => ?_) AllReadyH.nil
      have hl := look_one (T := 105) 2 (fv 81) Tryz.underlying105 m2 (two_2 _ _)
      go_simp
      refine hK.out _ _ ?_ (fun hHeld => ?_)
      · exact HQ2.c0
      clear hK K hl
      try simp only [Act.put, List.setIfInBounds_toArray, List.set_cons_zero, List.set_cons_succ]
      have f2 : w2.heap[w1.heap.size]? = some (.cells #[.nilFunc] 104 (0, 0)) := (b2.block _ (by simp)).trans (heap_alloc_new w1 _)
      have z2 : w2.frozen? ⟨w1.heap.size, 0, none⟩ = false := frozen_of_row w2 w1.heap.size 0 _ 104 f2
      have y2 : w2.cell? ⟨w1.heap.size, 0, none⟩ = some .nilFunc := cell_of_row w2 w1.heap.size 0 _ 104 (0, 0) f2
      refine wpAnyH_ready (rs := [5]) (by kernel_rfl) (by simp) ?_
      refine AllReadyH.cons rfl (fun K hK => ?_) AllReadyH.nil
      go_simp
      refine hK.out _ _ ?_ (fun hHeld => ?_)
      · exact (HQ2.set _ HQ1.out.lt _).c0
      clear hK K
      try simp only [Act.put, List.setIfInBounds_toArray, List.set_cons_zero, List.set_cons_succ]
      refine wpAnyH_done (by kernel_rfl) ?_ _
      refine NoPanic.normal ?_
      go_wp2_with fail
      go_meet
      exact ⟨_, rfl, HQ2.set _ HQ1.out.lt _, heap_setCell_same w2 w1.heap.size 0 _ 104 _ f2, HQ1.out.lt⟩
  case rest =>
    obtain ⟨c, rfl, Q, fc, hlc⟩ := hcut
    have hcb : c < wc.heap.size := (Array.getElem?_eq_some_iff.1 fc).1
    have PW0 : Hid (Pw w ⟨2, (a1 : Nat), (a2 : Nat), (a3 : Nat), (a4 : Nat), (a5 : Nat), (a6 : Nat)⟩ 81 c wc.heap.size ⟨#[]⟩ (wc.alloc (.cells #[.pointer none, .slice none 0 0] 108))) :=
      ⟨Q.alloc _, (Lib.alloc_old _ _ _ hcb).trans fc, fresh_wt wc _ (Nat.le_refl _), hlc, hcb, by simp⟩
    obtain ⟨x0, x1, x2, x3, x4, x5, x6⟩ := su_cells Q.bx
    obtain ⟨z0, z1, z2, z3, z4, z5, z6⟩ := su_cells PW0.out.q.bx
    obtain ⟨V, hV⟩ : ∃ V, V = wc.alloc (.cells #[.pointer none, .slice none 0 0] 108) := ⟨_, rfl⟩
    rw [← hV] at PW0
    have HV := Lib.hid hV
    clear c0 HQ1 KP Q fc hlc hcb hV w1
    generalize hb : wc.heap.size = b at *
    have HBB := Lib.hid hb
    clear hb
    go_wp2_with fail
    rw [← HV.out, HBB.out]
    have KF : Hid (Calls Tryz.prog 54 #[.pointer (some ⟨b, 0, none⟩), .int .u64 2, .int .i64 1] V fun e w' => e = .returned (.tuple #[]) ∧ Pw w ⟨2, (a1 : Nat), (a2 : Nat), (a3 : Nat), (a4 : Nat), (a5 : Nat), (a6 : Nat)⟩ 81 c b ((⟨#[]⟩ : ByteArray) ++ fxB 2 1) w') := (number_any b b 2 1 ⟨#[]⟩ V PW0.out.wt (by decide) PW0.out.l3 (by omega)).mono fun e w' ⟨h1, h2⟩ => ⟨h1, PW0.out.step h2⟩
    refine KF.out.mono ?_
    rintro e y0 ⟨rfl, PW1⟩
    have HP1 := Lib.hid PW1
    clear KF PW0 HV PW1 x0 x1 x2 x3 x4 x5 x6 z0 z1 z2 z3 z4 z5 z6
    have hx0 : Hid (((⟨#[]⟩ : ByteArray) ++ fxB 2 1).size ≤ 1000) := by
      obtain ⟨r1, r2, r3, r4, r5, r6⟩ := HR.out
      have e0 : (fxB 2 1).size = 1 := fxB_size 2 1 (by omega)
      show _ ≤ _
      simp only [ByteArray.size_append, e0]
      have e9 : (ByteArray.mk #[]).size = 0 := rfl
      omega
    have KF := Lib.hid (cnt22_any a1 (by have := HR.out; omega) _ HP1.out hx0.out)
    obtain ⟨x0, x1, x2, x3, x4, x5, x6⟩ := su_cells HP1.out.q.bx
    go_wp2_with fail
    refine KF.out.mono ?_
    rintro e y1 ⟨rfl, PW1⟩
    have HP2 := Lib.hid PW1
    clear KF HP1 PW1 x0 x1 x2 x3 x4 x5 x6 hx0
    have hx1 : Hid ((((⟨#[]⟩ : ByteArray) ++ fxB 2 1) ++ num 2 a1 2).size ≤ 1000) := by
      obtain ⟨r1, r2, r3, r4, r5, r6⟩ := HR.out
      have e0 : (fxB 2 1).size = 1 := fxB_size 2 1 (by omega)
      have e1 := num_size 2 a1 2 (by omega) (by omega)
      show _ ≤ _
      simp only [ByteArray.size_append, e0]
      have e9 : (ByteArray.mk #[]).size = 0 := rfl
      omega
    have KF := Lib.hid (cnt22_any a2 (by have := HR.out; omega) _ HP2.out hx1.out)
    obtain ⟨x0, x1, x2, x3, x4, x5, x6⟩ := su_cells HP2.out.q.bx
    go_wp2_with fail
    refine KF.out.mono ?_
    rintro e y2 ⟨rfl, PW1⟩
    have HP3 := Lib.hid PW1
    clear KF HP2 PW1 x0 x1 x2 x3 x4 x5 x6 hx1
    have hx2 : Hid (((((⟨#[]⟩ : ByteArray) ++ fxB 2 1) ++ num 2 a1 2) ++ num 2 a2 2).size ≤ 1000) := by
      obtain ⟨r1, r2, r3, r4, r5, r6⟩ := HR.out
      have e0 : (fxB 2 1).size = 1 := fxB_size 2 1 (by omega)
      have e1 := num_size 2 a1 2 (by omega) (by omega)
      have e2 := num_size 2 a2 2 (by omega) (by omega)
      show _ ≤ _
      simp only [ByteArray.size_append, e0]
      have e9 : (ByteArray.mk #[]).size = 0 := rfl
      omega
    have KF := Lib.hid (cnt21_any a3 (by have := HR.out; omega) _ HP3.out hx2.out)
    obtain ⟨x0, x1, x2, x3, x4, x5, x6⟩ := su_cells HP3.out.q.bx
    go_wp2_with fail
    refine KF.out.mono ?_
    rintro e y3 ⟨rfl, PW1⟩
    have HP4 := Lib.hid PW1
    clear KF HP3 PW1 x0 x1 x2 x3 x4 x5 x6 hx2
    have hx3 : Hid ((((((⟨#[]⟩ : ByteArray) ++ fxB 2 1) ++ num 2 a1 2) ++ num 2 a2 2) ++ num 2 a3 1).size ≤ 1000) := by
      obtain ⟨r1, r2, r3, r4, r5, r6⟩ := HR.out
      have e0 : (fxB 2 1).size = 1 := fxB_size 2 1 (by omega)
      have e1 := num_size 2 a1 2 (by omega) (by omega)
      have e2 := num_size 2 a2 2 (by omega) (by omega)
      have e3 := num_size 2 a3 1 (by omega) (by omega)
      show _ ≤ _
      simp only [ByteArray.size_append, e0]
      have e9 : (ByteArray.mk #[]).size = 0 := rfl
      omega
    have KF := Lib.hid (cnt21_any a4 (by have := HR.out; omega) _ HP4.out hx3.out)
    obtain ⟨x0, x1, x2, x3, x4, x5, x6⟩ := su_cells HP4.out.q.bx
    go_wp2_with fail
    refine KF.out.mono ?_
    rintro e y4 ⟨rfl, PW1⟩
    have HP5 := Lib.hid PW1
    clear KF HP4 PW1 x0 x1 x2 x3 x4 x5 x6 hx3
    have hx4 : Hid (((((((⟨#[]⟩ : ByteArray) ++ fxB 2 1) ++ num 2 a1 2) ++ num 2 a2 2) ++ num 2 a3 1) ++ num 2 a4 1).size ≤ 1000) := by
      obtain ⟨r1, r2, r3, r4, r5, r6⟩ := HR.out
      have e0 : (fxB 2 1).size = 1 := fxB_size 2 1 (by omega)
      have e1 := num_size 2 a1 2 (by omega) (by omega)
      have e2 := num_size 2 a2 2 (by omega) (by omega)
      have e3 := num_size 2 a3 1 (by omega) (by omega)
      have e4 := num_size 2 a4 1 (by omega) (by omega)
      show _ ≤ _
      simp only [ByteArray.size_append, e0]
      have e9 : (ByteArray.mk #[]).size = 0 := rfl
      omega
    have KF := Lib.hid (cnt21_any a5 (by have := HR.out; omega) _ HP5.out hx4.out)
    obtain ⟨x0, x1, x2, x3, x4, x5, x6⟩ := su_cells HP5.out.q.bx
    go_wp2_with fail
    refine KF.out.mono ?_
    rintro e y5 ⟨rfl, PW1⟩
    have HP6 := Lib.hid PW1
    clear KF HP5 PW1 x0 x1 x2 x3 x4 x5 x6 hx4
    have hx5 : Hid ((((((((⟨#[]⟩ : ByteArray) ++ fxB 2 1) ++ num 2 a1 2) ++ num 2 a2 2) ++ num 2 a3 1) ++ num 2 a4 1) ++ num 2 a5 1).size ≤ 1000) := by
      obtain ⟨r1, r2, r3, r4, r5, r6⟩ := HR.out
      have e0 : (fxB 2 1).size = 1 := fxB_size 2 1 (by omega)
      have e1 := num_size 2 a1 2 (by omega) (by omega)
      have e2 := num_size 2 a2 2 (by omega) (by omega)
      have e3 := num_size 2 a3 1 (by omega) (by omega)
      have e4 := num_size 2 a4 1 (by omega) (by omega)
      have e5 := num_size 2 a5 1 (by omega) (by omega)
      show _ ≤ _
      simp only [ByteArray.size_append, e0]
      have e9 : (ByteArray.mk #[]).size = 0 := rfl
      omega
    have KF := Lib.hid (cnt21_any a6 (by have := HR.out; omega) _ HP6.out hx5.out)
    obtain ⟨x0, x1, x2, x3, x4, x5, x6⟩ := su_cells HP6.out.q.bx
    go_wp2_with fail
    refine KF.out.mono ?_
    rintro e y6 ⟨rfl, PW1⟩
    have HP7 := Lib.hid PW1
    clear KF HP6 PW1 x0 x1 x2 x3 x4 x5 x6 hx5
    have KS := Lib.hid (wstring b b _ _ HP7.out.wt (by rw [HN.out]; exact HPS.out))
    go_wp2_with fail
    refine KS.out.mono ?_
    rintro e y8 ⟨rfl, b8⟩
    have HF := Lib.hid (HP7.out.q.be.trans (b8.mono (by have := HP7.out.l1; have := HP7.out.l2; omega)))
    clear KS b8 HP7
    go_wp2
    go_ret2
    exact ⟨by rw [← HN.out]; rfl, HF.out⟩

theorem putSuper_no (s : Su) (w : World) (h : rgt s = false) : Calls Tryz.prog 24 #[s.val] w fun e w' => e = .returned (.tuple #[.string ⟨#[]⟩, .bool false]) ∧ Below w.heap.size w w' := by
  obtain ⟨W, hW⟩ : ∃ W, W = sbx w s := ⟨_, rfl⟩
  have hb := sbx_below w s
  have HK := Lib.hid (fun (W : World) => right_any s W)
  rw [h] at HK
  rw [← hW] at hb
  have HW := Lib.hid hW
  have HB := Lib.hid hb
  have hc := sbx_cells w s
  rw [← hW] at hc
  have HC := Lib.hid hc
  clear hb hW h hc
  unfold sbx Su.val Su.c at *
  go_enter Tryz.func24, Tryz.ntmps24
  go_wp2_with fail
  rw [← HW.out]
  refine (HK.out _).mono ?_
  rintro e w1 ⟨rfl, b1⟩
  have HB1 := Lib.hid (HB.out.trans (b1.mono HB.out.size))
  go_wp2
  go_ret2
  exact ⟨rfl, HB1.out⟩
theorem putSuper_any (s : Su) (w : World) : Calls Tryz.prog 24 #[s.val] w fun e w' => e = .returned (.tuple #[.string (supS s), .bool (rgt s)]) ∧ Below w.heap.size w w' := by
  unfold supS
  cases h : rgt s with
  | false => exact putSuper_no s w h
  | true =>
    rw [if_pos rfl]
    obtain ⟨v, sn, lg, ar, hf, gl, sp⟩ := s
    obtain ⟨h1, h2, h3, h4, h5, h6, h7, _⟩ := (rgt_iff _).1 h
    dsimp only at h1 h2 h3 h4 h5 h6 h7
    obtain ⟨a, rfl⟩ := Int.eq_ofNat_of_zero_le (by omega : 0 ≤ sn)
    obtain ⟨b, rfl⟩ := Int.eq_ofNat_of_zero_le (by omega : 0 ≤ lg)
    obtain ⟨c, rfl⟩ := Int.eq_ofNat_of_zero_le (by omega : 0 ≤ ar)
    obtain ⟨d, rfl⟩ := Int.eq_ofNat_of_zero_le (by omega : 0 ≤ hf)
    obtain ⟨e, rfl⟩ := Int.eq_ofNat_of_zero_le (by omega : 0 ≤ gl)
    obtain ⟨f, rfl⟩ := Int.eq_ofNat_of_zero_le (by omega : 0 ≤ sp)
    rcases (by omega : v = 1 ∨ v = 2) with rfl | rfl
    · exact putSuperN1_any a b c d e f w h
    · exact putSuperN2_any a b c d e f w h
end Go.Proofs.YtdoombcihobejaaGreat
namespace Go.Proofs.YtdoombcihobejaaGreat
open Go.RowKit Vi Sl
set_option linter.unusedVariables false
set_option linter.unusedSimpArgs false
/-- A Hard in a block of its own. -/
def hbx (w : World) (h : Hd) : World := w.alloc (.cells h.c 26)
theorem hbx_cells (w : World) (h : Hd) : (hbx w h).heap[w.heap.size]? = some (.cells h.c 26 (0, 0)) := heap_alloc_new w _
theorem hbx_below (w : World) (h : Hd) : Below w.heap.size w (hbx w h) := (Below.refl _ _).alloc (Nat.le_refl _) _
theorem hd_cells {w : World} {g : Nat} {h : Hd} (hh : w.heap[g]? = some (.cells h.c 26 (0, 0))) :
    w.cell? ⟨g, 0, none⟩ = some (.int .u64 h.tm) ∧ w.cell? ⟨g, 1, none⟩ = some (.int .i64 h.vo) ∧ w.cell? ⟨g, 2, none⟩ = some (.int .u64 h.cm) :=
  ⟨cell_of_row w g 0 _ 26 (0, 0) hh, cell_of_row w g 1 _ 26 (0, 0) hh, cell_of_row w g 2 _ 26 (0, 0) hh⟩
structure Ph (w : World) (h : Hd) (W : World) : Prop where
  be : Below w.heap.size w W
  bx : W.heap[w.heap.size]? = some (.cells h.c 26 (0, 0))
  lt : w.heap.size < W.heap.size
theorem Ph.below {w W W' : World} {s : Hd} (h : Ph w s W) (hb : Below W.heap.size W W') : Ph w s W' :=
  ⟨h.be.trans (hb.mono h.be.size), (hb.block _ h.lt).trans h.bx, Nat.lt_of_lt_of_le h.lt hb.size⟩
theorem Ph.alloc {w W : World} {s : Hd} (h : Ph w s W) (o : Obj) : Ph w s (W.alloc o) := h.below ((Below.refl _ _).alloc (Nat.le_refl _) _)
theorem puts_ph {w W : World} {s : Hd} (h : Ph w s W) : Calls Tryz.prog 51 #[] W fun r w' => ∃ g, r = .returned (.map (some g)) ∧ Ph w s w' ∧ w'.heap[g]? = some (.map (two (fv 54) (fv 81)) 2) :=
  (puts_any W).mono fun r w' ⟨h1, h2, h3, _⟩ => ⟨_, h1, h.below h3, h2⟩
theorem hbx_ph (w : World) (h : Hd) : Ph w h (hbx w h) := ⟨hbx_below w h, hbx_cells w h, by simp [hbx]⟩
structure Pv (w : World) (s : Hd) (b : Nat) (x : ByteArray) (W : World) : Prop where
  q : Ph w s W
  wt : Wt b b x W
  l2 : w.heap.size < b
  l3 : b ≤ W.heap.size
theorem Pv.step {w W W' : World} {s : Hd} {b : Nat} {x y : ByteArray} (h : Pv w s b x W) (hs : Ws W b b y W') : Pv w s b y W' :=
  ⟨⟨h.q.be.trans (hs.be.mono (by have := h.l2; omega)), (hs.be.block _ h.l2).trans h.q.bx, Nat.lt_of_lt_of_le h.q.lt hs.sw⟩, hs.t, h.l2, hs.sz⟩

theorem hst18_any {w : World} {s : Hd} {b : Nat} {x : ByteArray} (n : Nat) (hn : n < 18446744073709551616) (W : World) (h : Pv w s b x W) (hx : x.size ≤ 1000) :
    Calls Tryz.prog 54 #[.pointer (some ⟨b, 0, none⟩), .int .u64 n, .int .i64 8] W fun e w' => e = .returned (.tuple #[]) ∧ Pv w s b (x ++ num 1 n 8) w' := (number_any b b n 8 x W h.wt (by omega) h.l3 (by omega)).mono fun e w' ⟨h1, h2⟩ => ⟨h1, h.step h2⟩
theorem hst11_any {w : World} {s : Hd} {b : Nat} {x : ByteArray} (n : Nat) (hn : n < 18446744073709551616) (W : World) (h : Pv w s b x W) (hx : x.size ≤ 1000) :
    Calls Tryz.prog 54 #[.pointer (some ⟨b, 0, none⟩), .int .u64 n, .int .i64 1] W fun e w' => e = .returned (.tuple #[]) ∧ Pv w s b (x ++ num 1 n 1) w' := (number_any b b n 1 x W h.wt (by omega) h.l3 (by omega)).mono fun e w' ⟨h1, h2⟩ => ⟨h1, h.step h2⟩
theorem hst28_any {w : World} {s : Hd} {b : Nat} {x : ByteArray} (n : Nat) (hn : n < 18446744073709551616) (W : World) (h : Pv w s b x W) (hx : x.size ≤ 1000) :
    Calls Tryz.prog 81 #[.pointer (some ⟨b, 0, none⟩), .int .u64 n, .int .i64 8] W fun e w' => e = .returned (.tuple #[]) ∧ Pv w s b (x ++ num 2 n 8) w' := (wvar_any b b n 8 x W h.wt (by omega) h.l3 hn).mono fun e w' ⟨h1, h2⟩ => ⟨h1, h.step h2⟩
theorem hst21_any {w : World} {s : Hd} {b : Nat} {x : ByteArray} (n : Nat) (hn : n < 18446744073709551616) (W : World) (h : Pv w s b x W) (hx : x.size ≤ 1000) :
    Calls Tryz.prog 81 #[.pointer (some ⟨b, 0, none⟩), .int .u64 n, .int .i64 1] W fun e w' => e = .returned (.tuple #[]) ∧ Pv w s b (x ++ num 2 n 1) w' := (wvar_any b b n 1 x W h.wt (by omega) h.l3 hn).mono fun e w' ⟨h1, h2⟩ => ⟨h1, h.step h2⟩
theorem hard_steps1 (tm vo cm : Nat) : (((((⟨#[]⟩ : ByteArray) ++ fxB 17 1) ++ num 1 tm 8) ++ num 1 vo 1) ++ num 1 cm 8) = hB 1 ⟨tm, (vo : Nat), cm⟩ := by
  rw [empty_app]; unfold hB; simp only [Int.toNat_natCast]; rfl
set_option maxHeartbeats 4000000 in
set_option maxRecDepth 100000 in
theorem putHardN1_any (tm vo cm : Nat) (w : World) (ht : tm < 18446744073709551616) (hc : cm < 18446744073709551616) (h7 : vo ≤ 7) : Calls Tryz.prog 45 #[.int .i64 1, Hd.val ⟨tm, (vo : Nat), cm⟩] w fun e w' => e = .returned (.tuple #[.string (hB 1 ⟨tm, (vo : Nat), cm⟩), .bool true]) ∧ Below w.heap.size w w' := by
  obtain ⟨W, hW⟩ : ∃ W, W = hbx w ⟨tm, (vo : Nat), cm⟩ := ⟨_, rfl⟩
  have hq := hbx_ph w ⟨tm, (vo : Nat), cm⟩
  rw [← hW] at hq
  have HQ := Lib.hid hq
  have HI := Lib.hid (fun (W : World) => within_any vo 0 7 W)
  rw [show ins (vo : Int) 0 7 = true by unfold ins; rw [decide_eq_true (by omega), decide_eq_true (by omega)]; rfl] at HI
  have HN := Lib.hid (hard_steps1 tm vo cm)
  have HW := Lib.hid hW
  have HPS : Hid (0 < (hB 1 ⟨tm, (vo : Nat), cm⟩).size) := (hB_size ((hO_iff _ _).2 ⟨by omega, by show (0 : Int) ≤ (vo : Nat); omega, by show ((vo : Nat) : Int) ≤ 7; omega⟩) ⟨ht, hc, by show _ ≤ ((vo : Nat) : Int); omega, by show ((vo : Nat) : Int) ≤ _; omega⟩).2
  have HR : Hid (tm < 18446744073709551616 ∧ cm < 18446744073709551616 ∧ vo < 18446744073709551616) := ⟨ht, hc, by omega⟩
  have hu : IntKind.u64.wrap (vo : Int) = vo := by rw [IntKind.wrap_u64]; omega
  clear hq hW ht hc h7
  unfold hbx Hd.val at *
  unfold Hd.c at HW ⊢
  try dsimp only at HW ⊢
  go_enter Tryz.func45, Tryz.ntmps45
  go_wp2_with fail
  rw [← HW.out]
  refine (puts_ph HQ.out).mono ?_
  rintro e w1 ⟨g, rfl, Q1, m1⟩
  have HQ1 := Lib.hid Q1
  have hl := look_step (T := 105) 1 (fv 54) Tryz.underlying105 m1 (two_1 _ _)
  obtain ⟨x0, x1, x2⟩ := hd_cells Q1.bx
  clear HQ HW Q1 m1
  go_wp2_with fail
  refine (HI.out _).mono ?_
  rintro e w1 ⟨rfl, rfl⟩
  have PW0 : Hid (Pv w ⟨tm, (vo : Nat), cm⟩ w1.heap.size ⟨#[]⟩ (w1.alloc (.cells #[.pointer none, .slice none 0 0] 108))) :=
    ⟨HQ1.out.alloc _, fresh_wt w1 _ (Nat.le_refl _), HQ1.out.lt, by simp⟩
  obtain ⟨z0, z1, z2⟩ := hd_cells PW0.out.q.bx
  obtain ⟨V, hV⟩ : ∃ V, V = w1.alloc (.cells #[.pointer none, .slice none 0 0] 108) := ⟨_, rfl⟩
  rw [← hV] at PW0
  have HV := Lib.hid hV
  clear hV hl HI
  generalize hb : w1.heap.size = b at *
  have HBB := Lib.hid hb
  clear hb
  go_wp2_with fail
  rw [← HV.out, HBB.out]
  have KF : Hid (Calls Tryz.prog 54 #[.pointer (some ⟨b, 0, none⟩), .int .u64 17, .int .i64 1] V fun e w' => e = .returned (.tuple #[]) ∧ Pv w ⟨tm, (vo : Nat), cm⟩ b ((⟨#[]⟩ : ByteArray) ++ fxB 17 1) w') := (number_any b b 17 1 ⟨#[]⟩ V PW0.out.wt (by decide) PW0.out.l3 (by omega)).mono fun e w' ⟨h1, h2⟩ => ⟨h1, PW0.out.step h2⟩
  refine KF.out.mono ?_
  rintro e y0 ⟨rfl, PW1⟩
  have HP1 := Lib.hid PW1
  clear KF PW0 HV PW1 x0 x1 x2 z0 z1 z2 HQ1
  have hx0 : Hid (((⟨#[]⟩ : ByteArray) ++ fxB 17 1).size ≤ 1000) := by
    obtain ⟨r1, r2, r3⟩ := HR.out
    have e0 : (fxB 17 1).size = 1 := fxB_size 17 1 (by omega)
    show _ ≤ _
    simp only [ByteArray.size_append, e0]
    have e9 : (ByteArray.mk #[]).size = 0 := rfl
    omega
  have KF := Lib.hid (hst18_any tm (HR.out.1) _ HP1.out hx0.out)
  obtain ⟨x0, x1, x2⟩ := hd_cells HP1.out.q.bx
  go_wp2_with fail
  refine KF.out.mono ?_
  rintro e y1 ⟨rfl, PW1⟩
  have HP2 := Lib.hid PW1
  clear KF HP1 PW1 x0 x1 x2 hx0
  have hx1 : Hid ((((⟨#[]⟩ : ByteArray) ++ fxB 17 1) ++ num 1 tm 8).size ≤ 1000) := by
    obtain ⟨r1, r2, r3⟩ := HR.out
    have e0 : (fxB 17 1).size = 1 := fxB_size 17 1 (by omega)
    have e1 := num_size 1 tm 8 (by omega) (by omega)
    show _ ≤ _
    simp only [ByteArray.size_append, e0]
    have e9 : (ByteArray.mk #[]).size = 0 := rfl
    omega
  have KF := Lib.hid (hst11_any vo (HR.out.2.2) _ HP2.out hx1.out)
  obtain ⟨x0, x1, x2⟩ := hd_cells HP2.out.q.bx
  go_wp2_with fail
  refine KF.out.mono ?_
  rintro e y2 ⟨rfl, PW1⟩
  have HP3 := Lib.hid PW1
  clear KF HP2 PW1 x0 x1 x2 hx1
  have hx2 : Hid (((((⟨#[]⟩ : ByteArray) ++ fxB 17 1) ++ num 1 tm 8) ++ num 1 vo 1).size ≤ 1000) := by
    obtain ⟨r1, r2, r3⟩ := HR.out
    have e0 : (fxB 17 1).size = 1 := fxB_size 17 1 (by omega)
    have e1 := num_size 1 tm 8 (by omega) (by omega)
    have e2 := num_size 1 vo 1 (by omega) (by omega)
    show _ ≤ _
    simp only [ByteArray.size_append, e0]
    have e9 : (ByteArray.mk #[]).size = 0 := rfl
    omega
  have KF := Lib.hid (hst18_any cm (HR.out.2.1) _ HP3.out hx2.out)
  obtain ⟨x0, x1, x2⟩ := hd_cells HP3.out.q.bx
  go_wp2_with fail
  refine KF.out.mono ?_
  rintro e y3 ⟨rfl, PW1⟩
  have HP4 := Lib.hid PW1
  clear KF HP3 PW1 x0 x1 x2 hx2
  have KS := Lib.hid (wstring b b _ _ HP4.out.wt (by rw [HN.out]; exact HPS.out))
  go_wp2_with fail
  refine KS.out.mono ?_
  rintro e y8 ⟨rfl, b8⟩
  have HF := Lib.hid (HP4.out.q.be.trans (b8.mono (by have := HP4.out.l2; omega)))
  clear KS b8 HP4
  go_wp2
  go_ret2
  exact ⟨by rw [← HN.out]; rfl, HF.out⟩
set_option maxHeartbeats 1000000 in
set_option maxRecDepth 100000 in
theorem putHardV1_no (h : Hd) (w : World) (hv : ins h.vo 0 7 = false) : Calls Tryz.prog 45 #[.int .i64 1, h.val] w fun e w' => e = .returned (.tuple #[.string ⟨#[]⟩, .bool false]) ∧ Below w.heap.size w w' := by
  obtain ⟨W, hW⟩ : ∃ W, W = hbx w h := ⟨_, rfl⟩
  have hq := hbx_ph w h
  rw [← hW] at hq
  have HQ := Lib.hid hq
  have HI := Lib.hid (fun (W : World) => within_any h.vo 0 7 W)
  rw [hv] at HI
  have HW := Lib.hid hW
  clear hq hW hv
  unfold hbx Hd.val at *
  unfold Hd.c at HW ⊢
  try dsimp only at HW ⊢
  go_enter Tryz.func45, Tryz.ntmps45
  go_wp2_with fail
  rw [← HW.out]
  refine (puts_ph HQ.out).mono ?_
  rintro e w1 ⟨g, rfl, Q1, m1⟩
  have HQ1 := Lib.hid Q1
  have hl := look_step (T := 105) 1 (fv 54) Tryz.underlying105 m1 (two_1 _ _)
  obtain ⟨x0, x1, x2⟩ := hd_cells Q1.bx
  clear HQ HW Q1 m1
  go_wp2_with fail
  refine (HI.out _).mono ?_
  rintro e w1 ⟨rfl, rfl⟩
  go_wp2
  go_ret2
  exact ⟨rfl, HQ1.out.be⟩

theorem hard_steps2 (tm vo cm : Nat) : (((((⟨#[]⟩ : ByteArray) ++ fxB 18 1) ++ num 2 tm 8) ++ num 2 vo 1) ++ num 2 cm 8) = hB 2 ⟨tm, (vo : Nat), cm⟩ := by
  rw [empty_app]; unfold hB; simp only [Int.toNat_natCast]; rfl
set_option maxHeartbeats 4000000 in
set_option maxRecDepth 100000 in
theorem putHardN2_any (tm vo cm : Nat) (w : World) (ht : tm < 18446744073709551616) (hc : cm < 18446744073709551616) (h7 : vo ≤ 7) : Calls Tryz.prog 45 #[.int .i64 2, Hd.val ⟨tm, (vo : Nat), cm⟩] w fun e w' => e = .returned (.tuple #[.string (hB 2 ⟨tm, (vo : Nat), cm⟩), .bool true]) ∧ Below w.heap.size w w' := by
  obtain ⟨W, hW⟩ : ∃ W, W = hbx w ⟨tm, (vo : Nat), cm⟩ := ⟨_, rfl⟩
  have hq := hbx_ph w ⟨tm, (vo : Nat), cm⟩
  rw [← hW] at hq
  have HQ := Lib.hid hq
  have HI := Lib.hid (fun (W : World) => within_any vo 0 7 W)
  rw [show ins (vo : Int) 0 7 = true by unfold ins; rw [decide_eq_true (by omega), decide_eq_true (by omega)]; rfl] at HI
  have HN := Lib.hid (hard_steps2 tm vo cm)
  have HW := Lib.hid hW
  have HPS : Hid (0 < (hB 2 ⟨tm, (vo : Nat), cm⟩).size) := (hB_size ((hO_iff _ _).2 ⟨by omega, by show (0 : Int) ≤ (vo : Nat); omega, by show ((vo : Nat) : Int) ≤ 7; omega⟩) ⟨ht, hc, by show _ ≤ ((vo : Nat) : Int); omega, by show ((vo : Nat) : Int) ≤ _; omega⟩).2
  have HR : Hid (tm < 18446744073709551616 ∧ cm < 18446744073709551616 ∧ vo < 18446744073709551616) := ⟨ht, hc, by omega⟩
  have hu : IntKind.u64.wrap (vo : Int) = vo := by rw [IntKind.wrap_u64]; omega
  clear hq hW ht hc h7
  unfold hbx Hd.val at *
  unfold Hd.c at HW ⊢
  try dsimp only at HW ⊢
  go_enter Tryz.func45, Tryz.ntmps45
  go_wp2_with fail
  rw [← HW.out]
  refine (puts_ph HQ.out).mono ?_
  rintro e w1 ⟨g, rfl, Q1, m1⟩
  have HQ1 := Lib.hid Q1
  have hl := look_step (T := 105) 2 (fv 81) Tryz.underlying105 m1 (two_2 _ _)
  obtain ⟨x0, x1, x2⟩ := hd_cells Q1.bx
  clear HQ HW Q1 m1
  go_wp2_with fail
  refine (HI.out _).mono ?_
  rintro e w1 ⟨rfl, rfl⟩
  have PW0 : Hid (Pv w ⟨tm, (vo : Nat), cm⟩ w1.heap.size ⟨#[]⟩ (w1.alloc (.cells #[.pointer none, .slice none 0 0] 108))) :=
    ⟨HQ1.out.alloc _, fresh_wt w1 _ (Nat.le_refl _), HQ1.out.lt, by simp⟩
  obtain ⟨z0, z1, z2⟩ := hd_cells PW0.out.q.bx
  obtain ⟨V, hV⟩ : ∃ V, V = w1.alloc (.cells #[.pointer none, .slice none 0 0] 108) := ⟨_, rfl⟩
  rw [← hV] at PW0
  have HV := Lib.hid hV
  clear hV hl HI
  generalize hb : w1.heap.size = b at *
  have HBB := Lib.hid hb
  clear hb
  go_wp2_with fail
  rw [← HV.out, HBB.out]
  have KF : Hid (Calls Tryz.prog 54 #[.pointer (some ⟨b, 0, none⟩), .int .u64 18, .int .i64 1] V fun e w' => e = .returned (.tuple #[]) ∧ Pv w ⟨tm, (vo : Nat), cm⟩ b ((⟨#[]⟩ : ByteArray) ++ fxB 18 1) w') := (number_any b b 18 1 ⟨#[]⟩ V PW0.out.wt (by decide) PW0.out.l3 (by omega)).mono fun e w' ⟨h1, h2⟩ => ⟨h1, PW0.out.step h2⟩
  refine KF.out.mono ?_
  rintro e y0 ⟨rfl, PW1⟩
  have HP1 := Lib.hid PW1
  clear KF PW0 HV PW1 x0 x1 x2 z0 z1 z2 HQ1
  have hx0 : Hid (((⟨#[]⟩ : ByteArray) ++ fxB 18 1).size ≤ 1000) := by
    obtain ⟨r1, r2, r3⟩ := HR.out
    have e0 : (fxB 18 1).size = 1 := fxB_size 18 1 (by omega)
    show _ ≤ _
    simp only [ByteArray.size_append, e0]
    have e9 : (ByteArray.mk #[]).size = 0 := rfl
    omega
  have KF := Lib.hid (hst28_any tm (HR.out.1) _ HP1.out hx0.out)
  obtain ⟨x0, x1, x2⟩ := hd_cells HP1.out.q.bx
  go_wp2_with fail
  refine KF.out.mono ?_
  rintro e y1 ⟨rfl, PW1⟩
  have HP2 := Lib.hid PW1
  clear KF HP1 PW1 x0 x1 x2 hx0
  have hx1 : Hid ((((⟨#[]⟩ : ByteArray) ++ fxB 18 1) ++ num 2 tm 8).size ≤ 1000) := by
    obtain ⟨r1, r2, r3⟩ := HR.out
    have e0 : (fxB 18 1).size = 1 := fxB_size 18 1 (by omega)
    have e1 := num_size 2 tm 8 (by omega) (by omega)
    show _ ≤ _
    simp only [ByteArray.size_append, e0]
    have e9 : (ByteArray.mk #[]).size = 0 := rfl
    omega
  have KF := Lib.hid (hst21_any vo (HR.out.2.2) _ HP2.out hx1.out)
  obtain ⟨x0, x1, x2⟩ := hd_cells HP2.out.q.bx
  go_wp2_with fail
  refine KF.out.mono ?_
  rintro e y2 ⟨rfl, PW1⟩
  have HP3 := Lib.hid PW1
  clear KF HP2 PW1 x0 x1 x2 hx1
  have hx2 : Hid (((((⟨#[]⟩ : ByteArray) ++ fxB 18 1) ++ num 2 tm 8) ++ num 2 vo 1).size ≤ 1000) := by
    obtain ⟨r1, r2, r3⟩ := HR.out
    have e0 : (fxB 18 1).size = 1 := fxB_size 18 1 (by omega)
    have e1 := num_size 2 tm 8 (by omega) (by omega)
    have e2 := num_size 2 vo 1 (by omega) (by omega)
    show _ ≤ _
    simp only [ByteArray.size_append, e0]
    have e9 : (ByteArray.mk #[]).size = 0 := rfl
    omega
  have KF := Lib.hid (hst28_any cm (HR.out.2.1) _ HP3.out hx2.out)
  obtain ⟨x0, x1, x2⟩ := hd_cells HP3.out.q.bx
  go_wp2_with fail
  refine KF.out.mono ?_
  rintro e y3 ⟨rfl, PW1⟩
  have HP4 := Lib.hid PW1
  clear KF HP3 PW1 x0 x1 x2 hx2
  have KS := Lib.hid (wstring b b _ _ HP4.out.wt (by rw [HN.out]; exact HPS.out))
  go_wp2_with fail
  refine KS.out.mono ?_
  rintro e y8 ⟨rfl, b8⟩
  have HF := Lib.hid (HP4.out.q.be.trans (b8.mono (by have := HP4.out.l2; omega)))
  clear KS b8 HP4
  go_wp2
  go_ret2
  exact ⟨by rw [← HN.out]; rfl, HF.out⟩
set_option maxHeartbeats 1000000 in
set_option maxRecDepth 100000 in
theorem putHardV2_no (h : Hd) (w : World) (hv : ins h.vo 0 7 = false) : Calls Tryz.prog 45 #[.int .i64 2, h.val] w fun e w' => e = .returned (.tuple #[.string ⟨#[]⟩, .bool false]) ∧ Below w.heap.size w w' := by
  obtain ⟨W, hW⟩ : ∃ W, W = hbx w h := ⟨_, rfl⟩
  have hq := hbx_ph w h
  rw [← hW] at hq
  have HQ := Lib.hid hq
  have HI := Lib.hid (fun (W : World) => within_any h.vo 0 7 W)
  rw [hv] at HI
  have HW := Lib.hid hW
  clear hq hW hv
  unfold hbx Hd.val at *
  unfold Hd.c at HW ⊢
  try dsimp only at HW ⊢
  go_enter Tryz.func45, Tryz.ntmps45
  go_wp2_with fail
  rw [← HW.out]
  refine (puts_ph HQ.out).mono ?_
  rintro e w1 ⟨g, rfl, Q1, m1⟩
  have HQ1 := Lib.hid Q1
  have hl := look_step (T := 105) 2 (fv 81) Tryz.underlying105 m1 (two_2 _ _)
  obtain ⟨x0, x1, x2⟩ := hd_cells Q1.bx
  clear HQ HW Q1 m1
  go_wp2_with fail
  refine (HI.out _).mono ?_
  rintro e w1 ⟨rfl, rfl⟩
  go_wp2
  go_ret2
  exact ⟨rfl, HQ1.out.be⟩

theorem zero66 (w : World) : (zeroValue 104).run Tryz.prog w = .ok .nilFunc w := Tryz.zeroValue104 w
set_option maxHeartbeats 1000000 in
set_option maxRecDepth 100000 in
theorem putHard_none (v : Int) (h : Hd) (w : World) (h1 : v ≠ 1) (h2 : v ≠ 2) : Calls Tryz.prog 45 #[.int .i64 v, h.val] w fun e w' => e = .returned (.tuple #[.string ⟨#[]⟩, .bool false]) ∧ Below w.heap.size w w' := by
  obtain ⟨W, hW⟩ : ∃ W, W = hbx w h := ⟨_, rfl⟩
  have hq := hbx_ph w h
  rw [← hW] at hq
  have HQ := Lib.hid hq
  have HW := Lib.hid hW
  have H1 := Lib.hid h1
  have H2 := Lib.hid h2
  clear hq hW h1 h2
  unfold hbx Hd.val at *
  unfold Hd.c at HW ⊢
  go_enter Tryz.func45, Tryz.ntmps45
  go_wp2_with fail
  rw [← HW.out]
  refine (puts_ph HQ.out).mono ?_
  rintro e w1 ⟨g, rfl, Q1, m1⟩
  have HQ1 := Lib.hid Q1
  have hl := look_none (T := 105) v Tryz.underlying105 zero66 m1 (two_n _ _ v H1.out H2.out)
  clear HQ HW Q1 m1
  go_wp2
  go_ret2
  exact ⟨rfl, HQ1.out.be⟩
theorem putHard_any (v : Int) (h : Hd) (w : World) (ho : h.Ok) : Calls Tryz.prog 45 #[.int .i64 v, h.val] w fun e w' => e = .returned (.tuple #[.string (hS v h), .bool (hO v h)]) ∧ Below w.heap.size w w' := by
  unfold hS
  cases hh : hO v h with
  | false =>
    rw [if_neg (by decide)]
    by_cases h1 : v = 1
    · subst h1
      refine putHardV1_no h w ?_
      unfold hO at hh; simpa using hh
    · by_cases h2 : v = 2
      · subst h2
        refine putHardV2_no h w ?_
        unfold hO at hh; simpa using hh
      · exact putHard_none v h w h1 h2
  | true =>
    rw [if_pos rfl]
    obtain ⟨tm, vo, cm⟩ := h
    obtain ⟨h1, h2, h3⟩ := (hO_iff _ _).1 hh
    dsimp only at h2 h3
    obtain ⟨x, rfl⟩ := Int.eq_ofNat_of_zero_le h2
    rcases h1 with rfl | rfl
    · exact putHardN1_any tm x cm w ho.t ho.c (by omega)
    · exact putHardN2_any tm x cm w ho.t ho.c (by omega)
end Go.Proofs.YtdoombcihobejaaGreat
namespace Go.Proofs.YtdoombcihobejaaGreat
open Go.RowKit Vi Sl
set_option linter.unusedVariables false
set_option linter.unusedSimpArgs false
theorem wrapEq (x : Int) : IntKind.i64.wrap x = wrap64 x := by rw [IntKind.wrap_i64]; unfold wrap64; omega
theorem Tryz.su7 : (Tryz.prog.info? 23).map (·.size) = some 7 := by kernel_rfl
theorem wpList_store_su {ops : Array Oper} {rest : List Oper} {op : Oper} {a : Act} {Q : Exit → Act → World → Prop} (hgd : op.guard = none) (x y : Operand) (ho : op.op = .store 23 x y)
    (w : World) (z : Nat) (s t : Su) (hx : a.eval x = .pointer (some ⟨z, 0, none⟩)) (hy : a.eval y = .agg s.c) (hz : w.heap[z]? = some (.cells t.c 23 (0, 0)))
    (h : wpList Tryz.prog ops Q rest (a.put op.dst undef) (w.setRow z s.c)) : wpList Tryz.prog ops Q (op :: rest) a w :=
  wpList_store_row hgd 23 x y ho z _ hx hy 23 _ hz Tryz.su7 rfl (by simp [Su.c, Value.oneCell']) h
theorem wpList_load_su {ops : Array Oper} {rest : List Oper} {op : Oper} {a : Act} {Q : Exit → Act → World → Prop} (hgd : op.guard = none) (x : Operand) (ho : op.op = .load 23 x)
    (w : World) (z : Nat) (s : Su) (hx : a.eval x = .pointer (some ⟨z, 0, none⟩)) (hz : w.heap[z]? = some (.cells s.c 23 (0, 0)))
    (h : wpList Tryz.prog ops Q rest (a.put op.dst (.agg s.c)) w) : wpList Tryz.prog ops Q (op :: rest) a w :=
  wpList_load_row hgd 23 x ho z hx 23 _ (0, 0) _ hz Tryz.underlying23 rfl Tryz.su7 h
theorem res17 (tmps : Array Value) (w : World) (p : Nat) (s : Su) (hp : tmps.getD 2 undef = .pointer (some ⟨p, 0, none⟩)) (hg : w.heap[p]? = some (.cells s.c 23 (0, 0))) :
    (results Tryz.f25 tmps).run Tryz.prog w = .ok (.tuple #[.agg s.c, tmps.getD 3 undef]) w := by
  rw [results_cell_tmp Tryz.results25, hp]
  simp [asAddr, run_loadVar_row w p 23 23 s.c (0, 0) _ hg Tryz.underlying23 rfl Tryz.su7]
theorem zero87 (w : World) : (zeroValue 114).run Tryz.prog w = .ok .nilFunc w := Tryz.zeroValue114 w
/-- What is read so far: the result's block, the reader, the cells that hold the reader and how its numbers are taken. -/
structure Gr (w : World) (R t c fn : Nat) (u : ByteArray) (W : World) : Prop where
  be : Below w.heap.size w W
  r0 : W.heap[w.heap.size]? = some (.cells su0.c 23 (0, 0))
  rd : ∃ bad, Rd 142 R u bad W
  ct : W.heap[t]? = some (.cells #[.pointer (some ⟨R, 0, none⟩)] 111 (0, 0))
  cf : W.heap[c]? = some (.cells #[fv fn] 114 (0, 0))
  l1 : w.heap.size < R
  l2 : R < t
  l3 : t < c
  sz : u.size ≤ 281474976710656
theorem Gr.lt {w W : World} {R t c fn : Nat} {u : ByteArray} (h : Gr w R t c fn u W) : c < W.heap.size := (Array.getElem?_eq_some_iff.1 h.cf).1
theorem Gr.grown {w W W' : World} {R t c fn : Nat} {u v : ByteArray} (h : Gr w R t c fn u W) (hr : ∃ bad, Rd 142 R v bad W') (hg : W.grownBy W' (some R)) (hv : v.size ≤ 281474976710656) : Gr w R t c fn v W' := by
  have l1 := h.l1
  have l2 := h.l2
  have l3 := h.l3
  have lt := h.lt
  have bl : ∀ k, k < W.heap.size → k ≠ R → W'.heap[k]? = W.heap[k]? := fun k hk hn => hg.block k hk (by simpa using hn)
  exact ⟨below_grownBy h.be hg h.be.size (by omega), (bl _ (by omega) (by omega)).trans h.r0, hr, (bl _ (by omega) (by omega)).trans h.ct, (bl _ (by omega) (by omega)).trans h.cf, l1, l2, l3, hv⟩
theorem Gr.below {w W W' : World} {R t c fn : Nat} {u : ByteArray} (h : Gr w R t c fn u W) (hb : Below W.heap.size W W') : Gr w R t c fn u W' :=
  h.grown (h.rd.elim fun b hr => ⟨b, hr.below hb hr.lt⟩) (grownBy_below hb _) h.sz
theorem takT_le {v : Int} {u : ByteArray} {k : Nat} (h : u.size ≤ 281474976710656) : (takT v u k).size ≤ 281474976710656 := Nat.le_trans (takT_size v u k) h

theorem tk1_any (R : Nat) (u : ByteArray) (k : Nat) (W : World) (h : ∃ bad, Rd 142 R u bad W) (hu : u.size ≤ 281474976710656) :
    Calls Tryz.prog 56 #[.pointer (some ⟨R, 0, none⟩), .int .i64 k] W fun e w' => e = .returned (.int .u64 (takV 1 u k)) ∧ (∃ bad, Rd 142 R (takT 1 u k) bad w') ∧ W.grownBy w' (some R) := by
  obtain ⟨bad, h⟩ := h
  exact (fixedr_any R u bad k W h hu).mono fun e w' ⟨h1, h2, h3⟩ => ⟨h1, ⟨_, h2⟩, h3⟩
set_option maxHeartbeats 1000000 in
theorem gcl12_any {w : World} {R t c : Nat} {u : ByteArray} (W : World) (h : Gr w R t c 56 u W) :
    Calls Tryz.prog 58 #[.pointer (some ⟨c, 0, none⟩), .pointer (some ⟨t, 0, none⟩)] W fun e w' => e = .returned (.int .i64 (w64 (takV 1 u 2))) ∧ Gr w R t c 56 (takT 1 u 2) w' := by
  have c0 : W.cell? ⟨c, 0, none⟩ = some (fv 56) := cell_of_row W c 0 _ 114 (0, 0) h.cf
  have c1 : W.cell? ⟨t, 0, none⟩ = some (.pointer (some ⟨R, 0, none⟩)) := cell_of_row W t 0 _ 111 (0, 0) h.ct
  have K := Lib.hid ((tk1_any R u 2 W h.rd h.sz).mono fun e w' ⟨h1, h2, h3⟩ => (⟨h1, h.grown h2 h3 (takT_le h.sz)⟩ : _ ∧ Gr w R t c 56 (takT 1 u 2) w'))
  have HE : Hid (w64 (takV 1 u 2) = wrap64 ((takV 1 u 2 : Nat) : Int)) := wrapEq _
  clear h
  go_enter Tryz.func58, Tryz.ntmps58
  go_wp2_with fail
  refine K.out.mono ?_
  rintro e w1 ⟨rfl, h1⟩
  have H1 := Lib.hid h1
  clear h1
  go_wp2
  go_ret
  exact ⟨by rw [HE.out]; rfl, H1.out⟩
set_option maxHeartbeats 1000000 in
theorem gcl11_any {w : World} {R t c : Nat} {u : ByteArray} (W : World) (h : Gr w R t c 56 u W) :
    Calls Tryz.prog 59 #[.pointer (some ⟨c, 0, none⟩), .pointer (some ⟨t, 0, none⟩)] W fun e w' => e = .returned (.int .i64 (w64 (takV 1 u 1))) ∧ Gr w R t c 56 (takT 1 u 1) w' := by
  have c0 : W.cell? ⟨c, 0, none⟩ = some (fv 56) := cell_of_row W c 0 _ 114 (0, 0) h.cf
  have c1 : W.cell? ⟨t, 0, none⟩ = some (.pointer (some ⟨R, 0, none⟩)) := cell_of_row W t 0 _ 111 (0, 0) h.ct
  have K := Lib.hid ((tk1_any R u 1 W h.rd h.sz).mono fun e w' ⟨h1, h2, h3⟩ => (⟨h1, h.grown h2 h3 (takT_le h.sz)⟩ : _ ∧ Gr w R t c 56 (takT 1 u 1) w'))
  have HE : Hid (w64 (takV 1 u 1) = wrap64 ((takV 1 u 1 : Nat) : Int)) := wrapEq _
  clear h
  go_enter Tryz.func59, Tryz.ntmps59
  go_wp2_with fail
  refine K.out.mono ?_
  rintro e w1 ⟨rfl, h1⟩
  have H1 := Lib.hid h1
  clear h1
  go_wp2
  go_ret
  exact ⟨by rw [HE.out]; rfl, H1.out⟩
theorem tk2_any (R : Nat) (u : ByteArray) (k : Nat) (W : World) (h : ∃ bad, Rd 142 R u bad W) (hu : u.size ≤ 281474976710656) :
    Calls Tryz.prog 87 #[.pointer (some ⟨R, 0, none⟩), .int .i64 k] W fun e w' => e = .returned (.int .u64 (takV 2 u k)) ∧ (∃ bad, Rd 142 R (takT 2 u k) bad w') ∧ W.grownBy w' (some R) := by
  obtain ⟨bad, h⟩ := h
  have K := Lib.hid (var_any R u bad W h hu)
  clear h hu
  unfold rdp at *
  go_enter Tryz.func87, Tryz.ntmps87
  go_wp2_with fail
  refine K.out.mono ?_
  rintro e w1 ⟨rfl, h1, h2⟩
  go_wp2
  go_ret
  exact ⟨rfl, ⟨_, h1⟩, h2⟩
set_option maxHeartbeats 1000000 in
theorem gcl22_any {w : World} {R t c : Nat} {u : ByteArray} (W : World) (h : Gr w R t c 87 u W) :
    Calls Tryz.prog 58 #[.pointer (some ⟨c, 0, none⟩), .pointer (some ⟨t, 0, none⟩)] W fun e w' => e = .returned (.int .i64 (w64 (takV 2 u 2))) ∧ Gr w R t c 87 (takT 2 u 2) w' := by
  have c0 : W.cell? ⟨c, 0, none⟩ = some (fv 87) := cell_of_row W c 0 _ 114 (0, 0) h.cf
  have c1 : W.cell? ⟨t, 0, none⟩ = some (.pointer (some ⟨R, 0, none⟩)) := cell_of_row W t 0 _ 111 (0, 0) h.ct
  have K := Lib.hid ((tk2_any R u 2 W h.rd h.sz).mono fun e w' ⟨h1, h2, h3⟩ => (⟨h1, h.grown h2 h3 (takT_le h.sz)⟩ : _ ∧ Gr w R t c 87 (takT 2 u 2) w'))
  have HE : Hid (w64 (takV 2 u 2) = wrap64 ((takV 2 u 2 : Nat) : Int)) := wrapEq _
  clear h
  go_enter Tryz.func58, Tryz.ntmps58
  go_wp2_with fail
  refine K.out.mono ?_
  rintro e w1 ⟨rfl, h1⟩
  have H1 := Lib.hid h1
  clear h1
  go_wp2
  go_ret
  exact ⟨by rw [HE.out]; rfl, H1.out⟩
set_option maxHeartbeats 1000000 in
theorem gcl21_any {w : World} {R t c : Nat} {u : ByteArray} (W : World) (h : Gr w R t c 87 u W) :
    Calls Tryz.prog 59 #[.pointer (some ⟨c, 0, none⟩), .pointer (some ⟨t, 0, none⟩)] W fun e w' => e = .returned (.int .i64 (w64 (takV 2 u 1))) ∧ Gr w R t c 87 (takT 2 u 1) w' := by
  have c0 : W.cell? ⟨c, 0, none⟩ = some (fv 87) := cell_of_row W c 0 _ 114 (0, 0) h.cf
  have c1 : W.cell? ⟨t, 0, none⟩ = some (.pointer (some ⟨R, 0, none⟩)) := cell_of_row W t 0 _ 111 (0, 0) h.ct
  have K := Lib.hid ((tk2_any R u 1 W h.rd h.sz).mono fun e w' ⟨h1, h2, h3⟩ => (⟨h1, h.grown h2 h3 (takT_le h.sz)⟩ : _ ∧ Gr w R t c 87 (takT 2 u 1) w'))
  have HE : Hid (w64 (takV 2 u 1) = wrap64 ((takV 2 u 1 : Nat) : Int)) := wrapEq _
  clear h
  go_enter Tryz.func59, Tryz.ntmps59
  go_wp2_with fail
  refine K.out.mono ?_
  rintro e w1 ⟨rfl, h1⟩
  have H1 := Lib.hid h1
  clear h1
  go_wp2
  go_ret
  exact ⟨by rw [HE.out]; rfl, H1.out⟩
set_option maxHeartbeats 4000000 in
set_option maxRecDepth 100000 in
theorem getSuper_none (b : ByteArray) (w : World) (hb : b.size ≤ 281474976710656) (h1 : rv b ≠ 1) (h2 : rv b ≠ 2) : Calls Tryz.prog 25 #[.string b] w fun e w' => e = .returned (.tuple #[su0.val, .bool false]) ∧ Below w.heap.size w w' := by
  obtain ⟨W0, hW0⟩ : ∃ W0, W0 = w.alloc (.cells su0.c 23) := ⟨_, rfl⟩
  have b0 : Below w.heap.size w W0 := by rw [hW0]; exact (Below.refl _ _).alloc (Nat.le_refl _) _
  have k0 : W0.heap[w.heap.size]? = some (.cells su0.c 23 (0, 0)) := by rw [hW0]; exact heap_alloc_new w _
  have s0 : W0.heap.size = w.heap.size + 1 := by rw [hW0]; simp
  have KN := Lib.hid (new_any b W0)
  have HB0 := Lib.hid b0
  have HK0 := Lib.hid k0
  have HS0 := Lib.hid s0
  have HW0 := Lib.hid hW0
  have HBZ := Lib.hid hb
  have HV : Hid (((fixV b 1 : Nat) : Int) ≠ 1 ∧ ((fixV b 1 : Nat) : Int) ≠ 2) := ⟨h1, h2⟩
  have HV1 := Lib.hid (fixV_lt1 b)
  clear b0 k0 s0 hW0 h1 h2 hb
  unfold rdp su0 Su.c at *
  dsimp only at *
  go_enter Tryz.func25, Tryz.ntmps25
  go_wp2_with fail
  rw [← HW0.out]
  refine KN.out.mono ?_
  rintro e w1 ⟨rfl, hw1⟩
  obtain ⟨R, hR⟩ : ∃ R, R = W0.heap.size := ⟨_, rfl⟩
  have r1 : Rd 142 R b false w1 := by rw [hw1, hR]; exact Rd.new _ _ _ _
  have b1 : Below W0.heap.size W0 w1 := by rw [hw1]; exact (Below.refl _ _).alloc (Nat.le_refl _) _
  have s1 : w1.heap.size = R + 1 := by rw [hw1, hR]; simp
  have HRR := Lib.hid hR
  have HB1 : Hid (Below w.heap.size w w1) := HB0.out.trans (b1.mono HB0.out.size)
  have HK1 : Hid (w1.heap[w.heap.size]? = some (.cells su0.c 23 (0, 0))) := (b1.block _ (by have := HS0.out; omega)).trans HK0.out
  have HR1 := Lib.hid r1
  have HS1 := Lib.hid s1
  clear hw1 r1 b1 s1 hR
  rw [← HRR.out]
  obtain ⟨W2, hW2⟩ : ∃ W2, W2 = w1.alloc (.cells #[.pointer (some ⟨R, 0, none⟩)] 111) := ⟨_, rfl⟩
  have b2 : Below w1.heap.size w1 W2 := by rw [hW2]; exact (Below.refl _ _).alloc (Nat.le_refl _) _
  have KF := Lib.hid (fixedr_any R b false 1 W2 (HR1.out.below b2 HR1.out.lt) HBZ.out)
  have HB2 : Hid (Below w.heap.size w W2) := HB1.out.trans (b2.mono HB1.out.size)
  have HK2 : Hid (W2.heap[w.heap.size]? = some (.cells su0.c 23 (0, 0))) := (b2.block _ (by have := HS1.out; have := HS0.out; have := HRR.out; omega)).trans HK1.out
  have HW2 := Lib.hid hW2
  clear b2 hW2
  unfold rdp at *
  go_wp2_with fail
  rw [← HW2.out]
  refine KF.out.mono ?_
  rintro e w3 ⟨rfl, r3, g3⟩
  have HB3 : Hid (Below w.heap.size w w3) := below_grownBy HB2.out g3 HB2.out.size (by have := HS0.out; have := HRR.out; omega)
  have HK3 : Hid (w3.heap[w.heap.size]? = some (.cells su0.c 23 (0, 0))) := (g3.block _ (Array.getElem?_eq_some_iff.1 HK2.out).1 (by have := HS0.out; have := HRR.out; simp; omega)).trans HK2.out
  clear r3 g3
  obtain ⟨n, hn⟩ : ∃ n, n = fixV b 1 := ⟨_, rfl⟩
  rw [← hn] at HV HV1 ⊢
  have hwr : IntKind.i64.wrap (n : Int) = (n : Int) := IntWalk.i64_in _ (by have := HV1.out; omega)
  clear hn
  go_wp2_with fail
  refine (takes_any _).mono ?_
  rintro e w4 ⟨rfl, m4, b4, s4⟩
  have HB4 : Hid (Below w.heap.size w w4) := HB3.out.trans (b4.mono HB3.out.size)
  have HK4 : Hid (w4.heap[w.heap.size]? = some (.cells su0.c 23 (0, 0))) := (b4.block _ (Array.getElem?_eq_some_iff.1 HK3.out).1).trans HK3.out
  have hl := look_none (T := 116) (n : Int) Tryz.underlying116 zero87 m4 (two_n _ _ _ HV.out.1 HV.out.2)
  have k5 : (w4.alloc (.cells #[.nilFunc] 114)).heap[w.heap.size]? = some (.cells su0.c 23 (0, 0)) := (Lib.alloc_old _ _ _ (Array.getElem?_eq_some_iff.1 HK4.out).1).trans HK4.out
  obtain ⟨W5, hW5⟩ : ∃ W5, W5 = (w4.alloc (.cells #[.nilFunc] 114)).setRow w.heap.size su0.c := ⟨_, rfl⟩
  have HB5 : Hid (Below w.heap.size w W5) := by rw [hW5]; exact (HB4.out.alloc HB4.out.size _).trans ⟨rfl, rfl, rfl, by simp, fun k hk => setRow_other _ _ _ _ (by have := HB4.out.size; omega)⟩
  have HK5 : Hid (W5.heap[w.heap.size]? = some (.cells su0.c 23 (0, 0))) := by show _ = _; rw [hW5]; exact setRow_heap _ _ _ _ 23 (0, 0) k5
  have HW5 := Lib.hid hW5
  have K5 := Lib.hid k5
  clear m4 b4 s4 hW5 k5
  go_wp2_with (refine wpList_store_su rfl _ _ rfl _ _ su0 su0 rfl rfl K5.out ?_; refine wpList_at HW5.out.symm ?_; go_frame)
  exact bodyPost_ret (v := _) (res17 _ _ w.heap.size su0 rfl HK5.out) rfl ⟨rfl, HB5.out⟩
set_option maxHeartbeats 4000000 in
set_option maxRecDepth 100000 in
theorem getSuperV1_any (b : ByteArray) (w : World) (hb : b.size ≤ 281474976710656) (hv : rv b = 1) : Calls Tryz.prog 25 #[.string b] w fun e w' => e = .returned (.tuple #[(gS b).val, .bool (gO b)]) ∧ Below w.heap.size w w' := by
  obtain ⟨W0, hW0⟩ : ∃ W0, W0 = w.alloc (.cells su0.c 23) := ⟨_, rfl⟩
  have b0 : Below w.heap.size w W0 := by rw [hW0]; exact (Below.refl _ _).alloc (Nat.le_refl _) _
  have k0 : W0.heap[w.heap.size]? = some (.cells su0.c 23 (0, 0)) := by rw [hW0]; exact heap_alloc_new w _
  have s0 : W0.heap.size = w.heap.size + 1 := by rw [hW0]; simp
  have KN := Lib.hid (new_any b W0)
  have HB0 := Lib.hid b0
  have HK0 := Lib.hid k0
  have HS0 := Lib.hid s0
  have HW0 := Lib.hid hW0
  have HBZ := Lib.hid hb
  have HV : Hid (((fixV b 1 : Nat) : Int) = 1) := hv
  have hrs : rs b = rdS 1 (fixT b 1) := by unfold rs; rw [hv]
  have hu : (fixT b 1).size ≤ 281474976710656 := Nat.le_trans (fixT_size b 1) hb
  obtain ⟨u, hu0⟩ : ∃ u, u = fixT b 1 := ⟨_, rfl⟩
  rw [← hu0] at hrs hu
  have KP := Lib.hid (fun (W : World) => putSuper_any (rdS 1 u) W)
  obtain ⟨r, hr⟩ : ∃ r, r = rgt (rdS 1 u) := ⟨_, rfl⟩
  obtain ⟨p, hp⟩ : ∃ p, p = supS (rdS 1 u) := ⟨_, rfl⟩
  rw [← hr, ← hp] at KP
  obtain ⟨te, hte⟩ : ∃ te, te = (p.toList == b.toList) := ⟨_, rfl⟩
  have HG : Hid (gO b = (r && te)) := by
    show _ = _
    unfold gO; rw [hrs, ← hr, hte, hp]
    cases hrr : r with
    | false => rfl
    | true => unfold supS; rw [← hr, hrr, if_pos rfl]
  have HS : Hid (gS b = if (r && te) = true then rdS 1 u else su0) := by show _ = _; unfold gS; rw [HG.out, hrs]
  have HTE := Lib.hid hte.symm
  have HU := Lib.hid hu
  have HU0 := Lib.hid hu0
  obtain ⟨T, hT⟩ : ∃ T, T = rdS 1 u := ⟨_, rfl⟩
  have HT : Hid (T.c = #[.int .i64 (rdS 1 u).v, .int .i64 (rdS 1 u).sn, .int .i64 (rdS 1 u).lg, .int .i64 (rdS 1 u).ar, .int .i64 (rdS 1 u).hf, .int .i64 (rdS 1 u).gl, .int .i64 (rdS 1 u).sp]) := by show _ = _; rw [hT]; rfl
  rw [← hT] at HS
  unfold rdS u5 u4 u3 u2 u1 at KP HT
  unfold Su.val Su.c at KP
  dsimp only at KP HT
  have HX : Hid (T.c = _) := HT.out
  clear b0 k0 s0 hW0 hv hb hrs hu hu0 hr hp hte hT HT
  unfold rdp at *
  go_enter Tryz.func25, Tryz.ntmps25
  go_wp2_with fail
  have hz0 : (w.alloc (.cells su0.c 23)) = w.alloc (.cells #[.int .i64 0, .int .i64 0, .int .i64 0, .int .i64 0, .int .i64 0, .int .i64 0, .int .i64 0] 23) := rfl
  rw [hz0] at HW0
  clear hz0
  rw [← HW0.out]
  refine KN.out.mono ?_
  rintro e w1 ⟨rfl, hw1⟩
  obtain ⟨R, hR⟩ : ∃ R, R = W0.heap.size := ⟨_, rfl⟩
  have r1 : Rd 142 R b false w1 := by rw [hw1, hR]; exact Rd.new _ _ _ _
  have b1 : Below W0.heap.size W0 w1 := by rw [hw1]; exact (Below.refl _ _).alloc (Nat.le_refl _) _
  have s1 : w1.heap.size = R + 1 := by rw [hw1, hR]; simp
  have HRR := Lib.hid hR
  have HB1 : Hid (Below w.heap.size w w1) := HB0.out.trans (b1.mono HB0.out.size)
  have HK1 : Hid (w1.heap[w.heap.size]? = some (.cells su0.c 23 (0, 0))) := (b1.block _ (by have := HS0.out; omega)).trans HK0.out
  have HR1 := Lib.hid r1
  have HS1 := Lib.hid s1
  clear hw1 r1 b1 s1 hR
  rw [← HRR.out]
  obtain ⟨W2, hW2⟩ : ∃ W2, W2 = w1.alloc (.cells #[.pointer (some ⟨R, 0, none⟩)] 111) := ⟨_, rfl⟩
  have b2 : Below w1.heap.size w1 W2 := by rw [hW2]; exact (Below.refl _ _).alloc (Nat.le_refl _) _
  have KF := Lib.hid (fixedr_any R b false 1 W2 (HR1.out.below b2 HR1.out.lt) HBZ.out)
  have HB2 : Hid (Below w.heap.size w W2) := HB1.out.trans (b2.mono HB1.out.size)
  have HK2 : Hid (W2.heap[w.heap.size]? = some (.cells su0.c 23 (0, 0))) := (b2.block _ (by have := HS1.out; have := HS0.out; have := HRR.out; omega)).trans HK1.out
  have HT2 : Hid (W2.heap[w1.heap.size]? = some (.cells #[.pointer (some ⟨R, 0, none⟩)] 111 (0, 0))) := by show _ = _; rw [hW2]; exact heap_alloc_new w1 _
  have HW2 := Lib.hid hW2
  clear b2 hW2
  unfold rdp at *
  go_wp2_with fail
  rw [← HW2.out]
  refine KF.out.mono ?_
  rintro e w3 ⟨rfl, r3, g3⟩
  have HB3 : Hid (Below w.heap.size w w3) := below_grownBy HB2.out g3 HB2.out.size (by have := HS0.out; have := HRR.out; omega)
  have HK3 : Hid (w3.heap[w.heap.size]? = some (.cells su0.c 23 (0, 0))) := (g3.block _ (Array.getElem?_eq_some_iff.1 HK2.out).1 (by have := HS0.out; have := HRR.out; simp; omega)).trans HK2.out
  have HT3 : Hid (w3.heap[w1.heap.size]? = some (.cells #[.pointer (some ⟨R, 0, none⟩)] 111 (0, 0))) := (g3.block _ (Array.getElem?_eq_some_iff.1 HT2.out).1 (by have := HS1.out; simp; omega)).trans HT2.out
  rw [← HU0.out] at r3
  have HR3 := Lib.hid r3
  clear r3 g3 KF KN
  rw [HV.out]
  go_wp2_with fail
  refine (takes_any _).mono ?_
  rintro e w4 ⟨rfl, m4, b4, s4⟩
  have hl := look_step (T := 116) 1 (fv 56) Tryz.underlying116 m4 (two_1 _ _)
  have t3 := (Array.getElem?_eq_some_iff.1 HT3.out).1
  have HB4 : Hid (Below w.heap.size w w4) := HB3.out.trans (b4.mono HB3.out.size)
  have HK4 : Hid (w4.heap[w.heap.size]? = some (.cells su0.c 23 (0, 0))) := (b4.block _ (Array.getElem?_eq_some_iff.1 HK3.out).1).trans HK3.out
  have HT4 : Hid (w4.heap[w1.heap.size]? = some (.cells #[.pointer (some ⟨R, 0, none⟩)] 111 (0, 0))) := (b4.block _ t3).trans HT3.out
  have HR4 : Hid (Rd 142 R u (false || !hasF b 1) w4) := HR3.out.below b4 HR3.out.lt
  have t4 := (Array.getElem?_eq_some_iff.1 HT4.out).1
  obtain ⟨W5, hW5⟩ : ∃ W5, W5 = w4.alloc (.cells #[fv 56] 114) := ⟨_, rfl⟩
  have b5 : Below w4.heap.size w4 W5 := by rw [hW5]; exact (Below.refl _ _).alloc (Nat.le_refl _) _
  have G0 : Hid (Gr w R w1.heap.size w4.heap.size 56 u W5) :=
    ⟨HB4.out.trans (b5.mono HB4.out.size), (b5.block _ (Array.getElem?_eq_some_iff.1 HK4.out).1).trans HK4.out, ⟨_, HR4.out.below b5 HR4.out.lt⟩, (b5.block _ t4).trans HT4.out, by rw [hW5]; exact heap_alloc_new w4 _, by have := HS0.out; have := HRR.out; omega, by have := HS1.out; omega, t4, HU.out⟩
  have HW5 := Lib.hid hW5
  clear m4 b4 s4 hW5 b5 t3 t4 HR1 HR3 HR4 HT2 HT3 HT4 HB0 HB1 HB2 HB3 HB4 HK0 HK1 HK2 HK3 HK4 HW2 HW0 HS1 HS0 HRR
  generalize hw1s : w1.heap.size = t at *
  generalize hw4s : w4.heap.size = c at *
  have HC1 := Lib.hid hw1s
  have HC4 := Lib.hid hw4s
  clear hw1s hw4s
  have KG := Lib.hid (gcl12_any _ G0.out)
  go_wp2_with fail
  rw [← HW5.out, HC4.out]
  refine KG.out.mono ?_
  rintro e y1 ⟨rfl, g1⟩
  have G1 := Lib.hid g1
  clear KG g1 G0
  clear hl HW5
  have KG := Lib.hid (gcl12_any _ G1.out)
  go_wp2_with fail
  refine KG.out.mono ?_
  rintro e y2 ⟨rfl, g2⟩
  have G2 := Lib.hid g2
  clear KG g2 G1
  have KG := Lib.hid (gcl11_any _ G2.out)
  go_wp2_with fail
  refine KG.out.mono ?_
  rintro e y3 ⟨rfl, g3⟩
  have G3 := Lib.hid g3
  clear KG g3 G2
  have KG := Lib.hid (gcl11_any _ G3.out)
  go_wp2_with fail
  refine KG.out.mono ?_
  rintro e y4 ⟨rfl, g4⟩
  have G4 := Lib.hid g4
  clear KG g4 G3
  have KG := Lib.hid (gcl11_any _ G4.out)
  go_wp2_with fail
  refine KG.out.mono ?_
  rintro e y5 ⟨rfl, g5⟩
  have G5 := Lib.hid g5
  clear KG g5 G4
  have KG := Lib.hid (gcl11_any _ G5.out)
  go_wp2_with fail
  refine KG.out.mono ?_
  rintro e y6 ⟨rfl, g6⟩
  have G6 := Lib.hid g6
  clear KG g6 G5
  have q0 := Array.getElem?_eq_some_iff.1 G6.out.r0
  obtain ⟨V, hV⟩ : ∃ V, V = y6.alloc (.cells T.c 23) := ⟨_, rfl⟩
  have bV : Below y6.heap.size y6 V := by rw [hV]; exact (Below.refl _ _).alloc (Nat.le_refl _) _
  have GV : Hid (Gr w R t c 56 _ V) := G6.out.below bV
  have HVT : Hid (V.heap[y6.heap.size]? = some (.cells T.c 23 (0, 0))) := by show _ = _; rw [hV]; exact heap_alloc_new y6 _
  rw [HX.out] at hV
  have HVV := Lib.hid hV
  clear hV bV q0 G6
  go_wp2_with fail
  rw [← HVV.out, ← HX.out]
  rw [← HX.out] at KP
  refine (KP.out _).mono ?_
  rintro e z ⟨rfl, bz⟩
  have Gz := GV.out.below bz
  have hb := Gz.be
  have KZ : Hid (z.heap[w.heap.size]? = some (.cells su0.c 23 (0, 0))) := Gz.r0
  have TZ : Hid (z.heap[y6.heap.size]? = some (.cells T.c 23 (0, 0))) := (bz.block _ (Array.getElem?_eq_some_iff.1 HVT.out).1).trans HVT.out
  clear Gz GV HVT HVV HX KP bz HC1 HC4 HU HU0
  obtain ⟨Z0, hZ0⟩ : ∃ Z, Z = z.setRow w.heap.size su0.c := ⟨_, rfl⟩
  obtain ⟨Z1, hZ1⟩ : ∃ Z, Z = z.setRow w.heap.size T.c := ⟨_, rfl⟩
  have B0 : Hid (Below w.heap.size w Z0) := by rw [hZ0]; exact hb.trans ⟨rfl, rfl, rfl, by simp, fun k hk => setRow_other _ _ _ _ (by omega)⟩
  have B1 : Hid (Below w.heap.size w Z1) := by rw [hZ1]; exact hb.trans ⟨rfl, rfl, rfl, by simp, fun k hk => setRow_other _ _ _ _ (by omega)⟩
  have K0 : Hid (Z0.heap[w.heap.size]? = some (.cells su0.c 23 (0, 0))) := by show _ = _; rw [hZ0]; exact setRow_heap _ _ _ _ 23 (0, 0) KZ.out
  have K1 : Hid (Z1.heap[w.heap.size]? = some (.cells T.c 23 (0, 0))) := by show _ = _; rw [hZ1]; exact setRow_heap _ _ _ _ 23 (0, 0) KZ.out
  have HZ0 := Lib.hid hZ0
  have HZ1 := Lib.hid hZ1
  clear hZ0 hZ1 hb
  cases r with
  | false =>
    clear HTE
    go_wp2_with (refine wpList_store_su rfl _ _ rfl _ _ su0 su0 rfl rfl KZ.out ?_; refine wpList_at HZ0.out.symm ?_; go_frame)
    exact bodyPost_ret (v := _) (res17 _ _ w.heap.size su0 rfl K0.out) rfl ⟨by rw [HS.out, HG.out]; rfl, B0.out⟩
  | true =>
    cases te with
    | false =>
      have hne := HTE.out
      clear HTE
      go_wp2_with (refine wpList_store_su rfl _ _ rfl _ _ su0 su0 rfl rfl KZ.out ?_; refine wpList_at HZ0.out.symm ?_; go_frame)
      exact bodyPost_ret (v := _) (res17 _ _ w.heap.size su0 rfl K0.out) rfl ⟨by rw [HS.out, HG.out]; rfl, B0.out⟩
    | true =>
      have hne := HTE.out
      clear HTE
      go_wp2_with (first | (refine wpList_load_su rfl _ rfl _ _ T rfl TZ.out ?_; go_frame) | (refine wpList_store_su rfl _ _ rfl _ _ T su0 rfl rfl KZ.out ?_; refine wpList_at HZ1.out.symm ?_; go_frame))
      exact bodyPost_ret (v := _) (res17 _ _ w.heap.size T rfl K1.out) rfl ⟨by rw [HS.out, HG.out]; rfl, B1.out⟩
set_option maxHeartbeats 4000000 in
set_option maxRecDepth 100000 in
theorem getSuperV2_any (b : ByteArray) (w : World) (hb : b.size ≤ 281474976710656) (hv : rv b = 2) : Calls Tryz.prog 25 #[.string b] w fun e w' => e = .returned (.tuple #[(gS b).val, .bool (gO b)]) ∧ Below w.heap.size w w' := by
  obtain ⟨W0, hW0⟩ : ∃ W0, W0 = w.alloc (.cells su0.c 23) := ⟨_, rfl⟩
  have b0 : Below w.heap.size w W0 := by rw [hW0]; exact (Below.refl _ _).alloc (Nat.le_refl _) _
  have k0 : W0.heap[w.heap.size]? = some (.cells su0.c 23 (0, 0)) := by rw [hW0]; exact heap_alloc_new w _
  have s0 : W0.heap.size = w.heap.size + 1 := by rw [hW0]; simp
  have KN := Lib.hid (new_any b W0)
  have HB0 := Lib.hid b0
  have HK0 := Lib.hid k0
  have HS0 := Lib.hid s0
  have HW0 := Lib.hid hW0
  have HBZ := Lib.hid hb
  have HV : Hid (((fixV b 1 : Nat) : Int) = 2) := hv
  have hrs : rs b = rdS 2 (fixT b 1) := by unfold rs; rw [hv]
  have hu : (fixT b 1).size ≤ 281474976710656 := Nat.le_trans (fixT_size b 1) hb
  obtain ⟨u, hu0⟩ : ∃ u, u = fixT b 1 := ⟨_, rfl⟩
  rw [← hu0] at hrs hu
  have KP := Lib.hid (fun (W : World) => putSuper_any (rdS 2 u) W)
  obtain ⟨r, hr⟩ : ∃ r, r = rgt (rdS 2 u) := ⟨_, rfl⟩
  obtain ⟨p, hp⟩ : ∃ p, p = supS (rdS 2 u) := ⟨_, rfl⟩
  rw [← hr, ← hp] at KP
  obtain ⟨te, hte⟩ : ∃ te, te = (p.toList == b.toList) := ⟨_, rfl⟩
  have HG : Hid (gO b = (r && te)) := by
    show _ = _
    unfold gO; rw [hrs, ← hr, hte, hp]
    cases hrr : r with
    | false => rfl
    | true => unfold supS; rw [← hr, hrr, if_pos rfl]
  have HS : Hid (gS b = if (r && te) = true then rdS 2 u else su0) := by show _ = _; unfold gS; rw [HG.out, hrs]
  have HTE := Lib.hid hte.symm
  have HU := Lib.hid hu
  have HU0 := Lib.hid hu0
  obtain ⟨T, hT⟩ : ∃ T, T = rdS 2 u := ⟨_, rfl⟩
  have HT : Hid (T.c = #[.int .i64 (rdS 2 u).v, .int .i64 (rdS 2 u).sn, .int .i64 (rdS 2 u).lg, .int .i64 (rdS 2 u).ar, .int .i64 (rdS 2 u).hf, .int .i64 (rdS 2 u).gl, .int .i64 (rdS 2 u).sp]) := by show _ = _; rw [hT]; rfl
  rw [← hT] at HS
  unfold rdS u5 u4 u3 u2 u1 at KP HT
  unfold Su.val Su.c at KP
  dsimp only at KP HT
  have HX : Hid (T.c = _) := HT.out
  clear b0 k0 s0 hW0 hv hb hrs hu hu0 hr hp hte hT HT
  unfold rdp at *
  go_enter Tryz.func25, Tryz.ntmps25
  go_wp2_with fail
  have hz0 : (w.alloc (.cells su0.c 23)) = w.alloc (.cells #[.int .i64 0, .int .i64 0, .int .i64 0, .int .i64 0, .int .i64 0, .int .i64 0, .int .i64 0] 23) := rfl
  rw [hz0] at HW0
  clear hz0
  rw [← HW0.out]
  refine KN.out.mono ?_
  rintro e w1 ⟨rfl, hw1⟩
  obtain ⟨R, hR⟩ : ∃ R, R = W0.heap.size := ⟨_, rfl⟩
  have r1 : Rd 142 R b false w1 := by rw [hw1, hR]; exact Rd.new _ _ _ _
  have b1 : Below W0.heap.size W0 w1 := by rw [hw1]; exact (Below.refl _ _).alloc (Nat.le_refl _) _
  have s1 : w1.heap.size = R + 1 := by rw [hw1, hR]; simp
  have HRR := Lib.hid hR
  have HB1 : Hid (Below w.heap.size w w1) := HB0.out.trans (b1.mono HB0.out.size)
  have HK1 : Hid (w1.heap[w.heap.size]? = some (.cells su0.c 23 (0, 0))) := (b1.block _ (by have := HS0.out; omega)).trans HK0.out
  have HR1 := Lib.hid r1
  have HS1 := Lib.hid s1
  clear hw1 r1 b1 s1 hR
  rw [← HRR.out]
  obtain ⟨W2, hW2⟩ : ∃ W2, W2 = w1.alloc (.cells #[.pointer (some ⟨R, 0, none⟩)] 111) := ⟨_, rfl⟩
  have b2 : Below w1.heap.size w1 W2 := by rw [hW2]; exact (Below.refl _ _).alloc (Nat.le_refl _) _
  have KF := Lib.hid (fixedr_any R b false 1 W2 (HR1.out.below b2 HR1.out.lt) HBZ.out)
  have HB2 : Hid (Below w.heap.size w W2) := HB1.out.trans (b2.mono HB1.out.size)
  have HK2 : Hid (W2.heap[w.heap.size]? = some (.cells su0.c 23 (0, 0))) := (b2.block _ (by have := HS1.out; have := HS0.out; have := HRR.out; omega)).trans HK1.out
  have HT2 : Hid (W2.heap[w1.heap.size]? = some (.cells #[.pointer (some ⟨R, 0, none⟩)] 111 (0, 0))) := by show _ = _; rw [hW2]; exact heap_alloc_new w1 _
  have HW2 := Lib.hid hW2
  clear b2 hW2
  unfold rdp at *
  go_wp2_with fail
  rw [← HW2.out]
  refine KF.out.mono ?_
  rintro e w3 ⟨rfl, r3, g3⟩
  have HB3 : Hid (Below w.heap.size w w3) := below_grownBy HB2.out g3 HB2.out.size (by have := HS0.out; have := HRR.out; omega)
  have HK3 : Hid (w3.heap[w.heap.size]? = some (.cells su0.c 23 (0, 0))) := (g3.block _ (Array.getElem?_eq_some_iff.1 HK2.out).1 (by have := HS0.out; have := HRR.out; simp; omega)).trans HK2.out
  have HT3 : Hid (w3.heap[w1.heap.size]? = some (.cells #[.pointer (some ⟨R, 0, none⟩)] 111 (0, 0))) := (g3.block _ (Array.getElem?_eq_some_iff.1 HT2.out).1 (by have := HS1.out; simp; omega)).trans HT2.out
  rw [← HU0.out] at r3
  have HR3 := Lib.hid r3
  clear r3 g3 KF KN
  rw [HV.out]
  go_wp2_with fail
  refine (takes_any _).mono ?_
  rintro e w4 ⟨rfl, m4, b4, s4⟩
  have hl := look_step (T := 116) 2 (fv 87) Tryz.underlying116 m4 (two_2 _ _)
  have t3 := (Array.getElem?_eq_some_iff.1 HT3.out).1
  have HB4 : Hid (Below w.heap.size w w4) := HB3.out.trans (b4.mono HB3.out.size)
  have HK4 : Hid (w4.heap[w.heap.size]? = some (.cells su0.c 23 (0, 0))) := (b4.block _ (Array.getElem?_eq_some_iff.1 HK3.out).1).trans HK3.out
  have HT4 : Hid (w4.heap[w1.heap.size]? = some (.cells #[.pointer (some ⟨R, 0, none⟩)] 111 (0, 0))) := (b4.block _ t3).trans HT3.out
  have HR4 : Hid (Rd 142 R u (false || !hasF b 1) w4) := HR3.out.below b4 HR3.out.lt
  have t4 := (Array.getElem?_eq_some_iff.1 HT4.out).1
  obtain ⟨W5, hW5⟩ : ∃ W5, W5 = w4.alloc (.cells #[fv 87] 114) := ⟨_, rfl⟩
  have b5 : Below w4.heap.size w4 W5 := by rw [hW5]; exact (Below.refl _ _).alloc (Nat.le_refl _) _
  have G0 : Hid (Gr w R w1.heap.size w4.heap.size 87 u W5) :=
    ⟨HB4.out.trans (b5.mono HB4.out.size), (b5.block _ (Array.getElem?_eq_some_iff.1 HK4.out).1).trans HK4.out, ⟨_, HR4.out.below b5 HR4.out.lt⟩, (b5.block _ t4).trans HT4.out, by rw [hW5]; exact heap_alloc_new w4 _, by have := HS0.out; have := HRR.out; omega, by have := HS1.out; omega, t4, HU.out⟩
  have HW5 := Lib.hid hW5
  clear m4 b4 s4 hW5 b5 t3 t4 HR1 HR3 HR4 HT2 HT3 HT4 HB0 HB1 HB2 HB3 HB4 HK0 HK1 HK2 HK3 HK4 HW2 HW0 HS1 HS0 HRR
  generalize hw1s : w1.heap.size = t at *
  generalize hw4s : w4.heap.size = c at *
  have HC1 := Lib.hid hw1s
  have HC4 := Lib.hid hw4s
  clear hw1s hw4s
  have KG := Lib.hid (gcl22_any _ G0.out)
  go_wp2_with fail
  rw [← HW5.out, HC4.out]
  refine KG.out.mono ?_
  rintro e y1 ⟨rfl, g1⟩
  have G1 := Lib.hid g1
  clear KG g1 G0
  clear hl HW5
  have KG := Lib.hid (gcl22_any _ G1.out)
  go_wp2_with fail
  refine KG.out.mono ?_
  rintro e y2 ⟨rfl, g2⟩
  have G2 := Lib.hid g2
  clear KG g2 G1
  have KG := Lib.hid (gcl21_any _ G2.out)
  go_wp2_with fail
  refine KG.out.mono ?_
  rintro e y3 ⟨rfl, g3⟩
  have G3 := Lib.hid g3
  clear KG g3 G2
  have KG := Lib.hid (gcl21_any _ G3.out)
  go_wp2_with fail
  refine KG.out.mono ?_
  rintro e y4 ⟨rfl, g4⟩
  have G4 := Lib.hid g4
  clear KG g4 G3
  have KG := Lib.hid (gcl21_any _ G4.out)
  go_wp2_with fail
  refine KG.out.mono ?_
  rintro e y5 ⟨rfl, g5⟩
  have G5 := Lib.hid g5
  clear KG g5 G4
  have KG := Lib.hid (gcl21_any _ G5.out)
  go_wp2_with fail
  refine KG.out.mono ?_
  rintro e y6 ⟨rfl, g6⟩
  have G6 := Lib.hid g6
  clear KG g6 G5
  have q0 := Array.getElem?_eq_some_iff.1 G6.out.r0
  obtain ⟨V, hV⟩ : ∃ V, V = y6.alloc (.cells T.c 23) := ⟨_, rfl⟩
  have bV : Below y6.heap.size y6 V := by rw [hV]; exact (Below.refl _ _).alloc (Nat.le_refl _) _
  have GV : Hid (Gr w R t c 87 _ V) := G6.out.below bV
  have HVT : Hid (V.heap[y6.heap.size]? = some (.cells T.c 23 (0, 0))) := by show _ = _; rw [hV]; exact heap_alloc_new y6 _
  rw [HX.out] at hV
  have HVV := Lib.hid hV
  clear hV bV q0 G6
  go_wp2_with fail
  rw [← HVV.out, ← HX.out]
  rw [← HX.out] at KP
  refine (KP.out _).mono ?_
  rintro e z ⟨rfl, bz⟩
  have Gz := GV.out.below bz
  have hb := Gz.be
  have KZ : Hid (z.heap[w.heap.size]? = some (.cells su0.c 23 (0, 0))) := Gz.r0
  have TZ : Hid (z.heap[y6.heap.size]? = some (.cells T.c 23 (0, 0))) := (bz.block _ (Array.getElem?_eq_some_iff.1 HVT.out).1).trans HVT.out
  clear Gz GV HVT HVV HX KP bz HC1 HC4 HU HU0
  obtain ⟨Z0, hZ0⟩ : ∃ Z, Z = z.setRow w.heap.size su0.c := ⟨_, rfl⟩
  obtain ⟨Z1, hZ1⟩ : ∃ Z, Z = z.setRow w.heap.size T.c := ⟨_, rfl⟩
  have B0 : Hid (Below w.heap.size w Z0) := by rw [hZ0]; exact hb.trans ⟨rfl, rfl, rfl, by simp, fun k hk => setRow_other _ _ _ _ (by omega)⟩
  have B1 : Hid (Below w.heap.size w Z1) := by rw [hZ1]; exact hb.trans ⟨rfl, rfl, rfl, by simp, fun k hk => setRow_other _ _ _ _ (by omega)⟩
  have K0 : Hid (Z0.heap[w.heap.size]? = some (.cells su0.c 23 (0, 0))) := by show _ = _; rw [hZ0]; exact setRow_heap _ _ _ _ 23 (0, 0) KZ.out
  have K1 : Hid (Z1.heap[w.heap.size]? = some (.cells T.c 23 (0, 0))) := by show _ = _; rw [hZ1]; exact setRow_heap _ _ _ _ 23 (0, 0) KZ.out
  have HZ0 := Lib.hid hZ0
  have HZ1 := Lib.hid hZ1
  clear hZ0 hZ1 hb
  cases r with
  | false =>
    clear HTE
    go_wp2_with (refine wpList_store_su rfl _ _ rfl _ _ su0 su0 rfl rfl KZ.out ?_; refine wpList_at HZ0.out.symm ?_; go_frame)
    exact bodyPost_ret (v := _) (res17 _ _ w.heap.size su0 rfl K0.out) rfl ⟨by rw [HS.out, HG.out]; rfl, B0.out⟩
  | true =>
    cases te with
    | false =>
      have hne := HTE.out
      clear HTE
      go_wp2_with (refine wpList_store_su rfl _ _ rfl _ _ su0 su0 rfl rfl KZ.out ?_; refine wpList_at HZ0.out.symm ?_; go_frame)
      exact bodyPost_ret (v := _) (res17 _ _ w.heap.size su0 rfl K0.out) rfl ⟨by rw [HS.out, HG.out]; rfl, B0.out⟩
    | true =>
      have hne := HTE.out
      clear HTE
      go_wp2_with (first | (refine wpList_load_su rfl _ rfl _ _ T rfl TZ.out ?_; go_frame) | (refine wpList_store_su rfl _ _ rfl _ _ T su0 rfl rfl KZ.out ?_; refine wpList_at HZ1.out.symm ?_; go_frame))
      exact bodyPost_ret (v := _) (res17 _ _ w.heap.size T rfl K1.out) rfl ⟨by rw [HS.out, HG.out]; rfl, B1.out⟩
theorem getSuper_any (b : ByteArray) (w : World) (hb : b.size ≤ 281474976710656) : Calls Tryz.prog 25 #[.string b] w fun e w' => e = .returned (.tuple #[(gS b).val, .bool (gO b)]) ∧ Below w.heap.size w w' := by
  by_cases h1 : rv b = 1
  · exact getSuperV1_any b w hb h1
  · by_cases h2 : rv b = 2
    · exact getSuperV2_any b w hb h2
    · have hg : gO b = false := by
        unfold gO
        have : rgt (rs b) = false := by
          rw [← Bool.not_eq_true, rgt_iff]
          intro h
          have := h.1
          have e : (rs b).v = rv b := rfl
          omega
        rw [this]; rfl
      have hs : gS b = su0 := by unfold gS; rw [hg]; rfl
      rw [hg, hs]
      exact getSuper_none b w hb h1 h2
end Go.Proofs.YtdoombcihobejaaGreat
namespace Go.Proofs.YtdoombcihobejaaGreat
open Go.RowKit Vi Sl
set_option linter.unusedVariables false
set_option linter.unusedSimpArgs false
theorem Tryz.hd3 : (Tryz.prog.info? 26).map (·.size) = some 3 := by kernel_rfl
theorem wpList_store_hd {ops : Array Oper} {rest : List Oper} {op : Oper} {a : Act} {Q : Exit → Act → World → Prop} (hgd : op.guard = none) (x y : Operand) (ho : op.op = .store 26 x y)
    (w : World) (z : Nat) (s t : Hd) (hx : a.eval x = .pointer (some ⟨z, 0, none⟩)) (hy : a.eval y = .agg s.c) (hz : w.heap[z]? = some (.cells t.c 26 (0, 0)))
    (h : wpList Tryz.prog ops Q rest (a.put op.dst undef) (w.setRow z s.c)) : wpList Tryz.prog ops Q (op :: rest) a w :=
  wpList_store_row hgd 26 x y ho z _ hx hy 26 _ hz Tryz.hd3 rfl (by simp [Hd.c, Value.oneCell']) h
theorem wpList_load_hd {ops : Array Oper} {rest : List Oper} {op : Oper} {a : Act} {Q : Exit → Act → World → Prop} (hgd : op.guard = none) (x : Operand) (ho : op.op = .load 26 x)
    (w : World) (z : Nat) (s : Hd) (hx : a.eval x = .pointer (some ⟨z, 0, none⟩)) (hz : w.heap[z]? = some (.cells s.c 26 (0, 0)))
    (h : wpList Tryz.prog ops Q rest (a.put op.dst (.agg s.c)) w) : wpList Tryz.prog ops Q (op :: rest) a w :=
  wpList_load_row hgd 26 x ho z hx 26 _ (0, 0) _ hz Tryz.underlying26 rfl Tryz.hd3 h
theorem results_cell_tmp2 {fn : Func} {p u v : Tmp} {ty : TypeId} (h : fn.results = #[.cell p ty, .tmp u, .tmp v]) (tmps : Array Value) (P : Program) (w : World) :
    (results fn tmps).run P w =
      ((asAddr (tmps.getD p undef)).run P w).andThen fun a w₁ => ((loadVar ty a).run P w₁).andThen fun x w₂ => .ok (.tuple #[x, tmps.getD u undef, tmps.getD v undef]) w₂ := by
  simp only [results, h]
  simp [Sem.run_bind, Result.andThen]
theorem res19 (tmps : Array Value) (w : World) (p : Nat) (s : Hd) (hp : tmps.getD 2 undef = .pointer (some ⟨p, 0, none⟩)) (hg : w.heap[p]? = some (.cells s.c 26 (0, 0))) :
    (results Tryz.f26 tmps).run Tryz.prog w = .ok (.tuple #[.agg s.c, tmps.getD 3 undef, tmps.getD 4 undef]) w := by
  rw [results_cell_tmp2 Tryz.results26, hp]
  simp [asAddr, run_loadVar_row w p 26 26 s.c (0, 0) _ hg Tryz.underlying26 rfl Tryz.hd3]
/-- What is read so far: the result's block, the reader. -/
structure Gh (w : World) (h : Hd) (R : Nat) (u : ByteArray) (W : World) : Prop where
  be : Below w.heap.size w W
  r0 : W.heap[w.heap.size]? = some (.cells h.c 26 (0, 0))
  rd : ∃ bad, Rd 142 R u bad W
  l1 : w.heap.size < R
  sz : u.size ≤ 281474976710656
theorem Gh.grown {w W W' : World} {h : Hd} {R : Nat} {u v : ByteArray} (k : Gh w h R u W) (hr : ∃ bad, Rd 142 R v bad W') (hg : W.grownBy W' (some R)) (hv : v.size ≤ 281474976710656) : Gh w h R v W' := by
  have l1 := k.l1
  have lt := (Array.getElem?_eq_some_iff.1 k.r0).1
  exact ⟨below_grownBy k.be hg k.be.size (by omega), (hg.block _ lt (by simp; omega)).trans k.r0, hr, l1, hv⟩
theorem Gh.below {w W W' : World} {h : Hd} {R : Nat} {u : ByteArray} (k : Gh w h R u W) (hb : Below W.heap.size W W') : Gh w h R u W' :=
  k.grown (k.rd.elim fun b hr => ⟨b, hr.below hb hr.lt⟩) (grownBy_below hb _) k.sz
theorem Gh.put {w W : World} {h h' : Hd} {R : Nat} {u : ByteArray} (k : Gh w h R u W) : Gh w h' R u (W.setRow w.heap.size h'.c) :=
  ⟨k.be.trans ⟨rfl, rfl, rfl, by simp, fun j hj => setRow_other _ _ _ _ (by omega)⟩, setRow_heap _ _ _ _ 26 (0, 0) k.r0, k.rd.elim fun b hr => ⟨b, (setRow_other _ _ _ _ (by have := k.l1; omega)).trans hr⟩, k.l1, k.sz⟩

theorem ght18_any {w : World} {h : Hd} {R : Nat} {u : ByteArray} (W : World) (g : Gh w h R u W) :
    Calls Tryz.prog 56 #[.pointer (some ⟨R, 0, none⟩), .int .i64 8] W fun e w' => e = .returned (.int .u64 (takV 1 u 8)) ∧ Gh w h R (takT 1 u 8) w' :=
  (tk1_any R u 8 W g.rd g.sz).mono fun e w' ⟨h1, h2, h3⟩ => ⟨h1, g.grown h2 h3 (takT_le g.sz)⟩
theorem ght11_any {w : World} {h : Hd} {R : Nat} {u : ByteArray} (W : World) (g : Gh w h R u W) :
    Calls Tryz.prog 56 #[.pointer (some ⟨R, 0, none⟩), .int .i64 1] W fun e w' => e = .returned (.int .u64 (takV 1 u 1)) ∧ Gh w h R (takT 1 u 1) w' :=
  (tk1_any R u 1 W g.rd g.sz).mono fun e w' ⟨h1, h2, h3⟩ => ⟨h1, g.grown h2 h3 (takT_le g.sz)⟩
theorem ght28_any {w : World} {h : Hd} {R : Nat} {u : ByteArray} (W : World) (g : Gh w h R u W) :
    Calls Tryz.prog 87 #[.pointer (some ⟨R, 0, none⟩), .int .i64 8] W fun e w' => e = .returned (.int .u64 (takV 2 u 8)) ∧ Gh w h R (takT 2 u 8) w' :=
  (tk2_any R u 8 W g.rd g.sz).mono fun e w' ⟨h1, h2, h3⟩ => ⟨h1, g.grown h2 h3 (takT_le g.sz)⟩
theorem ght21_any {w : World} {h : Hd} {R : Nat} {u : ByteArray} (W : World) (g : Gh w h R u W) :
    Calls Tryz.prog 87 #[.pointer (some ⟨R, 0, none⟩), .int .i64 1] W fun e w' => e = .returned (.int .u64 (takV 2 u 1)) ∧ Gh w h R (takT 2 u 1) w' :=
  (tk2_any R u 1 W g.rd g.sz).mono fun e w' ⟨h1, h2, h3⟩ => ⟨h1, g.grown h2 h3 (takT_le g.sz)⟩
theorem Gh.set3 {w W : World} {h : Hd} {R : Nat} {u : ByteArray} (k : Gh w h R u W) (h' : Hd) (a b c : Value) (ha : a = .int .u64 h'.tm) (hb : b = .int .i64 h'.vo) (hc : c = .int .u64 h'.cm) :
    Gh w h' R u (((W.setCell ⟨w.heap.size, 0, none⟩ a).setCell ⟨w.heap.size, 1, none⟩ b).setCell ⟨w.heap.size, 2, none⟩ c) := by
  subst ha hb hc
  have k1 := heap_setCell_same W w.heap.size 0 _ 26 (.int .u64 h'.tm) k.r0
  have k2 := heap_setCell_same _ w.heap.size 1 _ 26 (.int .i64 h'.vo) k1
  have k3 := heap_setCell_same _ w.heap.size 2 _ 26 (.int .u64 h'.cm) k2
  refine ⟨((k.be.setCell (p := ⟨w.heap.size, 0, none⟩) (Nat.le_refl _) _).setCell (p := ⟨w.heap.size, 1, none⟩) (Nat.le_refl _) _).setCell (p := ⟨w.heap.size, 2, none⟩) (Nat.le_refl _) _, k3, ?_, k.l1, k.sz⟩
  have l1 := k.l1
  obtain ⟨b, hr⟩ := k.rd
  refine ⟨b, ?_⟩
  unfold Rd at hr ⊢
  rw [heap_setCell_other _ ⟨w.heap.size, 2, none⟩ R _ (by simp; omega), heap_setCell_other _ ⟨w.heap.size, 1, none⟩ R _ (by simp; omega), heap_setCell_other _ ⟨w.heap.size, 0, none⟩ R _ (by simp; omega)]
  exact hr
set_option maxHeartbeats 800000 in
set_option maxRecDepth 100000 in
theorem getHard_none (b : ByteArray) (w : World) (hb : b.size ≤ 281474976710656) (h1 : hv b ≠ 1) (h2 : hv b ≠ 2) : Calls Tryz.prog 26 #[.string b] w fun e w' => e = .returned (.tuple #[hd0.val, .int .i64 0, .bool false]) ∧ Below w.heap.size w w' := by
  obtain ⟨W0, hW0⟩ : ∃ W0, W0 = w.alloc (.cells hd0.c 26) := ⟨_, rfl⟩
  have b0 : Below w.heap.size w W0 := by rw [hW0]; exact (Below.refl _ _).alloc (Nat.le_refl _) _
  have k0 : W0.heap[w.heap.size]? = some (.cells hd0.c 26 (0, 0)) := by rw [hW0]; exact heap_alloc_new w _
  have s0 : W0.heap.size = w.heap.size + 1 := by rw [hW0]; simp
  have KN := Lib.hid (new_any b W0)
  have HB0 := Lib.hid b0
  have HK0 := Lib.hid k0
  have HS0 := Lib.hid s0
  have HW0 := Lib.hid hW0
  have HBZ := Lib.hid hb
  obtain ⟨n, hn⟩ : ∃ n, n = fixV b 1 := ⟨_, rfl⟩
  have HV : Hid (((n : Nat) : Int) - 16 ≠ 1 ∧ ((n : Nat) : Int) - 16 ≠ 2) := by rw [hn]; exact ⟨h1, h2⟩
  have hn1 := fixV_lt1 b
  rw [← hn] at hn1
  have hwr : IntKind.i64.wrap (n : Int) = (n : Int) := IntWalk.i64_in _ (by omega)
  have hwr2 : IntKind.i64.wrap ((n : Int) - 16) = (n : Int) - 16 := IntWalk.i64_in _ (by omega)
  have hni : (n : Int) ≤ 255 := by omega
  have HN := Lib.hid hn
  clear b0 k0 s0 hW0 h1 h2 hb hn1 hn
  unfold rdp at *
  go_enter Tryz.func26, Tryz.ntmps26
  go_wp2_with fail
  have hz0 : (w.alloc (.cells hd0.c 26)) = w.alloc (.cells #[.int .u64 0, .int .i64 0, .int .u64 0] 26) := rfl
  rw [hz0] at HW0
  clear hz0
  rw [← HW0.out]
  refine KN.out.mono ?_
  rintro e w1 ⟨rfl, hw1⟩
  obtain ⟨R, hR⟩ : ∃ R, R = W0.heap.size := ⟨_, rfl⟩
  have r1 : Rd 142 R b false w1 := by rw [hw1, hR]; exact Rd.new _ _ _ _
  have b1 : Below W0.heap.size W0 w1 := by rw [hw1]; exact (Below.refl _ _).alloc (Nat.le_refl _) _
  have G1 : Hid (Gh w hd0 R b w1) := ⟨HB0.out.trans (b1.mono HB0.out.size), (b1.block _ (by have := HS0.out; omega)).trans HK0.out, ⟨_, r1⟩, by have := HS0.out; omega, HBZ.out⟩
  have HRR := Lib.hid hR
  clear hw1 r1 b1 hR
  rw [← HRR.out]
  have KF : Hid (Calls Tryz.prog 56 #[.pointer (some ⟨R, 0, none⟩), .int .i64 1] w1 fun e w' => e = .returned (.int .u64 (fixV b 1)) ∧ Gh w hd0 R (fixT b 1) w') := by
    obtain ⟨bad, hr⟩ := G1.out.rd
    exact (fixedr_any R b bad 1 w1 hr HBZ.out).mono fun e w' ⟨h1, h2, h3⟩ => ⟨h1, G1.out.grown ⟨_, h2⟩ h3 (Nat.le_trans (fixT_size b 1) HBZ.out)⟩
  unfold rdp at *
  go_wp2_with fail
  refine KF.out.mono ?_
  rintro e w3 ⟨rfl, g3⟩
  have G3 := Lib.hid g3
  clear g3 KF KN G1 HK0 HB0 HS0 HW0 HRR
  rw [← HN.out]
  go_wp2_with fail
  refine (takes_any _).mono ?_
  rintro e w4 ⟨rfl, m4, b4, s4⟩
  have hl := look_none (T := 116) ((n : Int) - 16) Tryz.underlying116 zero87 m4 (two_n _ _ _ HV.out.1 HV.out.2)
  have g4 := G3.out.below b4
  have K4 := Lib.hid g4.r0
  have g5 : Gh w hd0 R _ (w4.setRow w.heap.size hd0.c) := g4.put
  obtain ⟨W5, hW5⟩ : ∃ W5, W5 = w4.setRow w.heap.size hd0.c := ⟨_, rfl⟩
  rw [← hW5] at g5
  have HB5 := Lib.hid g5.be
  have HK5 := Lib.hid g5.r0
  have HW5 := Lib.hid hW5
  clear m4 b4 s4 hW5 g4 g5
  go_wp2_with (refine wpList_store_hd rfl _ _ rfl _ _ hd0 hd0 rfl rfl K4.out ?_; refine wpList_at HW5.out.symm ?_; go_frame)
  exact bodyPost_ret (v := _) (res19 _ _ w.heap.size hd0 rfl HK5.out) rfl ⟨rfl, HB5.out⟩
set_option maxHeartbeats 800000 in
set_option maxRecDepth 100000 in
theorem getHardV1_any (b : ByteArray) (w : World) (hb : b.size ≤ 281474976710656) (hvv : hv b = 1) : Calls Tryz.prog 26 #[.string b] w fun e w' => e = .returned (.tuple #[(jH b).val, .int .i64 (jV b), .bool (jO b)]) ∧ Below w.heap.size w w' := by
  obtain ⟨W0, hW0⟩ : ∃ W0, W0 = w.alloc (.cells hd0.c 26) := ⟨_, rfl⟩
  have b0 : Below w.heap.size w W0 := by rw [hW0]; exact (Below.refl _ _).alloc (Nat.le_refl _) _
  have k0 : W0.heap[w.heap.size]? = some (.cells hd0.c 26 (0, 0)) := by rw [hW0]; exact heap_alloc_new w _
  have s0 : W0.heap.size = w.heap.size + 1 := by rw [hW0]; simp
  have KN := Lib.hid (new_any b W0)
  have HB0 := Lib.hid b0
  have HK0 := Lib.hid k0
  have HS0 := Lib.hid s0
  have HW0 := Lib.hid hW0
  have HBZ := Lib.hid hb
  have HV : Hid (fixV b 1 = 17) := by show _ = _; unfold hv at hvv; omega
  have hrs : rh b = rdH 1 (fixT b 1) := by unfold rh; rw [hvv]
  have hok := rh_ok b
  rw [hrs] at hok
  obtain ⟨u, hu0⟩ : ∃ u, u = fixT b 1 := ⟨_, rfl⟩
  rw [← hu0] at hrs hok
  obtain ⟨T, hT⟩ : ∃ T, T = rdH 1 u := ⟨_, rfl⟩
  rw [← hT] at hrs hok
  have KP := Lib.hid (fun (W : World) => putHard_any 1 T W hok)
  obtain ⟨r, hr⟩ : ∃ r, r = hO 1 T := ⟨_, rfl⟩
  obtain ⟨p, hp⟩ : ∃ p, p = hS 1 T := ⟨_, rfl⟩
  rw [← hr, ← hp] at KP
  obtain ⟨te, hte⟩ : ∃ te, te = (p.toList == b.toList) := ⟨_, rfl⟩
  have HG : Hid (jO b = (r && te)) := by
    show _ = _
    unfold jO; rw [hvv, hrs, ← hr, hte, hp]
    cases hrr : r with
    | false => rfl
    | true => unfold hS; rw [← hr, hrr, if_pos rfl]
  have HS : Hid (jH b = if (r && te) = true then T else hd0) := by show _ = _; unfold jH; rw [HG.out, hrs]
  have HJ : Hid (jV b = if (r && te) = true then 1 else 0) := by show _ = _; unfold jV; rw [HG.out, hvv]
  have HTE := Lib.hid hte.symm
  have HU0 := Lib.hid hu0
  have HT : Hid (T.c = #[.int .u64 (rdH 1 u).tm, .int .i64 (rdH 1 u).vo, .int .u64 (rdH 1 u).cm]) := by show _ = _; rw [hT, Hd.c]
  have hwe : w64 (takV 1 (takT 1 u 8) 1) = wrap64 ((takV 1 (takT 1 u 8) 1 : Nat) : Int) := wrapEq _
  have HA1 : Hid (Value.int .u64 (takV 1 u 8 : Nat) = .int .u64 T.tm) := by show _ = _; rw [hT]; unfold rdH k2 k1; dsimp only
  have HA2 : Hid (Value.int .i64 (wrap64 ((takV 1 (takT 1 u 8) 1 : Nat) : Int)) = .int .i64 T.vo) := by show _ = _; rw [hT, ← hwe]; unfold rdH k2 k1; dsimp only
  have HA3 : Hid (Value.int .u64 (takV 1 (takT 1 (takT 1 u 8) 1) 8 : Nat) = .int .u64 T.cm) := by show _ = _; rw [hT]; unfold rdH k2 k1; dsimp only
  unfold rdH k2 k1 at HT
  dsimp only at HT
  rw [hwe] at HT
  unfold Hd.val at KP
  have HX : Hid (T.c = _) := HT.out
  have HXA : Hid (Value.agg _ = Value.agg T.c) := congrArg Value.agg HX.out.symm
  clear b0 k0 s0 hW0 hvv hb hrs hu0 hr hp hte hT HT hok hwe
  unfold rdp at *
  go_enter Tryz.func26, Tryz.ntmps26
  go_wp2_with fail
  have hz0 : (w.alloc (.cells hd0.c 26)) = w.alloc (.cells #[.int .u64 0, .int .i64 0, .int .u64 0] 26) := rfl
  rw [hz0] at HW0
  clear hz0
  rw [← HW0.out]
  refine KN.out.mono ?_
  rintro e w1 ⟨rfl, hw1⟩
  obtain ⟨R, hR⟩ : ∃ R, R = W0.heap.size := ⟨_, rfl⟩
  have r1 : Rd 142 R b false w1 := by rw [hw1, hR]; exact Rd.new _ _ _ _
  have b1 : Below W0.heap.size W0 w1 := by rw [hw1]; exact (Below.refl _ _).alloc (Nat.le_refl _) _
  have G1 : Hid (Gh w hd0 R b w1) := ⟨HB0.out.trans (b1.mono HB0.out.size), (b1.block _ (by have := HS0.out; omega)).trans HK0.out, ⟨_, r1⟩, by have := HS0.out; omega, HBZ.out⟩
  have HRR := Lib.hid hR
  clear hw1 r1 b1 hR
  rw [← HRR.out]
  have KF : Hid (Calls Tryz.prog 56 #[.pointer (some ⟨R, 0, none⟩), .int .i64 1] w1 fun e w' => e = .returned (.int .u64 (fixV b 1)) ∧ Gh w hd0 R (fixT b 1) w') := by
    obtain ⟨bad, hr⟩ := G1.out.rd
    exact (fixedr_any R b bad 1 w1 hr HBZ.out).mono fun e w' ⟨h1, h2, h3⟩ => ⟨h1, G1.out.grown ⟨_, h2⟩ h3 (Nat.le_trans (fixT_size b 1) HBZ.out)⟩
  unfold rdp at *
  go_wp2_with fail
  refine KF.out.mono ?_
  rintro e w3 ⟨rfl, g3⟩
  have G3 := Lib.hid g3
  clear g3 KF KN G1 HK0 HB0 HS0 HW0 HRR
  rw [← HU0.out] at G3
  rw [HV.out]
  go_wp2_with fail
  refine (takes_any _).mono ?_
  rintro e w4 ⟨rfl, m4, b4, s4⟩
  have hl := look_step (T := 116) 1 (fv 56) Tryz.underlying116 m4 (two_1 _ _)
  have G4 : Hid (Gh w hd0 R u w4) := G3.out.below b4
  clear m4 b4 s4 G3
  have KG := Lib.hid (ght18_any _ G4.out)
  go_wp2_with fail
  refine KG.out.mono ?_
  rintro e y1 ⟨rfl, g1⟩
  have G5 := Lib.hid g1
  clear KG g1 G4
  clear hl
  have KG := Lib.hid (ght11_any _ G5.out)
  go_wp2_with fail
  refine KG.out.mono ?_
  rintro e y2 ⟨rfl, g2⟩
  have G6 := Lib.hid g2
  clear KG g2 G5
  have KG := Lib.hid (ght18_any _ G6.out)
  go_wp2_with fail
  refine KG.out.mono ?_
  rintro e y3 ⟨rfl, g3⟩
  have G7 := Lib.hid g3
  clear KG g3 G6
  obtain ⟨x0, x1, x2⟩ := hd_cells G7.out.r0
  have fz : ∀ i, y3.frozen? ⟨w.heap.size, i, none⟩ = false := fun i => Lib.frozen_of_heap G7.out.r0 i
  have f0 := fz 0
  have f1 := fz 1
  have f2 := fz 2
  dsimp only [hd0] at x0 x1 x2
  obtain ⟨u9, GV0⟩ : ∃ u9, Gh w T R u9 (((y3.setCell ⟨w.heap.size, 0, none⟩ (.int .u64 (takV 1 u 8 : Nat))).setCell ⟨w.heap.size, 1, none⟩ (.int .i64 (wrap64 ((takV 1 (takT 1 u 8) 1 : Nat) : Int)))).setCell ⟨w.heap.size, 2, none⟩ (.int .u64 (takV 1 (takT 1 (takT 1 u 8) 1) 8 : Nat))) :=
    ⟨_, G7.out.set3 T _ _ _ HA1.out HA2.out HA3.out⟩
  obtain ⟨V, hV⟩ : ∃ V, V = (((y3.setCell ⟨w.heap.size, 0, none⟩ (.int .u64 (takV 1 u 8 : Nat))).setCell ⟨w.heap.size, 1, none⟩ (.int .i64 (wrap64 ((takV 1 (takT 1 u 8) 1 : Nat) : Int)))).setCell ⟨w.heap.size, 2, none⟩ (.int .u64 (takV 1 (takT 1 (takT 1 u 8) 1) 8 : Nat))) := ⟨_, rfl⟩
  rw [← hV] at GV0
  have GV := Lib.hid GV0
  have HVV := Lib.hid hV
  clear hV G7 GV0 fz
  go_wp2_with fail
  rw [← HVV.out]
  rw [← HX.out]
  clear x0 x1 x2 f0 f1 f2
  refine (KP.out _).mono ?_
  rintro e z ⟨rfl, bz⟩
  have Gz := GV.out.below bz
  have hb := Gz.be
  have KZ : Hid (z.heap[w.heap.size]? = some (.cells T.c 26 (0, 0))) := Gz.r0
  clear Gz GV HVV HA1 HA2 HA3 HX HXA KP bz HU0
  obtain ⟨Z0, hZ0⟩ : ∃ Z, Z = z.setRow w.heap.size hd0.c := ⟨_, rfl⟩
  obtain ⟨Z1, hZ1⟩ : ∃ Z, Z = z.setRow w.heap.size T.c := ⟨_, rfl⟩
  have B0 : Hid (Below w.heap.size w Z0) := by rw [hZ0]; exact hb.trans ⟨rfl, rfl, rfl, by simp, fun k hk => setRow_other _ _ _ _ (by omega)⟩
  have B1 : Hid (Below w.heap.size w Z1) := by rw [hZ1]; exact hb.trans ⟨rfl, rfl, rfl, by simp, fun k hk => setRow_other _ _ _ _ (by omega)⟩
  have K0 : Hid (Z0.heap[w.heap.size]? = some (.cells hd0.c 26 (0, 0))) := by show _ = _; rw [hZ0]; exact setRow_heap _ _ _ _ 26 (0, 0) KZ.out
  have K1 : Hid (Z1.heap[w.heap.size]? = some (.cells T.c 26 (0, 0))) := by show _ = _; rw [hZ1]; exact setRow_heap _ _ _ _ 26 (0, 0) KZ.out
  have HZ0 := Lib.hid hZ0
  have HZ1 := Lib.hid hZ1
  clear hZ0 hZ1 hb
  cases r with
  | false =>
    clear HTE
    go_wp2_with (refine wpList_store_hd rfl _ _ rfl _ _ hd0 T rfl rfl KZ.out ?_; refine wpList_at HZ0.out.symm ?_; go_frame)
    exact bodyPost_ret (v := _) (res19 _ _ w.heap.size hd0 rfl K0.out) rfl ⟨by rw [HS.out, HG.out, HJ.out]; rfl, B0.out⟩
  | true =>
    cases te with
    | false =>
      have hne := HTE.out
      clear HTE
      go_wp2_with (refine wpList_store_hd rfl _ _ rfl _ _ hd0 T rfl rfl KZ.out ?_; refine wpList_at HZ0.out.symm ?_; go_frame)
      exact bodyPost_ret (v := _) (res19 _ _ w.heap.size hd0 rfl K0.out) rfl ⟨by rw [HS.out, HG.out, HJ.out]; rfl, B0.out⟩
    | true =>
      have hne := HTE.out
      clear HTE
      go_wp2_with (first | (refine wpList_load_hd rfl _ rfl _ _ T rfl KZ.out ?_; go_frame) | (refine wpList_store_hd rfl _ _ rfl _ _ T T rfl rfl KZ.out ?_; refine wpList_at HZ1.out.symm ?_; go_frame))
      exact bodyPost_ret (v := _) (res19 _ _ w.heap.size T rfl K1.out) rfl ⟨by rw [HS.out, HG.out, HJ.out]; rfl, B1.out⟩
set_option maxHeartbeats 800000 in
set_option maxRecDepth 100000 in
theorem getHardV2_any (b : ByteArray) (w : World) (hb : b.size ≤ 281474976710656) (hvv : hv b = 2) : Calls Tryz.prog 26 #[.string b] w fun e w' => e = .returned (.tuple #[(jH b).val, .int .i64 (jV b), .bool (jO b)]) ∧ Below w.heap.size w w' := by
  obtain ⟨W0, hW0⟩ : ∃ W0, W0 = w.alloc (.cells hd0.c 26) := ⟨_, rfl⟩
  have b0 : Below w.heap.size w W0 := by rw [hW0]; exact (Below.refl _ _).alloc (Nat.le_refl _) _
  have k0 : W0.heap[w.heap.size]? = some (.cells hd0.c 26 (0, 0)) := by rw [hW0]; exact heap_alloc_new w _
  have s0 : W0.heap.size = w.heap.size + 1 := by rw [hW0]; simp
  have KN := Lib.hid (new_any b W0)
  have HB0 := Lib.hid b0
  have HK0 := Lib.hid k0
  have HS0 := Lib.hid s0
  have HW0 := Lib.hid hW0
  have HBZ := Lib.hid hb
  have HV : Hid (fixV b 1 = 18) := by show _ = _; unfold hv at hvv; omega
  have hrs : rh b = rdH 2 (fixT b 1) := by unfold rh; rw [hvv]
  have hok := rh_ok b
  rw [hrs] at hok
  obtain ⟨u, hu0⟩ : ∃ u, u = fixT b 1 := ⟨_, rfl⟩
  rw [← hu0] at hrs hok
  obtain ⟨T, hT⟩ : ∃ T, T = rdH 2 u := ⟨_, rfl⟩
  rw [← hT] at hrs hok
  have KP := Lib.hid (fun (W : World) => putHard_any 2 T W hok)
  obtain ⟨r, hr⟩ : ∃ r, r = hO 2 T := ⟨_, rfl⟩
  obtain ⟨p, hp⟩ : ∃ p, p = hS 2 T := ⟨_, rfl⟩
  rw [← hr, ← hp] at KP
  obtain ⟨te, hte⟩ : ∃ te, te = (p.toList == b.toList) := ⟨_, rfl⟩
  have HG : Hid (jO b = (r && te)) := by
    show _ = _
    unfold jO; rw [hvv, hrs, ← hr, hte, hp]
    cases hrr : r with
    | false => rfl
    | true => unfold hS; rw [← hr, hrr, if_pos rfl]
  have HS : Hid (jH b = if (r && te) = true then T else hd0) := by show _ = _; unfold jH; rw [HG.out, hrs]
  have HJ : Hid (jV b = if (r && te) = true then 2 else 0) := by show _ = _; unfold jV; rw [HG.out, hvv]
  have HTE := Lib.hid hte.symm
  have HU0 := Lib.hid hu0
  have HT : Hid (T.c = #[.int .u64 (rdH 2 u).tm, .int .i64 (rdH 2 u).vo, .int .u64 (rdH 2 u).cm]) := by show _ = _; rw [hT, Hd.c]
  have hwe : w64 (takV 2 (takT 2 u 8) 1) = wrap64 ((takV 2 (takT 2 u 8) 1 : Nat) : Int) := wrapEq _
  have HA1 : Hid (Value.int .u64 (takV 2 u 8 : Nat) = .int .u64 T.tm) := by show _ = _; rw [hT]; unfold rdH k2 k1; dsimp only
  have HA2 : Hid (Value.int .i64 (wrap64 ((takV 2 (takT 2 u 8) 1 : Nat) : Int)) = .int .i64 T.vo) := by show _ = _; rw [hT, ← hwe]; unfold rdH k2 k1; dsimp only
  have HA3 : Hid (Value.int .u64 (takV 2 (takT 2 (takT 2 u 8) 1) 8 : Nat) = .int .u64 T.cm) := by show _ = _; rw [hT]; unfold rdH k2 k1; dsimp only
  unfold rdH k2 k1 at HT
  dsimp only at HT
  rw [hwe] at HT
  unfold Hd.val at KP
  have HX : Hid (T.c = _) := HT.out
  have HXA : Hid (Value.agg _ = Value.agg T.c) := congrArg Value.agg HX.out.symm
  clear b0 k0 s0 hW0 hvv hb hrs hu0 hr hp hte hT HT hok hwe
  unfold rdp at *
  go_enter Tryz.func26, Tryz.ntmps26
  go_wp2_with fail
  have hz0 : (w.alloc (.cells hd0.c 26)) = w.alloc (.cells #[.int .u64 0, .int .i64 0, .int .u64 0] 26) := rfl
  rw [hz0] at HW0
  clear hz0
  rw [← HW0.out]
  refine KN.out.mono ?_
  rintro e w1 ⟨rfl, hw1⟩
  obtain ⟨R, hR⟩ : ∃ R, R = W0.heap.size := ⟨_, rfl⟩
  have r1 : Rd 142 R b false w1 := by rw [hw1, hR]; exact Rd.new _ _ _ _
  have b1 : Below W0.heap.size W0 w1 := by rw [hw1]; exact (Below.refl _ _).alloc (Nat.le_refl _) _
  have G1 : Hid (Gh w hd0 R b w1) := ⟨HB0.out.trans (b1.mono HB0.out.size), (b1.block _ (by have := HS0.out; omega)).trans HK0.out, ⟨_, r1⟩, by have := HS0.out; omega, HBZ.out⟩
  have HRR := Lib.hid hR
  clear hw1 r1 b1 hR
  rw [← HRR.out]
  have KF : Hid (Calls Tryz.prog 56 #[.pointer (some ⟨R, 0, none⟩), .int .i64 1] w1 fun e w' => e = .returned (.int .u64 (fixV b 1)) ∧ Gh w hd0 R (fixT b 1) w') := by
    obtain ⟨bad, hr⟩ := G1.out.rd
    exact (fixedr_any R b bad 1 w1 hr HBZ.out).mono fun e w' ⟨h1, h2, h3⟩ => ⟨h1, G1.out.grown ⟨_, h2⟩ h3 (Nat.le_trans (fixT_size b 1) HBZ.out)⟩
  unfold rdp at *
  go_wp2_with fail
  refine KF.out.mono ?_
  rintro e w3 ⟨rfl, g3⟩
  have G3 := Lib.hid g3
  clear g3 KF KN G1 HK0 HB0 HS0 HW0 HRR
  rw [← HU0.out] at G3
  rw [HV.out]
  go_wp2_with fail
  refine (takes_any _).mono ?_
  rintro e w4 ⟨rfl, m4, b4, s4⟩
  have hl := look_step (T := 116) 2 (fv 87) Tryz.underlying116 m4 (two_2 _ _)
  have G4 : Hid (Gh w hd0 R u w4) := G3.out.below b4
  clear m4 b4 s4 G3
  have KG := Lib.hid (ght28_any _ G4.out)
  go_wp2_with fail
  refine KG.out.mono ?_
  rintro e y1 ⟨rfl, g1⟩
  have G5 := Lib.hid g1
  clear KG g1 G4
  clear hl
  have KG := Lib.hid (ght21_any _ G5.out)
  go_wp2_with fail
  refine KG.out.mono ?_
  rintro e y2 ⟨rfl, g2⟩
  have G6 := Lib.hid g2
  clear KG g2 G5
  have KG := Lib.hid (ght28_any _ G6.out)
  go_wp2_with fail
  refine KG.out.mono ?_
  rintro e y3 ⟨rfl, g3⟩
  have G7 := Lib.hid g3
  clear KG g3 G6
  obtain ⟨x0, x1, x2⟩ := hd_cells G7.out.r0
  have fz : ∀ i, y3.frozen? ⟨w.heap.size, i, none⟩ = false := fun i => Lib.frozen_of_heap G7.out.r0 i
  have f0 := fz 0
  have f1 := fz 1
  have f2 := fz 2
  dsimp only [hd0] at x0 x1 x2
  obtain ⟨u9, GV0⟩ : ∃ u9, Gh w T R u9 (((y3.setCell ⟨w.heap.size, 0, none⟩ (.int .u64 (takV 2 u 8 : Nat))).setCell ⟨w.heap.size, 1, none⟩ (.int .i64 (wrap64 ((takV 2 (takT 2 u 8) 1 : Nat) : Int)))).setCell ⟨w.heap.size, 2, none⟩ (.int .u64 (takV 2 (takT 2 (takT 2 u 8) 1) 8 : Nat))) :=
    ⟨_, G7.out.set3 T _ _ _ HA1.out HA2.out HA3.out⟩
  obtain ⟨V, hV⟩ : ∃ V, V = (((y3.setCell ⟨w.heap.size, 0, none⟩ (.int .u64 (takV 2 u 8 : Nat))).setCell ⟨w.heap.size, 1, none⟩ (.int .i64 (wrap64 ((takV 2 (takT 2 u 8) 1 : Nat) : Int)))).setCell ⟨w.heap.size, 2, none⟩ (.int .u64 (takV 2 (takT 2 (takT 2 u 8) 1) 8 : Nat))) := ⟨_, rfl⟩
  rw [← hV] at GV0
  have GV := Lib.hid GV0
  have HVV := Lib.hid hV
  clear hV G7 GV0 fz
  go_wp2_with fail
  rw [← HVV.out]
  rw [← HX.out]
  clear x0 x1 x2 f0 f1 f2
  refine (KP.out _).mono ?_
  rintro e z ⟨rfl, bz⟩
  have Gz := GV.out.below bz
  have hb := Gz.be
  have KZ : Hid (z.heap[w.heap.size]? = some (.cells T.c 26 (0, 0))) := Gz.r0
  clear Gz GV HVV HA1 HA2 HA3 HX HXA KP bz HU0
  obtain ⟨Z0, hZ0⟩ : ∃ Z, Z = z.setRow w.heap.size hd0.c := ⟨_, rfl⟩
  obtain ⟨Z1, hZ1⟩ : ∃ Z, Z = z.setRow w.heap.size T.c := ⟨_, rfl⟩
  have B0 : Hid (Below w.heap.size w Z0) := by rw [hZ0]; exact hb.trans ⟨rfl, rfl, rfl, by simp, fun k hk => setRow_other _ _ _ _ (by omega)⟩
  have B1 : Hid (Below w.heap.size w Z1) := by rw [hZ1]; exact hb.trans ⟨rfl, rfl, rfl, by simp, fun k hk => setRow_other _ _ _ _ (by omega)⟩
  have K0 : Hid (Z0.heap[w.heap.size]? = some (.cells hd0.c 26 (0, 0))) := by show _ = _; rw [hZ0]; exact setRow_heap _ _ _ _ 26 (0, 0) KZ.out
  have K1 : Hid (Z1.heap[w.heap.size]? = some (.cells T.c 26 (0, 0))) := by show _ = _; rw [hZ1]; exact setRow_heap _ _ _ _ 26 (0, 0) KZ.out
  have HZ0 := Lib.hid hZ0
  have HZ1 := Lib.hid hZ1
  clear hZ0 hZ1 hb
  cases r with
  | false =>
    clear HTE
    go_wp2_with (refine wpList_store_hd rfl _ _ rfl _ _ hd0 T rfl rfl KZ.out ?_; refine wpList_at HZ0.out.symm ?_; go_frame)
    exact bodyPost_ret (v := _) (res19 _ _ w.heap.size hd0 rfl K0.out) rfl ⟨by rw [HS.out, HG.out, HJ.out]; rfl, B0.out⟩
  | true =>
    cases te with
    | false =>
      have hne := HTE.out
      clear HTE
      go_wp2_with (refine wpList_store_hd rfl _ _ rfl _ _ hd0 T rfl rfl KZ.out ?_; refine wpList_at HZ0.out.symm ?_; go_frame)
      exact bodyPost_ret (v := _) (res19 _ _ w.heap.size hd0 rfl K0.out) rfl ⟨by rw [HS.out, HG.out, HJ.out]; rfl, B0.out⟩
    | true =>
      have hne := HTE.out
      clear HTE
      go_wp2_with (first | (refine wpList_load_hd rfl _ rfl _ _ T rfl KZ.out ?_; go_frame) | (refine wpList_store_hd rfl _ _ rfl _ _ T T rfl rfl KZ.out ?_; refine wpList_at HZ1.out.symm ?_; go_frame))
      exact bodyPost_ret (v := _) (res19 _ _ w.heap.size T rfl K1.out) rfl ⟨by rw [HS.out, HG.out, HJ.out]; rfl, B1.out⟩
theorem getHard_any (b : ByteArray) (w : World) (hb : b.size ≤ 281474976710656) : Calls Tryz.prog 26 #[.string b] w fun e w' => e = .returned (.tuple #[(jH b).val, .int .i64 (jV b), .bool (jO b)]) ∧ Below w.heap.size w w' := by
  by_cases h1 : hv b = 1
  · exact getHardV1_any b w hb h1
  · by_cases h2 : hv b = 2
    · exact getHardV2_any b w hb h2
    · have hg : jO b = false := by
        unfold jO
        have : hO (hv b) (rh b) = false := by
          rw [← Bool.not_eq_true, hO_iff]
          intro h
          have := h.1
          omega
        rw [this]; rfl
      have hs : jH b = hd0 := by unfold jH; rw [hg]; rfl
      have hj : jV b = 0 := by unfold jV; rw [hg]; rfl
      rw [hg, hs, hj]
      exact getHard_none b w hb h1 h2
end Go.Proofs.YtdoombcihobejaaGreat
namespace Go.Proofs.YtdoombcihobejaaGreat
open Go.RowKit Vi Sl
set_option linter.unusedVariables false
set_option linter.unusedSimpArgs false
theorem Tryz.hd3' : True := trivial
set_option maxHeartbeats 800000 in
set_option maxRecDepth 100000 in
theorem examples_any (w : World) : Calls Tryz.prog 4 #[] w fun e w' => e = .returned (.bool true) ∧ Below w.heap.size w w' := by
  obtain ⟨x, hx⟩ : ∃ x : ByteArray, x = ⟨#[1, 0, 2, 0, 3, 0, 0, 0, 0]⟩ := ⟨_, rfl⟩
  obtain ⟨h, hh⟩ : ∃ x : ByteArray, x = ⟨#[18, 5, 3, 4]⟩ := ⟨_, rfl⟩
  have r1 : rgt ⟨1, 2, 3, 0, 0, 0, 0⟩ = true := by decide +kernel
  have s1 : supB ⟨1, 2, 3, 0, 0, 0, 0⟩ = x := by rw [hx]; decide +kernel
  have r2 : hO 2 ⟨5, 3, 4⟩ = true := by decide +kernel
  have s2 : hB 2 ⟨5, 3, 4⟩ = h := by rw [hh]; decide +kernel
  have K1 := Lib.hid (fun (W : World) => putSuper_any ⟨1, 2, 3, 0, 0, 0, 0⟩ W)
  have ss1 : supS ⟨1, 2, 3, 0, 0, 0, 0⟩ = x := by unfold supS; rw [r1, if_pos rfl, s1]
  rw [r1, ss1] at K1
  have g1 := gS_sup r1
  have g2 := gO_sup r1
  rw [s1] at g1 g2
  have K2 := Lib.hid (fun (W : World) => getSuper_any x W (by rw [hx]; decide))
  rw [g1, g2] at K2
  have ho : Hd.Ok ⟨5, 3, 4⟩ := ⟨by decide, by decide, by decide, by decide⟩
  have j1 := jH_hard r2 ho
  have j2 := jO_hard r2 ho
  rw [s2] at j1 j2
  have K3 := Lib.hid (fun (W : World) => getHard_any h W (by rw [hh]; decide))
  rw [j1.1, j1.2, j2] at K3
  have K4 := Lib.hid (fun (W : World) => getSuper_any ⟨#[]⟩ W (by decide))
  have ge : gS ⟨#[]⟩ = su0 := by unfold gS; rw [gO_empty]; rfl
  rw [ge, gO_empty] at K4
  have K5 := Lib.hid (fun (W : World) => sectors_any ⟨1, 2, 3, 0, 0, 0, 0⟩ W)
  rw [show sec ⟨1, 2, 3, 0, 0, 0, 0⟩ = 14 by decide +kernel] at K5
  have hxl : x.toList = [1, 0, 2, 0, 3, 0, 0, 0, 0] := by rw [hx]; decide +kernel
  have HH := Lib.hid hh
  clear hx hh r1 s1 r2 s2 ss1 g1 g2 ho j1 j2 ge
  unfold Su.val Hd.val at *
  unfold su0 Su.c Hd.c at *
  dsimp only at *
  go_enter Tryz.func4, Tryz.ntmps4
  go_wp2_with fail
  refine (K1.out _).mono ?_
  rintro e w1 ⟨rfl, b1⟩
  go_wp2_with fail
  refine (K2.out _).mono ?_
  rintro e w2 ⟨rfl, b2⟩
  have b02 := b1.trans (b2.mono b1.size)
  obtain ⟨W2, hW2⟩ : ∃ W2, W2 = w2.alloc (.cells #[.int .i64 1, .int .i64 2, .int .i64 3, .int .i64 0, .int .i64 0, .int .i64 0, .int .i64 0] 23) := ⟨_, rfl⟩
  have B2 : Hid (Below w.heap.size w W2) := by rw [hW2]; exact b02.alloc b02.size _
  have C2 : Hid (W2.heap[w2.heap.size]? = some (.cells (Su.c ⟨1, 2, 3, 0, 0, 0, 0⟩) 23 (0, 0))) := by show _ = _; rw [hW2]; exact heap_alloc_new w2 _
  have HW2 := Lib.hid hW2
  clear b1 b2 b02 hW2 K1 K2
  go_wp2_with fail
  rw [← HW2.out, ← HH.out]
  refine (K3.out _).mono ?_
  rintro e w3 ⟨rfl, b3⟩
  have C3 : Hid (w3.heap[w2.heap.size]? = some (.cells (Su.c ⟨1, 2, 3, 0, 0, 0, 0⟩) 23 (0, 0))) := (b3.block _ (Array.getElem?_eq_some_iff.1 C2.out).1).trans C2.out
  have b03 := B2.out.trans (b3.mono B2.out.size)
  obtain ⟨W3, hW3⟩ : ∃ W3, W3 = w3.alloc (.cells #[.int .u64 5, .int .i64 3, .int .u64 4] 26) := ⟨_, rfl⟩
  have B3 : Hid (Below w.heap.size w W3) := by rw [hW3]; exact b03.alloc b03.size _
  have CC3 : Hid (W3.heap[w2.heap.size]? = some (.cells (Su.c ⟨1, 2, 3, 0, 0, 0, 0⟩) 23 (0, 0))) := by show _ = _; rw [hW3]; exact (Lib.alloc_old _ _ _ (Array.getElem?_eq_some_iff.1 C3.out).1).trans C3.out
  have D3 : Hid (W3.heap[w3.heap.size]? = some (.cells (Hd.c ⟨5, 3, 4⟩) 26 (0, 0))) := by show _ = _; rw [hW3]; exact heap_alloc_new w3 _
  have HW3 := Lib.hid hW3
  clear b3 b03 hW3 K3 HW2 B2 C2 C3
  go_wp2_with fail
  rw [← HW3.out]
  refine (K4.out _).mono ?_
  rintro e w4 ⟨rfl, b4⟩
  have C4 : Hid (w4.heap[w2.heap.size]? = some (.cells (Su.c ⟨1, 2, 3, 0, 0, 0, 0⟩) 23 (0, 0))) := (b4.block _ (Array.getElem?_eq_some_iff.1 CC3.out).1).trans CC3.out
  have D4 : Hid (w4.heap[w3.heap.size]? = some (.cells (Hd.c ⟨5, 3, 4⟩) 26 (0, 0))) := (b4.block _ (Array.getElem?_eq_some_iff.1 D3.out).1).trans D3.out
  have b04 := B3.out.trans (b4.mono B3.out.size)
  obtain ⟨W4, hW4⟩ : ∃ W4, W4 = w4.alloc (.cells #[.int .i64 0, .int .i64 0, .int .i64 0, .int .i64 0, .int .i64 0, .int .i64 0, .int .i64 0] 23) := ⟨_, rfl⟩
  have B4 : Hid (Below w.heap.size w W4) := by rw [hW4]; exact b04.alloc b04.size _
  have CC4 : (w4.alloc (.cells #[.int .i64 0, .int .i64 0, .int .i64 0, .int .i64 0, .int .i64 0, .int .i64 0, .int .i64 0] 23)).heap[w2.heap.size]? = some (.cells (Su.c ⟨1, 2, 3, 0, 0, 0, 0⟩) 23 (0, 0)) := (Lib.alloc_old _ _ _ (Array.getElem?_eq_some_iff.1 C4.out).1).trans C4.out
  have DD4 : (w4.alloc (.cells #[.int .i64 0, .int .i64 0, .int .i64 0, .int .i64 0, .int .i64 0, .int .i64 0, .int .i64 0] 23)).heap[w3.heap.size]? = some (.cells (Hd.c ⟨5, 3, 4⟩) 26 (0, 0)) := (Lib.alloc_old _ _ _ (Array.getElem?_eq_some_iff.1 D4.out).1).trans D4.out
  obtain ⟨x0, x1, x2, x3, x4, x5, x6⟩ := su_cells CC4
  obtain ⟨y0, y1, y2⟩ := hd_cells DD4
  dsimp only at x0 x1 x2 x3 x4 x5 x6 y0 y1 y2
  have HW4 := Lib.hid hW4
  clear b4 b04 hW4 K4 HW3 B3 CC3 D3 C4 D4 CC4 DD4
  go_wp2_with fail
  rw [← HW4.out]
  refine (K5.out _).mono ?_
  rintro e w5 ⟨rfl, b5⟩
  have B5 := Lib.hid (B4.out.trans (b5.mono B4.out.size))
  clear x0 x1 x2 x3 x4 x5 x6 y0 y1 y2 B4 HW4 b5 K5
  go_wp2
  go_ret
  exact ⟨rfl, B5.out⟩
def smS (s : Su) : Su := ⟨s.v.tmod 4, s.sn.tmod 1003, s.lg.tmod 1003, s.ar.tmod 3, s.hf.tmod 3, s.gl.tmod 4, s.sp.tmod 11⟩
end Go.Proofs.YtdoombcihobejaaGreat
namespace Go.Proofs.YtdoombcihobejaaGreat
open Go.RowKit Vi Sl
set_option linter.unusedVariables false
set_option linter.unusedSimpArgs false
structure Sl.Su.Ok (s : Su) : Prop where
  b0 : -9223372036854775808 ≤ s.v ∧ s.v ≤ 9223372036854775807
  b1 : -9223372036854775808 ≤ s.sn ∧ s.sn ≤ 9223372036854775807
  b2 : -9223372036854775808 ≤ s.lg ∧ s.lg ≤ 9223372036854775807
  b3 : -9223372036854775808 ≤ s.ar ∧ s.ar ≤ 9223372036854775807
  b4 : -9223372036854775808 ≤ s.hf ∧ s.hf ≤ 9223372036854775807
  b5 : -9223372036854775808 ≤ s.gl ∧ s.gl ≤ 9223372036854775807
  b6 : -9223372036854775808 ≤ s.sp ∧ s.sp ≤ 9223372036854775807
set_option maxHeartbeats 800000 in
set_option maxRecDepth 100000 in
theorem small_any (s : Su) (w : World) (hs : s.Ok) : Calls Tryz.prog 7 #[s.val] w fun e w' => e = .returned (smS s).val ∧ Below w.heap.size w w' := by
  obtain ⟨b0, b1, b2, b3, b4, b5, b6⟩ := hs
  unfold Su.val Su.c
  go_enter Tryz.func7, Tryz.ntmps7
  go_wp2
  refine bodyPost_ret (v := .agg (smS s).c) (results_cell_row Tryz.results7 _ _ (w.heap.size + 1) 23 _ (0, 0) _ rfl (heap_alloc2_new w _ _) Tryz.underlying23 rfl Tryz.su7) rfl ⟨rfl, ((Below.refl _ _).alloc (Nat.le_refl _) _).alloc (by simp) _⟩
theorem smS_ok {s : Su} (h : s.Ok) : (smS s).Ok := by
  obtain ⟨b0, b1, b2, b3, b4, b5, b6⟩ := h
  have t : ∀ (x k : Int), 0 < k → k ≤ 2000 → -9223372036854775808 ≤ x.tmod k ∧ x.tmod k ≤ 9223372036854775807 := by
    intro x k h1 h2
    have h3 := Int.tmod_lt_of_pos x h1
    have h4 := Int.lt_tmod_of_pos x h1
    omega
  exact ⟨t _ 4 (by omega) (by omega), t _ 1003 (by omega) (by omega), t _ 1003 (by omega) (by omega), t _ 3 (by omega) (by omega), t _ 3 (by omega) (by omega), t _ 4 (by omega) (by omega), t _ 11 (by omega) (by omega)⟩
theorem num_small (v : Int) (n k : Nat) (hk : k = 1 ∨ k = 2) (h : n < 128 ^ k) : (num v n k).size ≤ k := by
  unfold num
  split
  · rw [fxB_size n k (by omega)]; omega
  · unfold putB
    rw [str_size]
    rcases hk with rfl | rfl
    · exact put_length_le n 0 (by simpa using h)
    · exact put_length_le n 1 (by simpa using h)
theorem supB_11 {s : Su} (h : rgt s = true) : (supB s).size ≤ 11 := by
  obtain ⟨h1, h2, h3, h4, h5, h6, h7, _⟩ := (rgt_iff _).1 h
  have e1 : (fxB s.v.toNat 1).size = 1 := fxB_size s.v.toNat 1 (by omega)
  have e2 := num_small s.v s.sn.toNat 2 (.inr rfl) (by omega)
  have e3 := num_small s.v s.lg.toNat 2 (.inr rfl) (by omega)
  have e4 := num_small s.v s.ar.toNat 1 (.inl rfl) (by omega)
  have e5 := num_small s.v s.hf.toNat 1 (.inl rfl) (by omega)
  have e6 := num_small s.v s.gl.toNat 1 (.inl rfl) (by omega)
  have e7 := num_small s.v s.sp.toNat 1 (.inl rfl) (by omega)
  unfold supB
  simp only [ByteArray.size_append, e1]
  omega
theorem nonempty_list (p : ByteArray) (h : 0 < p.size) : (!p.toList.isEmpty) = true := by
  rw [Lib.toList_data]
  have h2 : p.size = p.data.toList.length := by simp
  cases hl : p.data.toList with
  | nil => rw [hl, List.length_nil] at h2; omega
  | cons a b => rfl
end Go.Proofs.YtdoombcihobejaaGreat
