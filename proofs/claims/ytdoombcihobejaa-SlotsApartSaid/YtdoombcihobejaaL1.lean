/-
  What a device holds (a Super), and what must not be forgotten (a Hard), as plain mathematics: which are right, their bytes, and what is read of bytes.
  Conditions: named in each theorem.
-/
import Derived.Test.YtdoombcihobejaaFM
namespace Go.Proofs.Ytdoombcihobejaa
open Go.RowKit Vi
set_option linter.unusedVariables false
namespace Sl
/-- A Super. -/
structure Su where
  v : Int
  sn : Int
  lg : Int
  ar : Int
  hf : Int
  gl : Int
  sp : Int
def Su.c (s : Su) : Array Value := #[.int .i64 s.v, .int .i64 s.sn, .int .i64 s.lg, .int .i64 s.ar, .int .i64 s.hf, .int .i64 s.gl, .int .i64 s.sp]
def Su.val (s : Su) : Value := .agg s.c
def su0 : Su := ⟨0, 0, 0, 0, 0, 0, 0⟩
/-- A Hard. -/
structure Hd where
  tm : Nat
  vo : Int
  cm : Nat
def Hd.c (h : Hd) : Array Value := #[.int .u64 h.tm, .int .i64 h.vo, .int .u64 h.cm]
def Hd.val (h : Hd) : Value := .agg h.c
def hd0 : Hd := ⟨0, 0, 0⟩
def ins (n lo hi : Int) : Bool := decide (lo ≤ n) && decide (n ≤ hi)
def rgt (s : Su) : Bool := ins s.v 1 2 && (ins s.sn 1 1000 && (ins s.lg 1 1000 && (ins s.ar 0 1 && (ins s.hf 0 1 && (ins s.gl 0 2 && (ins s.sp 0 9 && (decide (s.gl ≠ 0) || decide (s.sp = 0))))))))
theorem rgt_iff (s : Su) : rgt s = true ↔ (1 ≤ s.v ∧ s.v ≤ 2) ∧ (1 ≤ s.sn ∧ s.sn ≤ 1000) ∧ (1 ≤ s.lg ∧ s.lg ≤ 1000) ∧ (0 ≤ s.ar ∧ s.ar ≤ 1) ∧ (0 ≤ s.hf ∧ s.hf ≤ 1) ∧ (0 ≤ s.gl ∧ s.gl ≤ 2) ∧ (0 ≤ s.sp ∧ s.sp ≤ 9) ∧ (s.gl ≠ 0 ∨ s.sp = 0) := by
  unfold rgt ins
  simp only [Bool.and_eq_true, Bool.or_eq_true, decide_eq_true_eq]
/-- A number of a version; k bytes in the first. -/
def num (v : Int) (n k : Nat) : ByteArray := if v = 1 then fxB n k else putB n
def takV (v : Int) (s : ByteArray) (k : Nat) : Nat := if v = 1 then fixV s k else varV s
def takT (v : Int) (s : ByteArray) (k : Nat) : ByteArray := if v = 1 then fixT s k else varT s
theorem num_size (v : Int) (n k : Nat) (hk : k ≤ 8) (hn : n < 18446744073709551616) : (num v n k).size ≤ 10 := by
  unfold num
  split
  · rw [fxB_size n k hk]; omega
  · exact putB_size n hn
theorem pow8 (k : Nat) (hk : k ≤ 8) : 256 ^ k ≤ 18446744073709551616 := Nat.le_trans (Nat.pow_le_pow_right (by omega) hk) (by decide)
theorem tak_put (v : Int) (n k : Nat) (hk : k ≤ 8) (hn : n < 256 ^ k) (t : ByteArray) : takV v (num v n k ++ t) k = n ∧ takT v (num v n k ++ t) k = t := by
  unfold takV takT num
  split
  · obtain ⟨h1, h2, _⟩ := fix_put n k hk t
    exact ⟨by rw [h1, Nat.mod_eq_of_lt hn], h2⟩
  · obtain ⟨h1, h2, _⟩ := var_put n (Nat.lt_of_lt_of_le hn (pow8 k hk)) t
    exact ⟨h1, h2⟩
theorem takV_lt (v : Int) (s : ByteArray) (k : Nat) (hk : k ≤ 8) : takV v s k < 18446744073709551616 := by
  unfold takV
  split
  · unfold fixV
    split
    · rw [Int.toNat_natCast]
      exact Nat.lt_of_lt_of_le (be_take_lt (nums s) (nums_getD_lt s) k) (pow8 k hk)
    · omega
  · exact varV_lt s
theorem takT_size (v : Int) (s : ByteArray) (k : Nat) : (takT v s k).size ≤ s.size := by
  unfold takT
  split
  · exact fixT_size s k
  · exact varT_size s
/-- A number of 64 bits, taken as a signed one. -/
def w64 (n : Nat) : Int := IntKind.i64.wrap (n : Int)
theorem w64_small (n : Nat) (h : n < 9223372036854775808) : w64 n = n := by
  unfold w64
  simp [IntKind.wrap, IntKind.bits, IntKind.signed]; omega
theorem w64_range (n : Nat) : -9223372036854775808 ≤ w64 n ∧ w64 n ≤ 9223372036854775807 := by
  unfold w64
  simp [IntKind.wrap, IntKind.bits, IntKind.signed]; omega
/-- The bytes of a Super. -/
def supB (s : Su) : ByteArray := fxB s.v.toNat 1 ++ num s.v s.sn.toNat 2 ++ num s.v s.lg.toNat 2 ++ num s.v s.ar.toNat 1 ++ num s.v s.hf.toNat 1 ++ num s.v s.gl.toNat 1 ++ num s.v s.sp.toNat 1
def supS (s : Su) : ByteArray := if rgt s then supB s else ⟨#[]⟩
def u1 (v : Int) (u : ByteArray) : ByteArray := takT v u 2
def u2 (v : Int) (u : ByteArray) : ByteArray := takT v (u1 v u) 2
def u3 (v : Int) (u : ByteArray) : ByteArray := takT v (u2 v u) 1
def u4 (v : Int) (u : ByteArray) : ByteArray := takT v (u3 v u) 1
def u5 (v : Int) (u : ByteArray) : ByteArray := takT v (u4 v u) 1
def rv (b : ByteArray) : Int := (fixV b 1 : Nat)
/-- What is read as a Super, of version v. -/
def rdS (v : Int) (u : ByteArray) : Su := ⟨v, w64 (takV v u 2), w64 (takV v (u1 v u) 2), w64 (takV v (u2 v u) 1), w64 (takV v (u3 v u) 1), w64 (takV v (u4 v u) 1), w64 (takV v (u5 v u) 1)⟩
def rdS2 (v : Int) (u : ByteArray) : Su := ⟨v, (takV v u 2 % 9999 : Nat), (takV v (u1 v u) 2 % 9999 : Nat), (takV v (u2 v u) 1 % 99 : Nat), (takV v (u3 v u) 1 % 99 : Nat), (takV v (u4 v u) 1 % 99 : Nat), (takV v (u5 v u) 1 % 99 : Nat)⟩
def rs (b : ByteArray) : Su := rdS (rv b) (fixT b 1)
def rs2 (b : ByteArray) : Su := rdS2 (rv b) (fixT b 1)
def gO (b : ByteArray) : Bool := rgt (rs b) && ((supB (rs b)).toList == b.toList)
def gO2 (b : ByteArray) : Bool := rgt (rs2 b) && ((supB (rs2 b)).toList == b.toList)
def gS (b : ByteArray) : Su := if gO b then rs b else su0
theorem app_empty (t : ByteArray) : t ++ (⟨#[]⟩ : ByteArray) = t := by apply ByteArray.ext; simp
theorem su_read {s : Su} (h : rgt s = true) : rs (supB s) = s ∧ rs2 (supB s) = s := by
  obtain ⟨v, sn, lg, ar, hf, gl, sp⟩ := s
  obtain ⟨h1, h2, h3, h4, h5, h6, h7, _⟩ := (rgt_iff _).1 h
  dsimp only at h1 h2 h3 h4 h5 h6 h7
  obtain ⟨v, rfl⟩ := Int.eq_ofNat_of_zero_le (by omega : 0 ≤ v)
  obtain ⟨a, rfl⟩ := Int.eq_ofNat_of_zero_le (by omega : 0 ≤ sn)
  obtain ⟨b, rfl⟩ := Int.eq_ofNat_of_zero_le (by omega : 0 ≤ lg)
  obtain ⟨c, rfl⟩ := Int.eq_ofNat_of_zero_le (by omega : 0 ≤ ar)
  obtain ⟨d, rfl⟩ := Int.eq_ofNat_of_zero_le (by omega : 0 ≤ hf)
  obtain ⟨e, rfl⟩ := Int.eq_ofNat_of_zero_le (by omega : 0 ≤ gl)
  obtain ⟨f, rfl⟩ := Int.eq_ofNat_of_zero_le (by omega : 0 ≤ sp)
  have E : supB ⟨v, a, b, c, d, e, f⟩ = fxB v (1 : Nat) ++ (num v a 2 ++ (num v b 2 ++ (num v c 1 ++ (num v d 1 ++ (num v e 1 ++ (num v f 1 ++ ⟨#[]⟩)))))) := by
    unfold supB
    simp only [Int.toNat_natCast, append_assoc3, app_empty]
    rfl
  obtain ⟨p1, p2, _⟩ := fix_put v 1 (by omega) (num v a 2 ++ (num v b 2 ++ (num v c 1 ++ (num v d 1 ++ (num v e 1 ++ (num v f 1 ++ ⟨#[]⟩))))))
  rw [← E] at p1 p2
  obtain ⟨q1, q2⟩ := tak_put v a 2 (by omega) (by omega) (num v b 2 ++ (num v c 1 ++ (num v d 1 ++ (num v e 1 ++ (num v f 1 ++ ⟨#[]⟩)))))
  obtain ⟨r1, r2⟩ := tak_put v b 2 (by omega) (by omega) (num v c 1 ++ (num v d 1 ++ (num v e 1 ++ (num v f 1 ++ ⟨#[]⟩))))
  obtain ⟨s1, s2⟩ := tak_put v c 1 (by omega) (by omega) (num v d 1 ++ (num v e 1 ++ (num v f 1 ++ ⟨#[]⟩)))
  obtain ⟨t1, t2⟩ := tak_put v d 1 (by omega) (by omega) (num v e 1 ++ (num v f 1 ++ ⟨#[]⟩))
  obtain ⟨w1, w2⟩ := tak_put v e 1 (by omega) (by omega) (num v f 1 ++ ⟨#[]⟩)
  obtain ⟨x1, x2⟩ := tak_put v f 1 (by omega) (by omega) ⟨#[]⟩
  have hv : rv (supB ⟨v, a, b, c, d, e, f⟩) = v := by
    unfold rv
    have := p1
    rw [show ((1 : Nat) : Int) = 1 from rfl] at this
    rw [this, Nat.mod_eq_of_lt (by omega)]
  have hp2 : fixT (supB ⟨v, a, b, c, d, e, f⟩) 1 = num v a 2 ++ (num v b 2 ++ (num v c 1 ++ (num v d 1 ++ (num v e 1 ++ (num v f 1 ++ ⟨#[]⟩))))) := p2
  unfold rs rs2
  rw [hv, hp2]
  unfold rdS rdS2 u5 u4 u3 u2 u1
  rw [q2, r2, s2, t2, w2, q1, r1, s1, t1, w1, x1]
  rw [w64_small a (by omega), w64_small b (by omega), w64_small c (by omega), w64_small d (by omega), w64_small e (by omega), w64_small f (by omega)]
  rw [Nat.mod_eq_of_lt (by omega : a < 9999), Nat.mod_eq_of_lt (by omega : b < 9999), Nat.mod_eq_of_lt (by omega : c < 99), Nat.mod_eq_of_lt (by omega : d < 99), Nat.mod_eq_of_lt (by omega : e < 99), Nat.mod_eq_of_lt (by omega : f < 99)]
  exact ⟨rfl, rfl⟩
theorem gO_iff (b : ByteArray) : gO b = true ↔ ∃ s, rgt s = true ∧ b = supB s := by
  unfold gO
  rw [Bool.and_eq_true, beq_iff]
  constructor
  · rintro ⟨h1, h2⟩; exact ⟨_, h1, h2.symm⟩
  · rintro ⟨s, h1, rfl⟩; rw [(su_read h1).1]; exact ⟨h1, rfl⟩
theorem gO2_iff (b : ByteArray) : gO2 b = true ↔ ∃ s, rgt s = true ∧ b = supB s := by
  unfold gO2
  rw [Bool.and_eq_true, beq_iff]
  constructor
  · rintro ⟨h1, h2⟩; exact ⟨_, h1, h2.symm⟩
  · rintro ⟨s, h1, rfl⟩; rw [(su_read h1).2]; exact ⟨h1, rfl⟩
theorem gO2_eq (b : ByteArray) : gO2 b = gO b := by
  rw [Bool.eq_iff_iff, gO_iff, gO2_iff]
theorem rs2_eq {b : ByteArray} (h : gO b = true) : rs2 b = rs b := by
  obtain ⟨s, h1, rfl⟩ := (gO_iff b).1 h
  rw [(su_read h1).1, (su_read h1).2]
theorem gO_sup {s : Su} (h : rgt s = true) : gO (supB s) = true := (gO_iff _).2 ⟨s, h, rfl⟩
theorem gS_sup {s : Su} (h : rgt s = true) : gS (supB s) = s := by unfold gS; rw [if_pos (gO_sup h)]; exact (su_read h).1
theorem gO_empty : gO ⟨#[]⟩ = false := by decide +kernel
theorem rgt_zero : rgt su0 = false := by decide
theorem supB_size {s : Su} (h : rgt s = true) : (supB s).size ≤ 61 ∧ 0 < (supB s).size := by
  obtain ⟨h1, h2, h3, h4, h5, h6, h7, _⟩ := (rgt_iff _).1 h
  have e1 := fxB_size s.v.toNat 1 (by omega)
  have e2 := num_size s.v s.sn.toNat 2 (by omega) (by omega)
  have e3 := num_size s.v s.lg.toNat 2 (by omega) (by omega)
  have e4 := num_size s.v s.ar.toNat 1 (by omega) (by omega)
  have e5 := num_size s.v s.hf.toNat 1 (by omega) (by omega)
  have e6 := num_size s.v s.gl.toNat 1 (by omega) (by omega)
  have e7 := num_size s.v s.sp.toNat 1 (by omega) (by omega)
  unfold supB
  have e1' : (fxB s.v.toNat 1).size = 1 := e1
  simp only [ByteArray.size_append, e1']
  omega
/-- How many sectors. -/
def sec (s : Su) : Int := if rgt s then 4 + 2 * (s.sn + s.lg) else 0

/-- The bytes of a Hard. -/
def hO (v : Int) (h : Hd) : Bool := (decide (v = 1) || decide (v = 2)) && ins h.vo 0 7
theorem hO_iff (v : Int) (h : Hd) : hO v h = true ↔ (v = 1 ∨ v = 2) ∧ 0 ≤ h.vo ∧ h.vo ≤ 7 := by
  unfold hO ins
  simp only [Bool.and_eq_true, Bool.or_eq_true, decide_eq_true_eq]
def hB (v : Int) (h : Hd) : ByteArray := fxB (16 + v).toNat 1 ++ num v h.tm 8 ++ num v h.vo.toNat 1 ++ num v h.cm 8
def hS (v : Int) (h : Hd) : ByteArray := if hO v h then hB v h else ⟨#[]⟩
def hv (b : ByteArray) : Int := (fixV b 1 : Nat) - 16
def k1 (v : Int) (u : ByteArray) : ByteArray := takT v u 8
def k2 (v : Int) (u : ByteArray) : ByteArray := takT v (k1 v u) 1
def rdH (v : Int) (u : ByteArray) : Hd := ⟨takV v u 8, w64 (takV v (k1 v u) 1), takV v (k2 v u) 8⟩
def rdH2 (v : Int) (u : ByteArray) : Hd := ⟨takV v u 8, (takV v (k1 v u) 1 % 99 : Nat), takV v (k2 v u) 8⟩
def rh (b : ByteArray) : Hd := rdH (hv b) (fixT b 1)
def rh2 (b : ByteArray) : Hd := rdH2 (hv b) (fixT b 1)
structure Hd.Ok (h : Hd) : Prop where
  t : h.tm < 18446744073709551616
  c : h.cm < 18446744073709551616
  v1 : -9223372036854775808 ≤ h.vo
  v2 : h.vo ≤ 9223372036854775807
theorem rh_ok (b : ByteArray) : (rh b).Ok := ⟨takV_lt _ _ _ (by omega), takV_lt _ _ _ (by omega), (w64_range _).1, (w64_range _).2⟩
theorem rh2_ok (b : ByteArray) : (rh2 b).Ok := ⟨takV_lt _ _ _ (by omega), takV_lt _ _ _ (by omega), by show _ ≤ ((_ : Nat) : Int); omega, by show ((_ : Nat) : Int) ≤ _; omega⟩
def jO (b : ByteArray) : Bool := hO (hv b) (rh b) && ((hB (hv b) (rh b)).toList == b.toList)
def jO2 (b : ByteArray) : Bool := hO (hv b) (rh2 b) && ((hB (hv b) (rh2 b)).toList == b.toList)
def jH (b : ByteArray) : Hd := if jO b then rh b else hd0
def jV (b : ByteArray) : Int := if jO b then hv b else 0
theorem hd_read {v : Int} {h : Hd} (hh : hO v h = true) (ho : h.Ok) : hv (hB v h) = v ∧ rh (hB v h) = h ∧ rh2 (hB v h) = h := by
  obtain ⟨tm, vo, cm⟩ := h
  obtain ⟨h1, h2, h3⟩ := (hO_iff _ _).1 hh
  obtain ⟨ht, hc, _, _⟩ := ho
  dsimp only at h2 h3 ht hc
  obtain ⟨x, rfl⟩ := Int.eq_ofNat_of_zero_le h2
  obtain ⟨y, hy⟩ := Int.eq_ofNat_of_zero_le (by omega : 0 ≤ 16 + v)
  have E : hB v ⟨tm, x, cm⟩ = fxB y (1 : Nat) ++ (num v tm 8 ++ (num v x 1 ++ (num v cm 8 ++ ⟨#[]⟩))) := by
    unfold hB
    rw [hy]
    simp only [Int.toNat_natCast, append_assoc3, app_empty]
    rfl
  obtain ⟨p1, p2, _⟩ := fix_put y 1 (by omega) (num v tm 8 ++ (num v x 1 ++ (num v cm 8 ++ ⟨#[]⟩)))
  rw [← E] at p1 p2
  obtain ⟨q1, q2⟩ := tak_put v tm 8 (by omega) (by omega) (num v x 1 ++ (num v cm 8 ++ ⟨#[]⟩))
  obtain ⟨r1, r2⟩ := tak_put v x 1 (by omega) (by omega) (num v cm 8 ++ ⟨#[]⟩)
  obtain ⟨s1, s2⟩ := tak_put v cm 8 (by omega) (by omega) ⟨#[]⟩
  have hvv : hv (hB v ⟨tm, x, cm⟩) = v := by
    unfold hv
    have := p1
    rw [show ((1 : Nat) : Int) = 1 from rfl] at this
    rw [this, Nat.mod_eq_of_lt (by omega)]; omega
  have hp2 : fixT (hB v ⟨tm, x, cm⟩) 1 = num v tm 8 ++ (num v x 1 ++ (num v cm 8 ++ ⟨#[]⟩)) := p2
  refine ⟨hvv, ?_⟩
  unfold rh rh2
  rw [hvv, hp2]
  unfold rdH rdH2 k2 k1
  rw [q2, r2, q1, r1, s1]
  rw [w64_small x (by omega), Nat.mod_eq_of_lt (by omega : x < 99)]
  exact ⟨rfl, rfl⟩
theorem jO_iff (b : ByteArray) : jO b = true ↔ ∃ v h, hO v h = true ∧ Hd.Ok h ∧ b = hB v h := by
  unfold jO
  rw [Bool.and_eq_true, beq_iff]
  constructor
  · rintro ⟨h1, h2⟩; exact ⟨_, _, h1, rh_ok b, h2.symm⟩
  · rintro ⟨v, h, h1, h2, rfl⟩; obtain ⟨e1, e2, _⟩ := hd_read h1 h2; rw [e1, e2]; exact ⟨h1, rfl⟩
theorem jO2_iff (b : ByteArray) : jO2 b = true ↔ ∃ v h, hO v h = true ∧ Hd.Ok h ∧ b = hB v h := by
  unfold jO2
  rw [Bool.and_eq_true, beq_iff]
  constructor
  · rintro ⟨h1, h2⟩; exact ⟨_, _, h1, rh2_ok b, h2.symm⟩
  · rintro ⟨v, h, h1, h2, rfl⟩; obtain ⟨e1, _, e2⟩ := hd_read h1 h2; rw [e1, e2]; exact ⟨h1, rfl⟩
theorem jO2_eq (b : ByteArray) : jO2 b = jO b := by
  rw [Bool.eq_iff_iff, jO_iff, jO2_iff]
theorem rh2_eq {b : ByteArray} (h : jO b = true) : rh2 b = rh b := by
  obtain ⟨v, x, h1, h2, rfl⟩ := (jO_iff b).1 h
  obtain ⟨_, e2, e3⟩ := hd_read h1 h2
  rw [e2, e3]
theorem jO_hard {v : Int} {h : Hd} (h1 : hO v h = true) (h2 : h.Ok) : jO (hB v h) = true := (jO_iff _).2 ⟨v, h, h1, h2, rfl⟩
theorem jH_hard {v : Int} {h : Hd} (h1 : hO v h = true) (h2 : h.Ok) : jH (hB v h) = h ∧ jV (hB v h) = v := by
  obtain ⟨e1, e2, _⟩ := hd_read h1 h2
  unfold jH jV; rw [if_pos (jO_hard h1 h2), if_pos (jO_hard h1 h2)]; exact ⟨e2, e1⟩
theorem hB_size {v : Int} {h : Hd} (hh : hO v h = true) (ho : h.Ok) : (hB v h).size ≤ 31 ∧ 0 < (hB v h).size := by
  obtain ⟨h1, h2, h3⟩ := (hO_iff _ _).1 hh
  obtain ⟨ht, hc, _, _⟩ := ho
  have e1' : (fxB (16 + v).toNat 1).size = 1 := fxB_size (16 + v).toNat 1 (by omega)
  have e2 := num_size v h.tm 8 (by omega) ht
  have e3 := num_size v h.vo.toNat 1 (by omega) (by omega)
  have e4 := num_size v h.cm 8 (by omega) hc
  unfold hB
  simp only [ByteArray.size_append, e1']
  omega
end Sl
end Go.Proofs.Ytdoombcihobejaa
