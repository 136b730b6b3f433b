/-
  The register's steps are linear over xor, and up to 32 bits that are not all 0 leave a register that is not 0.
  Conditions: registers below 2^32.
-/
import Derived.Test.YtpdbeijfchmlgaaCR
namespace Go.Proofs.Ytpdbeijfchmlgaa
open Go.RowKit
namespace Crc

theorem mul_xor_bits (p a b : Nat) (ha : a = 0 ∨ a = 1) (hb : b = 0 ∨ b = 1) : p * (a ^^^ b) = p * a ^^^ p * b := by
  rcases ha with rfl | rfl <;> rcases hb with rfl | rfl <;> simp
theorem div_two_xor (a b : Nat) : (a ^^^ b) / 2 = a / 2 ^^^ b / 2 := by
  have h := Nat.shiftRight_xor_distrib (a := a) (b := b) (i := 1)
  simpa [Nat.shiftRight_eq_div_pow] using h
theorem div_pow_xor (a b k : Nat) : (a ^^^ b) / 2 ^ k = a / 2 ^ k ^^^ b / 2 ^ k := by
  have h := Nat.shiftRight_xor_distrib (a := a) (b := b) (i := k)
  simpa [Nat.shiftRight_eq_div_pow] using h
theorem xor_swap (a b c d : Nat) : a ^^^ b ^^^ (c ^^^ d) = a ^^^ c ^^^ (b ^^^ d) := by
  rw [Nat.xor_assoc, Nat.xor_assoc, ← Nat.xor_assoc b, Nat.xor_comm b c, Nat.xor_assoc c]
/-- One step is linear. -/
theorem step_xor (r r' t t' : Nat) : step (r ^^^ r') (t ^^^ t') = step r t ^^^ step r' t' := by
  unfold step
  have e : (r ^^^ r' ^^^ (t ^^^ t')) &&& 1 = ((r ^^^ t) &&& 1) ^^^ ((r' ^^^ t') &&& 1) := by
    rw [xor_swap, Nat.and_xor_distrib_right]
  rw [e, mul_xor_bits _ _ _ (and_one_cases _) (and_one_cases _), div_two_xor, xor_swap]
theorem stepN_xor (r r' b b' : Nat) : ∀ k, stepN (r ^^^ r') (b ^^^ b') k = stepN r b k ^^^ stepN r' b' k
  | 0 => rfl
  | k + 1 => by
    show step (stepN (r ^^^ r') (b ^^^ b') k) ((b ^^^ b') / 2 ^ k) = _
    rw [stepN_xor r r' b b' k, div_pow_xor, step_xor]
    rfl
theorem byteStep_xor (r r' b b' : Nat) : byteStep (r ^^^ r') (b ^^^ b') = byteStep r b ^^^ byteStep r' b' := stepN_xor r r' b b' 8
/-- Two texts, xored byte by byte. -/
def xorL : List UInt8 → List UInt8 → List UInt8
  | a :: aas, b :: bs => (a ^^^ b) :: xorL aas bs
  | _, _ => []
theorem xorL_length : ∀ (a b : List UInt8), a.length = b.length → (xorL a b).length = a.length
  | [], [], _ => rfl
  | a :: aas, b :: bs, h => by simp [xorL, xorL_length aas bs (by simpa using h)]
  | [], _ :: _, h => by simp at h
  | _ :: _, [], h => by simp at h
theorem raw_xor : ∀ (a b : List UInt8) (r r' : Nat), a.length = b.length → raw (r ^^^ r') (xorL a b) = raw r a ^^^ raw r' b
  | [], [], _, _, _ => rfl
  | a :: aas, b :: bs, r, r', h => by
    show raw (byteStep (r ^^^ r') (a ^^^ b).toNat) (xorL aas bs) = _
    rw [UInt8.toNat_xor, byteStep_xor, raw_xor aas bs _ _ (by simpa using h)]
    rfl
  | [], _ :: _, _, _, h => by simp at h
  | _ :: _, [], _, _, h => by simp at h
theorem comp_xor (x : Nat) (h : x < 4294967296) : comp x = x ^^^ 4294967295 := by
  unfold comp
  apply Nat.eq_of_testBit_eq
  intro i
  have h1 := Nat.testBit_two_pow_sub_succ (n := 32) (x := x) (by omega) i
  have h2 := Nat.testBit_two_pow_sub_one 32 i
  rw [show 4294967295 - x = 2 ^ 32 - (x + 1) by omega, h1, Nat.testBit_xor, show (4294967295 : Nat) = 2 ^ 32 - 1 by decide, h2]
  by_cases hi : i < 32
  · simp [hi]
  · have : x.testBit i = false := Nat.testBit_lt_two_pow (Nat.lt_of_lt_of_le h (by
      have : 2 ^ 32 ≤ 2 ^ i := Nat.pow_le_pow_right (by omega) (by omega)
      simpa using this))
    simp [hi, this]
/-- The sum of three texts that are xored is that of their sums. -/
theorem more_xor3 (a b c : List UInt8) (hab : a.length = b.length) (hac : a.length = c.length) :
    more 0 (xorL (xorL a b) c) = more 0 a ^^^ more 0 b ^^^ more 0 c := by
  have hl := xorL_length a b hab
  have hI : comp 0 = comp 0 ^^^ comp 0 ^^^ comp 0 := by decide
  unfold more
  rw [hI, raw_xor (xorL a b) c _ _ (by omega), raw_xor a b _ _ hab]
  have h0 := comp_lt 0
  have la := raw_lt a _ h0
  have lb := raw_lt b _ h0
  have lc := raw_lt c _ h0
  rw [← hI]
  generalize raw (comp 0) a = A at *
  generalize raw (comp 0) b = B at *
  generalize raw (comp 0) c = C at *
  have lab : A ^^^ B < 4294967296 := Nat.xor_lt_two_pow (n := 32) (by omega) (by omega)
  have labc : A ^^^ B ^^^ C < 4294967296 := Nat.xor_lt_two_pow (n := 32) (by omega) (by omega)
  rw [comp_xor _ la, comp_xor _ lb, comp_xor _ lc, comp_xor _ labc]
  have e : A ^^^ 4294967295 ^^^ (B ^^^ 4294967295) = A ^^^ B := by rw [xor_swap, Nat.xor_self, Nat.xor_zero]
  rw [e, Nat.xor_assoc]

/-! ### Bits one behind the other -/
/-- The register over bits (each 0 or 1). -/
def rawBits (r : Nat) (ts : List Nat) : Nat := ts.foldl step r
/-- The number whose bits are these, the lowest first. -/
def val : List Nat → Nat
  | [] => 0
  | t :: ts => t + 2 * val ts
theorem val_lt : ∀ (ts : List Nat), (∀ t ∈ ts, t ≤ 1) → val ts < 2 ^ ts.length
  | [], _ => by simp [val]
  | t :: ts, h => by
    have h1 := h t (List.mem_cons_self)
    have h2 := val_lt ts (fun x hx => h x (List.mem_cons_of_mem _ hx))
    simp only [val, List.length_cons, Nat.pow_succ]
    omega
theorem step_top (r t v : Nat) (hr : r < 4294967296) (hv : v < 2147483648) (h : step r t = v) : (r ^^^ t) &&& 1 = 0 ∧ r / 2 = v := by
  rcases and_one_cases (r ^^^ t) with h0 | h1
  · refine ⟨h0, ?_⟩
    unfold step at h
    rw [h0] at h
    simpa using h
  · exfalso
    unfold step at h
    rw [h1, Nat.mul_one] at h
    have hb : (r / 2 ^^^ 2197175160).testBit 31 = true := by
      rw [Nat.testBit_xor]
      have : (r / 2).testBit 31 = false := Nat.testBit_lt_two_pow (by omega)
      rw [this]
      decide
    have hv' : v.testBit 31 = false := Nat.testBit_lt_two_pow (by omega)
    rw [h, hv'] at hb
    cases hb
/-- Where up to 32 bits bring a register to 0, it was their number. -/
theorem rawBits_zero : ∀ (ts : List Nat) (r : Nat), r < 4294967296 → ts.length ≤ 32 → (∀ t ∈ ts, t ≤ 1) → rawBits r ts = 0 → r = val ts
  | [], r, _, _, _, h => h
  | t :: ts, r, hr, hl, hb, h => by
    have hb' : ∀ x ∈ ts, x ≤ 1 := fun x hx => hb x (List.mem_cons_of_mem _ hx)
    have h1 := rawBits_zero ts (step r t) (step_lt r t hr) (by simp at hl; omega) hb' h
    have hv := val_lt ts hb'
    have hv' : val ts < 2147483648 := Nat.lt_of_lt_of_le hv (by
      have : 2 ^ ts.length ≤ 2 ^ 31 := Nat.pow_le_pow_right (by omega) (by simp at hl; omega)
      simpa using this)
    obtain ⟨h2, h3⟩ := step_top r t (val ts) hr hv' h1
    have ht := hb t (List.mem_cons_self)
    rw [Nat.and_xor_distrib_right] at h2
    have hm1 := Nat.and_one_is_mod r
    have hm2 := Nat.and_one_is_mod t
    simp only [val]
    rcases and_one_cases r with e1 | e1 <;> rcases and_one_cases t with e2 | e2 <;> rw [e1, e2] at h2
    · omega
    · simp at h2
    · simp at h2
    · omega
/-- A step of a register and a bit is one to one in the register. -/
theorem step_inj0 (r : Nat) (hr : r < 4294967296) (h : step r 0 = 0) : r = 0 := by
  have := rawBits_zero [0] r hr (by simp) (by simp) h
  simpa [val] using this

/-! ### Three texts' bytes, xored -/
def xor3 (s t u : ByteArray) (j : Nat) : Nat := ((s.data.toList.getD j 0 ^^^ t.data.toList.getD j 0) ^^^ u.data.toList.getD j 0).toNat
theorem getD_byte (s : ByteArray) (k : Nat) (h : k < s.size) : s.data.toList.getD k 0 = s[k] := by
  have h' : k < s.data.toList.length := by simpa using h
  rw [List.getD_eq_getElem?_getD, List.getElem?_eq_getElem h']
  rfl
/-- What the walk writes for three bytes that are xored. -/
theorem xor3_eq (s t u : ByteArray) (k : Nat) (hs : k < s.size) (ht : k < t.size) (hu : k < u.size) :
    bits BinOp.xor IntKind.u8 (bits BinOp.xor IntKind.u8 (s[k].toNat : Int) (t[k].toNat : Int)) (u[k].toNat : Int) = ((xor3 s t u k : Nat) : Int) := by
  rw [u8_xor_nat _ _ s[k].toNat_lt t[k].toNat_lt, ← UInt8.toNat_xor, u8_xor_nat _ _ (UInt8.toNat_lt _) u[k].toNat_lt, ← UInt8.toNat_xor]
  unfold xor3
  rw [getD_byte s k hs, getD_byte t k ht, getD_byte u k hu]
theorem xorL_zip : ∀ (a b : List UInt8), xorL a b = List.zipWith (fun x y => x ^^^ y) a b
  | [], _ => by simp [xorL]
  | a :: aas, [] => by simp [xorL]
  | a :: aas, b :: bs => by simp [xorL, xorL_zip aas bs]
def xor3L (s t u : ByteArray) (n : Nat) : List Int := (List.range n).map fun j => (xor3 s t u j : Int)
theorem xor3L_length (s t u : ByteArray) (n : Nat) : (xor3L s t u n).length = n := by simp [xor3L]
theorem xor3L_getD (s t u : ByteArray) (n i : Nat) (h : i < n) : (xor3L s t u n).getD i 0 = (xor3 s t u i : Int) := by simp [xor3L, List.getD, h]
theorem extract_take (s : ByteArray) (n : Nat) (_h : n ≤ s.size) : (s.extract 0 n).data.toList = s.data.toList.take n := by
  simp [ByteArray.data_extract]
theorem xor3_str (s t u : ByteArray) (n : Nat) (hs : n ≤ s.size) (ht : n ≤ t.size) (hu : n ≤ u.size) :
    (strOfNums (xor3L s t u n)).data.toList = xorL (xorL (s.extract 0 n).data.toList (t.extract 0 n).data.toList) (u.extract 0 n).data.toList := by
  rw [strOfNums_data, extract_take s n hs, extract_take t n ht, extract_take u n hu, xorL_zip, xorL_zip]
  have ls : s.data.toList.length = s.size := by simp
  have lt : t.data.toList.length = t.size := by simp
  have lu : u.data.toList.length = u.size := by simp
  apply List.ext_getElem
  · simp [xor3L]; omega
  · intro i h1 h2
    have hi : i < n := by simpa [xor3L] using h1
    simp [xor3L, xor3, List.getD, show i < s.size by omega, show i < t.size by omega, show i < u.size by omega]
/-- The sum of three texts of one length that are xored. -/
theorem moreB_xor3 (s t u : ByteArray) (n : Nat) (hs : n ≤ s.size) (ht : n ≤ t.size) (hu : n ≤ u.size) :
    moreB 0 (strOfNums (xor3L s t u n)) = moreB 0 (s.extract 0 n) ^^^ moreB 0 (t.extract 0 n) ^^^ moreB 0 (u.extract 0 n) := by
  have ls : s.data.toList.length = s.size := by simp
  have lt : t.data.toList.length = t.size := by simp
  have lu : u.data.toList.length = u.size := by simp
  unfold moreB
  rw [xor3_str s t u n hs ht hu, more_xor3]
  · rw [extract_take s n hs, extract_take t n ht, List.length_take, List.length_take]; omega
  · rw [extract_take s n hs, extract_take u n hu, List.length_take, List.length_take]; omega

end Crc
end Go.Proofs.Ytpdbeijfchmlgaa
