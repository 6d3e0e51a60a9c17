/- Plain arithmetic of the sums (no Go in sight): the half step is linear and injective, eight of them split by bytes. -/
namespace Go.Proofs.Yteennkfgnbhhhab.CrcM
def half (x : Nat) : Nat := if x % 2 = 1 then (x / 2) ^^^ 40961 else x / 2
def it : Nat → Nat → Nat
  | 0, x => x
  | k + 1, x => half (it k x)
def stp (s b : Nat) : Nat := it 8 (s ^^^ b)
def crc (l : List Nat) : Nat := l.foldl stp 0
theorem half_lt {x : Nat} (h : x < 65536) : half x < 65536 := by
  unfold half
  split
  · exact Nat.xor_lt_two_pow (n := 16) (by omega) (by decide)
  · omega
theorem it_lt (k : Nat) {x : Nat} (h : x < 65536) : it k x < 65536 := by
  induction k with
  | zero => exact h
  | succ k ih => exact half_lt ih
theorem stp_lt {s b : Nat} (h : s < 65536) (hb : b < 256) : stp s b < 65536 := it_lt 8 (Nat.xor_lt_two_pow (n := 16) h (by omega))
theorem half_xor (x y : Nat) : half (x ^^^ y) = half x ^^^ half y := by
  unfold half
  have h1 : (x ^^^ y) % 2 = (x + y) % 2 := by
    have := Nat.xor_mod_two_eq_one (a := x) (b := y)
    omega
  have h2 : (x ^^^ y) / 2 = x / 2 ^^^ y / 2 := Nat.xor_div_two
  rw [h1, h2]
  rcases Nat.mod_two_eq_zero_or_one x with hx | hx <;> rcases Nat.mod_two_eq_zero_or_one y with hy | hy
  · rw [if_neg (by omega), if_neg (by omega), if_neg (by omega)]
  · rw [if_pos (by omega), if_neg (by omega), if_pos (by omega), Nat.xor_assoc]
  · rw [if_pos (by omega), if_pos (by omega), if_neg (by omega), Nat.xor_assoc, Nat.xor_comm (y / 2), Nat.xor_assoc]
  · rw [if_neg (by omega), if_pos (by omega), if_pos (by omega)]
    rw [show (x / 2 ^^^ 40961) ^^^ (y / 2 ^^^ 40961) = (x / 2 ^^^ y / 2) ^^^ (40961 ^^^ 40961) from by ac_rfl, Nat.xor_self, Nat.xor_zero]
theorem it_xor (k x y : Nat) : it k (x ^^^ y) = it k x ^^^ it k y := by
  induction k with
  | zero => rfl
  | succ k ih => show half _ = half _ ^^^ half _; rw [ih, half_xor]
theorem it_zero (k : Nat) : it k 0 = 0 := by
  induction k with
  | zero => rfl
  | succ k ih => show half _ = 0; rw [ih]; rfl
theorem half_two (z : Nat) : half (2 * z) = z := by unfold half; rw [if_neg (by omega)]; omega
theorem it_front (k x : Nat) : it (k + 1) x = it k (half x) := by
  induction k with
  | zero => rfl
  | succ k ih => show half (it (k + 1) x) = half (it k (half x)); rw [ih]
theorem it8_256 (y : Nat) : it 8 (256 * y) = y := by
  rw [show 256 * y = 2 * (128 * y) from by omega, it_front, half_two, show 128 * y = 2 * (64 * y) from by omega, it_front, half_two, show 64 * y = 2 * (32 * y) from by omega, it_front, half_two,
    show 32 * y = 2 * (16 * y) from by omega, it_front, half_two, show 16 * y = 2 * (8 * y) from by omega, it_front, half_two, show 8 * y = 2 * (4 * y) from by omega, it_front, half_two,
    show 4 * y = 2 * (2 * y) from by omega, it_front, half_two, it_front, half_two]
  rfl
theorem add_xor (m q r : Nat) (h : r < 2 ^ m) : 2 ^ m * q + r = 2 ^ m * q ^^^ r := by
  apply Nat.eq_of_testBit_eq
  intro j
  rw [Nat.testBit_xor, Nat.testBit_two_pow_mul_add _ h]
  have e : (2 ^ m * q).testBit j = if j < m then false else q.testBit (j - m) := by
    have := Nat.testBit_two_pow_mul_add (b := 0) q (Nat.two_pow_pos m) j
    simpa using this
  rw [e]
  split
  · simp
  · rw [Nat.testBit_lt_two_pow (Nat.lt_of_lt_of_le h (Nat.pow_le_pow_right (by decide) (by omega)))]; simp
theorem it8_split (x : Nat) : it 8 x = x / 256 ^^^ it 8 (x % 256) := by
  have h : x = 256 * (x / 256) ^^^ x % 256 := by
    have := add_xor 8 (x / 256) (x % 256) (by omega)
    simp at this
    omega
  calc it 8 x = it 8 (256 * (x / 256) ^^^ x % 256) := by rw [← h]
    _ = _ := by rw [it_xor, it8_256]
/-- what the closure over the table answers -/
theorem stp_table (s b : Nat) (hb : b < 256) : s / 256 ^^^ it 8 (s % 256 ^^^ b) = stp s b := by
  unfold stp
  rw [it8_split (s ^^^ b)]
  have e1 : (s ^^^ b) / 256 = s / 256 := by
    have := Nat.xor_div_two_pow (a := s) (b := b) (n := 8)
    simp at this
    rw [this, Nat.div_eq_of_lt hb, Nat.xor_zero]
  have e2 : (s ^^^ b) % 256 = s % 256 ^^^ b := by
    have := Nat.xor_mod_two_pow (a := s) (b := b) (n := 8)
    simp at this
    rw [this, Nat.mod_eq_of_lt hb]
  rw [e1, e2]
/-- the table's doubling -/
theorem tab_double (m low : Nat) (h : low < 2 ^ m) : it 8 (2 ^ m + low) = it 8 low ^^^ it 8 (2 ^ m) := by
  have := add_xor m 1 low h
  simp at this
  rw [this, it_xor, Nat.xor_comm]
theorem crc_snoc (l : List Nat) (b : Nat) : crc (l ++ [b]) = stp (crc l) b := by simp [crc]
theorem crc_lt (l : List Nat) (h : ∀ b ∈ l, b < 256) : crc l < 65536 := by
  unfold crc
  suffices ∀ s, s < 65536 → l.foldl stp s < 65536 from this 0 (by decide)
  induction l with
  | nil => intro s hs; exact hs
  | cons a l ih => intro s hs; exact ih (fun b hb => h b (by simp [hb])) _ (stp_lt hs (h a (by simp)))
theorem xor_zero_eq {a b : Nat} (h : a ^^^ b = 0) : a = b := by
  have : (a ^^^ b) ^^^ b = b := by rw [h, Nat.zero_xor]
  rwa [Nat.xor_assoc, Nat.xor_self, Nat.xor_zero] at this
theorem xor_inj {a b c : Nat} (h : a ^^^ b = a ^^^ c) : b = c := by
  have : a ^^^ (a ^^^ b) = a ^^^ (a ^^^ c) := by rw [h]
  rwa [← Nat.xor_assoc, ← Nat.xor_assoc, Nat.xor_self, Nat.zero_xor, Nat.zero_xor] at this
theorem half_zero {x : Nat} (hx : x < 65536) (h : half x = 0) : x = 0 := by
  unfold half at h
  split at h
  · have : x / 2 = 40961 := xor_zero_eq h
    omega
  · omega
theorem it_eq_zero (k : Nat) {x : Nat} (hx : x < 65536) (h : it k x = 0) : x = 0 := by
  induction k with
  | zero => exact h
  | succ k ih => exact ih (half_zero (it_lt k hx) h)
theorem it_inj (k : Nat) {x y : Nat} (hx : x < 65536) (hy : y < 65536) (h : it k x = it k y) : x = y := by
  have e : it k (x ^^^ y) = 0 := by rw [it_xor, h, Nat.xor_self]
  exact xor_zero_eq (it_eq_zero k (Nat.xor_lt_two_pow (n := 16) hx hy) e)
theorem stp_inj_left {s t b : Nat} (hs : s < 65536) (ht : t < 65536) (hb : b < 256) (h : stp s b = stp t b) : s = t := by
  have := it_inj 8 (Nat.xor_lt_two_pow (n := 16) hs (by omega)) (Nat.xor_lt_two_pow (n := 16) ht (by omega)) h
  exact xor_inj (a := b) (by rw [Nat.xor_comm b s, Nat.xor_comm b t]; exact this)
theorem stp_inj_right {s b c : Nat} (hs : s < 65536) (hb : b < 256) (hc : c < 256) (h : stp s b = stp s c) : b = c := by
  have := it_inj 8 (Nat.xor_lt_two_pow (n := 16) hs (by omega)) (Nat.xor_lt_two_pow (n := 16) hs (by omega)) h
  exact xor_inj this
end Go.Proofs.Yteennkfgnbhhhab.CrcM
