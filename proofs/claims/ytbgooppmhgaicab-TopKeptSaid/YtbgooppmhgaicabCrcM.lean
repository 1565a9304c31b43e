
/-
  Plain mathematics of crc: the checksum of 32 bits over natural numbers. No dump.
-/
import Derived.Test.YtbgooppmhgaicabOctM
namespace Go.Proofs.Ytbgooppmhgaicab
set_option linter.unusedVariables false
set_option linter.unusedSimpArgs false
def stp (x : Nat) : Nat := (2 * x % 4294967296) ^^^ (x / 2147483648 * 79764919)
def it (n : Nat) (x : Nat) : Nat := match n with | 0 => x | n + 1 => it n (stp x)
def feed (x : Nat) (b : UInt8) : Nat := it 8 (x ^^^ b.toNat * 16777216)
def crc (x : Nat) (l : List UInt8) : Nat := l.foldl feed x

theorem xor_lt {a b : Nat} (ha : a < 4294967296) (hb : b < 4294967296) : a ^^^ b < 4294967296 := Nat.xor_lt_two_pow (n := 32) ha hb
theorem bit_of {x : Nat} (h : x < 4294967296) : x / 2147483648 = 0 ∨ x / 2147483648 = 1 := by omega
theorem stp_lt {x : Nat} (h : x < 4294967296) : stp x < 4294967296 := by
  unfold stp
  refine xor_lt (Nat.mod_lt _ (by omega)) ?_
  have := bit_of h
  rcases this with e | e
  · rw [e, Nat.zero_mul]; omega
  · rw [e, Nat.one_mul]; omega
theorem it_lt (n : Nat) {x : Nat} (h : x < 4294967296) : it n x < 4294967296 := by
  induction n generalizing x with
  | zero => exact h
  | succ n ih => exact ih (stp_lt h)
theorem it_add (m n x : Nat) : it (m + n) x = it n (it m x) := by
  induction m generalizing x with
  | zero => simp [it]
  | succ m ih => rw [Nat.succ_add]; show it (m + n) (stp x) = it n (it m (stp x)); exact ih _
theorem feed_lt (x : Nat) (b : UInt8) (h : x < 4294967296) : feed x b < 4294967296 := by
  have := b.toNat_lt
  exact it_lt 8 (xor_lt h (by omega))
theorem crc_lt (x : Nat) (l : List UInt8) (h : x < 4294967296) : crc x l < 4294967296 := by
  induction l generalizing x with
  | nil => exact h
  | cons b l ih => exact ih _ (feed_lt x b h)
theorem xor_zero {a b : Nat} (h : a ^^^ b = 0) : a = b := by
  have := congrArg (· ^^^ b) h
  simpa [Nat.xor_assoc] using this
theorem mul_bit (a b P : Nat) (ha : a = 0 ∨ a = 1) (hb : b = 0 ∨ b = 1) : (a ^^^ b) * P = a * P ^^^ b * P := by
  rcases ha with rfl | rfl <;> rcases hb with rfl | rfl <;> simp
theorem xor4 (a b c d : Nat) : (a ^^^ b) ^^^ (c ^^^ d) = (a ^^^ c) ^^^ (b ^^^ d) := by
  rw [Nat.xor_assoc, Nat.xor_assoc, ← Nat.xor_assoc b c d, Nat.xor_comm b c, Nat.xor_assoc c b d]
theorem stp_xor {x y : Nat} (hx : x < 4294967296) (hy : y < 4294967296) : stp (x ^^^ y) = stp x ^^^ stp y := by
  unfold stp
  have h1 : 2 * (x ^^^ y) % 4294967296 = (2 * x % 4294967296) ^^^ (2 * y % 4294967296) := by
    have e : ∀ z, 2 * z % 4294967296 = (z <<< 1) % 2 ^ 32 := fun z => by rw [Nat.shiftLeft_eq]; omega
    rw [e, e, e, Nat.shiftLeft_xor_distrib, Nat.xor_mod_two_pow]
  have h2 : (x ^^^ y) / 2147483648 = x / 2147483648 ^^^ y / 2147483648 := by
    have e : ∀ z, z / 2147483648 = z >>> 31 := fun z => by rw [Nat.shiftRight_eq_div_pow]
    rw [e, e, e, Nat.shiftRight_xor_distrib]
  rw [h1, h2, mul_bit _ _ _ (bit_of hx) (bit_of hy), xor4]
theorem it_xor (n : Nat) {x y : Nat} (hx : x < 4294967296) (hy : y < 4294967296) : it n (x ^^^ y) = it n x ^^^ it n y := by
  induction n generalizing x y with
  | zero => rfl
  | succ n ih => show it n (stp (x ^^^ y)) = _; rw [stp_xor hx hy]; exact ih (stp_lt hx) (stp_lt hy)
theorem stp_zero {x : Nat} (hx : x < 4294967296) (h : stp x = 0) : x = 0 := by
  unfold stp at h
  rcases bit_of hx with e | e
  · rw [e] at h; simp at h; omega
  · rw [e] at h
    have := xor_zero h
    omega
theorem it_zero (n : Nat) {x : Nat} (hx : x < 4294967296) (h : it n x = 0) : x = 0 := by
  induction n generalizing x with
  | zero => exact h
  | succ n ih => exact stp_zero hx (ih (stp_lt hx) h)
theorem it_0 (n : Nat) : it n 0 = 0 := by
  induction n with
  | zero => rfl
  | succ n ih => show it n (stp 0) = 0; rw [show stp 0 = 0 from rfl]; exact ih
theorem stp_low {x : Nat} (hx : x < 2147483648) : stp x = 2 * x := by
  unfold stp
  rw [Nat.div_eq_of_lt hx]; simp; omega
theorem it_low (n x : Nat) (h : x * 2 ^ n < 4294967296) : it n x = x * 2 ^ n := by
  induction n generalizing x with
  | zero => simp [it]
  | succ n ih =>
    have hp : 1 ≤ 2 ^ n := Nat.one_le_two_pow
    have h2 : x * 2 * 2 ^ n < 4294967296 := by rw [Nat.pow_succ] at h; rw [Nat.mul_assoc, Nat.mul_comm 2]; exact h
    have hx : x < 2147483648 := by
      have : x * 2 ≤ x * 2 * 2 ^ n := Nat.le_mul_of_pos_right _ hp
      omega
    show it n (stp x) = _
    rw [stp_low hx, Nat.mul_comm 2 x, ih _ h2, Nat.pow_succ, Nat.mul_assoc, Nat.mul_comm 2]
/-- What differs at first differs in the end, moved on. -/
theorem feed_xor (x y : Nat) (b c : UInt8) (hx : x < 4294967296) (hy : y < 4294967296) : feed (x ^^^ y) (b ^^^ c) = feed x b ^^^ feed y c := by
  have hb := b.toNat_lt
  have hc := c.toNat_lt
  unfold feed
  rw [← it_xor 8 (xor_lt hx (by omega)) (xor_lt hy (by omega)), xor4]
  congr 2
  rw [UInt8.toNat_xor]
  have e : ∀ z, z * 16777216 = z <<< 24 := fun z => by rw [Nat.shiftLeft_eq]
  rw [e, e, e, Nat.shiftLeft_xor_distrib]
theorem feed_xor0 (x y : Nat) (b : UInt8) (hx : x < 4294967296) (hy : y < 4294967296) : feed (x ^^^ y) b = feed x b ^^^ it 8 y := by
  have := feed_xor x y b 0 hx hy
  have e : feed y 0 = it 8 y := by unfold feed; rw [show (0 : UInt8).toNat * 16777216 = 0 from rfl, Nat.xor_zero]
  rw [e, show b ^^^ (0 : UInt8) = b from by simp] at this
  exact this
theorem crc_xor0 (l : List UInt8) (x y : Nat) (hx : x < 4294967296) (hy : y < 4294967296) : crc (x ^^^ y) l = crc x l ^^^ it (8 * l.length) y := by
  induction l generalizing x y with
  | nil => rfl
  | cons b l ih =>
    show crc (feed (x ^^^ y) b) l = crc (feed x b) l ^^^ _
    rw [feed_xor0 x y b hx hy, ih _ _ (feed_lt x b hx) (it_lt 8 hy), ← it_add]
    congr 2; simp; omega
theorem crc_append (x : Nat) (a b : List UInt8) : crc x (a ++ b) = crc (crc x a) b := by unfold crc; rw [List.foldl_append]
/-- One bit turned. -/
theorem crc_set (l : List UInt8) (x j r : Nat) (hx : x < 4294967296) (hj : j < l.length) (hr : r < 8) (m : UInt8) (hm : m.toNat = 2 ^ (7 - r)) :
    crc x (l.set j (l[j] ^^^ m)) = crc x l ^^^ it (8 * l.length - (8 * j + r)) 2147483648 := by
  induction l generalizing x j with
  | nil => simp at hj
  | cons b l ih =>
    cases j with
    | zero =>
      show crc (feed x (b ^^^ m)) l = crc (feed x b) l ^^^ _
      have h0 := feed_xor x 0 b m hx (by omega)
      rw [Nat.xor_zero] at h0
      have hfm : feed 0 m = it (8 - r) 2147483648 := by
        unfold feed
        rw [Nat.zero_xor, hm, show (8 : Nat) = r + (8 - r) from by omega, it_add, show r + (8 - r) - r = 8 - r from by omega]
        congr 1
        have hp : 2 ^ (7 - r) * 16777216 * 2 ^ r = 2147483648 := by
          have : (2 : Nat) ^ (7 - r) * 2 ^ r = 128 := by rw [← Nat.pow_add, show 7 - r + r = 7 from by omega]
          calc 2 ^ (7 - r) * 16777216 * 2 ^ r = (2 ^ (7 - r) * 2 ^ r) * 16777216 := by rw [Nat.mul_assoc, Nat.mul_comm 16777216, ← Nat.mul_assoc]
            _ = _ := by rw [this]
        rw [it_low _ _ (by rw [hp]; omega), hp]
      rw [h0, crc_xor0 _ _ _ (feed_lt _ _ hx) (by rw [hfm]; exact it_lt _ (by omega)), hfm, ← it_add]
      congr 2; simp; omega
    | succ j =>
      simp at hj
      show crc (feed x b) (l.set j (l[j] ^^^ m)) = crc (feed x b) l ^^^ _
      rw [ih _ j (feed_lt _ _ hx) hj]
      congr 2; simp; omega
theorem pow_split (i : Nat) (h : i < 32) : it i (2 ^ (31 - i)) = 2147483648 := by
  have hp : (2 : Nat) ^ (31 - i) * 2 ^ i = 2147483648 := by rw [← Nat.pow_add, show 31 - i + i = 31 from by omega]
  rw [it_low _ _ (by rw [hp]; omega), hp]
/-- Four bytes at once. -/
theorem crc_four (x : Nat) (a b c d : UInt8) (hx : x < 4294967296) : crc x [a, b, c, d] = it 32 (x ^^^ (((a.toNat * 256 + b.toNat) * 256 + c.toNat) * 256 + d.toNat)) := by
  have ha := a.toNat_lt
  have hb := b.toNat_lt
  have hc := c.toNat_lt
  have hd := d.toNat_lt
  have s1 : ∀ (x : Nat) (b : UInt8) (v : Nat), x < 4294967296 → v < 16777216 → feed x b ^^^ v * 256 = it 8 (x ^^^ (b.toNat * 16777216 + v)) := by
    intro x b v hx hv
    have hb := b.toNat_lt
    have e : b.toNat * 16777216 + v = b.toNat * 16777216 ^^^ v := by
      have := Nat.two_pow_add_eq_or_of_lt (i := 24) (b := v) (by simpa using hv) b.toNat
      rw [Nat.mul_comm (2 ^ 24)] at this
      have hx0 : b.toNat * 16777216 ^^^ v = b.toNat * 16777216 ||| v := by
        apply Nat.eq_of_testBit_eq
        intro i
        rw [Nat.testBit_xor, Nat.testBit_or]
        by_cases hi : i < 24
        · have : (b.toNat * 16777216).testBit i = false := by rw [show (16777216 : Nat) = 2 ^ 24 from rfl, Nat.testBit_mul_two_pow]; simp; omega
          rw [this]; simp
        · have : v.testBit i = false := Nat.testBit_lt_two_pow (Nat.lt_of_lt_of_le hv (by rw [show (16777216 : Nat) = 2 ^ 24 from rfl]; exact Nat.pow_le_pow_right (by omega) (by omega)))
          rw [this]; simp
      rw [hx0]; exact this
    rw [e, ← Nat.xor_assoc, it_xor 8 (xor_lt hx (by omega)) (by omega), it_low 8 v (by omega)]
    rfl
  show feed (feed (feed (feed x a) b) c) d = _
  have f1 : ∀ (y : Nat) (d : UInt8), feed y d = it 8 (y ^^^ (d.toNat * 65536) * 256) := fun y d => by unfold feed; rw [Nat.mul_assoc]
  rw [f1, s1 _ c _ (feed_lt _ _ (feed_lt _ _ hx)) (by omega)]
  rw [show c.toNat * 16777216 + d.toNat * 65536 = (c.toNat * 65536 + d.toNat * 256) * 256 from by omega]
  rw [s1 _ b _ (feed_lt _ _ hx) (by omega)]
  rw [show b.toNat * 16777216 + (c.toNat * 65536 + d.toNat * 256) = (b.toNat * 65536 + (c.toNat * 256 + d.toNat)) * 256 from by omega]
  rw [s1 _ a _ hx (by omega)]
  rw [← it_add, ← it_add, ← it_add]
  have e : a.toNat * 16777216 + (b.toNat * 65536 + (c.toNat * 256 + d.toNat)) = ((a.toNat * 256 + b.toNat) * 256 + c.toNat) * 256 + d.toNat := by omega
  rw [e]
def zipX (a b : List UInt8) : List UInt8 := List.zipWith (· ^^^ ·) a b
theorem crc_zip (a b : List UInt8) (x y : Nat) (h : a.length = b.length) (hx : x < 4294967296) (hy : y < 4294967296) : crc (x ^^^ y) (zipX a b) = crc x a ^^^ crc y b := by
  induction a generalizing b x y with
  | nil => cases b with | nil => rfl | cons _ _ => simp at h
  | cons c a ih =>
    cases b with
    | nil => simp at h
    | cons d b =>
      show crc (feed (x ^^^ y) (c ^^^ d)) (zipX a b) = crc (feed x c) a ^^^ crc (feed y d) b
      rw [feed_xor x y c d hx hy]
      exact ih b _ _ (by simpa using h) (feed_lt _ _ hx) (feed_lt _ _ hy)
theorem zip_zero (a : List UInt8) : zipX a (List.replicate a.length 0) = a := by
  induction a with
  | nil => rfl
  | cons b a ih => show (b ^^^ 0) :: zipX a (List.replicate a.length 0) = _; rw [ih]; simp
def sumL (l : List UInt8) : Nat := crc 4294967295 l
theorem sumL_lt (l : List UInt8) : sumL l < 4294967296 := crc_lt _ _ (by omega)
theorem together (a b : List UInt8) (h : a.length = b.length) : sumL a ^^^ sumL b = sumL (zipX a b) ^^^ sumL (List.replicate a.length 0) := by
  unfold sumL
  rw [← crc_zip a b _ _ h (by omega) (by omega), ← crc_zip (zipX a b) (List.replicate a.length 0) _ _ (by simp [zipX, h]) (by omega) (by omega)]
  congr 1
  have := zip_zero (zipX a b)
  rw [show (zipX a b).length = a.length from by simp [zipX, h]] at this
  exact this.symm
def bytesL (x : Nat) : List UInt8 := [UInt8.ofNat (x / 16777216 % 256), UInt8.ofNat (x / 65536 % 256), UInt8.ofNat (x / 256 % 256), UInt8.ofNat (x % 256)]
theorem u8nT (n : Nat) (h : n < 256) : (UInt8.ofNat n).toNat = n := by simp [UInt8.toNat_ofNat']; omega
theorem word_bytes (x : Nat) (h : x < 4294967296) : (((UInt8.ofNat (x / 16777216 % 256)).toNat * 256 + (UInt8.ofNat (x / 65536 % 256)).toNat) * 256 + (UInt8.ofNat (x / 256 % 256)).toNat) * 256 + (UInt8.ofNat (x % 256)).toNat = x := by
  rw [u8nT _ (by omega), u8nT _ (by omega), u8nT _ (by omega), u8nT _ (by omega)]; omega
theorem nought (l : List UInt8) : sumL (l ++ bytesL (sumL l)) = 0 := by
  show crc 4294967295 (l ++ bytesL (sumL l)) = 0
  rw [crc_append]
  show crc (sumL l) (bytesL (sumL l)) = 0
  unfold bytesL
  rw [crc_four _ _ _ _ _ (sumL_lt l)]
  rw [word_bytes _ (sumL_lt l), Nat.xor_self, it_0]
def goodL (l : List UInt8) : Bool := decide (4 ≤ l.length) && decide (l.drop (l.length - 4) = bytesL (sumL (l.take (l.length - 4))))
theorem nought_iff (l : List UInt8) (h : 4 ≤ l.length) : sumL l = 0 ↔ l.drop (l.length - 4) = bytesL (sumL (l.take (l.length - 4))) := by
  obtain ⟨p, q, rfl, hq⟩ : ∃ p q, l = p ++ q ∧ q.length = 4 := ⟨l.take (l.length - 4), l.drop (l.length - 4), (List.take_append_drop _ _).symm, by simp; omega⟩
  have e1 : (p ++ q).length - 4 = p.length := by simp [hq]
  rw [e1, List.drop_left, List.take_left]
  constructor
  · intro hs
    obtain ⟨a, b, c, d, rfl⟩ : ∃ a b c d, q = [a, b, c, d] := by
      match q, hq with
      | [a, b, c, d], _ => exact ⟨a, b, c, d, rfl⟩
    have ha := a.toNat_lt
    have hb := b.toNat_lt
    have hc := c.toNat_lt
    have hd := d.toNat_lt
    have hs' : crc (sumL p) [a, b, c, d] = 0 := by
      have : sumL (p ++ [a, b, c, d]) = crc (sumL p) [a, b, c, d] := crc_append _ _ _
      rw [← this]; exact hs
    rw [crc_four _ _ _ _ _ (sumL_lt p)] at hs'
    have hs := hs'
    have h0 := it_zero 32 (xor_lt (sumL_lt p) (by omega)) hs
    have h1 := xor_zero h0
    have h2 : sumL p = ((a.toNat * 256 + b.toNat) * 256 + c.toNat) * 256 + d.toNat := h1
    rw [h2]
    unfold bytesL
    have k1 : (((a.toNat * 256 + b.toNat) * 256 + c.toNat) * 256 + d.toNat) / 16777216 % 256 = a.toNat := by omega
    have k2 : (((a.toNat * 256 + b.toNat) * 256 + c.toNat) * 256 + d.toNat) / 65536 % 256 = b.toNat := by omega
    have k3 : (((a.toNat * 256 + b.toNat) * 256 + c.toNat) * 256 + d.toNat) / 256 % 256 = c.toNat := by omega
    have k4 : (((a.toNat * 256 + b.toNat) * 256 + c.toNat) * 256 + d.toNat) % 256 = d.toNat := by omega
    rw [k1, k2, k3, k4]; simp
  · intro e
    rw [e]; exact nought p
theorem goodL_app (l : List UInt8) : goodL (l ++ bytesL (sumL l)) = true := by
  unfold goodL
  have e1 : (l ++ bytesL (sumL l)).length - 4 = l.length := by simp [bytesL]
  rw [e1, List.drop_left, List.take_left]
  simp [bytesL]
theorem nought_good (l : List UInt8) (h : 4 ≤ l.length) : decide (sumL l = 0) = goodL l := by
  unfold goodL
  rw [decide_eq_true h, Bool.true_and]
  exact decide_eq_decide.2 (nought_iff l h)
/-- Bits turned, one behind the other. -/
def turn1 (bit bys i : Nat) (l : List UInt8) : List UInt8 :=
  if bys / 2 ^ i % 2 = 1 ∧ bit + i < 8 * l.length then l.set ((bit + i) / 8) (l.getD ((bit + i) / 8) 0 ^^^ UInt8.ofNat (2 ^ (7 - (bit + i) % 8))) else l
def turnL (bit bys : Nat) : Nat → List UInt8 → List UInt8
  | 0, l => l
  | i + 1, l => turn1 bit bys i (turnL bit bys i l)
theorem turn1_len (bit bys i : Nat) (l : List UInt8) : (turn1 bit bys i l).length = l.length := by unfold turn1; split <;> simp
theorem turnL_len (bit bys i : Nat) (l : List UInt8) : (turnL bit bys i l).length = l.length := by
  induction i with
  | zero => rfl
  | succ i ih => rw [turnL, turn1_len, ih]
theorem turnL_sum (bit bys : Nat) (l : List UInt8) (hb : bit < 8 * l.length) (i : Nat) (hi : i ≤ 32) :
    ∃ V, V < 4294967296 ∧ V % 2 ^ (32 - i) = 0 ∧ sumL (turnL bit bys i l) = sumL l ^^^ it (8 * l.length - bit) V ∧ (V = 0 → turnL bit bys i l = l) := by
  induction i with
  | zero => exact ⟨0, by omega, by simp, by rw [it_0, Nat.xor_zero]; rfl, fun _ => rfl⟩
  | succ i ih =>
    obtain ⟨V, h1, h2, h3, h4⟩ := ih (by omega)
    have hlen := turnL_len bit bys i l
    have hp : (2 : Nat) ^ (32 - i) = 2 * 2 ^ (32 - (i + 1)) := by rw [show 32 - i = (32 - (i + 1)) + 1 from by omega, Nat.pow_succ]; omega
    have hpp : 0 < (2 : Nat) ^ (32 - (i + 1)) := Nat.two_pow_pos _
    obtain ⟨q, hq⟩ := Nat.dvd_of_mod_eq_zero h2
    rw [turnL]
    by_cases hc : bys / 2 ^ i % 2 = 1 ∧ bit + i < 8 * (turnL bit bys i l).length
    · have hj : (bit + i) / 8 < (turnL bit bys i l).length := by omega
      have e31 : 31 - i = 32 - (i + 1) := by omega
      have hx : V ^^^ 2 ^ (31 - i) = V + 2 ^ (31 - i) := by
        rw [hq, e31, hp]
        apply Nat.eq_of_testBit_eq
        intro k
        have := Nat.two_pow_add_eq_or_of_lt (i := 32 - i) (b := 2 ^ (32 - (i + 1))) (Nat.pow_lt_pow_right (by omega) (by omega)) q
        rw [← hp, this, Nat.testBit_xor, Nat.testBit_or]
        by_cases hk : k = 32 - (i + 1)
        · have : (2 ^ (32 - i) * q).testBit k = false := by rw [Nat.testBit_two_pow_mul]; simp; omega
          rw [this]; simp
        · have : (2 ^ (32 - (i + 1)) : Nat).testBit k = false := by rw [Nat.testBit_two_pow]; simp; omega
          rw [this]; simp
      have hpl : (2 : Nat) ^ (31 - i) < 4294967296 := by
        have : (2 : Nat) ^ (31 - i) ≤ 2 ^ 31 := Nat.pow_le_pow_right (by omega) (by omega)
        omega
      refine ⟨V ^^^ 2 ^ (31 - i), xor_lt h1 hpl, ?_, ?_, ?_⟩
      · rw [hx, hq, e31, hp, Nat.mul_assoc, Nat.mul_comm 2, Nat.mul_assoc]
        have e : 2 ^ (32 - (i + 1)) * (q * 2) + 2 ^ (32 - (i + 1)) = 2 ^ (32 - (i + 1)) * (q * 2 + 1) := by rw [Nat.mul_add, Nat.mul_one]
        rw [e, Nat.mul_mod_right]
      · unfold turn1
        rw [if_pos hc]
        have hm : (UInt8.ofNat (2 ^ (7 - (bit + i) % 8))).toNat = 2 ^ (7 - (bit + i) % 8) := by
          apply u8nT
          have : (2 : Nat) ^ (7 - (bit + i) % 8) ≤ 2 ^ 7 := Nat.pow_le_pow_right (by omega) (by omega)
          omega
        have hs := crc_set (turnL bit bys i l) 4294967295 ((bit + i) / 8) ((bit + i) % 8) (by omega) hj (by omega) _ hm
        have hg : (turnL bit bys i l).getD ((bit + i) / 8) 0 = (turnL bit bys i l)[(bit + i) / 8] := by simp [List.getD_eq_getElem?_getD, hj]
        rw [hg]
        unfold sumL at h3 ⊢
        rw [hs, h3, it_xor _ h1 hpl, Nat.xor_assoc]
        congr 2
        rw [hlen] at hc ⊢
        rw [show 8 * l.length - bit = i + (8 * l.length - (8 * ((bit + i) / 8) + (bit + i) % 8)) from by omega, it_add, pow_split i (by omega)]
      · intro h0
        rw [hx] at h0
        have : 0 < (2 : Nat) ^ (31 - i) := Nat.two_pow_pos _
        omega
    · refine ⟨V, h1, ?_, ?_, ?_⟩
      · rw [hq, hp, Nat.mul_assoc, Nat.mul_left_comm, Nat.mul_mod_right]
      · unfold turn1; rw [if_neg hc]; exact h3
      · intro h0; unfold turn1; rw [if_neg hc]; exact h4 h0
theorem found (bit bys : Nat) (l : List UInt8) (hb : bit < 8 * l.length) : decide (turnL bit bys 32 l = l) = decide (sumL (turnL bit bys 32 l) = sumL l) := by
  obtain ⟨V, h1, _, h3, h4⟩ := turnL_sum bit bys l hb 32 (Nat.le_refl _)
  refine decide_eq_decide.2 ⟨fun h => by rw [h], fun h => h4 ?_⟩
  rw [h3] at h
  refine it_zero (8 * l.length - bit) h1 ?_
  have := congrArg (fun z => sumL l ^^^ z) h
  simp only [Nat.xor_self, ← Nat.xor_assoc, Nat.zero_xor] at this
  exact this
theorem sum_example : sumL [49, 50, 51, 52, 53, 54, 55, 56, 57] = 58124007 := by decide +kernel
theorem it_snoc (n x : Nat) : it (n + 1) x = stp (it n x) := it_add n 1 x
theorem sumL_snoc (l : List UInt8) (b : UInt8) : sumL (l ++ [b]) = feed (sumL l) b := crc_append _ _ _
attribute [irreducible] it sumL bytesL goodL turnL turn1
end Go.Proofs.Ytbgooppmhgaicab
