
/-
  Plain mathematics of octet's encodings: bytes of numbers, of texts and of lists. No dump.
-/
import Derived.WalkKit
namespace Go.Proofs.Ytokakgjcegmabaa
set_option linter.unusedVariables false
set_option linter.unusedSimpArgs false
open Go.RowKit

/-- A byte that another one follows; the last one. -/
def contB (m : Nat) : UInt8 := UInt8.ofNat (m % 128 + 128)
def lastB (m : Nat) : UInt8 := UInt8.ofNat m
/-- The bytes of a number: seven bits a byte, the last one below 128. -/
def encN (n : Nat) : List UInt8 := if h : n < 128 then [lastB n] else contB n :: encN (n / 128)
termination_by n
decreasing_by omega

theorem encN_lt {n : Nat} (h : n < 128) : encN n = [lastB n] := by rw [encN, dif_pos h]
theorem encN_ge {n : Nat} (h : 128 ≤ n) : encN n = contB n :: encN (n / 128) := by rw [encN, dif_neg (by omega)]

theorem encN_len (k n : Nat) (h : n < 128 ^ (k + 1)) : (encN n).length ≤ k + 1 := by
  induction k generalizing n with
  | zero => rw [encN_lt (by simpa using h)]; simp
  | succ k ih =>
    by_cases h1 : n < 128
    · rw [encN_lt h1]; simp
    · rw [encN_ge (by omega)]
      have : n / 128 < 128 ^ (k + 1) := by
        rw [Nat.div_lt_iff_lt_mul (by omega)]
        rw [Nat.pow_succ] at h; exact h
      have := ih _ this
      simp; omega
theorem encN_len64 (n : Nat) (h : n < 18446744073709551616) : (encN n).length ≤ 10 := encN_len 9 n (by omega)
theorem encN_pos (n : Nat) : 0 < (encN n).length := by
  by_cases h : n < 128
  · rw [encN_lt h]; simp
  · rw [encN_ge (by omega)]; simp

theorem hidp {p : Prop} (h : p) : Hid p := h

/-- A byte as a cell. -/
def bv (l : List UInt8) : List Value := l.map fun b => .int .u8 b.toNat
theorem bv_nil : bv [] = [] := rfl
theorem bv_length (l : List UInt8) : (bv l).length = l.length := by simp [bv]
theorem bv_append (a b : List UInt8) : bv (a ++ b) = bv a ++ bv b := by simp [bv]
theorem bv_one (b : UInt8) : bv [b] = [.int .u8 b.toNat] := rfl

/-- A row of bytes that the call itself has made. -/
def Own (w : World) (B e : Nat) (v : Value) (l : List UInt8) : Prop := w.ownsRow B e 1 v l.length (bv l)
theorem Own.nil (w : World) (B e : Nat) : Own w B e (.slice none 0 0) [] := World.ownsRow_nil w B e 1
theorem Own.kept {w w' : World} {B C e : Nat} {v : Value} {l : List UInt8} (h : Own w B e v l) (hb : Below C w w') (hC : w.heap.size ≤ C) : Own w' B e v l := by
  refine ⟨h.1, ?_⟩
  rcases h.2 with hn | ⟨g, cap, cur, rfl, hb', hgg, rest⟩
  · exact .inl hn
  · refine .inr ⟨g, cap, cur, rfl, hb', ?_, rest⟩
    rw [hb.block g (by have := (Array.getElem?_eq_some_iff.1 hgg).1; omega)]
    exact hgg
theorem Own.alloc {w : World} {B e : Nat} {v : Value} {l : List UInt8} (h : Own w B e v l) (o : Obj) : Own (w.alloc o) B e v l := World.ownsRow.alloc h o

/-- 'append(v, b)' onto a row of the call's own: the operation, for the walk. -/
theorem wpList_app1 {P : Program} {w : World} {ops : Array Oper} {rest : List Oper} {o : Oper} {a : Act} {Q : Exit → Act → World → Prop} (hgd : o.guard = none) (s x : Operand) (t : TypeId)
    (ho : o.op = .call { callee := .builtin .append, args := #[s, x], argTypes := #[t, t] }) (B e : Nat) (i : TypeInfo) (ht : P.underlying t = some (.slice e)) (hi : P.info? e = some i)
    (hz0 : i.zero = some (.int .u8 0)) (hz1 : i.size = 1) (hz2 : i.bytes = 1) (v : Value) (l : List UInt8) (hs : a.eval s = v) (hown : Own w B e v l) (ad : Addr) (c : Nat) (z : Int) (b : UInt8)
    (hx : a.eval x = .slice (some ad) 1 c) (hc : w.cell? ad = some (.int .u8 z)) (hz : z = b.toNat) (hlen : l.length + 1 ≤ 140737488351232) (hB : B ≤ w.heap.size)
    (h : ∀ v' w', Own w' B e v' (l ++ [b]) → Below B w w' → wpList P ops Q rest (a.put o.dst v') w') : wpList P ops Q (o :: rest) a w := by
  subst hz
  refine wpList_append_own w hgd s x t ho B e i (.int .u8 0) 1 1 ht hi hz0 hz1 hz2 rfl (by decide) v l.length (bv l) hs hown ad 1 c [.int .u8 b.toNat] hx rfl ?_ ?_ (by unfold maxLen; omega) (by omega) hB ?_
  · intro j u hj
    match j, hj with
    | 0, hj => simp at hj; subst hj; simpa [Addr.add] using hc
  · intro u hu; simp at hu; subst hu; rfl
  · intro v' w' h1 h2 _
    refine h v' w' ?_ ((Below.refl B w).grown h2 hB fun k hk => (World.ownsRow.lt hown k hk).1)
    unfold Own; rw [bv_append, bv_one, List.length_append]; exact h1

theorem u8n (n : Nat) (h : n < 256) : (UInt8.ofNat n).toNat = n := by simp [UInt8.toNat_ofNat']; omega
theorem cell_new1 (w : World) (z : Value) (e : Nat) (fz : Nat × Nat := (0, 0)) : (w.alloc (.cells #[z] e fz)).cell? ⟨w.heap.size, 0, none⟩ = some z := by
  have h : (w.alloc (.cells #[z] e fz)).heap[w.heap.size]? = some (.cells #[z] e fz) := heap_alloc_new w _
  unfold World.cell?; dsimp only; rw [h]; rfl
/-- A text of bytes. -/
def mkS (l : List UInt8) : ByteArray := ⟨l.toArray⟩
theorem mkS_size (l : List UInt8) : (mkS l).size = l.length := by simp [mkS, ByteArray.size]
theorem mkS_append (a b : List UInt8) : mkS a ++ mkS b = mkS (a ++ b) := by unfold mkS; exact ByteArray.mk_append_mk a b
theorem mkS_of (s : ByteArray) : mkS s.data.toList = s := rfl
theorem mkS_data (l : List UInt8) : (mkS l).data.toList = l := rfl
theorem mkS_toList (l : List UInt8) : (mkS l).toList = l := by rw [ByteArray.toList_eq]; rfl
theorem mkS_inj {a b : List UInt8} (h : mkS a = mkS b) : a = b := by have := congrArg (fun s => s.data.toList) h; simpa [mkS_data] using this
theorem nums_mkS (l : List UInt8) : strOfNums (l.map fun b => (b.toNat : Int)) = mkS l := by
  unfold mkS strOfNums
  congr 2
  rw [List.map_map]
  conv => rhs; rw [← List.map_id l]
  apply List.map_congr_left
  intro b _
  simp

/-- Cells that are these bytes. -/
def AtB (w : World) (a : Addr) (l : List UInt8) : Prop := ∀ i, i < l.length → w.cell? ⟨a.block, a.off + i, none⟩ = some (.int .u8 (l.getD i 0).toNat)

/-- 'string(v)' of bytes in memory. -/
theorem run_str_at {P : Program} {w : World} {src e dst : TypeId} (hs : P.underlying src = some (.slice e)) (he : P.underlying e = some (.int .u8)) (hd : P.underlying dst = some .string)
    (b off cap : Nat) (l : List UInt8) (h : AtB w ⟨b, off, none⟩ l) : (convert src dst (.slice (some ⟨b, off, none⟩) l.length cap)).run P w = .ok (.string (mkS l)) w := by
  rw [← nums_mkS]
  refine run_convert_bytes_arg w src e hs he b off l.length cap (l.map fun b => (b.toNat : Int)) (by simp) (fun i hi => ?_) dst hd
  rw [h i hi]
  simp [List.getD_eq_getElem?_getD, hi]
theorem Own.at {w : World} {B e : Nat} {g cap : Nat} {l : List UInt8} (h : Own w B e (.slice (some ⟨g, 0, none⟩) l.length cap) l) : AtB w ⟨g, 0, none⟩ l := by
  intro i hi
  have := World.ownsRow.cells h (g := g) rfl i (.int .u8 (l.getD i 0).toNat) (by simp [bv, hi, List.getD_eq_getElem?_getD])
  have e : (⟨g, 0, none⟩ : Addr).add i = ⟨g, 0 + i, none⟩ := by unfold Addr.add; split <;> simp_all
  rw [e] at this; exact this
/-- 'string(v)' of a row of the call's own. -/
theorem run_str_own {P : Program} {w : World} {src e dst : TypeId} (hs : P.underlying src = some (.slice e)) (he : P.underlying e = some (.int .u8)) (hd : P.underlying dst = some .string)
    {B : Nat} {v : Value} {l : List UInt8} (h : Own w B e v l) : (convert src dst v).run P w = .ok (.string (mkS l)) w := by
  have h' := h
  rcases h'.2 with ⟨rfl, hn⟩ | ⟨g, cap, cur, rfl, _⟩
  · have : l = [] := List.eq_nil_of_length_eq_zero hn
    subst this
    exact run_convert_bytes_nil w src e hs he 0 0 dst hd
  · exact run_str_at hs he hd g 0 cap l h.at
/-- 'string([]byte{b})'. -/
theorem run_str_one {P : Program} {w : World} {src e dst : TypeId} (hs : P.underlying src = some (.slice e)) (he : P.underlying e = some (.int .u8)) (hd : P.underlying dst = some .string)
    (z : Int) (b : UInt8) (hz : z = b.toNat) : (convert src dst (.slice (some ⟨w.heap.size, 0, none⟩) 1 1)).run P (w.alloc (.cells #[.int .u8 z] e)) = .ok (.string (mkS [b])) (w.alloc (.cells #[.int .u8 z] e)) := by
  refine run_str_at hs he hd w.heap.size 0 1 [b] fun i hi => ?_
  obtain rfl : i = 0 := by simpa using hi
  have := cell_new1 w (.int .u8 z) e
  rw [hz] at this ⊢
  simp only [Nat.add_zero]; exact this

theorem heap_size_alloc (w : World) (o : Obj) : (w.alloc o).heap.size = w.heap.size + 1 := by simp

theorem and127_u64 (m : Nat) (h : m < 18446744073709551616) : bits .and .u64 (m : Int) 127 = ((m % 128 : Nat) : Int) := by
  have := Go.u64_and_nat m 127 h (by omega)
  rw [show ((127 : Nat) : Int) = 127 from rfl] at this
  rw [this, show m &&& 127 = m % 128 from Nat.and_two_pow_sub_one_eq_mod m 7]
theorem or128 (a : Nat) (h : a < 128) : a ||| 128 = a + 128 := by
  have := Nat.two_pow_add_eq_or_of_lt (i := 7) (b := a) (by simpa using h) 1
  rw [Nat.or_comm]; simpa [Nat.add_comm] using this.symm
theorem cont_byte (m : Nat) (h : m < 18446744073709551616) : bits .or .u8 (bits .and .u64 (m : Int) 127 % 256) 128 = ((contB m).toNat : Int) := by
  rw [and127_u64 m h]
  have := Go.u8_or_nat (m % 128) 128 (by omega) (by omega)
  rw [show (((m % 128 : Nat) : Int) % 256) = ((m % 128 : Nat) : Int) from by omega]
  rw [show ((128 : Nat) : Int) = 128 from rfl] at this
  rw [this, or128 _ (by omega)]; unfold contB; rw [u8n _ (by omega)]
theorem last_byte (m : Nat) (h : m < 128) : (m : Int) = ((lastB m).toNat : Int) := by unfold lastB; rw [u8n _ (by omega)]
theorem snoc_encN (m : Nat) (ys zs : List UInt8) (h : 128 ≤ m) (e : ys ++ encN m = zs) : (ys ++ [contB m]) ++ encN (m / 128) = zs := by
  rw [← e, encN_ge h]; simp
theorem last_encN (m : Nat) (ys zs : List UInt8) (h : m < 128) (e : ys ++ encN m = zs) : ys ++ [lastB m] = zs := by
  rw [← e, encN_lt h]

/-- The number that bytes stand for. -/
def valN : List UInt8 → Nat
  | [] => 0
  | b :: r => b.toNat % 128 + 128 * valN r
/-- What is read at the beginning of bytes, i of which are read: the number, its size, the error. -/
def gnAux : Nat → Nat → Nat → List UInt8 → Nat × Nat × Nat
  | 0, _, _, _ => (0, 0, 6)
  | _ + 1, _, _, [] => (0, 0, 5)
  | k + 1, i, acc, b :: r =>
    if 128 ≤ b.toNat then gnAux k (i + 1) (acc + b.toNat % 128 * 128 ^ i) r
    else if 0 < i ∧ b.toNat = 0 ∨ 281474976710656 < acc + b.toNat % 128 * 128 ^ i then (0, 0, 6)
    else (acc + b.toNat % 128 * 128 ^ i, i + 1, 0)
def gn (l : List UInt8) : Nat × Nat × Nat := gnAux 7 0 0 l

theorem valN_snoc (p : List UInt8) (b : UInt8) : valN (p ++ [b]) = valN p + b.toNat % 128 * 128 ^ p.length := by
  induction p with
  | nil => simp [valN]
  | cons a p ih => simp only [List.cons_append, valN, ih, List.length_cons, Nat.pow_succ]; rw [Nat.mul_add, Nat.add_assoc]; congr 2; rw [Nat.mul_left_comm, Nat.mul_comm 128]
theorem valN_lt (p : List UInt8) : valN p < 128 ^ p.length := by
  induction p with
  | nil => simp [valN]
  | cons a p ih => simp only [valN, List.length_cons, Nat.pow_succ]; omega
theorem enc_val (p : List UInt8) (b : UInt8) (hp : ∀ x ∈ p, 128 ≤ x.toNat) (hb : b.toNat < 128) (h : p = [] ∨ b.toNat ≠ 0) : encN (valN (p ++ [b])) = p ++ [b] := by
  induction p with
  | nil =>
    have e : valN ([] ++ [b]) = b.toNat := by simp [valN]; omega
    rw [e, encN_lt hb]; simp [lastB]
  | cons a p ih =>
    have ha := hp a (by simp)
    have ha2 := a.toNat_lt
    have hpos : 0 < valN (p ++ [b]) := by
      have hb' : b.toNat ≠ 0 := by simpa using h
      rw [valN_snoc]
      have : 0 < b.toNat % 128 * 128 ^ p.length := Nat.mul_pos (by omega) (Nat.pow_pos (by omega))
      omega
    have e : valN ((a :: p) ++ [b]) = a.toNat % 128 + 128 * valN (p ++ [b]) := rfl
    rw [e, encN_ge (by omega)]
    have e1 : (a.toNat % 128 + 128 * valN (p ++ [b])) / 128 = valN (p ++ [b]) := by omega
    have e2 : contB (a.toNat % 128 + 128 * valN (p ++ [b])) = a := by
      unfold contB
      rw [show (a.toNat % 128 + 128 * valN (p ++ [b])) % 128 + 128 = a.toNat from by omega]
      simp
    rw [e1, e2, ih (fun x hx => hp x (by simp [hx])) (by right; simpa using h)]
    rfl
theorem encN_last (n : Nat) (p : List UInt8) (b : UInt8) (h : encN n = p ++ [b]) (hb : b.toNat = 0) : p = [] := by
  induction p generalizing n with
  | nil => rfl
  | cons a p ih =>
    exfalso
    by_cases hn : n < 128
    · rw [encN_lt hn] at h; have := congrArg List.length h; simp at this
    · rw [encN_ge (by omega)] at h
      simp only [List.cons_append, List.cons.injEq] at h
      have hp := ih _ h.2
      subst hp
      have h2 := h.2
      by_cases hn2 : n / 128 < 128
      · rw [encN_lt hn2] at h2
        simp [lastB] at h2
        have := congrArg UInt8.toNat h2
        rw [u8n _ (by omega)] at this; omega
      · rw [encN_ge (by omega)] at h2; simp only [List.nil_append, List.cons.injEq] at h2; have := encN_pos (n / 128 / 128); rw [h2.2] at this; simp at this

theorem pow128 (i : Nat) : 128 ^ i = 2 ^ (7 * i) := by rw [Nat.pow_mul]
theorem pow128_le {i j : Nat} (h : i ≤ j) : 128 ^ i ≤ 128 ^ j := Nat.pow_le_pow_right (by omega) h
theorem mul128_lt (c i : Nat) (hc : c < 128) : c * 128 ^ i < 128 ^ (i + 1) := by rw [Nat.pow_succ, Nat.mul_comm]; exact Nat.mul_lt_mul_of_pos_left hc (Nat.pow_pos (by omega))
theorem and127_u8 (b : Nat) (h : b < 256) : bits .and .u8 (b : Int) 127 = ((b % 128 : Nat) : Int) := by
  have := Go.u8_and_nat b 127 h (by omega)
  rw [show ((127 : Nat) : Int) = 127 from rfl] at this
  rw [this, show b &&& 127 = b % 128 from Nat.and_two_pow_sub_one_eq_mod b 7]
theorem and128_u8 : ∀ b : Fin 256, (bits .and .u8 (b.val : Int) 128 != 0) = decide (128 ≤ b.val) := by decide +kernel
theorem and128_yes (b : Nat) (h : b < 256) (h1 : 128 ≤ b) : (bits .and .u8 (b : Int) 128 != 0) = true := by
  have := and128_u8 ⟨b, h⟩; simp only [this]; simpa using h1
theorem and128_no (b : Nat) (h1 : b < 128) : (bits .and .u8 (b : Int) 128 != 0) = false := by
  have := and128_u8 ⟨b, by omega⟩; simp only [this]; simpa using h1
theorem or_step (acc b i : Nat) (hb : b < 256) (hi : i < 7) (ha : acc < 128 ^ i) :
    bits .or .u64 (acc : Int) (IntKind.u64.wrap (IntKind.u64.wrap (bits .and .u8 (b : Int) 127) * 2 ^ (7 * i))) = ((acc + b % 128 * 128 ^ i : Nat) : Int) := by
  have h6 : 128 ^ (i + 1) ≤ 128 ^ 7 := pow128_le (by omega)
  have h7 : (128 : Nat) ^ 7 = 562949953421312 := by decide
  have hm := mul128_lt (b % 128) i (by omega)
  have hi1 : 128 ^ i ≤ 128 ^ 7 := pow128_le (by omega)
  have e2 : ((2 : Int) ^ (7 * i)) = ((128 ^ i : Nat) : Int) := by rw [pow128]; simp
  rw [and127_u8 b hb, e2]
  rw [show IntKind.u64.wrap ((b % 128 : Nat) : Int) = ((b % 128 : Nat) : Int) from IntWalk.u64_in _ ⟨by omega, by omega⟩]
  rw [← Int.natCast_mul]
  rw [show IntKind.u64.wrap ((b % 128 * 128 ^ i : Nat) : Int) = ((b % 128 * 128 ^ i : Nat) : Int) from IntWalk.u64_in _ ⟨by omega, by omega⟩]
  rw [Go.bits_or_u64_nat acc (b % 128 * 128 ^ i) (by omega) (by omega)]
  have := Nat.two_pow_add_eq_or_of_lt (i := 7 * i) (b := acc) (by rw [← pow128]; exact ha) (b % 128)
  rw [← pow128] at this
  rw [Nat.mul_comm (b % 128), Nat.or_comm, ← this, Nat.add_comm]
theorem acc_lt (acc b i : Nat) (ha : acc < 128 ^ i) : acc + b % 128 * 128 ^ i < 128 ^ (i + 1) := by
  have h : b % 128 * 128 ^ i ≤ 127 * 128 ^ i := Nat.mul_le_mul_right _ (by omega)
  rw [Nat.pow_succ]; omega
theorem drop_byte (s : ByteArray) (i : Nat) (h : i < s.size) : s.data.toList.drop i = s[i]'h :: s.data.toList.drop (i + 1) := by
  rw [List.drop_eq_getElem_cons (by simpa using h)]; rfl
theorem drop_end (s : ByteArray) (i : Nat) (h : s.size ≤ i) : s.data.toList.drop i = [] := by
  apply List.drop_eq_nil_of_le; simpa using h
end Go.Proofs.Ytokakgjcegmabaa
