
/-
  Plain mathematics of sha: SHA-256 over natural numbers. No dump.
-/
import Derived.Test.YtgfdhgnkanekhaaDoorOctM
namespace Go.Proofs.YtgfdhgnkanekhaaDoor
set_option linter.unusedVariables false
set_option linter.unusedSimpArgs false
open Go.RowKit

def rotr (n x : Nat) : Nat := x / 2 ^ n ||| x * 2 ^ (32 - n) % 4294967296
def add32 (a b : Nat) : Nat := (a + b) % 4294967296
def sg0 (x : Nat) : Nat := (rotr 7 x ^^^ rotr 18 x) ^^^ x / 8
def sg1 (x : Nat) : Nat := (rotr 17 x ^^^ rotr 19 x) ^^^ x / 1024
def bs0 (x : Nat) : Nat := (rotr 2 x ^^^ rotr 13 x) ^^^ rotr 22 x
def bs1 (x : Nat) : Nat := (rotr 6 x ^^^ rotr 11 x) ^^^ rotr 25 x
def chf (e f g : Nat) : Nat := (e &&& f) ^^^ ((4294967295 ^^^ e) &&& g)
def maj (a b c : Nat) : Nat := ((a &&& b) ^^^ (a &&& c)) ^^^ (b &&& c)
def kk : List Nat := [1116352408, 1899447441, 3049323471, 3921009573, 961987163, 1508970993, 2453635748, 2870763221, 3624381080, 310598401, 607225278, 1426881987, 1925078388, 2162078206, 2614888103, 3248222580, 3835390401, 4022224774, 264347078, 604807628, 770255983, 1249150122, 1555081692, 1996064986, 2554220882, 2821834349, 2952996808, 3210313671, 3336571891, 3584528711, 113926993, 338241895, 666307205, 773529912, 1294757372, 1396182291, 1695183700, 1986661051, 2177026350, 2456956037, 2730485921, 2820302411, 3259730800, 3345764771, 3516065817, 3600352804, 4094571909, 275423344, 430227734, 506948616, 659060556, 883997877, 958139571, 1322822218, 1537002063, 1747873779, 1955562222, 2024104815, 2227730452, 2361852424, 2428436474, 2756734187, 3204031479, 3329325298]
/-- Word t of a block's bytes; a later word. -/
def firstW (l : List UInt8) (t : Nat) : Nat := (((l.getD (4 * t) 0).toNat * 256 + (l.getD (4 * t + 1) 0).toNat) * 256 + (l.getD (4 * t + 2) 0).toNat) * 256 + (l.getD (4 * t + 3) 0).toNat
def nextW (ws : List Nat) (t : Nat) : Nat := add32 (add32 (add32 (ws.getD (t - 16) 0) (sg0 (ws.getD (t - 15) 0))) (ws.getD (t - 7) 0)) (sg1 (ws.getD (t - 2) 0))
def sched (l : List UInt8) : Nat → List Nat
  | 0 => []
  | t + 1 => sched l t ++ [if t < 16 then firstW l t else nextW (sched l t) t]
structure S8 where
  a : Nat
  b : Nat
  c : Nat
  d : Nat
  e : Nat
  f : Nat
  g : Nat
  h : Nat
def t1f (s : S8) (k w : Nat) : Nat := add32 (add32 (add32 (add32 s.h (bs1 s.e)) (chf s.e s.f s.g)) k) w
def t2f (s : S8) : Nat := add32 (bs0 s.a) (maj s.a s.b s.c)
def stp (s : S8) (k w : Nat) : S8 := ⟨add32 (t1f s k w) (t2f s), s.a, s.b, s.c, add32 s.d (t1f s k w), s.e, s.f, s.g⟩
def rounds8 (ws : List Nat) : Nat → S8 → S8
  | 0, s => s
  | t + 1, s => stp (rounds8 ws t s) (kk.getD t 0) (ws.getD t 0)
def comp (v : S8) (l : List UInt8) : S8 :=
  let r := rounds8 (sched l 64) 64 v
  ⟨add32 v.a r.a, add32 v.b r.b, add32 v.c r.c, add32 v.d r.d, add32 v.e r.e, add32 v.f r.f, add32 v.g r.g, add32 v.h r.h⟩
def S8.list (s : S8) : List Nat := [s.a, s.b, s.c, s.d, s.e, s.f, s.g, s.h]
def S8.ok (s : S8) : Prop := ∀ x ∈ s.list, x < 4294967296
def init8 : S8 := ⟨1779033703, 3144134277, 1013904242, 2773480762, 1359893119, 2600822924, 528734635, 1541459225⟩

theorem add32_lt (a b : Nat) : add32 a b < 4294967296 := Nat.mod_lt _ (by omega)
theorem lt32_or {a b : Nat} (ha : a < 4294967296) (hb : b < 4294967296) : a ||| b < 4294967296 := Nat.or_lt_two_pow (n := 32) ha hb
theorem lt32_xor {a b : Nat} (ha : a < 4294967296) (hb : b < 4294967296) : a ^^^ b < 4294967296 := Nat.xor_lt_two_pow (n := 32) ha hb
theorem lt32_and {a b : Nat} (ha : a < 4294967296) : a &&& b < 4294967296 := Nat.lt_of_le_of_lt Nat.and_le_left ha
theorem lt32_div {a n : Nat} (ha : a < 4294967296) : a / n < 4294967296 := Nat.lt_of_le_of_lt (Nat.div_le_self _ _) ha
theorem rotr_lt (n x : Nat) (h : x < 4294967296) : rotr n x < 4294967296 := lt32_or (lt32_div h) (Nat.mod_lt _ (by omega))
theorem sg0_lt (x : Nat) (h : x < 4294967296) : sg0 x < 4294967296 := lt32_xor (lt32_xor (rotr_lt _ _ h) (rotr_lt _ _ h)) (lt32_div h)
theorem sg1_lt (x : Nat) (h : x < 4294967296) : sg1 x < 4294967296 := lt32_xor (lt32_xor (rotr_lt _ _ h) (rotr_lt _ _ h)) (lt32_div h)
theorem bs0_lt (x : Nat) (h : x < 4294967296) : bs0 x < 4294967296 := lt32_xor (lt32_xor (rotr_lt _ _ h) (rotr_lt _ _ h)) (rotr_lt _ _ h)
theorem bs1_lt (x : Nat) (h : x < 4294967296) : bs1 x < 4294967296 := lt32_xor (lt32_xor (rotr_lt _ _ h) (rotr_lt _ _ h)) (rotr_lt _ _ h)
theorem chf_lt (e f g : Nat) (h : e < 4294967296) : chf e f g < 4294967296 := lt32_xor (lt32_and h) (lt32_and (lt32_xor (by omega) h))
theorem maj_lt (a b c : Nat) (h : a < 4294967296) (h' : b < 4294967296) : maj a b c < 4294967296 := lt32_xor (lt32_xor (lt32_and h) (lt32_and h)) (lt32_and h')
theorem t1f_lt (s : S8) (k w : Nat) : t1f s k w < 4294967296 := add32_lt _ _
theorem firstW_lt (l : List UInt8) (t : Nat) : firstW l t < 4294967296 := by
  unfold firstW
  have h1 := (l.getD (4 * t) 0).toNat_lt
  have h2 := (l.getD (4 * t + 1) 0).toNat_lt
  have h3 := (l.getD (4 * t + 2) 0).toNat_lt
  have h4 := (l.getD (4 * t + 3) 0).toNat_lt
  omega
theorem sched_len (l : List UInt8) (t : Nat) : (sched l t).length = t := by
  induction t with
  | zero => rfl
  | succ t ih => simp [sched, ih]
theorem sched_lt (l : List UInt8) (t : Nat) : ∀ x ∈ sched l t, x < 4294967296 := by
  induction t with
  | zero => simp [sched]
  | succ t ih =>
    intro x hx
    rw [sched, List.mem_append] at hx
    rcases hx with hx | hx
    · exact ih x hx
    · simp at hx; subst hx; split
      · exact firstW_lt _ _
      · exact add32_lt _ _
theorem sched_getD_lt (l : List UInt8) (t i : Nat) : (sched l t).getD i 0 < 4294967296 := by
  rw [List.getD_eq_getElem?_getD]
  cases h : (sched l t)[i]? with
  | none => simp
  | some x => exact sched_lt l t x (List.mem_of_getElem? h)
/-- The first words do not hang on how many there are. -/
theorem sched_prefix (l : List UInt8) (t n i : Nat) (ht : t ≤ n) (hi : i < t) : (sched l n).getD i 0 = (sched l t).getD i 0 := by
  induction n with
  | zero => omega
  | succ n ih =>
    by_cases h : t = n + 1
    · rw [h]
    · rw [← ih (by omega), sched, List.getD_eq_getElem?_getD, List.getElem?_append_left (by rw [sched_len]; omega), ← List.getD_eq_getElem?_getD]
theorem kk_lt (i : Nat) : kk.getD i 0 < 4294967296 := by
  by_cases h : i < 64
  · have : ∀ i : Fin 64, kk.getD i.val 0 < 4294967296 := by decide +kernel
    exact this ⟨i, h⟩
  · rw [List.getD_eq_getElem?_getD, List.getElem?_eq_none (by have : kk.length = 64 := by decide
                                                              omega)]; simp
theorem stp_ok (s : S8) (k w : Nat) (h : s.ok) : (stp s k w).ok := by
  unfold S8.ok S8.list at *
  simp only [List.mem_cons, List.not_mem_nil, or_false, forall_eq_or_imp, forall_eq] at h
  obtain ⟨h1, h2, h3, h4, h5, h6, h7, h8⟩ := h
  simp only [stp, List.mem_cons, List.not_mem_nil, or_false, forall_eq_or_imp, forall_eq]
  exact ⟨add32_lt _ _, h1, h2, h3, add32_lt _ _, h5, h6, h7⟩
theorem rounds8_ok (ws : List Nat) (t : Nat) (s : S8) (h : s.ok) : (rounds8 ws t s).ok := by
  induction t with
  | zero => exact h
  | succ t ih => exact stp_ok _ _ _ ih
theorem comp_ok (v : S8) (l : List UInt8) : (comp v l).ok := by
  unfold S8.ok S8.list comp
  simp only [List.mem_cons, List.not_mem_nil, or_false, forall_eq_or_imp, forall_eq]
  exact ⟨add32_lt _ _, add32_lt _ _, add32_lt _ _, add32_lt _ _, add32_lt _ _, add32_lt _ _, add32_lt _ _, add32_lt _ _⟩
theorem init8_ok : init8.ok := by unfold S8.ok S8.list init8; decide

/-! The walk's words for these. -/
theorem xor32 (a b : Nat) (ha : a < 4294967296) (hb : b < 4294967296) : bits .xor .u32 (a : Int) (b : Int) = ((a ^^^ b : Nat) : Int) := Go.u32_xor_nat a b ha hb
theorem or32 (a b : Nat) (ha : a < 4294967296) (hb : b < 4294967296) : bits .or .u32 (a : Int) (b : Int) = ((a ||| b : Nat) : Int) := Go.u32_or_nat a b ha hb
theorem and32 (a b : Nat) (ha : a < 4294967296) (hb : b < 4294967296) : bits .and .u32 (a : Int) (b : Int) = ((a &&& b : Nat) : Int) := Go.u32_and_nat a b ha hb
theorem wrap_add32 (a b : Nat) : IntKind.u32.wrap ((a : Int) + (b : Int)) = ((add32 a b : Nat) : Int) := by
  rw [IntKind.wrap_u32]; unfold add32; omega
theorem rot_eq (n x : Nat) (P Q : Int) (hP : P = ((2 ^ n : Nat) : Int)) (hQ : Q = ((2 ^ (32 - n) : Nat) : Int)) (hx : x < 4294967296) : bits .or .u32 ((x : Int) / P) ((x : Int) * Q % 4294967296) = ((rotr n x : Nat) : Int) := by
  subst hP hQ
  have e1 : (x : Int) / ((2 ^ n : Nat) : Int) = ((x / 2 ^ n : Nat) : Int) := by simp
  have e2 : (x : Int) * ((2 ^ (32 - n) : Nat) : Int) % 4294967296 = ((x * 2 ^ (32 - n) % 4294967296 : Nat) : Int) := by simp
  rw [e1, e2, or32 _ _ (lt32_div hx) (Nat.mod_lt _ (by omega))]
  rfl
theorem rot_eq' (n x : Nat) (P Q : Int) (hP : P = ((2 ^ n : Nat) : Int)) (hQ : Q = ((2 ^ (32 - n) : Nat) : Int)) (hx : x < 4294967296) : bits .or .u32 ((x : Int) * Q % 4294967296) ((x : Int) / P) = ((rotr n x : Nat) : Int) := by
  subst hP hQ
  have e1 : (x : Int) / ((2 ^ n : Nat) : Int) = ((x / 2 ^ n : Nat) : Int) := by simp
  have e2 : (x : Int) * ((2 ^ (32 - n) : Nat) : Int) % 4294967296 = ((x * 2 ^ (32 - n) % 4294967296 : Nat) : Int) := by simp
  rw [e1, e2, or32 _ _ (Nat.mod_lt _ (by omega)) (lt32_div hx)]
  unfold rotr; rw [Nat.or_comm]

theorem mod_add32 (a b : Nat) : ((a : Int) + (b : Int)) % 4294967296 = ((add32 a b : Nat) : Int) := by unfold add32; omega
theorem sg0_eq (x : Nat) (h : x < 4294967296) : bits .xor .u32 (bits .xor .u32 ((rotr 7 x : Nat) : Int) ((rotr 18 x : Nat) : Int)) ((x : Int) / 8) = ((sg0 x : Nat) : Int) := by
  have e : (x : Int) / 8 = ((x / 8 : Nat) : Int) := by simp
  rw [xor32 _ _ (rotr_lt _ _ h) (rotr_lt _ _ h), e, xor32 _ _ (lt32_xor (rotr_lt _ _ h) (rotr_lt _ _ h)) (lt32_div h)]; rfl
theorem sg1_eq (x : Nat) (h : x < 4294967296) : bits .xor .u32 (bits .xor .u32 ((rotr 17 x : Nat) : Int) ((rotr 19 x : Nat) : Int)) ((x : Int) / 1024) = ((sg1 x : Nat) : Int) := by
  have e : (x : Int) / 1024 = ((x / 1024 : Nat) : Int) := by simp
  rw [xor32 _ _ (rotr_lt _ _ h) (rotr_lt _ _ h), e, xor32 _ _ (lt32_xor (rotr_lt _ _ h) (rotr_lt _ _ h)) (lt32_div h)]; rfl
theorem bs0_eq (x : Nat) (h : x < 4294967296) : bits .xor .u32 (bits .xor .u32 ((rotr 2 x : Nat) : Int) ((rotr 13 x : Nat) : Int)) ((rotr 22 x : Nat) : Int) = ((bs0 x : Nat) : Int) := by
  rw [xor32 _ _ (rotr_lt _ _ h) (rotr_lt _ _ h), xor32 _ _ (lt32_xor (rotr_lt _ _ h) (rotr_lt _ _ h)) (rotr_lt _ _ h)]; rfl
theorem bs1_eq (x : Nat) (h : x < 4294967296) : bits .xor .u32 (bits .xor .u32 ((rotr 6 x : Nat) : Int) ((rotr 11 x : Nat) : Int)) ((rotr 25 x : Nat) : Int) = ((bs1 x : Nat) : Int) := by
  rw [xor32 _ _ (rotr_lt _ _ h) (rotr_lt _ _ h), xor32 _ _ (lt32_xor (rotr_lt _ _ h) (rotr_lt _ _ h)) (rotr_lt _ _ h)]; rfl
theorem chf_eq (e f g : Nat) (he : e < 4294967296) (hf : f < 4294967296) (hg : g < 4294967296) : bits .xor .u32 (bits .and .u32 (e : Int) (f : Int)) (bits .and .u32 (bits .xor .u32 (if IntKind.u32.signed = true then -1 else IntKind.u32.max) (e : Int)) (g : Int)) = ((chf e f g : Nat) : Int) := by
  have e1 : (if IntKind.u32.signed = true then -1 else IntKind.u32.max) = ((4294967295 : Nat) : Int) := by decide
  rw [e1, xor32 _ _ (by omega) he, and32 _ _ he hf, and32 _ _ (lt32_xor (by omega) he) hg, xor32 _ _ (lt32_and he) (lt32_and (lt32_xor (by omega) he))]; rfl
theorem maj_eq (a b c : Nat) (ha : a < 4294967296) (hb : b < 4294967296) (hc : c < 4294967296) : bits .xor .u32 (bits .xor .u32 (bits .and .u32 (a : Int) (b : Int)) (bits .and .u32 (a : Int) (c : Int))) (bits .and .u32 (b : Int) (c : Int)) = ((maj a b c : Nat) : Int) := by
  rw [and32 _ _ ha hb, and32 _ _ ha hc, and32 _ _ hb hc, xor32 _ _ (lt32_and ha) (lt32_and ha), xor32 _ _ (lt32_xor (lt32_and ha) (lt32_and ha)) (lt32_and hb)]; rfl

/-! Arrays in memory. -/
def Arr (w : World) (b t : Nat) (xs : List Value) : Prop := w.heap[b]? = some (.cells xs.toArray t (0, 0))
theorem Arr.lt {w : World} {b t : Nat} {xs : List Value} (h : Arr w b t xs) : b < w.heap.size := (Array.getElem?_eq_some_iff.1 h).1
theorem Arr.cell {w : World} {b t : Nat} {xs : List Value} (h : Arr w b t xs) (i : Nat) (hi : i < xs.length) : w.cell? ⟨b, i, none⟩ = some xs[i] := by
  unfold World.cell?; dsimp only; rw [show w.heap[b]? = _ from h]; simp [hi]
theorem Arr.frozen {w : World} {b t : Nat} {xs : List Value} (h : Arr w b t xs) (i : Nat) : w.frozen? ⟨b, i, none⟩ = false := by
  unfold World.frozen?; dsimp only; rw [show w.heap[b]? = _ from h]; simp
theorem Arr.set {w : World} {b t : Nat} {xs : List Value} (h : Arr w b t xs) (i : Nat) (v : Value) : Arr (w.setCell ⟨b, i, none⟩ v) b t (xs.set i v) := by
  unfold Arr World.setCell
  rw [Array.getElem?_modify, if_pos rfl, show w.heap[b]? = _ from h]
  simp [List.setIfInBounds_toArray]
theorem Arr.below {w w' : World} {b t B : Nat} {xs : List Value} (h : Arr w b t xs) (hb : Below B w w') (hB : b < B) : Arr w' b t xs := (hb.block b hB).trans h
theorem Arr.other {w : World} {b t : Nat} {xs : List Value} (h : Arr w b t xs) (a : Addr) (hne : b ≠ a.block) (v : Value) : Arr (w.setCell a v) b t xs := (Below.heap_setCell w a v b hne).trans h
theorem Arr.alloc {w : World} {b t : Nat} {xs : List Value} (h : Arr w b t xs) (o : Obj) : Arr (w.alloc o) b t xs := (Below.heap_alloc w o b h.lt).trans h
theorem Arr.new (w : World) (t : Nat) (xs : List Value) : Arr (w.alloc (.cells xs.toArray t)) w.heap.size t xs := heap_alloc_new w _
theorem Arr.row {w : World} {b t : Nat} {xs : List Value} (h : Arr w b t xs) (ys : List Value) : Arr (w.setRow b ys.toArray) b t ys := setRow_heap w b _ _ t (0, 0) h
theorem Arr.row_other {w : World} {b t : Nat} {xs : List Value} (h : Arr w b t xs) (g : Nat) (hne : b ≠ g) (ys : Array Value) : Arr (w.setRow g ys) b t xs := (setRow_other w g b ys hne).trans h
theorem below_setRow {B : Nat} {a w : World} (h : Below B a w) {g : Nat} (hg : B ≤ g) (ys : Array Value) : Below B a (w.setRow g ys) := h.trans ⟨rfl, rfl, rfl, by simp, fun k hk => setRow_other w g k ys (by omega)⟩
def mixl (v r : S8) (i : Nat) : List Nat := (List.zipWith add32 v.list r.list).take i ++ v.list.drop i
theorem mixl_set (v r : S8) (i : Nat) (h : i < 8) : (mixl v r i).set i (add32 (v.list.getD i 0) (r.list.getD i 0)) = mixl v r (i + 1) := by
  rcases (by omega : i = 0 ∨ i = 1 ∨ i = 2 ∨ i = 3 ∨ i = 4 ∨ i = 5 ∨ i = 6 ∨ i = 7) with rfl | rfl | rfl | rfl | rfl | rfl | rfl | rfl <;> rfl
theorem mixl_get (v r : S8) (i : Nat) (h : i < 8) : (mixl v r i).getD i 0 = v.list.getD i 0 := by
  rcases (by omega : i = 0 ∨ i = 1 ∨ i = 2 ∨ i = 3 ∨ i = 4 ∨ i = 5 ∨ i = 6 ∨ i = 7) with rfl | rfl | rfl | rfl | rfl | rfl | rfl | rfl <;> rfl
theorem mixl_len (v r : S8) (i : Nat) (h : i ≤ 8) : (mixl v r i).length = 8 := by simp [mixl, S8.list]; omega
theorem list_getD_lt (v : S8) (h : v.ok) (i : Nat) (hi : i < 8) : v.list.getD i 0 < 4294967296 := by
  have hl : i < v.list.length := by simp [S8.list]; omega
  rw [List.getD_eq_getElem?_getD, List.getElem?_eq_getElem hl]; exact h _ (List.getElem_mem hl)
theorem mixl_zero (v r : S8) : mixl v r 0 = v.list := rfl
theorem mixl_eight (v : S8) (l : List UInt8) : mixl v (rounds8 (sched l 64) 64 v) 8 = (comp v l).list := rfl
theorem round_eq (a b c d e f g h k w : Nat) :
    ((((h : Int) + ((bs1 e : Nat) : Int) + ((chf e f g : Nat) : Int) + (k : Int) + (w : Int)) % 4294967296 + (((bs0 a : Nat) : Int) + ((maj a b c : Nat) : Int)) % 4294967296) % 4294967296 = (((stp ⟨a, b, c, d, e, f, g, h⟩ k w).a : Nat) : Int)) ∧
    (((d : Int) + ((h : Int) + ((bs1 e : Nat) : Int) + ((chf e f g : Nat) : Int) + (k : Int) + (w : Int)) % 4294967296) % 4294967296 = (((stp ⟨a, b, c, d, e, f, g, h⟩ k w).e : Nat) : Int)) := by
  simp only [stp, t1f, t2f, add32]
  omega
def u32s (l : List Nat) : List Value := l.map fun (n : Nat) => .int .u32 (n : Int)
theorem u32s_length (l : List Nat) : (u32s l).length = l.length := by simp [u32s]
theorem u32s_get (l : List Nat) (i : Nat) (h : i < (u32s l).length) : (u32s l)[i] = .int .u32 ((l.getD i 0 : Nat) : Int) := by
  have h' : i < l.length := by simpa [u32s] using h
  simp [u32s, List.getD_eq_getElem?_getD, h']
theorem u32s_set (l : List Nat) (i n : Nat) : (u32s l).set i (.int .u32 (n : Int)) = u32s (l.set i n) := by simp [u32s, List.map_set]
/-- The table of constants, in memory. -/
def KT (w : World) : Prop := ∀ i, i < 64 → w.cell? ⟨0, i, none⟩ = some (.int .u32 ((kk.getD i 0 : Nat) : Int))
theorem KT.pos {w : World} (h : KT w) : 0 < w.heap.size := by have := World.block_lt_of_cell? w _ (h 0 (by omega)); simpa using this
theorem KT.below {w w' : World} (h : KT w) {B : Nat} (hb : Below B w w') (hB : 0 < B) : KT w' := fun i hi => (hb.cell (p := ⟨0, i, none⟩) hB).trans (h i hi)
theorem sched_first (l : List UInt8) (t : Nat) (h : t < 16) : sched l (t + 1) = sched l t ++ [firstW l t] := by rw [sched, if_pos h]
theorem sched_next (l : List UInt8) (t : Nat) (h : ¬ t < 16) : sched l (t + 1) = sched l t ++ [nextW (sched l t) t] := by rw [sched, if_neg h]
theorem sched_zero (l : List UInt8) : sched l 0 = [] := rfl
theorem rounds8_zero (ws : List Nat) (s : S8) : rounds8 ws 0 s = s := rfl
theorem rounds8_succ (ws : List Nat) (t : Nat) (s : S8) : rounds8 ws (t + 1) s = stp (rounds8 ws t s) (kk.getD t 0) (ws.getD t 0) := rfl
theorem nextW_eq (ws : List Nat) (t : Nat) : nextW ws t = add32 (add32 (add32 (ws.getD (t - 16) 0) (sg0 (ws.getD (t - 15) 0))) (ws.getD (t - 7) 0)) (sg1 (ws.getD (t - 2) 0)) := rfl
attribute [irreducible] sched rounds8 rotr kk nextW firstW
end Go.Proofs.YtgfdhgnkanekhaaDoor
