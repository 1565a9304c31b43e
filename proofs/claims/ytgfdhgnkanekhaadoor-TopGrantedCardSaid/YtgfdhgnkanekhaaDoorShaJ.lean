
/-
  sha.Unhex.
-/
import Derived.Test.YtgfdhgnkanekhaaDoorShaI
namespace Go.Proofs.YtgfdhgnkanekhaaDoor
set_option linter.unusedVariables false
set_option linter.unusedSimpArgs false
open Go.RowKit

/-- The bytes that 64 digits are. -/
def unL (l : List UInt8) : List UInt8 := (List.range 32).map fun i => UInt8.ofNat (16 * dig (l.getD (2 * i) 0) + dig (l.getD (2 * i + 1) 0))
def unOk (l : List UInt8) : Bool := l.length = 64 ∧ ∀ c ∈ l, dig c < 16
def unV (l : List UInt8) : List UInt8 := if unOk l then unL l else z32
def unE (l : List UInt8) : Nat := if unOk l then 0 else 6
/-- The first i bytes, noughts behind. -/
def unP (l : List UInt8) (i : Nat) : List UInt8 := (unL l).take i ++ List.replicate (32 - i) 0
theorem unL_len (l : List UInt8) : (unL l).length = 32 := by simp [unL]
theorem unL_get (l : List UInt8) (i : Nat) (h : i < 32) : (unL l)[i]? = some (UInt8.ofNat (16 * dig (l.getD (2 * i) 0) + dig (l.getD (2 * i + 1) 0))) := by simp [unL, h]
theorem unP_len (l : List UInt8) (i : Nat) (h : i ≤ 32) : (unP l i).length = 32 := by unfold unP; rw [List.length_append, List.length_take, unL_len, List.length_replicate]; omega
theorem unP_all (l : List UInt8) : unP l 32 = unL l := by unfold unP; rw [List.take_of_length_le (by rw [unL_len]; omega)]; simp
theorem unP_zero (l : List UInt8) : unP l 0 = z32 := by unfold unP; simp; rfl
theorem unP_set (l : List UInt8) (i : Nat) (h : i < 32) : (unP l i).set i (UInt8.ofNat (16 * dig (l.getD (2 * i) 0) + dig (l.getD (2 * i + 1) 0))) = unP l (i + 1) := by
  unfold unP
  rw [List.take_add_one, unL_get l i h, show 32 - i = (31 - i) + 1 from by omega, List.replicate_succ, List.set_append_right _ _ (by rw [List.length_take, unL_len]; omega), List.length_take, unL_len, show i - min i 32 = 0 from by omega, List.set_cons_zero, show 32 - (i + 1) = 31 - i from by omega]
  simp
theorem unOk_no (l : List UInt8) (j : Nat) (hj : j < l.length) (h : ¬ dig (l.getD j 0) < 16) : unOk l = false := by
  unfold unOk
  rw [decide_eq_false_iff_not]
  intro ⟨_, hk⟩
  have hm : l.getD j 0 ∈ l := by rw [List.getD_eq_getElem?_getD, List.getElem?_eq_getElem hj]; exact List.getElem_mem _
  exact h (hk _ hm)
theorem unOk_yes (l : List UInt8) (hl : l.length = 64) (h : ∀ j, j < 64 → dig (l.getD j 0) < 16) : unOk l = true := by
  unfold unOk
  rw [decide_eq_true_iff]
  refine ⟨hl, fun c hc => ?_⟩
  obtain ⟨j, hj, rfl⟩ := List.getElem_of_mem hc
  have := h j (by omega)
  rwa [List.getD_eq_getElem?_getD, List.getElem?_eq_getElem hj] at this
theorem dig_le (c : UInt8) : dig c ≤ 16 := by unfold dig; split; omega; split <;> omega
theorem results_row_tmp {P : Program} {fn : Func} {p u : Tmp} {ty : TypeId} (h : fn.results = #[.cell p ty, .tmp u]) (tmps : Array Value) (w : World) (g : Nat) (t : TypeId) (cs : Array Value) (fr : Nat × Nat) (d : TypeDesc)
    (hp : tmps.getD p undef = .pointer (some ⟨g, 0, none⟩)) (hg : w.heap[g]? = some (.cells cs t fr))
    (hu : P.underlying ty = some d) (hd : (match d with | .struct _ | .array _ _ => true | _ => false) = true) (hi : (P.info? ty).map (·.size) = some cs.size) (v : Value) (hv : tmps.getD u undef = v) :
    (results fn tmps).run P w = .ok (.tuple #[.agg cs, v]) w := by
  have hp' : tmps[p]?.getD undef = .pointer (some ⟨g, 0, none⟩) := by simpa using hp
  have hv' : tmps[u]?.getD undef = v := by simpa using hv
  simp [results, h, hp', hv', asAddr, run_loadVar_row w g t ty cs fr d hg hu hd hi]
theorem hash_size {l : List UInt8} (h : l.length = 32) : (Tryd.prog.info? 26).map (·.size) = some (u8s l).toArray.size := by
  rw [show (Tryd.prog.info? 26).map (·.size) = some 32 from by kernel_rfl]; simp [u8s_length, h]
theorem s_byte (s : ByteArray) (i : Nat) (h : i < s.size) : s[i]'h = s.data.toList.getD i 0 := by
  rw [List.getD_eq_getElem?_getD, List.getElem?_eq_getElem (by simpa using h)]; rfl
/-- Behind i rounds. -/
def UH (w : World) (l : List UInt8) (t14 : Value) (wr : World) : Prop :=
  ∃ i : Nat, t14 = .int .i64 (i : Int) ∧ i ≤ 32 ∧ Arr wr (w.heap.size + 1) 26 (u8s (unP l i)) ∧ Arr wr w.heap.size 26 (u8s z32) ∧ (∀ j, j < 2 * i → dig (l.getD j 0) < 16) ∧ Below w.heap.size w wr
theorem UH.start (w : World) (l : List UInt8) : UH w l (.int .i64 0) ((w.alloc (.cells (u8s z32).toArray 26)).alloc (.cells (u8s z32).toArray 26)) := by
  refine ⟨0, rfl, by omega, ?_, (Arr.new w 26 (u8s z32)).alloc _, fun j hj => by omega, ((Below.refl _ w).alloc (Nat.le_refl _) _).alloc (by simp) _⟩
  rw [unP_zero]
  have h := Arr.new (w.alloc (.cells (u8s z32).toArray 26)) 26 (u8s z32)
  rw [heap_size_alloc] at h; exact h
theorem shl4_or (x y : Nat) (hx : x < 16) (hy : y < 16) : bits .or .u8 ((x : Int) * 16) (y : Int) = (((UInt8.ofNat (16 * x + y)).toNat : Nat) : Int) := by
  rw [u8n _ (by omega)]
  have e : ((x : Int) * 16) = ((x * 16 : Nat) : Int) := by omega
  rw [e, Go.u8_or_nat (x * 16) y (by omega) (by omega)]
  have := Nat.two_pow_add_eq_or_of_lt (i := 4) (b := y) (by omega) x
  rw [show x * 16 = 2 ^ 4 * x from by omega, ← this]
end Go.Proofs.YtgfdhgnkanekhaaDoor
