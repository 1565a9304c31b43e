/-
  SHA-256: the document's pieces.
-/
import Derived.Test.YtdaiichpihhckaaDoorShX
import Derived.Lib.ConvBytes
import Derived.ArgAppend

namespace Go.Proofs.YtdaiichpihhckaaDoor.Sh
set_option linter.unusedVariables false
set_option linter.unusedSimpArgs false
open Go.RowKit

def hexD : List UInt8 := [48, 49, 50, 51, 52, 53, 54, 55, 56, 57, 97, 98, 99, 100, 101, 102]
def hexc (n : Nat) : UInt8 := hexD.getD n 0
def hexL (l : List UInt8) : List UInt8 := l.flatMap fun b => [hexc (b.toNat / 16), hexc (b.toNat % 16)]
theorem hexlit (k : Nat) (h : k < (ByteArray.mk #[48, 49, 50, 51, 52, 53, 54, 55, 56, 57, 97, 98, 99, 100, 101, 102]).size) : (ByteArray.mk #[48, 49, 50, 51, 52, 53, 54, 55, 56, 57, 97, 98, 99, 100, 101, 102])[k]'h = hexc k := by
  have h16 : k < 16 := h
  rcases (by omega : k = 0 ∨ k = 1 ∨ k = 2 ∨ k = 3 ∨ k = 4 ∨ k = 5 ∨ k = 6 ∨ k = 7 ∨ k = 8 ∨ k = 9 ∨ k = 10 ∨ k = 11 ∨ k = 12 ∨ k = 13 ∨ k = 14 ∨ k = 15) with rfl | rfl | rfl | rfl | rfl | rfl | rfl | rfl | rfl | rfl | rfl | rfl | rfl | rfl | rfl | rfl <;> rfl
/-- 'h[i]' of a checksum by value. -/
theorem index_hash (xs : Array Value) (i : Nat) (z : Int) (hi : i < 32) (hx : xs[i]? = some (.int .u8 z)) (W : World) : (Instr.index 26 (.agg xs) (.int .i64 (i : Int))).run Tryd.prog W = .ok (.int .u8 z) W := by
  obtain ⟨i0, hi0, hz0, hz1, hz2⟩ := info_parts info5
  have hu : Tryd.prog.underlying 26 = some (.array 32 5) := by kernel_rfl
  have h1 : (0 : Int) ≤ (i : Int) ∧ (i : Int) < ((32 : Nat) : Int) := by omega
  simp [Instr.index, run_underlying hu, asIntOf, part, sizeOf, typeInfo, hi0, hz1, hz2, hx, hi, go_sem]
/-- The first i bytes' digits, noughts behind. -/
def hexP (l : List UInt8) (i : Nat) : List UInt8 := hexL (l.take i) ++ List.replicate (64 - 2 * i) 0
theorem hexL_len (l : List UInt8) : (hexL l).length = 2 * l.length := by
  induction l with
  | nil => rfl
  | cons a l ih => unfold hexL at *; simp only [List.flatMap_cons, List.length_append, ih, List.length_cons, List.length_nil]; omega
theorem hexP_len (l : List UInt8) (i : Nat) (hl : l.length = 32) (hi : i ≤ 32) : (hexP l i).length = 64 := by
  unfold hexP; rw [List.length_append, hexL_len, List.length_replicate, List.length_take, hl]; omega
theorem hexL_app (a b : List UInt8) : hexL (a ++ b) = hexL a ++ hexL b := by unfold hexL; rw [List.flatMap_append]
theorem hexP_set (l : List UInt8) (i : Nat) (b : UInt8) (hl : l.length = 32) (hi : i < 32) (hb : l[i]? = some b) :
    ((hexP l i).set (2 * i) (hexc (b.toNat / 16))).set (2 * i + 1) (hexc (b.toNat % 16)) = hexP l (i + 1) := by
  have h1 : (hexL (l.take i)).length = 2 * i := by rw [hexL_len, List.length_take, hl]; omega
  unfold hexP
  rw [List.take_add_one, hb, hexL_app, show 64 - 2 * i = (62 - 2 * i) + 1 + 1 from by omega, show 64 - 2 * (i + 1) = 62 - 2 * i from by omega, List.replicate_succ, List.replicate_succ]
  rw [List.set_append_right _ _ (by omega), h1, Nat.sub_self, List.set_cons_zero, List.set_append_right _ _ (by omega), h1, show 2 * i + 1 - 2 * i = 1 from by omega, List.set_cons_succ, List.set_cons_zero, List.append_assoc]
  rfl
theorem hexP_all (l : List UInt8) (hl : l.length = 32) : hexP l 32 = hexL l := by unfold hexP; rw [List.take_of_length_le (by omega)]; simp
end Go.Proofs.YtdaiichpihhckaaDoor.Sh

namespace Go.Proofs.YtdaiichpihhckaaDoor.Sh
set_option linter.unusedVariables false
set_option linter.unusedSimpArgs false
open Go.RowKit

/-- The bytes that 64 digits are. -/
def unL (l : List UInt8) : List UInt8 := (List.range 32).map fun i => UInt8.ofNat (16 * dig (l.getD (2 * i) 0) + dig (l.getD (2 * i + 1) 0))
def unOk (l : List UInt8) : Bool := l.length = 64 ∧ ∀ c ∈ l, dig c < 16
def unV (l : List UInt8) : List UInt8 := if unOk l then unL l else z32
def unE (l : List UInt8) : Nat := if unOk l then 0 else 6
/-- The first i bytes, noughts behind. -/
def unP (l : List UInt8) (i : Nat) : List UInt8 := (unL l).take i ++ List.replicate (32 - i) 0
theorem unL_len (l : List UInt8) : (unL l).length = 32 := by simp [unL]
theorem unL_get (l : List UInt8) (i : Nat) (h : i < 32) : (unL l)[i]? = some (UInt8.ofNat (16 * dig (l.getD (2 * i) 0) + dig (l.getD (2 * i + 1) 0))) := by simp [unL, h]
theorem unP_len (l : List UInt8) (i : Nat) (h : i ≤ 32) : (unP l i).length = 32 := by unfold unP; rw [List.length_append, List.length_take, unL_len, List.length_replicate]; omega
theorem unP_all (l : List UInt8) : unP l 32 = unL l := by unfold unP; rw [List.take_of_length_le (by rw [unL_len]; omega)]; simp
theorem unP_zero (l : List UInt8) : unP l 0 = z32 := by unfold unP; simp; rfl
theorem unP_set (l : List UInt8) (i : Nat) (h : i < 32) : (unP l i).set i (UInt8.ofNat (16 * dig (l.getD (2 * i) 0) + dig (l.getD (2 * i + 1) 0))) = unP l (i + 1) := by
  unfold unP
  rw [List.take_add_one, unL_get l i h, show 32 - i = (31 - i) + 1 from by omega, List.replicate_succ, List.set_append_right _ _ (by rw [List.length_take, unL_len]; omega), List.length_take, unL_len, show i - min i 32 = 0 from by omega, List.set_cons_zero, show 32 - (i + 1) = 31 - i from by omega]
  simp
theorem unOk_no (l : List UInt8) (j : Nat) (hj : j < l.length) (h : ¬ dig (l.getD j 0) < 16) : unOk l = false := by
  unfold unOk
  rw [decide_eq_false_iff_not]
  intro ⟨_, hk⟩
  have hm : l.getD j 0 ∈ l := by rw [List.getD_eq_getElem?_getD, List.getElem?_eq_getElem hj]; exact List.getElem_mem _
  exact h (hk _ hm)
theorem unOk_yes (l : List UInt8) (hl : l.length = 64) (h : ∀ j, j < 64 → dig (l.getD j 0) < 16) : unOk l = true := by
  unfold unOk
  rw [decide_eq_true_iff]
  refine ⟨hl, fun c hc => ?_⟩
  obtain ⟨j, hj, rfl⟩ := List.getElem_of_mem hc
  have := h j (by omega)
  rwa [List.getD_eq_getElem?_getD, List.getElem?_eq_getElem hj] at this
theorem dig_le (c : UInt8) : dig c ≤ 16 := by unfold dig; split; omega; split <;> omega
theorem results_row_tmp {P : Program} {fn : Func} {p u : Tmp} {ty : TypeId} (h : fn.results = #[.cell p ty, .tmp u]) (tmps : Array Value) (w : World) (g : Nat) (t : TypeId) (cs : Array Value) (fr : Nat × Nat) (d : TypeDesc)
    (hp : tmps.getD p undef = .pointer (some ⟨g, 0, none⟩)) (hg : w.heap[g]? = some (.cells cs t fr))
    (hu : P.underlying ty = some d) (hd : (match d with | .struct _ | .array _ _ => true | _ => false) = true) (hi : (P.info? ty).map (·.size) = some cs.size) (v : Value) (hv : tmps.getD u undef = v) :
    (results fn tmps).run P w = .ok (.tuple #[.agg cs, v]) w := by
  have hp' : tmps[p]?.getD undef = .pointer (some ⟨g, 0, none⟩) := by simpa using hp
  have hv' : tmps[u]?.getD undef = v := by simpa using hv
  simp [results, h, hp', hv', asAddr, run_loadVar_row w g t ty cs fr d hg hu hd hi]
theorem hash_size {l : List UInt8} (h : l.length = 32) : (Tryd.prog.info? 26).map (·.size) = some (u8s l).toArray.size := by
  rw [show (Tryd.prog.info? 26).map (·.size) = some 32 from by kernel_rfl]; simp [u8s_length, h]
theorem s_byte (s : ByteArray) (i : Nat) (h : i < s.size) : s[i]'h = s.data.toList.getD i 0 := by
  rw [List.getD_eq_getElem?_getD, List.getElem?_eq_getElem (by simpa using h)]; rfl
/-- Behind i rounds. -/
def UH (w : World) (l : List UInt8) (t14 : Value) (wr : World) : Prop :=
  ∃ i : Nat, t14 = .int .i64 (i : Int) ∧ i ≤ 32 ∧ Arr wr (w.heap.size + 1) 26 (u8s (unP l i)) ∧ Arr wr w.heap.size 26 (u8s z32) ∧ (∀ j, j < 2 * i → dig (l.getD j 0) < 16) ∧ Below w.heap.size w wr
theorem UH.start (w : World) (l : List UInt8) : UH w l (.int .i64 0) ((w.alloc (.cells (u8s z32).toArray 26)).alloc (.cells (u8s z32).toArray 26)) := by
  refine ⟨0, rfl, by omega, ?_, (Arr.new w 26 (u8s z32)).alloc _, fun j hj => by omega, ((Below.refl _ w).alloc (Nat.le_refl _) _).alloc (by simp) _⟩
  rw [unP_zero]
  have h := Arr.new (w.alloc (.cells (u8s z32).toArray 26)) 26 (u8s z32)
  rw [heap_size_alloc] at h; exact h
theorem shl4_or (x y : Nat) (hx : x < 16) (hy : y < 16) : bits .or .u8 ((x : Int) * 16) (y : Int) = (((UInt8.ofNat (16 * x + y)).toNat : Nat) : Int) := by
  rw [u8n _ (by omega)]
  have e : ((x : Int) * 16) = ((x * 16 : Nat) : Int) := by omega
  rw [e, Go.u8_or_nat (x * 16) y (by omega) (by omega)]
  have := Nat.two_pow_add_eq_or_of_lt (i := 4) (b := y) (by omega) x
  rw [show x * 16 = 2 ^ 4 * x from by omega, ← this]
end Go.Proofs.YtdaiichpihhckaaDoor.Sh

namespace Go.Proofs.YtdaiichpihhckaaDoor.Sh
set_option linter.unusedVariables false
set_option linter.unusedSimpArgs false
open Go.RowKit

end Go.Proofs.YtdaiichpihhckaaDoor.Sh

namespace Go.Proofs.YtdaiichpihhckaaDoor.Sh
set_option linter.unusedVariables false
set_option linter.unusedSimpArgs false
open Go.RowKit

theorem arr_drewN {w : World} {b t : Nat} {xs : List Value} (h : Arr w b t xs) (n : Nat) : Arr (w.drewN n) b t xs :=
  Arr.grown h (row := none) (grownBy_drewN ⟨rfl, rfl, rfl, Nat.le_refl _, fun _ _ _ => rfl⟩ n) (by simp)
theorem hexcut (q : Nat) (h : q < 16) : (ByteArray.mk #[48, 49, 50, 51, 52, 53, 54, 55, 56, 57, 97, 98, 99, 100, 101, 102]).extract q (q + 1) = mkS [hexc q] := by
  rcases (by omega : q = 0 ∨ q = 1 ∨ q = 2 ∨ q = 3 ∨ q = 4 ∨ q = 5 ∨ q = 6 ∨ q = 7 ∨ q = 8 ∨ q = 9 ∨ q = 10 ∨ q = 11 ∨ q = 12 ∨ q = 13 ∨ q = 14 ∨ q = 15) with rfl | rfl | rfl | rfl | rfl | rfl | rfl | rfl | rfl | rfl | rfl | rfl | rfl | rfl | rfl | rfl <;> rfl
end Go.Proofs.YtdaiichpihhckaaDoor.Sh

namespace Go.Proofs.YtdaiichpihhckaaDoor.Sh
set_option linter.unusedVariables false
set_option linter.unusedSimpArgs false
open Go.RowKit

theorem wpList_built {P : Program} {ops : Array Oper} {rest : List Oper} {o : Oper} {a : Act} {w : World} {Q : Exit → Act → World → Prop} (hg : o.guard = none) (t : TypeId) (parts : Array (Nat × Operand)) (ho : o.op = .build t parts) (xs : Array Value)
    (hf : P.built t (parts.map fun (i, x) => (i, a.eval x)).toList = some xs) (h : wpList P ops Q rest (a.put o.dst (.agg xs)) w) : wpList P ops Q (o :: rest) a w :=
  wpList_build hg t parts ho (by rw [hf]; rfl) (by rw [hf]; exact h)
set_option maxRecDepth 100000 in
set_option maxHeartbeats 8000000 in
theorem constants_any (w : World) : Calls Tryd.prog 41 #[] w fun e w' => e = .returned (.agg (u32s kk).toArray) ∧ Below w.heap.size w w' := by
  obtain ⟨xs, hxs⟩ : ∃ xs, xs = (u32s kk).toArray := ⟨_, rfl⟩
  have hlen := hidp (show xs.size = 64 from by rw [hxs]; kernel_rfl)
  have hone := hidp (show xs.all (·.oneCell') = true from by rw [hxs]; simp [u32s, Value.oneCell'])
  have HI := hidp (show (Tryd.prog.info? 62).map (·.size) = some xs.size from by rw [hlen.out]; kernel_rfl)
  rw [← hxs]
  have HXS := hidp hxs
  clear hxs
  go_enter Tryd.func41, Tryd.ntmps41
  go_wp2_with (first | (refine wpList_built rfl _ _ rfl xs (by rw [HXS.out]; kernel_rfl) ?_) | (refine wpList_store_row rfl 62 (.tmp 0) (.tmp 1) rfl w.heap.size xs rfl rfl 62 _ (heap_alloc_new w _) HI.out (by rw [hlen.out]; rfl) hone.out ?_))
  have hfin : ∀ cur, ((w.alloc (.cells cur 62)).setRow w.heap.size xs).heap[w.heap.size]? = some (.cells xs 62 (0, 0)) := fun cur => setRow_heap _ _ _ _ _ _ (heap_alloc_new w _)
  refine bodyPost_ret (results_cell_row (P := Tryd.prog) (p := 0) (ty := 62) Tryd.results41 _ _ w.heap.size 62 xs (0, 0) _ rfl (hfin _) Tryd.underlying62 rfl HI.out) rfl ?_
  exact ⟨rfl, below_setRow ((Below.refl _ w).alloc (Nat.le_refl _) _) (Nat.le_refl _) _⟩
end Go.Proofs.YtdaiichpihhckaaDoor.Sh

namespace Go.Proofs.YtdaiichpihhckaaDoor.Sh
set_option linter.unusedVariables false
set_option linter.unusedSimpArgs false
open Go.RowKit

theorem _root_.Go.Proofs.YtdaiichpihhckaaDoor.AtB.below {w w' : World} {a : Addr} {l : List UInt8} (h : AtB w a l) {B : Nat} (hb : Below B w w') (hB : a.block < B) : AtB w' a l :=
  fun i hi => (hb.cell (p := ⟨a.block, a.off + i, none⟩) hB).trans (h i hi)
set_option maxRecDepth 100000 in
set_option maxHeartbeats 8000000 in
theorem words_any (w : World) (bb off cap : Nat) (l : List UInt8) (hl : l.length = 64) (hcap : 64 ≤ cap) (hb : AtB w ⟨bb, off, none⟩ l) (hbl : bb < w.heap.size) :
    Calls Tryd.prog 42 #[.slice (some ⟨bb, off, none⟩) 64 cap] w fun e w' => e = .returned (.agg (u32s (sched l 64)).toArray) ∧ Below w.heap.size w w' := by
  have HBL := hidp hb; clear hb
  have HL := hidp hl; clear hl
  go_enter Tryd.func42, Tryd.ntmps42
  go_wp2
  go_loopw [4] (fun t12 wr => ∃ t : Nat, t12 = .int .i64 t ∧ t ≤ 16 ∧ Arr wr (w.heap.size + 1) 62 (u32s (fill (sched l t))) ∧ Arr wr w.heap.size 62 (u32s (fill [])) ∧ Below w.heap.size w wr) (fun t12 _ => 16 - (intOf t12).toNat)
  case atStart =>
    refine ⟨0, rfl, by omega, ?_, ?_, ((Below.refl _ w).alloc (Nat.le_refl _) _).alloc (by simp) _⟩
    · have h := Arr.new (w.alloc (.cells (u32s (fill [])).toArray 62)) 62 (u32s (fill []))
      rw [heap_size_alloc] at h; rw [sched_zero]; exact h
    · exact (Arr.new w 62 (u32s (fill []))).alloc _
  case round =>
    obtain ⟨t, rfl, ht, hA, hZ, hbw⟩ := hrel
    have hsl := sched_len l t
    have HA := hidp hA; have HZ := hidp hZ; have HSL := hidp hsl; clear hA hZ hsl
    have hlen := hbw.size
    by_cases h16 : t < 16
    · have hd16 : decide ((t : Int) < 16) = true := decide_eq_true (by omega)
      have hpw := hidp (fill_snoc_zero (sched l t) (by rw [HSL.out]; omega))
      go_wp2
      go_loopw [5] (fun t24 wr => ∃ j : Nat, t24 = .int .i64 j ∧ j ≤ 4 ∧ Arr wr (w.heap.size + 1) 62 (u32s (fill (sched l t ++ [partW l t j]))) ∧ Arr wr w.heap.size 62 (u32s (fill [])) ∧ Below w.heap.size w wr) (fun t24 _ => 4 - (intOf t24).toNat)
      case atStart => exact ⟨0, rfl, by omega, by rw [partW, hpw.out]; exact HA.out, HZ.out, hbw⟩
      case round =>
        obtain ⟨j, rfl, hj, hA, hZ, hbw2⟩ := hrel
        have hlen2 := hbw2.size
        have HA2 := hidp hA; have HZ2 := hidp hZ; clear hA hZ
        by_cases h4 : j < 4
        · have hcb := (HBL.out.below hbw2 hbl) (4 * t + j) (by rw [HL.out]; omega)
          have hlenA : t < (u32s (fill (sched l t ++ [partW l t j]))).length := by rw [u32s_length, fill_len _ (by simp [HSL.out]; omega)]; omega
          have hcw := (HA2.out.cell t hlenA).trans (congrArg some (u32s_get _ t hlenA))
          have hlast := fill_last (sched l t) (partW l t j)
          rw [HSL.out] at hlast
          rw [hlast] at hcw
          clear hlast
          have hfz := HA2.out.frozen t
          have hpl : partW l t j < 16777216 := by
            have h1 := partW_lt l t j
            have h2 : (256 : Nat) ^ j ≤ 256 ^ 3 := Nat.pow_le_pow_right (by omega) (by omega)
            have h3 : (256 : Nat) ^ 3 = 16777216 := by decide
            omega
          have hb256 := (l.getD (4 * t + j) 0).toNat_lt
          have hst := hidp (HA2.out.set t (.int .u32 ((partW l t (j + 1) : Nat) : Int)))
          rw [u32s_set] at hst
          have hset := fill_set_last (sched l t) (partW l t j) (partW l t (j + 1)) (by rw [HSL.out]; omega)
          rw [HSL.out] at hset
          have hst := hidp (hset ▸ hst.out)
          clear hset
          have hstep := hidp (show partW l t (j + 1) = partW l t j * 256 + (l.getD (4 * t + j) 0).toNat from rfl)
          obtain ⟨pj, hpj⟩ : ∃ p, partW l t j = p := ⟨_, rfl⟩
          obtain ⟨bn, hbn⟩ : ∃ b, (l.getD (4 * t + j) 0).toNat = b := ⟨_, rfl⟩
          rw [hpj] at hcw hpl hstep
          rw [hbn] at hcb hb256 hstep
          clear hpj hbn
          have i1 : (0 : Int) ≤ 4 * (t : Int) + (j : Int) := by omega
          have i2 : 4 * (t : Int) + (j : Int) < 64 := by omega
          have i3 : (4 * (t : Int) + (j : Int)).toNat = 4 * t + j := by omega
          have i4 : (0 : Int) ≤ (t : Int) := by omega
          have i5 : (t : Int) < 64 := by omega
          go_wp2_with fail
          go_region
          go_wp2
          rw [show ((pj : Int) * 256 + (bn : Int)) = ((partW l t (j + 1) : Nat) : Int) from by rw [hstep.out]; omega]
          go_roundw
          case rel => exact ⟨j + 1, by go_num, by omega, hst.out, HZ2.out.other ⟨w.heap.size + 1, t, none⟩ (by simp) _, (below_drewN hbw2 _).setCell (p := ⟨w.heap.size + 1, t, none⟩) (by simp) _⟩
          case measure => simp [intOf]; omega
        · obtain rfl : j = 4 := by omega
          have hfin := HA2.out
          rw [partW_four] at hfin
          have hsch : sched l (t + 1) = sched l t ++ [firstW l t] := sched_first l t h16
          have hfin := hidp (hsch ▸ hfin)
          clear hsch
          go_wp2
          refine ⟨⟨t + 1, by go_num, by omega, hfin.out, HZ2.out, hbw2⟩, by simp [intOf]; omega⟩
    · have HA16 := hidp (show Arr wr (w.heap.size + 1) 62 (u32s (fill (sched l 16))) from by have h := HA.out; rw [show t = 16 from by omega] at h; exact h)
      go_wp2
      go_loopw [6] (fun t7 wr => ∃ t : Nat, t7 = .int .i64 t ∧ 16 ≤ t ∧ t ≤ 64 ∧ Arr wr (w.heap.size + 1) 62 (u32s (fill (sched l t))) ∧ Arr wr w.heap.size 62 (u32s (fill [])) ∧ Below w.heap.size w wr) (fun t7 _ => 64 - (intOf t7).toNat)
      case atStart => exact ⟨16, rfl, by omega, by omega, HA16.out, HZ.out, hbw⟩
      case round =>
        obtain ⟨t, rfl, h16, h64, hA, hZ, hbw2⟩ := hrel
        have hlen2 := hbw2.size
        have hsl2 := hidp (sched_len l t)
        have HA2 := hidp hA; have HZ2 := hidp hZ; clear hA hZ HSL
        by_cases hlt : t < 64
        · have cellf : Hid (∀ i, i < t → wr.cell? ⟨w.heap.size + 1, i, none⟩ = some (.int .u32 (((sched l t).getD i 0 : Nat) : Int))) := hidp fun i hi => by
            have hlenA : i < (u32s (fill (sched l t))).length := by rw [u32s_length, fill_len _ (by rw [hsl2.out]; omega)]; omega
            rw [HA2.out.cell i hlenA, u32s_get, fill_getD _ _ (by rw [hsl2.out]; omega)]
          have c15 := cellf.out (t - 15) (by omega)
          have c2 := cellf.out (t - 2) (by omega)
          have c16 := cellf.out (t - 16) (by omega)
          have c7 := cellf.out (t - 7) (by omega)
          have hold : ∃ v, wr.cell? ⟨w.heap.size + 1, t, none⟩ = some v := ⟨_, HA2.out.cell t (by rw [u32s_length, fill_len _ (by rw [hsl2.out]; omega)]; omega)⟩
          obtain ⟨vold, hold⟩ := hold
          have hfz := HA2.out.frozen t
          have b15 := sched_getD_lt l t (t - 15)
          have b2 := sched_getD_lt l t (t - 2)
          have b16 := sched_getD_lt l t (t - 16)
          have b7 := sched_getD_lt l t (t - 7)
          have hnext := hidp (show sched l (t + 1) = sched l t ++ [nextW (sched l t) t] from sched_next l t (by omega))
          have hnw := hidp (show nextW (sched l t) t = add32 (add32 (add32 ((sched l t).getD (t - 16) 0) (sg0 ((sched l t).getD (t - 15) 0))) ((sched l t).getD (t - 7) 0)) (sg1 ((sched l t).getD (t - 2) 0)) from nextW_eq _ _)
          have hst := hidp (HA2.out.set t (.int .u32 ((nextW (sched l t) t : Nat) : Int)))
          obtain ⟨x, hx⟩ : ∃ x, (sched l t).getD (t - 15) 0 = x := ⟨_, rfl⟩
          obtain ⟨y, hy⟩ : ∃ y, (sched l t).getD (t - 2) 0 = y := ⟨_, rfl⟩
          obtain ⟨p, hp⟩ : ∃ p, (sched l t).getD (t - 16) 0 = p := ⟨_, rfl⟩
          obtain ⟨q, hq⟩ : ∃ q, (sched l t).getD (t - 7) 0 = q := ⟨_, rfl⟩
          rw [hx] at c15 b15
          rw [hy] at c2 b2
          rw [hp] at c16 b16
          rw [hq] at c7 b7
          have hnw := hidp (show nextW (sched l t) t = add32 (add32 (add32 p (sg0 x)) q) (sg1 y) from by rw [← hx, ← hy, ← hp, ← hq]; exact hnw.out)
          clear hx hy hp hq
          have i15 : ((t : Int) - 15).toNat = t - 15 := by omega
          have i2 : ((t : Int) - 2).toNat = t - 2 := by omega
          have i16 : ((t : Int) - 16).toNat = t - 16 := by omega
          have i7 : ((t : Int) - 7).toNat = t - 7 := by omega
          have k1 : (0 : Int) ≤ (t : Int) - 15 := by omega
          have k2 : (t : Int) - 15 < 64 := by omega
          have k3 : (0 : Int) ≤ (t : Int) - 2 := by omega
          have k4 : (t : Int) - 2 < 64 := by omega
          have hs0 := sg0_eq x b15
          have hs1 := sg1_eq y b2
          have n0 := sg0_lt x b15
          have n1 := sg1_lt y b2
          have m1 := mod_add32 p (sg0 x)
          have m2 := mod_add32 (add32 p (sg0 x)) q
          have m3 := mod_add32 (add32 (add32 p (sg0 x)) q) (sg1 y)
          have n2 := add32_lt p (sg0 x)
          have n3 := add32_lt (add32 p (sg0 x)) q
          go_wp2
          go_quiet (fail)
          go_wp2_with (first | (go_at_call 43; refine (turned_any _ _ (by assumption) (by unfold IsRot; omega) _).mono ?_; rintro e w9 ⟨rfl, nn, rfl⟩) | (go_at_call 68; refine (shifted_any _ _ (by assumption) (by omega) _).mono ?_; rintro e w9 ⟨rfl, rfl⟩))
          have hst2 := hst.out
          rw [u32s_set] at hst2
          have hsetl := fill_set (sched l t) (nextW (sched l t) t) (by rw [hsl2.out]; omega)
          rw [hsl2.out] at hsetl
          rw [hsetl, ← hnext.out, hnw.out] at hst2
          have HST := hidp hst2
          clear hst2 hsetl
          go_region
          go_wp2
          go_roundw
          case rel => exact ⟨t + 1, by go_num, by omega, by omega, HST.out, (HZ2.out.other ⟨w.heap.size + 1, t, none⟩ (by simp) _), (below_drewN hbw2 _).setCell (p := ⟨w.heap.size + 1, t, none⟩) (by simp) _⟩
          case measure => simp [intOf]; omega
        · obtain rfl : t = 64 := by omega
          have hfull : fill (sched l 64) = sched l 64 := by unfold fill; rw [sched_len]; simp
          rw [hfull] at HA2
          have hi64 : (Tryd.prog.info? 62).map (·.size) = some (u32s (sched l 64)).toArray.size := by
            have h1 : (Tryd.prog.info? 62).map (·.size) = some 64 := by kernel_rfl
            rw [h1]; simp [u32s, sched_len]
          obtain ⟨xs, hxs⟩ : ∃ xs, (u32s (sched l 64)).toArray = xs := ⟨_, rfl⟩
          have hg1 := HA2.out
          have hg2 := HZ2.out
          unfold Arr at hg1 hg2
          rw [hxs] at hg1 hi64
          have HXS := hidp hxs
          have hlenx := hidp (show (u32s (fill [])).toArray.size = xs.size from by rw [← hxs]; simp [u32s, sched_len, fill])
          have hone := hidp (show xs.all (·.oneCell') = true from by rw [← hxs]; simp [u32s, Value.oneCell'])
          clear hxs
          have H1 := hidp hg1; have H2 := hidp hg2; have HI := hidp hi64
          clear hg1 hg2 hi64
          go_wp2_with (first
            | (refine wpList_load_row rfl 62 (.tmp 3) rfl (w.heap.size + 1) rfl 62 xs (0, 0) _ H1.out Tryd.underlying62 rfl HI.out ?_)
            | (refine wpList_store_row rfl 62 (.tmp 2) (.tmp 77) rfl w.heap.size xs rfl rfl 62 _ H2.out HI.out hlenx.out hone.out ?_))
          have hfin : (wr.setRow w.heap.size xs).heap[w.heap.size]? = some (.cells xs 62 (0, 0)) := setRow_heap _ _ _ _ _ _ H2.out
          refine bodyPost_ret (results_cell_row (P := Tryd.prog) (p := 2) (ty := 62) Tryd.results42 _ _ w.heap.size 62 xs (0, 0) _ rfl hfin Tryd.underlying62 rfl HI.out) rfl ?_
          exact ⟨by rw [HXS.out], below_setRow hbw2 (Nat.le_refl _) _⟩
end Go.Proofs.YtdaiichpihhckaaDoor.Sh

namespace Go.Proofs.YtdaiichpihhckaaDoor.Sh
set_option linter.unusedVariables false
set_option linter.unusedSimpArgs false
open Go.RowKit

/-- A row of bytes of the call's own, whose places are not frozen: made by append, or by a conversion. -/
def OwnB (w : World) (B e : Nat) (v : Value) (l : List UInt8) : Prop :=
  ∃ g cap cur fz, v = .slice (some ⟨g, 0, none⟩) l.length cap ∧ B ≤ g ∧ w.heap[g]? = some (.cells cur e fz) ∧ (fz = (0, 0) ∨ cap ≤ fz.1) ∧ l.length ≤ cap ∧ cap ≤ maxLen ∧ cur.size = cap ∧ cur.toList.take l.length = bv l
theorem OwnB.kept {w w' : World} {B C e : Nat} {v : Value} {l : List UInt8} (h : OwnB w B e v l) (hb : Below C w w') (hC : w.heap.size ≤ C) : OwnB w' B e v l := by
  obtain ⟨g, cap, cur, fz, rfl, hB, hg, rest⟩ := h
  exact ⟨g, cap, cur, fz, rfl, hB, (hb.block g (by have := (Array.getElem?_eq_some_iff.1 hg).1; omega)).trans hg, rest⟩
theorem OwnB.alloc {w : World} {B e : Nat} {v : Value} {l : List UInt8} (h : OwnB w B e v l) (o : Obj) : OwnB (w.alloc o) B e v l := by
  obtain ⟨g, cap, cur, fz, rfl, hB, hg, rest⟩ := h
  exact ⟨g, cap, cur, fz, rfl, hB, (Below.heap_alloc w o g (Array.getElem?_eq_some_iff.1 hg).1).trans hg, rest⟩
theorem OwnB.of_row {w : World} {B B' e n : Nat} {v : Value} {l : List UInt8} (h : w.ownsRow B' e 1 v n (bv l)) (hn : n = l.length) (h0 : 0 < n) (hB : B ≤ B') : OwnB w B e v l := by
  subst hn
  rcases h.2 with ⟨_, hz⟩ | ⟨g, cap, cur, rfl, hb, hg, h1, h2, h3, h4⟩
  · omega
  · exact ⟨g, cap, cur, (0, 0), rfl, by omega, hg, .inl rfl, h1, h2, by simpa using h3, by simpa using h4⟩
theorem OwnB.at {w : World} {B e : Nat} {v : Value} {l : List UInt8} (h : OwnB w B e v l) : ∃ g cap, v = .slice (some ⟨g, 0, none⟩) l.length cap ∧ l.length ≤ cap ∧ g < w.heap.size ∧ B ≤ g ∧ AtB w ⟨g, 0, none⟩ l := by
  obtain ⟨g, cap, cur, fz, rfl, hB, hg, _, hlc, _, hs, ht⟩ := h
  refine ⟨g, cap, rfl, hlc, (Array.getElem?_eq_some_iff.1 hg).1, hB, fun i hi => ?_⟩
  have e : w.cell? ⟨g, 0 + i, none⟩ = cur[i]? := by rw [Nat.zero_add]; exact cell_of_row w g i cur e fz hg
  show w.cell? ⟨g, 0 + i, none⟩ = _
  rw [e, ← Array.getElem?_toList]
  have := congrArg (fun x => x[i]?) ht
  simp only [List.getElem?_take, hi, if_true] at this
  rw [this]
  simp [bv, hi, List.getD_eq_getElem?_getD]
/-- 'append(v, b)' onto such a row. -/
theorem wpList_appB {P : Program} {w : World} {ops : Array Oper} {rest : List Oper} {o : Oper} {a : Act} {Q : Exit → Act → World → Prop} (hgd : o.guard = none) (s x : Operand) (t : TypeId)
    (ho : o.op = .call { callee := .builtin .append, args := #[s, x], argTypes := #[t, t] }) (B e : Nat) (i : TypeInfo) (ht : P.underlying t = some (.slice e)) (hi : P.info? e = some i)
    (hz0 : i.zero = some (.int .u8 0)) (hz1 : i.size = 1) (hz2 : i.bytes = 1) (v : Value) (l : List UInt8) (hs : a.eval s = v) (hown : OwnB w B e v l) (ad : Addr) (c : Nat) (z : Int) (b : UInt8)
    (hx : a.eval x = .slice (some ad) 1 c) (hc : w.cell? ad = some (.int .u8 z)) (hz : z = b.toNat) (hlen : l.length + 1 ≤ 140737488351232) (hB : B ≤ w.heap.size)
    (h : ∀ v' w', OwnB w' B e v' (l ++ [b]) → Below B w w' → wpList P ops Q rest (a.put o.dst v') w') : wpList P ops Q (o :: rest) a w := by
  subst hz
  obtain ⟨g, cap, cur, fz, rfl, hBg, hg, hfz, hlc, hcm, hcs, htk⟩ := hown
  have hcell : ∀ j, w.cell? ⟨g, j, none⟩ = cur[j]? := fun j => cell_of_row w g j cur e fz hg
  have hgl := (Array.getElem?_eq_some_iff.1 hg).1
  refine wpList_append_arg w hgd s x t ho e i (.int .u8 0) 1 1 ht hi hz0 hz1 hz2 rfl (by decide) g 0 l.length cap (bv l) hs (by simp [bv]) ?_ ad 1 c [.int .u8 b.toNat] hx rfl ?_ ?_ ?_ (by unfold maxLen; omega) (by omega) ?_ ?_
  · intro j u hj
    rw [Nat.zero_add, hcell, ← Array.getElem?_toList]
    rw [← htk, List.getElem?_take] at hj
    split at hj
    · exact hj
    · cases hj
  · intro j u hj
    match j, hj with
    | 0, hj => simp at hj; subst hj; simpa [Addr.add] using hc
  · intro u hu; simp at hu; subst hu; rfl
  · intro hr j hj
    obtain rfl : j = 0 := by simpa using hj
    simp only [Nat.zero_add, Nat.mul_one, Nat.add_zero]
    refine ⟨?_, ?_⟩
    · rw [hcell, Array.getElem?_eq_getElem (by omega)]; rfl
    · unfold World.frozen?
      simp only [hg]
      rcases hfz with rfl | hf
      · simp
      · simp; intro; omega
  · intro hr
    refine h _ _ ?_ ?_
    · simp only [World.setCells, Nat.zero_add, Nat.mul_one]
      rw [setCell_eq_setRow w g l.length cur e fz _ hg]
      refine ⟨g, cap, _, fz, by simp, hBg, setRow_heap w g cur _ e fz hg, hfz, by simp; omega, hcm, by simp [hcs], ?_⟩
      rw [bv_append, bv_one, List.length_append]
      simp only [Array.toList_setIfInBounds, List.length_cons, List.length_nil, Nat.zero_add]
      rw [List.take_set, ← htk, List.take_add_one]
      have hl : l.length < cur.toList.length := by simp; omega
      rw [List.getElem?_eq_getElem hl]
      simp only [Option.toList]
      rw [List.set_append_right _ _ (by simp; omega)]
      simp [List.length_take, Nat.min_eq_left (Nat.le_of_lt hl)]
      rw [show l.length - min l.length cur.size = 0 from by omega]
      rfl
    · simp only [World.setCells]
      exact (Below.refl B w).setCell (by simpa using hBg) _
  · intro hr v' w' h1 h2
    refine h v' w' (OwnB.of_row (l := l ++ [b]) (n := l.length + 1) (by rw [bv_append, bv_one]; exact h1) (by simp) (by omega) hB) ?_
    exact (Below.refl B w).grown h2 hB (fun k hk => by cases hk)

/-- What fills up: noughts so that eight bytes are left to a whole block. -/
def padn (n : Nat) : Nat := (119 - n % 64) % 64
def fillL (l : List UInt8) : List UInt8 := l ++ 128 :: (List.replicate (padn l.length) 0 ++ len8 l.length)
theorem bytesB (w : World) (s : ByteArray) (hs : s.size ≤ 281474976710656) : OwnB (Lib.bytesWorld w 5 s) w.heap.size 5 (.slice (some ⟨w.heap.size, 0, none⟩) s.size (grownCap w s.size 0 5)) s.data.toList := by
  have hge := grownCap_ge w s.size 0 5
  refine ⟨w.heap.size, _, _, _, by simp, Nat.le_refl _, Lib.bytesWorld_at_new w 5 s, .inr ?_, by simpa using hge, grownCap_le_maxLen w s.size 0 5 (by unfold maxLen; omega), ?_, ?_⟩
  · simp [Lib.bytesCells]; omega
  · simp [Lib.bytesCells]; first | done | omega
  · simp [Lib.bytesCells, bv]
theorem bytes_below (w : World) (s : ByteArray) : Below w.heap.size w (Lib.bytesWorld w 5 s) :=
  ⟨rfl, rfl, rfl, by rw [Lib.bytesWorld_size]; exact Nat.le_succ _, fun k hk => Lib.bytesWorld_at_old w 5 s k hk⟩
theorem rep_snoc (n : Nat) : List.replicate n (0 : UInt8) ++ [0] = List.replicate (n + 1) 0 := by rw [List.replicate_succ']
def sliceLen : Value → Nat
  | .slice _ n _ => n
  | _ => 0
set_option maxRecDepth 100000 in
set_option maxHeartbeats 8000000 in
theorem filled_any (w : World) (s : ByteArray) (hs : s.size ≤ 281474976710656 / 4) :
    Calls Tryd.prog 40 #[.string s] w fun e w' => ∃ v, e = .returned v ∧ OwnB w' w.heap.size 5 v (fillL s.data.toList) ∧ Below w.heap.size w w' := by
  obtain ⟨i0, hi, hz0, hz1, hz2⟩ := info_parts info5
  obtain ⟨l, hl⟩ : ∃ l, s.data.toList = l := ⟨_, rfl⟩
  have hll := hidp (show l.length = s.size from by rw [← hl]; simp)
  have HI := hidp hi; have HZ0 := hidp hz0; have HZ1 := hidp hz1; have HZ2 := hidp hz2
  clear hi hz0 hz1 hz2
  have hcv := Lib.run_convert_string_bytes (P := Tryd.prog) w 9 60 5 s Tryd.underlying9 Tryd.underlying60 Tryd.underlying5
  have HO1 := hidp (bytesB w s (by omega))
  have HB1 := hidp (bytes_below w s)
  obtain ⟨cap, hcap⟩ : ∃ c, grownCap w s.size 0 5 = c := ⟨_, rfl⟩
  obtain ⟨W1, hW1⟩ : ∃ W, Lib.bytesWorld w 5 s = W := ⟨_, rfl⟩
  rw [hl, hcap, hW1] at HO1
  rw [hW1] at HB1
  rw [hcap, hW1] at hcv
  rw [hl]
  have HL := hidp hl
  clear hcap hW1 hl
  have hbs1 := HB1.out.size
  go_enter Tryd.func40, Tryd.ntmps40
  go_wp2_with ((refine wpList_appB rfl (.tmp 7) (.tmp 8) 60 rfl w.heap.size 5 i0 Tryd.underlying60 HI.out HZ0.out HZ1.out HZ2.out _ l rfl (HO1.out.alloc _) _ 1 128 128 rfl (cell_new1 W1 _ _) rfl ?_ ?_ ?_))
  · have := hll.out; first | omega | (simp; omega)
  · first | omega | (simp; omega)
  · intro v' w' h1 h2
    have HO2 := hidp h1
    have HB2 := hidp (HB1.out.trans (((Below.refl w.heap.size W1).alloc hbs1 _).trans h2))
    clear h1 h2 hcv HO1
    go_wp2_with fail
    go_loopw [3] (fun t3 wr => ∃ (v : Value) (k : Nat), t3 = v ∧ OwnB wr w.heap.size 5 v (l ++ 128 :: List.replicate k 0) ∧ k ≤ padn l.length ∧ Below w.heap.size w wr) (fun t3 _ => padn l.length + (l.length + 1) - sliceLen t3)
    case atStart => exact ⟨v', 0, rfl, HO2.out, by omega, HB2.out⟩
    case round =>
      obtain ⟨v, k, rfl, hO, hk, hbw⟩ := hrel
      have hbsr := hbw.size
      obtain ⟨g, cp, hv, hle, hgl, hBg, hat⟩ := hO.at
      have hlen : (l ++ 128 :: List.replicate k (0 : UInt8)).length = s.size + 1 + k := by simp [hll.out]; omega
      have hpad : padn l.length ≤ 63 := by unfold padn; omega
      rw [hlen] at hv
      have HO := hidp hO; have HBW := hidp hbw; have HV := hidp hv
      clear hO hbw hat hle
      by_cases hlt : k < padn l.length
      · have hc : (((s.size : Int) + 1 + k) % 64 != 56) = true := by
          unfold padn at hlt; rw [hll.out] at hlt; rw [bne_iff_ne]; omega
        have hc' : ((((s.size + 1 + k : Nat) : Int)) % 64 != 56) = true := by push_cast; exact hc
        clear hlen
        subst hv
        go_wp2_with ((refine wpList_appB rfl (.tmp 14) (.tmp 15) 60 rfl w.heap.size 5 i0 Tryd.underlying60 HI.out HZ0.out HZ1.out HZ2.out _ (l ++ 128 :: List.replicate k 0) rfl (HO.out.alloc _) _ 1 0 0 rfl (cell_new1 wr _ _) rfl ?_ ?_ ?_))
        · have := hll.out; first | omega | (simp; omega)
        · first | omega | (simp; omega)
        · intro v2 w2 h1 h2
          have HO2 := hidp (show OwnB w2 w.heap.size 5 v2 (l ++ 128 :: List.replicate (k + 1) 0) from by rw [← rep_snoc]; simpa using h1)
          have HB2 := hidp (HBW.out.trans (((Below.refl w.heap.size wr).alloc hbsr _).trans h2))
          obtain ⟨g2, cp2, hv2, _⟩ := HO2.out.at
          have hlen2 : (l ++ 128 :: List.replicate (k + 1) (0 : UInt8)).length = s.size + 1 + (k + 1) := by simp [hll.out]; omega
          have hm := hidp (show sliceLen v2 = s.size + 1 + (k + 1) from by rw [hv2, hlen2]; rfl)
          clear h1 h2 hv2 hlen2
          go_wp2_with fail
          refine ⟨⟨v2, k + 1, rfl, HO2.out, by omega, HB2.out⟩, ?_⟩
          have := hll.out
          rw [hm.out]
          simp only [sliceLen]
          omega
      · obtain rfl : k = padn l.length := by omega
        have hc : (((s.size : Int) + 1 + (padn l.length : Nat)) % 64 != 56) = false := by
          rw [bne_eq_false_iff_eq]; unfold padn; rw [hll.out]; omega
        have hc' : ((((s.size + 1 + padn l.length : Nat) : Int)) % 64 != 56) = false := by push_cast; exact hc
        clear hlen
        obtain ⟨p, hp⟩ : ∃ p, padn l.length = p := ⟨_, rfl⟩
        rw [hp] at HO hv hpad hc hc'
        have HP := hidp hp
        clear hp hlt hk
        subst hv
        go_wp2_with fail
        go_loopw [3, 5] (fun t3 t5 wq => ∃ (v : Value) (j : Nat), t3 = v ∧ t5 = .int .i64 (56 - 8 * (j : Int)) ∧ j ≤ 8 ∧ OwnB wq w.heap.size 5 v (l ++ 128 :: (List.replicate p 0 ++ (len8 l.length).take j)) ∧ Below w.heap.size w wq) (fun _ t5 _ => (intOf t5 + 8).toNat)
        case atStart => exact ⟨_, 0, rfl, rfl, by omega, by simpa using HO.out, HBW.out⟩
        case round =>
          obtain ⟨v, j, rfl, rfl, hj, hO, hbw⟩ := hrel
          have hbsq := hbw.size
          have HO4 := hidp hO; have HBW4 := hidp hbw
          clear hO hbw
          by_cases hj8 : j < 8
          · obtain ⟨c, hc⟩ : ∃ c, (len8 l.length)[j]? = some c := ⟨_, List.getElem?_eq_getElem (by rw [len8_len]; exact hj8)⟩
            have hcv : ((s.size : Int) * 8 / 2 ^ (56 - 8 * j) % 256) = (c.toNat : Int) := by
              have h := len8_get l.length j hj8
              rw [List.getD_eq_getElem?_getD, hc] at h
              simp only [Option.getD_some] at h
              rw [h, hll.out, show 8 * (7 - j) = 56 - 8 * j from by omega]
              simp
            have hto : (56 - 8 * (j : Int)).toNat = 56 - 8 * j := by omega
            have hge : 0 ≤ 56 - 8 * (j : Int) := by omega
            have hlt64 : 56 - 8 * (j : Int) < 64 := by omega
            have HC := hidp hc
            have HCV := hidp hcv
            clear hc hcv
            go_wp2_with ((refine wpList_appB rfl (.tmp 25) (.tmp 30) 60 rfl w.heap.size 5 i0 Tryd.underlying60 HI.out HZ0.out HZ1.out HZ2.out _ (l ++ 128 :: (List.replicate p 0 ++ (len8 l.length).take j)) rfl (HO4.out.alloc _) _ 1 _ c rfl (cell_new1 wr _ _) HCV.out ?_ ?_ ?_))
            · have := hll.out; have := len8_len l.length; simp; omega
            · first | omega | (simp; omega)
            · intro v2 w2 h1 h2
              have HO2 := hidp (show OwnB w2 w.heap.size 5 v2 (l ++ 128 :: (List.replicate p 0 ++ (len8 l.length).take (j + 1))) from by
                rw [List.take_add_one, HC.out]; simpa using h1)
              have HB2 := hidp (HBW4.out.trans (((Below.refl w.heap.size wr).alloc hbsq _).trans h2))
              clear h1 h2
              go_wp2_with fail
              exact ⟨⟨v2, j + 1, rfl, by rw [show (56 - 8 * ((j + 1 : Nat) : Int)) = 56 - 8 * (j : Int) - 8 from by omega], by omega, HO2.out, HB2.out⟩, by simp [intOf]; omega⟩
          · obtain rfl : j = 8 := by omega
            have HF := hidp (show l ++ 128 :: (List.replicate p 0 ++ (len8 l.length).take 8) = fillL l from by
              rw [List.take_of_length_le (by rw [len8_len]; omega), ← HP.out]; rfl)
            go_wp2_with fail
            go_ret
            exact ⟨_, rfl, by rw [← HF.out]; exact HO4.out, HBW4.out⟩
end Go.Proofs.YtdaiichpihhckaaDoor.Sh
