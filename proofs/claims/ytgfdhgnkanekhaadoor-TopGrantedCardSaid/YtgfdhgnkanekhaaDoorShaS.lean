
/-
  sha: two sums, computed.
-/
import Derived.Test.YtgfdhgnkanekhaaDoorShaR
namespace Go.Proofs.YtgfdhgnkanekhaaDoor
set_option linter.unusedVariables false
set_option linter.unusedSimpArgs false
open Go.RowKit

/-- The words, reckoned one behind the other. -/
def schedF (l : List UInt8) : Nat → List Nat → List Nat
  | 0, ws => ws
  | n + 1, ws => schedF l n (ws ++ [if ws.length < 16 then firstW l ws.length else nextW ws ws.length])
theorem schedF_eq (l : List UInt8) (n t : Nat) : schedF l n (sched l t) = sched l (t + n) := by
  induction n generalizing t with
  | zero => rfl
  | succ n ih =>
    have h : sched l (t + 1) = sched l t ++ [if t < 16 then firstW l t else nextW (sched l t) t] := by
      by_cases h : t < 16
      · rw [if_pos h, sched_first l t h]
      · rw [if_neg h, sched_next l t h]
    rw [schedF, sched_len, ← h, ih, show t + 1 + n = t + (n + 1) from by omega]
def roundsF : List Nat → List Nat → S8 → S8
  | k :: ks, w :: ws, s => roundsF ks ws (stp s k w)
  | _, _, s => s
theorem roundsF_eq (ws : List Nat) (hw : ws.length = 64) (n t : Nat) (h : t + n = 64) (s : S8) : roundsF (kk.drop t) (ws.drop t) (rounds8 ws t s) = rounds8 ws 64 s := by
  induction n generalizing t with
  | zero =>
    obtain rfl : t = 64 := by omega
    rw [List.drop_eq_nil_of_le (show kk.length ≤ 64 by rw [show kk.length = 64 from by kernel_rfl]; omega)]
    rfl
  | succ n ih =>
    have hk : kk.length = 64 := by kernel_rfl
    rw [List.drop_eq_getElem_cons (show t < kk.length by omega), List.drop_eq_getElem_cons (show t < ws.length by omega), roundsF]
    have e : stp (rounds8 ws t s) kk[t] ws[t] = rounds8 ws (t + 1) s := by
      rw [rounds8_succ]
      congr 1 <;> simp [List.getD_eq_getElem?_getD, hk, hw, show t < 64 from by omega]
    rw [e, ih (t + 1) (by omega)]
def compF (v : S8) (l : List UInt8) : S8 :=
  let r := roundsF kk (schedF l 64 []) v
  ⟨add32 v.a r.a, add32 v.b r.b, add32 v.c r.c, add32 v.d r.d, add32 v.e r.e, add32 v.f r.f, add32 v.g r.g, add32 v.h r.h⟩
theorem compF_eq (v : S8) (l : List UInt8) : comp v l = compF v l := by
  have h1 : schedF l 64 [] = sched l 64 := by have := schedF_eq l 64 0; rw [sched_zero] at this; simpa using this
  have h2 := roundsF_eq (sched l 64) (sched_len l 64) 64 0 rfl v
  rw [rounds8_zero] at h2
  simp only [List.drop_zero] at h2
  unfold comp compF
  rw [h1, h2]
/-- A sum of less than one block. -/
theorem shaL_small (l : List UInt8) (h : l.length ≤ 55) : shaL l = joinL (compF init8 (sized (ended l) l.length)) := by
  unfold shaL
  have h0 : l.length / 64 = 0 := by omega
  rw [shaS_short l (by rw [h0]; simpa using h), h0, blk_zero, compF_eq]
  simp
def abcL : List UInt8 := [186, 120, 22, 191, 143, 1, 207, 234, 65, 65, 64, 222, 93, 174, 34, 35, 176, 3, 97, 163, 150, 23, 122, 156, 180, 16, 255, 97, 242, 0, 21, 173]
def noL : List UInt8 := [227, 176, 196, 66, 152, 252, 28, 20, 154, 251, 244, 200, 153, 111, 185, 36, 39, 174, 65, 228, 100, 155, 147, 76, 164, 149, 153, 27, 120, 82, 184, 85]
theorem sum_abc : shaL [97, 98, 99] = abcL := by
  rw [shaL_small _ (by decide)]
  decide +kernel
theorem sum_no : shaL [] = noL := by
  rw [shaL_small _ (by decide)]
  decide +kernel
end Go.Proofs.YtgfdhgnkanekhaaDoor
