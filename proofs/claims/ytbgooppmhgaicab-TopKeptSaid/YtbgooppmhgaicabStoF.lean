
/-
  store: the answers that the laws ask for first.
-/
import Derived.Test.YtbgooppmhgaicabStoE
namespace Go.Proofs.Ytbgooppmhgaicab
set_option maxRecDepth 100000
set_option linter.unusedVariables false
set_option linter.unusedSimpArgs false
open Go.RowKit

theorem n1 : encN 1 = [1] := by rw [encN_lt (by omega)]; rfl
theorem n2 : encN 2 = [2] := by rw [encN_lt (by omega)]; rfl
theorem n5 : encN 5 = [5] := by rw [encN_lt (by omega)]; rfl
theorem n6 : encN 6 = [6] := by rw [encN_lt (by omega)]; rfl
theorem n300 : encN 300 = [172, 2] := by rw [encN_ge (by omega), encN_lt (by omega)]; rfl
theorem r5 : cntR 5 = ⟨#[2, 1, 99, 1, 5]⟩ := by
  unfold cntR
  rw [n5]
  show mkS (encN 2 ++ ((encN 1 ++ [99]) ++ ((encN 1 ++ [5]) ++ []))) = _
  rw [n1, n2]; rfl
theorem r300 : cntR 300 = ⟨#[2, 1, 99, 2, 172, 2]⟩ := by
  unfold cntR
  rw [n300]
  show mkS (encN 2 ++ ((encN 1 ++ [99]) ++ ((encN 2 ++ [172, 2]) ++ []))) = _
  rw [n1, n2]; rfl
theorem rab : entR ⟨#[97, 98]⟩ = ⟨#[2, 1, 101, 2, 97, 98]⟩ := by
  show mkS (encN 2 ++ ((encN 1 ++ [101]) ++ ((encN 2 ++ [97, 98]) ++ []))) = _
  rw [n1, n2]; rfl
theorem t5 : encT ⟨#[2, 1, 99, 1, 5]⟩ = [5, 2, 1, 99, 1, 5] := by
  show encN 5 ++ [2, 1, 99, 1, 5] = _
  rw [n5]; rfl
theorem t300 : encT ⟨#[2, 1, 99, 2, 172, 2]⟩ = [6, 2, 1, 99, 2, 172, 2] := by
  show encN 6 ++ [2, 1, 99, 2, 172, 2] = _
  rw [n6]; rfl
theorem tab : encT ⟨#[2, 1, 101, 2, 97, 98]⟩ = [6, 2, 1, 101, 2, 97, 98] := by
  show encN 6 ++ [2, 1, 101, 2, 97, 98] = _
  rw [n6]; rfl
theorem tx : encT ⟨#[120]⟩ = [1, 120] := by
  show encN 1 ++ [120] = _
  rw [n1]; rfl
theorem y5 : bytesL (sumL [5, 2, 1, 99, 1, 5]) = [137, 14, 63, 89] := by decide +kernel
theorem y300 : bytesL (sumL [6, 2, 1, 99, 2, 172, 2]) = [101, 150, 83, 5] := by decide +kernel
theorem yab : bytesL (sumL [6, 2, 1, 101, 2, 97, 98]) = [215, 99, 230, 189] := by decide +kernel
theorem yx : bytesL (sumL [1, 120]) = [20, 18, 85, 254] := by decide +kernel
theorem q5 : recB (cntR 5) = [5, 2, 1, 99, 1, 5, 137, 14, 63, 89] := by rw [r5]; unfold recB; rw [t5, y5]; rfl
theorem q300 : recB (cntR 300) = [6, 2, 1, 99, 2, 172, 2, 101, 150, 83, 5] := by rw [r300]; unfold recB; rw [t300, y300]; rfl
theorem qab : recB (entR ⟨#[97, 98]⟩) = [6, 2, 1, 101, 2, 97, 98, 215, 99, 230, 189] := by rw [rab]; unfold recB; rw [tab, yab]; rfl
theorem qx : recB ⟨#[120]⟩ = [1, 120, 20, 18, 85, 254] := by unfold recB; rw [tx, yx]; rfl
def rs3 : List ByteArray := [cntR 5, entR ⟨#[97, 98]⟩, cntR 300]
theorem rs3_small : ∀ t ∈ rs3, t.size ≤ 8192 := by
  intro t ht
  simp [rs3] at ht
  rcases ht with rfl | rfl | rfl
  · have := cntR_size (n := 5) (by omega); omega
  · rw [rab]; decide
  · have := cntR_size (n := 300) (by omega); omega
theorem cat3 : cat rs3 = [5, 2, 1, 99, 1, 5, 137, 14, 63, 89, 6, 2, 1, 101, 2, 97, 98, 215, 99, 230, 189, 6, 2, 1, 99, 2, 172, 2, 101, 150, 83, 5] := by
  unfold rs3; rw [cat_cons, cat_cons, cat_cons, cat_nil, q5, qab, q300]; rfl
theorem ld3 : ld rs3 = ([⟨#[97, 98]⟩], 300, 0) := by
  have p1 := prs_cnt (n := 5) (by omega)
  have p2 := prs_ent (t := ⟨#[97, 98]⟩) (by decide)
  have p3 := prs_cnt (n := 300) (by omega)
  unfold ld rs3
  simp [ldF, p1, p2, p3]
theorem rdD3 : rdT [5, 2, 1, 99, 1, 5, 137, 14, 63, 89, 6, 2, 1, 101, 2, 97, 98, 215, 99, 230, 189, 6, 2, 1, 99, 2, 172, 2, 101, 150, 83, 5] = rs3 := by rw [← cat3]; exact rdT_whole _ rs3_small
theorem rdD33 : rdT [5, 2, 1, 99, 1, 5, 137, 14, 63, 89, 6, 2, 1, 101, 2, 97, 98, 215, 99, 230, 189, 6, 2, 1, 99, 2, 172, 2, 101, 150, 83, 5, 33] = rs3 := by
  have h := rdT_cat rs3 rs3_small [33]
  rw [cat3, rdT_none (l := [33]) (by decide +kernel), List.append_nil] at h
  exact h
theorem prsx : (prs ⟨#[120]⟩).1 = 0 := prs_err (by decide +kernel)
theorem rdX : ld (rdT [1, 120, 20, 18, 85, 254]) = ([], 0, 6) := by
  have h := rdT_whole [⟨#[120]⟩] (by intro t ht; simp at ht; subst ht; decide)
  rw [cat_cons, cat_nil, qx] at h
  rw [show ([1, 120, 20, 18, 85, 254] : List UInt8) = [1, 120, 20, 18, 85, 254] ++ [] from rfl, h]
  unfold ld
  rw [ldF, if_neg (by rw [prsx]; decide), if_neg (by rw [prsx]; decide)]
theorem datC : datB [⟨#[97, 98]⟩] 300 = [6, 2, 1, 99, 2, 172, 2, 101, 150, 83, 5, 6, 2, 1, 101, 2, 97, 98, 215, 99, 230, 189] := by
  unfold datB datH
  rw [if_pos (by omega), q300]
  show [6, 2, 1, 99, 2, 172, 2, 101, 150, 83, 5] ++ (jbL (entR ⟨#[97, 98]⟩) ++ []) = _
  unfold jbL
  rw [if_pos (by rw [rab]; decide), qab]; rfl

theorem strsLit1 (w : World) (a : ByteArray) (e : Nat) : StrsAt (w.alloc (.cells #[.string a] e)) (.slice (some ⟨w.heap.size, 0, none⟩) 1 1) [a] := by
  refine ⟨_, _, rfl, fun k hk => ⟨w.heap.size, 0, rfl, ?_⟩⟩
  have h : (w.alloc (.cells #[.string a] e)).heap[w.heap.size]? = some (.cells #[.string a] e) := heap_alloc_new w _
  match k, hk with
  | 0, _ => unfold World.cell?; dsimp only; rw [h]; rfl

end Go.Proofs.Ytbgooppmhgaicab
