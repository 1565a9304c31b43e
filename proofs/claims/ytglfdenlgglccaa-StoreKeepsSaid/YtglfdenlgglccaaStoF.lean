
/-
  store: the answers that the laws ask for first.
-/
import Derived.Test.YtglfdenlgglccaaStoE
namespace Go.Proofs.Ytglfdenlgglccaa
set_option maxRecDepth 100000
set_option linter.unusedVariables false
set_option linter.unusedSimpArgs false
open Go.RowKit

theorem n1 : encN 1 = [1] := by rw [encN_lt (by omega)]; rfl
theorem n2 : encN 2 = [2] := by rw [encN_lt (by omega)]; rfl
theorem n5 : encN 5 = [5] := by rw [encN_lt (by omega)]; rfl
theorem n6 : encN 6 = [6] := by rw [encN_lt (by omega)]; rfl
theorem n300 : encN 300 = [172, 2] := by rw [encN_ge (by omega), encN_lt (by omega)]; rfl
theorem r5 : cntR 5 = ⟨#[2, 1, 99, 1, 5]⟩ := by
  unfold cntR
  rw [n5]
  show mkS (encN 2 ++ ((encN 1 ++ [99]) ++ ((encN 1 ++ [5]) ++ []))) = _
  rw [n1, n2]; rfl
theorem r300 : cntR 300 = ⟨#[2, 1, 99, 2, 172, 2]⟩ := by
  unfold cntR
  rw [n300]
  show mkS (encN 2 ++ ((encN 1 ++ [99]) ++ ((encN 2 ++ [172, 2]) ++ []))) = _
  rw [n1, n2]; rfl
theorem rab : entR ⟨#[97, 98]⟩ = ⟨#[2, 1, 101, 2, 97, 98]⟩ := by
  show mkS (encN 2 ++ ((encN 1 ++ [101]) ++ ((encN 2 ++ [97, 98]) ++ []))) = _
  rw [n1, n2]; rfl
theorem t5 : encT ⟨#[2, 1, 99, 1, 5]⟩ = [5, 2, 1, 99, 1, 5] := by
  show encN 5 ++ [2, 1, 99, 1, 5] = _
  rw [n5]; rfl
theorem t300 : encT ⟨#[2, 1, 99, 2, 172, 2]⟩ = [6, 2, 1, 99, 2, 172, 2] := by
  show encN 6 ++ [2, 1, 99, 2, 172, 2] = _
  rw [n6]; rfl
theorem tab : encT ⟨#[2, 1, 101, 2, 97, 98]⟩ = [6, 2, 1, 101, 2, 97, 98] := by
  show encN 6 ++ [2, 1, 101, 2, 97, 98] = _
  rw [n6]; rfl
theorem tx : encT ⟨#[120]⟩ = [1, 120] := by
  show encN 1 ++ [120] = _
  rw [n1]; rfl
theorem y5 : bytesL (sumL [5, 2, 1, 99, 1, 5]) = [137, 14, 63, 89] := by decide +kernel
theorem y300 : bytesL (sumL [6, 2, 1, 99, 2, 172, 2]) = [101, 150, 83, 5] := by decide +kernel
theorem yab : bytesL (sumL [6, 2, 1, 101, 2, 97, 98]) = [215, 99, 230, 189] := by decide +kernel
theorem yx : bytesL (sumL [1, 120]) = [20, 18, 85, 254] := by decide +kernel
theorem q5 : recB (cntR 5) = [5, 2, 1, 99, 1, 5, 137, 14, 63, 89] := by rw [r5]; unfold recB; rw [t5, y5]; rfl
theorem q300 : recB (cntR 300) = [6, 2, 1, 99, 2, 172, 2, 101, 150, 83, 5] := by rw [r300]; unfold recB; rw [t300, y300]; rfl
theorem qab : recB (entR ⟨#[97, 98]⟩) = [6, 2, 1, 101, 2, 97, 98, 215, 99, 230, 189] := by rw [rab]; unfold recB; rw [tab, yab]; rfl
theorem qx : recB ⟨#[120]⟩ = [1, 120, 20, 18, 85, 254] := by unfold recB; rw [tx, yx]; rfl
def rs3 : List ByteArray := [cntR 5, entR ⟨#[97, 98]⟩, cntR 300]
theorem rs3_small : ∀ t ∈ rs3, t.size ≤ 8192 := by
  intro t ht
  simp [rs3] at ht
  rcases ht with rfl | rfl | rfl
  · have := cntR_size (n := 5) (by omega); omega
  · rw [rab]; decide
  · have := cntR_size (n := 300) (by omega); omega
theorem cat3 : cat rs3 = [5, 2, 1, 99, 1, 5, 137, 14, 63, 89, 6, 2, 1, 101, 2, 97, 98, 215, 99, 230, 189, 6, 2, 1, 99, 2, 172, 2, 101, 150, 83, 5] := by
  unfold rs3; rw [cat_cons, cat_cons, cat_cons, cat_nil, q5, qab, q300]; rfl
theorem ld3 : ld rs3 = ([⟨#[97, 98]⟩], 300, 0) := by
  have p1 := prs_cnt (n := 5) (by omega)
  have p2 := prs_ent (t := ⟨#[97, 98]⟩) (by decide)
  have p3 := prs_cnt (n := 300) (by omega)
  unfold ld rs3
  simp [ldF, p1, p2, p3]
theorem rdD3 : rdT [5, 2, 1, 99, 1, 5, 137, 14, 63, 89, 6, 2, 1, 101, 2, 97, 98, 215, 99, 230, 189, 6, 2, 1, 99, 2, 172, 2, 101, 150, 83, 5] = rs3 := by rw [← cat3]; exact rdT_whole _ rs3_small
theorem rdD33 : rdT [5, 2, 1, 99, 1, 5, 137, 14, 63, 89, 6, 2, 1, 101, 2, 97, 98, 215, 99, 230, 189, 6, 2, 1, 99, 2, 172, 2, 101, 150, 83, 5, 33] = rs3 := by
  have h := rdT_cat rs3 rs3_small [33]
  rw [cat3, rdT_none (l := [33]) (by decide +kernel), List.append_nil] at h
  exact h
theorem prsx : (prs ⟨#[120]⟩).1 = 0 := prs_err (by decide +kernel)
theorem rdX : ld (rdT [1, 120, 20, 18, 85, 254]) = ([], 0, 6) := by
  have h := rdT_whole [⟨#[120]⟩] (by intro t ht; simp at ht; subst ht; decide)
  rw [cat_cons, cat_nil, qx] at h
  rw [show ([1, 120, 20, 18, 85, 254] : List UInt8) = [1, 120, 20, 18, 85, 254] ++ [] from rfl, h]
  unfold ld
  rw [ldF, if_neg (by rw [prsx]; decide), if_neg (by rw [prsx]; decide)]
theorem datC : datB [⟨#[97, 98]⟩] 300 = [6, 2, 1, 99, 2, 172, 2, 101, 150, 83, 5, 6, 2, 1, 101, 2, 97, 98, 215, 99, 230, 189] := by
  unfold datB datH
  rw [if_pos (by omega), q300]
  show [6, 2, 1, 99, 2, 172, 2, 101, 150, 83, 5] ++ (jbL (entR ⟨#[97, 98]⟩) ++ []) = _
  unfold jbL
  rw [if_pos (by rw [rab]; decide), qab]; rfl

set_option maxHeartbeats 4000000 in
theorem rsame10_any (w : World) (va vb : Option Addr) (n m ca cb : Nat) (ss : List ByteArray) (c : Int) (h1 : StrsAt w (.slice va n ca) ss) (h2 : StrsAt w (.slice vb m cb) ss) (hn : ss.length ≤ 140737488351232) :
    Calls Try.prog 17 #[.agg #[.slice va n ca, .int .i64 c], .agg #[.slice vb m cb, .int .i64 c]] w fun e w' => e = .returned (.bool true) ∧ Below w.heap.size w w' := by
  have HB := hidp (((Below.refl w.heap.size w).alloc (Nat.le_refl _) (.cells #[.slice va n ca, .int .i64 c] 33)).alloc (by simp) (.cells #[.slice vb m cb, .int .i64 c] 33))
  have HS := hidp (same_any ((w.alloc (.cells #[.slice va n ca, .int .i64 c] 33)).alloc (.cells #[.slice vb m cb, .int .i64 c] 33)) _ _ _ _ (h1.below HB.out (Nat.le_refl _)) (h2.below HB.out (Nat.le_refl _)) hn hn)
  rw [sameB_self] at HS
  have qc : (c == c) = true := by simp
  go_enter Try.func17, Try.ntmps17
  go_wp2_with fail
  refine HS.out.mono ?_
  rintro e w1 ⟨rfl, hb1⟩
  have HB1 := hidp (HB.out.trans (hb1.mono HB.out.size)); clear hb1
  go_wp2_with fail
  go_ret
  exact ⟨rfl, HB1.out⟩
theorem strsLit1 (w : World) (a : ByteArray) (e : Nat) : StrsAt (w.alloc (.cells #[.string a] e)) (.slice (some ⟨w.heap.size, 0, none⟩) 1 1) [a] := by
  refine ⟨_, _, rfl, fun k hk => ⟨w.heap.size, 0, rfl, ?_⟩⟩
  have h : (w.alloc (.cells #[.string a] e)).heap[w.heap.size]? = some (.cells #[.string a] e) := heap_alloc_new w _
  match k, hk with
  | 0, _ => unfold World.cell?; dsimp only; rw [h]; rfl

set_option maxHeartbeats 8000000 in
theorem lives10_any (w : World) : Calls Try.prog 6 #[] w fun e w' => e = .returned (.bool true) ∧ Below w.heap.size w w' := by
  have c1 := hidp (show ∀ W, Calls Try.prog 18 #[.int .i64 100] W fun e w' => e = .returned (.tuple #[.agg #[.string ⟨#[]⟩, .int .i64 0, .int .i64 100], .int .i64 0]) ∧ Below W.heap.size W w' from fun W => by
    exact new_ok W 100 (by omega) (by omega))
  have c2 := hidp (show ∀ W, Calls Try.prog 9 #[.agg #[.string ⟨#[]⟩, .int .i64 0, .int .i64 100], .int .i64 5] W fun e w' => e = .returned (.tuple #[.agg #[.string ⟨#[5, 2, 1, 99, 1, 5, 137, 14, 63, 89]⟩, .int .i64 0, .int .i64 100], .int .i64 0]) ∧ Below W.heap.size W w' from fun W => by
    have ha := fun W => add_ok W ⟨#[]⟩ 0 100 (cntR 5) (by decide) (by have := cntR_size (n := 5) (by omega); omega) (by rw [q5]; decide)
    rw [q5] at ha
    exact putc_add W ⟨#[]⟩ 0 100 5 5 (by omega) rfl _ _ _ _ ha)
  have c3 := hidp (show ∀ W, Calls Try.prog 7 #[.agg #[.string ⟨#[5, 2, 1, 99, 1, 5, 137, 14, 63, 89]⟩, .int .i64 0, .int .i64 100], .string ⟨#[97, 98]⟩] W fun e w' => e = .returned (.tuple #[.agg #[.string ⟨#[5, 2, 1, 99, 1, 5, 137, 14, 63, 89, 6, 2, 1, 101, 2, 97, 98, 215, 99, 230, 189]⟩, .int .i64 0, .int .i64 100], .int .i64 0]) ∧ Below W.heap.size W w' from fun W => by
    have ha := fun W => add_ok W ⟨#[5, 2, 1, 99, 1, 5, 137, 14, 63, 89]⟩ 0 100 (entR ⟨#[97, 98]⟩) (by decide) (by rw [rab]; decide) (by rw [qab]; decide)
    rw [qab, show (ByteArray.mk #[5, 2, 1, 99, 1, 5, 137, 14, 63, 89]) ++ mkS [6, 2, 1, 101, 2, 97, 98, 215, 99, 230, 189] = ⟨#[5, 2, 1, 99, 1, 5, 137, 14, 63, 89, 6, 2, 1, 101, 2, 97, 98, 215, 99, 230, 189]⟩ from mkS_append [5, 2, 1, 99, 1, 5, 137, 14, 63, 89] [6, 2, 1, 101, 2, 97, 98, 215, 99, 230, 189]] at ha
    exact pute_add W ⟨#[5, 2, 1, 99, 1, 5, 137, 14, 63, 89]⟩ 0 100 ⟨#[97, 98]⟩ (by decide) _ _ _ _ ha)
  have c4 := hidp (show ∀ W, Calls Try.prog 9 #[.agg #[.string ⟨#[5, 2, 1, 99, 1, 5, 137, 14, 63, 89, 6, 2, 1, 101, 2, 97, 98, 215, 99, 230, 189]⟩, .int .i64 0, .int .i64 100], .int .i64 300] W fun e w' => e = .returned (.tuple #[.agg #[.string ⟨#[5, 2, 1, 99, 1, 5, 137, 14, 63, 89, 6, 2, 1, 101, 2, 97, 98, 215, 99, 230, 189, 6, 2, 1, 99, 2, 172, 2, 101, 150, 83, 5]⟩, .int .i64 0, .int .i64 100], .int .i64 0]) ∧ Below W.heap.size W w' from fun W => by
    have ha := fun W => add_ok W ⟨#[5, 2, 1, 99, 1, 5, 137, 14, 63, 89, 6, 2, 1, 101, 2, 97, 98, 215, 99, 230, 189]⟩ 0 100 (cntR 300) (by decide) (by have := cntR_size (n := 300) (by omega); omega) (by rw [q300]; decide)
    rw [q300, show (ByteArray.mk #[5, 2, 1, 99, 1, 5, 137, 14, 63, 89, 6, 2, 1, 101, 2, 97, 98, 215, 99, 230, 189]) ++ mkS [6, 2, 1, 99, 2, 172, 2, 101, 150, 83, 5] = ⟨#[5, 2, 1, 99, 1, 5, 137, 14, 63, 89, 6, 2, 1, 101, 2, 97, 98, 215, 99, 230, 189, 6, 2, 1, 99, 2, 172, 2, 101, 150, 83, 5]⟩ from mkS_append [5, 2, 1, 99, 1, 5, 137, 14, 63, 89, 6, 2, 1, 101, 2, 97, 98, 215, 99, 230, 189] [6, 2, 1, 99, 2, 172, 2, 101, 150, 83, 5]] at ha
    exact putc_add W ⟨#[5, 2, 1, 99, 1, 5, 137, 14, 63, 89, 6, 2, 1, 101, 2, 97, 98, 215, 99, 230, 189]⟩ 0 100 300 300 (by omega) rfl _ _ _ _ ha)
  have c5 := hidp (show ∀ W, Calls Try.prog 13 #[.string ⟨#[5, 2, 1, 99, 1, 5, 137, 14, 63, 89, 6, 2, 1, 101, 2, 97, 98, 215, 99, 230, 189, 6, 2, 1, 99, 2, 172, 2, 101, 150, 83, 5]⟩] W fun e w' => ∃ v, e = .returned (.tuple #[.agg #[v, .int .i64 300], .int .i64 0]) ∧ OwnV w' W.heap.size 9 v (strV [⟨#[97, 98]⟩]) ∧ Below W.heap.size W w' from fun W => by
    have := load_any W ⟨#[5, 2, 1, 99, 1, 5, 137, 14, 63, 89, 6, 2, 1, 101, 2, 97, 98, 215, 99, 230, 189, 6, 2, 1, 99, 2, 172, 2, 101, 150, 83, 5]⟩ (by decide)
    rw [show (ByteArray.mk #[5, 2, 1, 99, 1, 5, 137, 14, 63, 89, 6, 2, 1, 101, 2, 97, 98, 215, 99, 230, 189, 6, 2, 1, 99, 2, 172, 2, 101, 150, 83, 5]).data.toList = [5, 2, 1, 99, 1, 5, 137, 14, 63, 89, 6, 2, 1, 101, 2, 97, 98, 215, 99, 230, 189, 6, 2, 1, 99, 2, 172, 2, 101, 150, 83, 5] from rfl, rdD3, ld3] at this
    exact this)
  have c6 := hidp (show ∀ W, Calls Try.prog 15 #[.agg #[.string ⟨#[5, 2, 1, 99, 1, 5, 137, 14, 63, 89, 6, 2, 1, 101, 2, 97, 98, 215, 99, 230, 189, 6, 2, 1, 99, 2, 172, 2, 101, 150, 83, 5, 33]⟩, .int .i64 0, .int .i64 100]] W fun e w' => ∃ v, e = .returned (.tuple #[.agg #[.string ⟨#[5, 2, 1, 99, 1, 5, 137, 14, 63, 89, 6, 2, 1, 101, 2, 97, 98, 215, 99, 230, 189, 6, 2, 1, 99, 2, 172, 2, 101, 150, 83, 5]⟩, .int .i64 32, .int .i64 100], .agg #[v, .int .i64 300], .int .i64 0]) ∧ OwnV w' W.heap.size 9 v (strV [⟨#[97, 98]⟩]) ∧ Below W.heap.size W w' from fun W => by
    have := rst_ok W ⟨#[5, 2, 1, 99, 1, 5, 137, 14, 63, 89, 6, 2, 1, 101, 2, 97, 98, 215, 99, 230, 189, 6, 2, 1, 99, 2, 172, 2, 101, 150, 83, 5, 33]⟩ 0 100 (by decide) [⟨#[97, 98]⟩] 300 (by rw [show (ByteArray.mk #[5, 2, 1, 99, 1, 5, 137, 14, 63, 89, 6, 2, 1, 101, 2, 97, 98, 215, 99, 230, 189, 6, 2, 1, 99, 2, 172, 2, 101, 150, 83, 5, 33]).data.toList = [5, 2, 1, 99, 1, 5, 137, 14, 63, 89, 6, 2, 1, 101, 2, 97, 98, 215, 99, 230, 189, 6, 2, 1, 99, 2, 172, 2, 101, 150, 83, 5, 33] from rfl, rdD33, ld3])
    unfold rdN at this
    rw [show (ByteArray.mk #[5, 2, 1, 99, 1, 5, 137, 14, 63, 89, 6, 2, 1, 101, 2, 97, 98, 215, 99, 230, 189, 6, 2, 1, 99, 2, 172, 2, 101, 150, 83, 5, 33]).data.toList = [5, 2, 1, 99, 1, 5, 137, 14, 63, 89, 6, 2, 1, 101, 2, 97, 98, 215, 99, 230, 189, 6, 2, 1, 99, 2, 172, 2, 101, 150, 83, 5, 33] from rfl, rdD33, cat3] at this
    exact this)
  have c7 := hidp (show ∀ W, Calls Try.prog 11 #[.agg #[.string ⟨#[5, 2, 1, 99, 1, 5, 137, 14, 63, 89, 6, 2, 1, 101, 2, 97, 98, 215, 99, 230, 189, 6, 2, 1, 99, 2, 172, 2, 101, 150, 83, 5]⟩, .int .i64 0, .int .i64 100]] W fun e w' => e = .returned (.tuple #[.agg #[.string ⟨#[6, 2, 1, 99, 2, 172, 2, 101, 150, 83, 5, 6, 2, 1, 101, 2, 97, 98, 215, 99, 230, 189]⟩, .int .i64 22, .int .i64 100], .int .i64 0]) ∧ Below W.heap.size W w' from fun W => by
    have := comp_ok W ⟨#[5, 2, 1, 99, 1, 5, 137, 14, 63, 89, 6, 2, 1, 101, 2, 97, 98, 215, 99, 230, 189, 6, 2, 1, 99, 2, 172, 2, 101, 150, 83, 5]⟩ 0 100 (by decide) [⟨#[97, 98]⟩] 300 (by rw [show (ByteArray.mk #[5, 2, 1, 99, 1, 5, 137, 14, 63, 89, 6, 2, 1, 101, 2, 97, 98, 215, 99, 230, 189, 6, 2, 1, 99, 2, 172, 2, 101, 150, 83, 5]).data.toList = [5, 2, 1, 99, 1, 5, 137, 14, 63, 89, 6, 2, 1, 101, 2, 97, 98, 215, 99, 230, 189, 6, 2, 1, 99, 2, 172, 2, 101, 150, 83, 5] from rfl, rdD3, ld3])
    rw [datC] at this
    exact this)
  have c8 := hidp (show ∀ W, Calls Try.prog 9 #[.agg #[.string ⟨#[5, 2, 1, 99, 1, 5, 137, 14, 63, 89, 6, 2, 1, 101, 2, 97, 98, 215, 99, 230, 189, 6, 2, 1, 99, 2, 172, 2, 101, 150, 83, 5]⟩, .int .i64 0, .int .i64 100], .int .i64 (-1)] W fun e w' => e = .returned (.tuple #[.agg #[.string ⟨#[5, 2, 1, 99, 1, 5, 137, 14, 63, 89, 6, 2, 1, 101, 2, 97, 98, 215, 99, 230, 189, 6, 2, 1, 99, 2, 172, 2, 101, 150, 83, 5]⟩, .int .i64 0, .int .i64 100], .int .i64 1]) ∧ Below W.heap.size W w' from fun W => by
    exact putc_no W ⟨#[5, 2, 1, 99, 1, 5, 137, 14, 63, 89, 6, 2, 1, 101, 2, 97, 98, 215, 99, 230, 189, 6, 2, 1, 99, 2, 172, 2, 101, 150, 83, 5]⟩ 0 100 (-1) (by decide) (by omega))
  have c9 := hidp (show ∀ W, Calls Try.prog 22 #[.string ⟨#[120]⟩] W fun e w' => e = .returned (.tuple #[.string ⟨#[1, 120, 20, 18, 85, 254]⟩, .int .i64 0]) ∧ Below W.heap.size W w' from fun W => by
    have := jbytes_any W ⟨#[120]⟩ (by decide)
    rw [jbS_yes (by decide), textE_yes (by decide), qx] at this
    exact this)
  have c10 := hidp (show ∀ W, Calls Try.prog 13 #[.string ⟨#[1, 120, 20, 18, 85, 254]⟩] W fun e w' => ∃ v, e = .returned (.tuple #[.agg #[v, .int .i64 0], .int .i64 6]) ∧ OwnV w' W.heap.size 9 v (strV []) ∧ Below W.heap.size W w' from fun W => by
    have := load_any W ⟨#[1, 120, 20, 18, 85, 254]⟩ (by decide)
    rw [show (ByteArray.mk #[1, 120, 20, 18, 85, 254]).data.toList = [1, 120, 20, 18, 85, 254] from rfl, rdX] at this
    exact this)
  have qd : ((⟨#[5, 2, 1, 99, 1, 5, 137, 14, 63, 89, 6, 2, 1, 101, 2, 97, 98, 215, 99, 230, 189, 6, 2, 1, 99, 2, 172, 2, 101, 150, 83, 5]⟩ : ByteArray) ++ (⟨#[33]⟩ : ByteArray)) = ⟨#[5, 2, 1, 99, 1, 5, 137, 14, 63, 89, 6, 2, 1, 101, 2, 97, 98, 215, 99, 230, 189, 6, 2, 1, 99, 2, 172, 2, 101, 150, 83, 5, 33]⟩ := mkS_append [5, 2, 1, 99, 1, 5, 137, 14, 63, 89, 6, 2, 1, 101, 2, 97, 98, 215, 99, 230, 189, 6, 2, 1, 99, 2, 172, 2, 101, 150, 83, 5] [33]
  go_enter Try.func6, Try.ntmps6
  go_wp2_with fail
  refine (c1.out _).mono ?_
  rintro e w1 ⟨rfl, hb1⟩
  have HB1 := hidp ((Below.refl w.heap.size w).trans (hb1.mono (Below.refl w.heap.size w).size))
  have hle1 := HB1.out.size
  clear hb1
  go_wp2_with fail
  have HX1a := hidp (HB1.out.alloc hle1 (.cells #[.string ⟨#[]⟩, .int .i64 0, .int .i64 100] 23))
  have Aa1a := hidp (Arr.new w1 23 [.string ⟨#[]⟩, .int .i64 0, .int .i64 100])
  obtain ⟨ba, hba⟩ : ∃ b, w1.heap.size = b := ⟨_, rfl⟩
  generalize hWW : (w1.alloc (.cells #[.string ⟨#[]⟩, .int .i64 0, .int .i64 100] 23)) = W1a at HX1a Aa1a ⊢
  rw [hba] at Aa1a ⊢
  have hgea : w.heap.size ≤ ba := by rw [← hba]; exact hle1
  clear hWW hba
  refine (c2.out _).mono ?_
  rintro e w2 ⟨rfl, hb2⟩
  have HB2 := hidp (HX1a.out.trans (hb2.mono HX1a.out.size))
  have hle2 := HB2.out.size
  have Aa2 := hidp (Aa1a.out.below hb2 Aa1a.out.lt)
  have hlta := Aa2.out.lt
  clear hb2
  obtain ⟨a0, a1, a2, af⟩ := arr3 Aa2.out
  have af0 := af 0; have af1 := af 1; have af2 := af 2
  clear af
  go_wp2_with fail
  clear a0 a1 a2 af0 af1 af2
  have HX2a := hidp (((HB2.out.setCell (p := ⟨ba, 0, none⟩) hgea (.string ⟨#[5, 2, 1, 99, 1, 5, 137, 14, 63, 89]⟩)).setCell (p := ⟨ba, 1, none⟩) hgea (.int .i64 0)).setCell (p := ⟨ba, 2, none⟩) hgea (.int .i64 100))
  have Aa2a := hidp (arr3_set Aa2.out (.string ⟨#[5, 2, 1, 99, 1, 5, 137, 14, 63, 89]⟩) (.int .i64 0) (.int .i64 100))
  generalize hWW : (((w2.setCell ⟨ba, 0, none⟩ (.string ⟨#[5, 2, 1, 99, 1, 5, 137, 14, 63, 89]⟩)).setCell ⟨ba, 1, none⟩ (.int .i64 0)).setCell ⟨ba, 2, none⟩ (.int .i64 100)) = W2a at HX2a Aa2a ⊢
  clear hWW
  refine (c3.out _).mono ?_
  rintro e w3 ⟨rfl, hb3⟩
  have HB3 := hidp (HX2a.out.trans (hb3.mono HX2a.out.size))
  have hle3 := HB3.out.size
  have Aa3 := hidp (Aa2a.out.below hb3 Aa2a.out.lt)
  have hlta := Aa3.out.lt
  clear hb3
  obtain ⟨a0, a1, a2, af⟩ := arr3 Aa3.out
  have af0 := af 0; have af1 := af 1; have af2 := af 2
  clear af
  go_wp2_with fail
  clear a0 a1 a2 af0 af1 af2
  have HX3a := hidp (((HB3.out.setCell (p := ⟨ba, 0, none⟩) hgea (.string ⟨#[5, 2, 1, 99, 1, 5, 137, 14, 63, 89, 6, 2, 1, 101, 2, 97, 98, 215, 99, 230, 189]⟩)).setCell (p := ⟨ba, 1, none⟩) hgea (.int .i64 0)).setCell (p := ⟨ba, 2, none⟩) hgea (.int .i64 100))
  have Aa3a := hidp (arr3_set Aa3.out (.string ⟨#[5, 2, 1, 99, 1, 5, 137, 14, 63, 89, 6, 2, 1, 101, 2, 97, 98, 215, 99, 230, 189]⟩) (.int .i64 0) (.int .i64 100))
  generalize hWW : (((w3.setCell ⟨ba, 0, none⟩ (.string ⟨#[5, 2, 1, 99, 1, 5, 137, 14, 63, 89, 6, 2, 1, 101, 2, 97, 98, 215, 99, 230, 189]⟩)).setCell ⟨ba, 1, none⟩ (.int .i64 0)).setCell ⟨ba, 2, none⟩ (.int .i64 100)) = W3a at HX3a Aa3a ⊢
  clear hWW
  refine (c4.out _).mono ?_
  rintro e w4 ⟨rfl, hb4⟩
  have HB4 := hidp (HX3a.out.trans (hb4.mono HX3a.out.size))
  have hle4 := HB4.out.size
  have Aa4 := hidp (Aa3a.out.below hb4 Aa3a.out.lt)
  have hlta := Aa4.out.lt
  clear hb4
  obtain ⟨a0, a1, a2, af⟩ := arr3 Aa4.out
  have af0 := af 0; have af1 := af 1; have af2 := af 2
  clear af
  go_wp2_with fail
  clear a0 a1 a2 af0 af1 af2
  have HX4a := hidp (((HB4.out.setCell (p := ⟨ba, 0, none⟩) hgea (.string ⟨#[5, 2, 1, 99, 1, 5, 137, 14, 63, 89, 6, 2, 1, 101, 2, 97, 98, 215, 99, 230, 189, 6, 2, 1, 99, 2, 172, 2, 101, 150, 83, 5]⟩)).setCell (p := ⟨ba, 1, none⟩) hgea (.int .i64 0)).setCell (p := ⟨ba, 2, none⟩) hgea (.int .i64 100))
  have Aa4a := hidp (arr3_set Aa4.out (.string ⟨#[5, 2, 1, 99, 1, 5, 137, 14, 63, 89, 6, 2, 1, 101, 2, 97, 98, 215, 99, 230, 189, 6, 2, 1, 99, 2, 172, 2, 101, 150, 83, 5]⟩) (.int .i64 0) (.int .i64 100))
  generalize hWW : (((w4.setCell ⟨ba, 0, none⟩ (.string ⟨#[5, 2, 1, 99, 1, 5, 137, 14, 63, 89, 6, 2, 1, 101, 2, 97, 98, 215, 99, 230, 189, 6, 2, 1, 99, 2, 172, 2, 101, 150, 83, 5]⟩)).setCell ⟨ba, 1, none⟩ (.int .i64 0)).setCell ⟨ba, 2, none⟩ (.int .i64 100)) = W4a at HX4a Aa4a ⊢
  clear hWW
  refine (c5.out _).mono ?_
  rintro e w5 ⟨vx, rfl, hv5, hb5⟩
  have HB5 := hidp (HX4a.out.trans (hb5.mono HX4a.out.size))
  have hle5 := HB5.out.size
  have Aa5 := hidp (Aa4a.out.below hb5 Aa4a.out.lt)
  have hlta := Aa5.out.lt
  have Ox5 := hidp hv5
  clear hb5 hv5
  obtain ⟨ax, cx, hex, -⟩ := Ox5.out.formS
  have hex2 : vx = .slice ax 1 cx := hex
  clear hex
  subst hex2
  obtain ⟨a0, a1, a2, af⟩ := arr3 Aa5.out
  clear af
  go_wp2_with fail
  clear a0 a1 a2
  have HX5s := hidp (HB5.out.alloc hle5 (.cells #[.slice ax 1 cx, .int .i64 300] 33))
  have Aa5s := hidp (Aa5.out.alloc (.cells #[.slice ax 1 cx, .int .i64 300] 33))
  have Ox5s := hidp (Ox5.out.alloc (.cells #[.slice ax 1 cx, .int .i64 300] 33))
  have As5s := hidp (Arr.new w5 33 [.slice ax 1 cx, .int .i64 300])
  obtain ⟨bs, hbs⟩ : ∃ b, w5.heap.size = b := ⟨_, rfl⟩
  generalize hWW : (w5.alloc (.cells #[.slice ax 1 cx, .int .i64 300] 33)) = W5s at HX5s Aa5s Ox5s As5s ⊢
  rw [hbs] at As5s ⊢
  have hges : w.heap.size ≤ bs := by rw [← hbs]; exact hle5
  clear hWW hbs
  refine (c6.out _).mono ?_
  rintro e w6 ⟨vy, rfl, hv6, hb6⟩
  have HB6 := hidp (HX5s.out.trans (hb6.mono HX5s.out.size))
  have hle6 := HB6.out.size
  have Aa6 := hidp (Aa5s.out.below hb6 Aa5s.out.lt)
  have hlta := Aa6.out.lt
  have As6 := hidp (As5s.out.below hb6 As5s.out.lt)
  have hlts := As6.out.lt
  have Ox6 := hidp (Ox5s.out.kept hb6 (Nat.le_refl _))
  have Oy6 := hidp hv6
  clear hb6 hv6
  obtain ⟨ay, cy, hey, -⟩ := Oy6.out.formS
  have hey2 : vy = .slice ay 1 cy := hey
  clear hey
  subst hey2
  obtain ⟨a0, a1, a2, af⟩ := arr3 Aa6.out
  clear af
  go_wp2_with fail
  clear a0 a1 a2
  have HX6e := hidp ((HB6.out.alloc hle6 (.cells #[.string ⟨#[5, 2, 1, 99, 1, 5, 137, 14, 63, 89, 6, 2, 1, 101, 2, 97, 98, 215, 99, 230, 189, 6, 2, 1, 99, 2, 172, 2, 101, 150, 83, 5]⟩, .int .i64 32, .int .i64 100] 23)).alloc ((HB6.out.alloc hle6 (.cells #[.string ⟨#[5, 2, 1, 99, 1, 5, 137, 14, 63, 89, 6, 2, 1, 101, 2, 97, 98, 215, 99, 230, 189, 6, 2, 1, 99, 2, 172, 2, 101, 150, 83, 5]⟩, .int .i64 32, .int .i64 100] 23)).size) (.cells #[.slice ay 1 cy, .int .i64 300] 33))
  have Aa6e := hidp ((Aa6.out.alloc (.cells #[.string ⟨#[5, 2, 1, 99, 1, 5, 137, 14, 63, 89, 6, 2, 1, 101, 2, 97, 98, 215, 99, 230, 189, 6, 2, 1, 99, 2, 172, 2, 101, 150, 83, 5]⟩, .int .i64 32, .int .i64 100] 23)).alloc (.cells #[.slice ay 1 cy, .int .i64 300] 33))
  have As6e := hidp ((As6.out.alloc (.cells #[.string ⟨#[5, 2, 1, 99, 1, 5, 137, 14, 63, 89, 6, 2, 1, 101, 2, 97, 98, 215, 99, 230, 189, 6, 2, 1, 99, 2, 172, 2, 101, 150, 83, 5]⟩, .int .i64 32, .int .i64 100] 23)).alloc (.cells #[.slice ay 1 cy, .int .i64 300] 33))
  have Ox6e := hidp ((Ox6.out.alloc (.cells #[.string ⟨#[5, 2, 1, 99, 1, 5, 137, 14, 63, 89, 6, 2, 1, 101, 2, 97, 98, 215, 99, 230, 189, 6, 2, 1, 99, 2, 172, 2, 101, 150, 83, 5]⟩, .int .i64 32, .int .i64 100] 23)).alloc (.cells #[.slice ay 1 cy, .int .i64 300] 33))
  have Oy6e := hidp ((Oy6.out.alloc (.cells #[.string ⟨#[5, 2, 1, 99, 1, 5, 137, 14, 63, 89, 6, 2, 1, 101, 2, 97, 98, 215, 99, 230, 189, 6, 2, 1, 99, 2, 172, 2, 101, 150, 83, 5]⟩, .int .i64 32, .int .i64 100] 23)).alloc (.cells #[.slice ay 1 cy, .int .i64 300] 33))
  have Ae6e := hidp ((Arr.new w6 23 [.string ⟨#[5, 2, 1, 99, 1, 5, 137, 14, 63, 89, 6, 2, 1, 101, 2, 97, 98, 215, 99, 230, 189, 6, 2, 1, 99, 2, 172, 2, 101, 150, 83, 5]⟩, .int .i64 32, .int .i64 100]).alloc (.cells #[.slice ay 1 cy, .int .i64 300] 33))
  have At6e := hidp (show Arr _ (w6.heap.size + 1) 33 [.slice ay 1 cy, .int .i64 300] from by
    have h := Arr.new (w6.alloc (.cells #[.string ⟨#[5, 2, 1, 99, 1, 5, 137, 14, 63, 89, 6, 2, 1, 101, 2, 97, 98, 215, 99, 230, 189, 6, 2, 1, 99, 2, 172, 2, 101, 150, 83, 5]⟩, .int .i64 32, .int .i64 100] 23)) 33 [.slice ay 1 cy, .int .i64 300]
    rw [heap_size_alloc] at h
    exact h)
  obtain ⟨be, hbe⟩ : ∃ b, w6.heap.size = b := ⟨_, rfl⟩
  generalize hWW : ((w6.alloc (.cells #[.string ⟨#[5, 2, 1, 99, 1, 5, 137, 14, 63, 89, 6, 2, 1, 101, 2, 97, 98, 215, 99, 230, 189, 6, 2, 1, 99, 2, 172, 2, 101, 150, 83, 5]⟩, .int .i64 32, .int .i64 100] 23)).alloc (.cells #[.slice ay 1 cy, .int .i64 300] 33)) = W6e at HX6e Aa6e As6e Ox6e Oy6e Ae6e At6e ⊢
  rw [hbe] at Ae6e At6e ⊢
  have hgee : w.heap.size ≤ be := by rw [← hbe]; exact hle6
  clear hWW hbe
  refine (c7.out _).mono ?_
  rintro e w7 ⟨rfl, hb7⟩
  have HB7 := hidp (HX6e.out.trans (hb7.mono HX6e.out.size))
  have hle7 := HB7.out.size
  have Aa7 := hidp (Aa6e.out.below hb7 Aa6e.out.lt)
  have hlta := Aa7.out.lt
  have As7 := hidp (As6e.out.below hb7 As6e.out.lt)
  have hlts := As7.out.lt
  have Ae7 := hidp (Ae6e.out.below hb7 Ae6e.out.lt)
  have hlte := Ae7.out.lt
  have At7 := hidp (At6e.out.below hb7 At6e.out.lt)
  have hltt := At7.out.lt
  have Ox7 := hidp (Ox6e.out.kept hb7 (Nat.le_refl _))
  have Oy7 := hidp (Oy6e.out.kept hb7 (Nat.le_refl _))
  clear hb7
  obtain ⟨a0, a1, a2, af⟩ := arr3 Aa7.out
  clear af
  go_wp2_with fail
  clear a0 a1 a2
  have HX7c := hidp (HB7.out.alloc hle7 (.cells #[.string ⟨#[6, 2, 1, 99, 2, 172, 2, 101, 150, 83, 5, 6, 2, 1, 101, 2, 97, 98, 215, 99, 230, 189]⟩, .int .i64 22, .int .i64 100] 23))
  have Aa7c := hidp (Aa7.out.alloc (.cells #[.string ⟨#[6, 2, 1, 99, 2, 172, 2, 101, 150, 83, 5, 6, 2, 1, 101, 2, 97, 98, 215, 99, 230, 189]⟩, .int .i64 22, .int .i64 100] 23))
  have As7c := hidp (As7.out.alloc (.cells #[.string ⟨#[6, 2, 1, 99, 2, 172, 2, 101, 150, 83, 5, 6, 2, 1, 101, 2, 97, 98, 215, 99, 230, 189]⟩, .int .i64 22, .int .i64 100] 23))
  have Ae7c := hidp (Ae7.out.alloc (.cells #[.string ⟨#[6, 2, 1, 99, 2, 172, 2, 101, 150, 83, 5, 6, 2, 1, 101, 2, 97, 98, 215, 99, 230, 189]⟩, .int .i64 22, .int .i64 100] 23))
  have At7c := hidp (At7.out.alloc (.cells #[.string ⟨#[6, 2, 1, 99, 2, 172, 2, 101, 150, 83, 5, 6, 2, 1, 101, 2, 97, 98, 215, 99, 230, 189]⟩, .int .i64 22, .int .i64 100] 23))
  have Ox7c := hidp (Ox7.out.alloc (.cells #[.string ⟨#[6, 2, 1, 99, 2, 172, 2, 101, 150, 83, 5, 6, 2, 1, 101, 2, 97, 98, 215, 99, 230, 189]⟩, .int .i64 22, .int .i64 100] 23))
  have Oy7c := hidp (Oy7.out.alloc (.cells #[.string ⟨#[6, 2, 1, 99, 2, 172, 2, 101, 150, 83, 5, 6, 2, 1, 101, 2, 97, 98, 215, 99, 230, 189]⟩, .int .i64 22, .int .i64 100] 23))
  have Ac7c := hidp (Arr.new w7 23 [.string ⟨#[6, 2, 1, 99, 2, 172, 2, 101, 150, 83, 5, 6, 2, 1, 101, 2, 97, 98, 215, 99, 230, 189]⟩, .int .i64 22, .int .i64 100])
  obtain ⟨bc, hbc⟩ : ∃ b, w7.heap.size = b := ⟨_, rfl⟩
  generalize hWW : (w7.alloc (.cells #[.string ⟨#[6, 2, 1, 99, 2, 172, 2, 101, 150, 83, 5, 6, 2, 1, 101, 2, 97, 98, 215, 99, 230, 189]⟩, .int .i64 22, .int .i64 100] 23)) = W7c at HX7c Aa7c As7c Ae7c At7c Ox7c Oy7c Ac7c ⊢
  rw [hbc] at Ac7c ⊢
  have hgec : w.heap.size ≤ bc := by rw [← hbc]; exact hle7
  clear hWW hbc
  refine (c8.out _).mono ?_
  rintro e w8 ⟨rfl, hb8⟩
  have HB8 := hidp (HX7c.out.trans (hb8.mono HX7c.out.size))
  have hle8 := HB8.out.size
  have Aa8 := hidp (Aa7c.out.below hb8 Aa7c.out.lt)
  have hlta := Aa8.out.lt
  have As8 := hidp (As7c.out.below hb8 As7c.out.lt)
  have hlts := As8.out.lt
  have Ae8 := hidp (Ae7c.out.below hb8 Ae7c.out.lt)
  have hlte := Ae8.out.lt
  have At8 := hidp (At7c.out.below hb8 At7c.out.lt)
  have hltt := At8.out.lt
  have Ac8 := hidp (Ac7c.out.below hb8 Ac7c.out.lt)
  have hltc := Ac8.out.lt
  have Ox8 := hidp (Ox7c.out.kept hb8 (Nat.le_refl _))
  have Oy8 := hidp (Oy7c.out.kept hb8 (Nat.le_refl _))
  clear hb8
  go_wp2_with fail
  have HX8g := hidp (HB8.out.alloc hle8 (.cells #[.string ⟨#[5, 2, 1, 99, 1, 5, 137, 14, 63, 89, 6, 2, 1, 101, 2, 97, 98, 215, 99, 230, 189, 6, 2, 1, 99, 2, 172, 2, 101, 150, 83, 5]⟩, .int .i64 0, .int .i64 100] 23))
  have Aa8g := hidp (Aa8.out.alloc (.cells #[.string ⟨#[5, 2, 1, 99, 1, 5, 137, 14, 63, 89, 6, 2, 1, 101, 2, 97, 98, 215, 99, 230, 189, 6, 2, 1, 99, 2, 172, 2, 101, 150, 83, 5]⟩, .int .i64 0, .int .i64 100] 23))
  have As8g := hidp (As8.out.alloc (.cells #[.string ⟨#[5, 2, 1, 99, 1, 5, 137, 14, 63, 89, 6, 2, 1, 101, 2, 97, 98, 215, 99, 230, 189, 6, 2, 1, 99, 2, 172, 2, 101, 150, 83, 5]⟩, .int .i64 0, .int .i64 100] 23))
  have Ae8g := hidp (Ae8.out.alloc (.cells #[.string ⟨#[5, 2, 1, 99, 1, 5, 137, 14, 63, 89, 6, 2, 1, 101, 2, 97, 98, 215, 99, 230, 189, 6, 2, 1, 99, 2, 172, 2, 101, 150, 83, 5]⟩, .int .i64 0, .int .i64 100] 23))
  have At8g := hidp (At8.out.alloc (.cells #[.string ⟨#[5, 2, 1, 99, 1, 5, 137, 14, 63, 89, 6, 2, 1, 101, 2, 97, 98, 215, 99, 230, 189, 6, 2, 1, 99, 2, 172, 2, 101, 150, 83, 5]⟩, .int .i64 0, .int .i64 100] 23))
  have Ac8g := hidp (Ac8.out.alloc (.cells #[.string ⟨#[5, 2, 1, 99, 1, 5, 137, 14, 63, 89, 6, 2, 1, 101, 2, 97, 98, 215, 99, 230, 189, 6, 2, 1, 99, 2, 172, 2, 101, 150, 83, 5]⟩, .int .i64 0, .int .i64 100] 23))
  have Ox8g := hidp (Ox8.out.alloc (.cells #[.string ⟨#[5, 2, 1, 99, 1, 5, 137, 14, 63, 89, 6, 2, 1, 101, 2, 97, 98, 215, 99, 230, 189, 6, 2, 1, 99, 2, 172, 2, 101, 150, 83, 5]⟩, .int .i64 0, .int .i64 100] 23))
  have Oy8g := hidp (Oy8.out.alloc (.cells #[.string ⟨#[5, 2, 1, 99, 1, 5, 137, 14, 63, 89, 6, 2, 1, 101, 2, 97, 98, 215, 99, 230, 189, 6, 2, 1, 99, 2, 172, 2, 101, 150, 83, 5]⟩, .int .i64 0, .int .i64 100] 23))
  have Ag8g := hidp (Arr.new w8 23 [.string ⟨#[5, 2, 1, 99, 1, 5, 137, 14, 63, 89, 6, 2, 1, 101, 2, 97, 98, 215, 99, 230, 189, 6, 2, 1, 99, 2, 172, 2, 101, 150, 83, 5]⟩, .int .i64 0, .int .i64 100])
  obtain ⟨bg, hbg⟩ : ∃ b, w8.heap.size = b := ⟨_, rfl⟩
  generalize hWW : (w8.alloc (.cells #[.string ⟨#[5, 2, 1, 99, 1, 5, 137, 14, 63, 89, 6, 2, 1, 101, 2, 97, 98, 215, 99, 230, 189, 6, 2, 1, 99, 2, 172, 2, 101, 150, 83, 5]⟩, .int .i64 0, .int .i64 100] 23)) = W8g at HX8g Aa8g As8g Ae8g At8g Ac8g Ox8g Oy8g Ag8g ⊢
  rw [hbg] at Ag8g ⊢
  have hgeg : w.heap.size ≤ bg := by rw [← hbg]; exact hle8
  clear hWW hbg
  refine (c9.out _).mono ?_
  rintro e w9 ⟨rfl, hb9⟩
  have HB9 := hidp (HX8g.out.trans (hb9.mono HX8g.out.size))
  have hle9 := HB9.out.size
  have Aa9 := hidp (Aa8g.out.below hb9 Aa8g.out.lt)
  have hlta := Aa9.out.lt
  have As9 := hidp (As8g.out.below hb9 As8g.out.lt)
  have hlts := As9.out.lt
  have Ae9 := hidp (Ae8g.out.below hb9 Ae8g.out.lt)
  have hlte := Ae9.out.lt
  have At9 := hidp (At8g.out.below hb9 At8g.out.lt)
  have hltt := At9.out.lt
  have Ac9 := hidp (Ac8g.out.below hb9 Ac8g.out.lt)
  have hltc := Ac9.out.lt
  have Ag9 := hidp (Ag8g.out.below hb9 Ag8g.out.lt)
  have hltg := Ag9.out.lt
  have Ox9 := hidp (Ox8g.out.kept hb9 (Nat.le_refl _))
  have Oy9 := hidp (Oy8g.out.kept hb9 (Nat.le_refl _))
  clear hb9
  go_wp2_with fail
  refine (c10.out _).mono ?_
  rintro e w10 ⟨vz, rfl, hv10, hb10⟩
  have HB10 := hidp (HB9.out.trans (hb10.mono HB9.out.size))
  have hle10 := HB10.out.size
  have Aa10 := hidp (Aa9.out.below hb10 Aa9.out.lt)
  have hlta := Aa10.out.lt
  have As10 := hidp (As9.out.below hb10 As9.out.lt)
  have hlts := As10.out.lt
  have Ae10 := hidp (Ae9.out.below hb10 Ae9.out.lt)
  have hlte := Ae10.out.lt
  have At10 := hidp (At9.out.below hb10 At9.out.lt)
  have hltt := At10.out.lt
  have Ac10 := hidp (Ac9.out.below hb10 Ac9.out.lt)
  have hltc := Ac10.out.lt
  have Ag10 := hidp (Ag9.out.below hb10 Ag9.out.lt)
  have hltg := Ag10.out.lt
  have Ox10 := hidp (Ox9.out.kept hb10 (Nat.le_refl _))
  have Oy10 := hidp (Oy9.out.kept hb10 (Nat.le_refl _))
  have Oz10 := hidp hv10
  clear hb10 hv10
  obtain ⟨az, cz, hez, -⟩ := Oz10.out.formS
  have hez2 : vz = .slice az 0 cz := hez
  clear hez
  subst hez2
  have Aan := hidp (((Aa10.out.alloc (.cells #[.slice az 0 cz, .int .i64 0] 33)).alloc (.cells #[.string ⟨#[97, 98]⟩] 9)).alloc (.cells #[.slice (some ⟨w10.heap.size + 1, 0, none⟩) 1 1, .int .i64 300] 33))
  have Asn := hidp (((As10.out.alloc (.cells #[.slice az 0 cz, .int .i64 0] 33)).alloc (.cells #[.string ⟨#[97, 98]⟩] 9)).alloc (.cells #[.slice (some ⟨w10.heap.size + 1, 0, none⟩) 1 1, .int .i64 300] 33))
  have Aen := hidp (((Ae10.out.alloc (.cells #[.slice az 0 cz, .int .i64 0] 33)).alloc (.cells #[.string ⟨#[97, 98]⟩] 9)).alloc (.cells #[.slice (some ⟨w10.heap.size + 1, 0, none⟩) 1 1, .int .i64 300] 33))
  have Atn := hidp (((At10.out.alloc (.cells #[.slice az 0 cz, .int .i64 0] 33)).alloc (.cells #[.string ⟨#[97, 98]⟩] 9)).alloc (.cells #[.slice (some ⟨w10.heap.size + 1, 0, none⟩) 1 1, .int .i64 300] 33))
  have Acn := hidp (((Ac10.out.alloc (.cells #[.slice az 0 cz, .int .i64 0] 33)).alloc (.cells #[.string ⟨#[97, 98]⟩] 9)).alloc (.cells #[.slice (some ⟨w10.heap.size + 1, 0, none⟩) 1 1, .int .i64 300] 33))
  have Agn := hidp (((Ag10.out.alloc (.cells #[.slice az 0 cz, .int .i64 0] 33)).alloc (.cells #[.string ⟨#[97, 98]⟩] 9)).alloc (.cells #[.slice (some ⟨w10.heap.size + 1, 0, none⟩) 1 1, .int .i64 300] 33))
  have Oxn := hidp (((Ox10.out.alloc (.cells #[.slice az 0 cz, .int .i64 0] 33)).alloc (.cells #[.string ⟨#[97, 98]⟩] 9)).alloc (.cells #[.slice (some ⟨w10.heap.size + 1, 0, none⟩) 1 1, .int .i64 300] 33))
  have Oyn := hidp (((Oy10.out.alloc (.cells #[.slice az 0 cz, .int .i64 0] 33)).alloc (.cells #[.string ⟨#[97, 98]⟩] 9)).alloc (.cells #[.slice (some ⟨w10.heap.size + 1, 0, none⟩) 1 1, .int .i64 300] 33))
  have Ozn := hidp (((Oz10.out.alloc (.cells #[.slice az 0 cz, .int .i64 0] 33)).alloc (.cells #[.string ⟨#[97, 98]⟩] 9)).alloc (.cells #[.slice (some ⟨w10.heap.size + 1, 0, none⟩) 1 1, .int .i64 300] 33))
  have HXn := hidp (((HB10.out.alloc hle10 (.cells #[.slice az 0 cz, .int .i64 0] 33)).alloc (HB10.out.alloc hle10 (.cells #[.slice az 0 cz, .int .i64 0] 33)).size (.cells #[.string ⟨#[97, 98]⟩] 9)).alloc ((HB10.out.alloc hle10 (.cells #[.slice az 0 cz, .int .i64 0] 33)).alloc (HB10.out.alloc hle10 (.cells #[.slice az 0 cz, .int .i64 0] 33)).size (.cells #[.string ⟨#[97, 98]⟩] 9)).size (.cells #[.slice (some ⟨w10.heap.size + 1, 0, none⟩) 1 1, .int .i64 300] 33))
  have Ann := hidp (show Arr (((w10.alloc (.cells #[.slice az 0 cz, .int .i64 0] 33)).alloc (.cells #[.string ⟨#[97, 98]⟩] 9)).alloc (.cells #[.slice (some ⟨w10.heap.size + 1, 0, none⟩) 1 1, .int .i64 300] 33)) (w10.heap.size + 1 + 1) 33 [.slice (some ⟨w10.heap.size + 1, 0, none⟩) 1 1, .int .i64 300] from by
    have h := Arr.new ((w10.alloc (.cells #[.slice az 0 cz, .int .i64 0] 33)).alloc (.cells #[.string ⟨#[97, 98]⟩] 9)) 33 [.slice (some ⟨w10.heap.size + 1, 0, none⟩) 1 1, .int .i64 300]
    rw [heap_size_alloc, heap_size_alloc] at h
    exact h)
  have SNn := hidp (show StrsAt (((w10.alloc (.cells #[.slice az 0 cz, .int .i64 0] 33)).alloc (.cells #[.string ⟨#[97, 98]⟩] 9)).alloc (.cells #[.slice (some ⟨w10.heap.size + 1, 0, none⟩) 1 1, .int .i64 300] 33)) (.slice (some ⟨w10.heap.size + 1, 0, none⟩) 1 1) [⟨#[97, 98]⟩] from by
    have h := strsLit1 (w10.alloc (.cells #[.slice az 0 cz, .int .i64 0] 33)) ⟨#[97, 98]⟩ 9
    rw [heap_size_alloc] at h
    exact h.below ((Below.refl _ _).alloc (Nat.le_refl _) _) (Nat.le_refl _))
  obtain ⟨p0, p1, pf⟩ := arr2 Asn.out
  clear pf
  obtain ⟨m0, m1, mf⟩ := arr2 Ann.out
  clear mf
  go_wp2_with fail
  clear p0 p1 m0 m1
  generalize hWW : (((w10.alloc (.cells #[.slice az 0 cz, .int .i64 0] 33)).alloc (.cells #[.string ⟨#[97, 98]⟩] 9)).alloc (.cells #[.slice (some ⟨w10.heap.size + 1, 0, none⟩) 1 1, .int .i64 300] 33)) = Wn at Aan Asn Aen Atn Acn Agn Oxn Oyn Ozn HXn Ann SNn ⊢
  clear hWW
  have HS1 := hidp (rsame10_any Wn _ _ _ _ _ _ [⟨#[97, 98]⟩] 300 (OwnV.strs Oxn.out) SNn.out (by decide))
  refine (HS1.out).mono ?_
  rintro e w11 ⟨rfl, hb11⟩
  have HB11 := hidp (HXn.out.trans (hb11.mono HXn.out.size))
  have hle11 := HB11.out.size
  have Aa11 := hidp (Aan.out.below hb11 Aan.out.lt)
  have hlta := Aa11.out.lt
  have As11 := hidp (Asn.out.below hb11 Asn.out.lt)
  have hlts := As11.out.lt
  have Ae11 := hidp (Aen.out.below hb11 Aen.out.lt)
  have hlte := Ae11.out.lt
  have At11 := hidp (Atn.out.below hb11 Atn.out.lt)
  have hltt := At11.out.lt
  have Ac11 := hidp (Acn.out.below hb11 Acn.out.lt)
  have hltc := Ac11.out.lt
  have Ag11 := hidp (Agn.out.below hb11 Agn.out.lt)
  have hltg := Ag11.out.lt
  have An11 := hidp (Ann.out.below hb11 Ann.out.lt)
  have hltn := An11.out.lt
  have Ox11 := hidp (Oxn.out.kept hb11 (Nat.le_refl _))
  have Oy11 := hidp (Oyn.out.kept hb11 (Nat.le_refl _))
  have Oz11 := hidp (Ozn.out.kept hb11 (Nat.le_refl _))
  have SNm := hidp (SNn.out.below hb11 (Nat.le_refl _))
  clear hb11
  obtain ⟨pa0, pa1, pa2, paf⟩ := arr3 Aa11.out
  clear paf
  obtain ⟨pe0, pe1, pe2, pef⟩ := arr3 Ae11.out
  clear pef
  obtain ⟨pt0, pt1, ptf⟩ := arr2 At11.out
  clear ptf
  obtain ⟨pc0, pc1, pc2, pcf⟩ := arr3 Ac11.out
  clear pcf
  obtain ⟨pn0, pn1, pnf⟩ := arr2 An11.out
  clear pnf
  have hlc : (22 : Int) < 32 := by omega
  go_wp2_with fail
  clear pa0 pa1 pa2 pe0 pe1 pe2 pt0 pt1 pc0 pc1 pc2 pn0 pn1
  have HS2 := hidp (rsame10_any w11 _ _ _ _ _ _ [⟨#[97, 98]⟩] 300 (OwnV.strs Oy11.out) SNm.out (by decide))
  refine (HS2.out).mono ?_
  rintro e w12 ⟨rfl, hb12⟩
  have HB12 := hidp (HB11.out.trans (hb12.mono HB11.out.size))
  have hle12 := HB12.out.size
  have Aa12 := hidp (Aa11.out.below hb12 Aa11.out.lt)
  have hlta := Aa12.out.lt
  have As12 := hidp (As11.out.below hb12 As11.out.lt)
  have hlts := As12.out.lt
  have Ae12 := hidp (Ae11.out.below hb12 Ae11.out.lt)
  have hlte := Ae12.out.lt
  have At12 := hidp (At11.out.below hb12 At11.out.lt)
  have hltt := At12.out.lt
  have Ac12 := hidp (Ac11.out.below hb12 Ac11.out.lt)
  have hltc := Ac12.out.lt
  have Ag12 := hidp (Ag11.out.below hb12 Ag11.out.lt)
  have hltg := Ag12.out.lt
  have An12 := hidp (An11.out.below hb12 An11.out.lt)
  have hltn := An12.out.lt
  have Ox12 := hidp (Ox11.out.kept hb12 (Nat.le_refl _))
  have Oy12 := hidp (Oy11.out.kept hb12 (Nat.le_refl _))
  have Oz12 := hidp (Oz11.out.kept hb12 (Nat.le_refl _))
  clear hb12
  obtain ⟨pa0, pa1, pa2, paf⟩ := arr3 Aa12.out
  clear paf
  obtain ⟨pc0, pc1, pc2, pcf⟩ := arr3 Ac12.out
  clear pcf
  go_wp2_with fail
  go_ret
  exact ⟨rfl, HB12.out⟩
end Go.Proofs.Ytglfdenlgglccaa
