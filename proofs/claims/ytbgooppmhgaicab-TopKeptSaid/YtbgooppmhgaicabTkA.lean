
/-
  TopKept: a disk of a megabyte that holds records; what the store does with it.
-/
import Derived.Test.YtbgooppmhgaicabTkM
import Derived.Test.YtbgooppmhgaicabStoQ
import Derived.Test.YtbgooppmhgaicabStoE
import Derived.Test.YtbgooppmhgaicabJrnK
import Derived.Test.YtbgooppmhgaicabMm
namespace Go.Proofs.Ytbgooppmhgaicab.Tk
set_option maxRecDepth 100000
set_option linter.unusedVariables false
set_option linter.unusedSimpArgs false
open Go.RowKit

/-- A disk's cells. -/
def dR (rs : List ByteArray) (y : Nat) : List Value := [.string (mkS (cat rs)), .int .i64 (y : Int), .int .i64 1048576]
theorem dR_one (rs : List ByteArray) (y : Nat) : ∀ v ∈ dR rs y, v.oneCell' = true := by
  intro v hv; simp [dR] at hv; rcases hv with rfl | rfl | rfl <;> rfl
theorem dR_ok {rs : List ByteArray} {y : Nat} (hs : (cat rs).length ≤ 1048576) (hy : y ≤ (cat rs).length) : okD (mkS (cat rs)) y 1048576 :=
  ⟨by omega, by rw [mkS_size]; omega, by rw [mkS_size]; omega, by omega⟩
theorem put_any (rs : List ByteArray) (hs : (cat rs).length ≤ 1048576) (y : Nat) (hy : y ≤ (cat rs).length) (t : ByteArray) :
    ∃ (rs' : List ByteArray) (E : Int), (∀ W, Calls Try.prog 6 #[.agg (dR rs y).toArray, .string t] W fun e w' => e = .returned (.tuple #[.agg (dR rs' y).toArray, .int .i64 E]) ∧ Below W.heap.size W w') ∧
      (cat rs').length ≤ 1048576 ∧ (cat rs).length ≤ (cat rs').length ∧ ((E = 0 ∧ rs' = rs ++ [entR t] ∧ t.size ≤ 8192 ∧ (entR t).size ≤ 8192) ∨ ((E = 7 ∨ E = 8) ∧ rs' = rs)) := by
  have okd := dR_ok hs hy
  by_cases ht : t.size ≤ 8192
  case neg => exact ⟨rs, 7, fun W => pute_longer W _ _ _ t (by rw [mkS_size]; omega) ht, hs, Nat.le_refl _, .inr ⟨.inl rfl, rfl⟩⟩
  by_cases hl : (entR t).size ≤ 8192
  case neg => exact ⟨rs, 7, fun W => pute_longer' W _ _ _ t okd ht hl, hs, Nat.le_refl _, .inr ⟨.inl rfl, rfl⟩⟩
  have hz : ((mkS (cat rs)).size : Int) = (cat rs).length := by rw [mkS_size]
  by_cases hf : (cat rs).length + (recB (entR t)).length ≤ 1048576
  · have hc : (cat (rs ++ [entR t])).length = (cat rs).length + (recB (entR t)).length := by rw [cat_snoc, List.length_append]
    refine ⟨rs ++ [entR t], 0, fun W => ?_, by omega, by omega, .inl ⟨rfl, rfl, ht, hl⟩⟩
    have := pute_add W (mkS (cat rs)) y 1048576 t ht _ _ _ 0 (fun W => add_ok W _ _ _ (entR t) okd hl (by omega))
    rw [mkS_append, ← cat_snoc] at this
    exact this
  · exact ⟨rs, 8, fun W => pute_add W (mkS (cat rs)) y 1048576 t ht _ _ _ 8 (fun W => add_full W _ _ _ (entR t) okd hl (by omega)), hs, Nat.le_refl _, .inr ⟨.inr rfl, rfl⟩⟩
theorem putc_any (rs : List ByteArray) (hs : (cat rs).length ≤ 1048576) (y : Nat) (hy : y ≤ (cat rs).length) (n : Int) :
    ∃ (rs' : List ByteArray) (E : Int), (∀ W, Calls Try.prog 7 #[.agg (dR rs y).toArray, .int .i64 n] W fun e w' => e = .returned (.tuple #[.agg (dR rs' y).toArray, .int .i64 E]) ∧ Below W.heap.size W w') ∧
      (cat rs').length ≤ 1048576 ∧ (cat rs).length ≤ (cat rs').length ∧ ((E = 0 ∧ ∃ m : Nat, n = m ∧ m ≤ 1048576 ∧ rs' = rs ++ [cntR m]) ∨ ((E = 1 ∨ E = 8) ∧ rs' = rs)) := by
  have okd := dR_ok hs hy
  by_cases hn : n < 0 ∨ 1048576 < n
  · exact ⟨rs, 1, fun W => putc_no W _ _ _ n (by rw [mkS_size]; omega) hn, hs, Nat.le_refl _, .inr ⟨.inl rfl, rfl⟩⟩
  obtain ⟨m, rfl⟩ : ∃ m : Nat, n = m := ⟨n.toNat, by omega⟩
  have hm : m ≤ 1048576 := by omega
  have hl := cntR_size hm
  have hz : ((mkS (cat rs)).size : Int) = (cat rs).length := by rw [mkS_size]
  by_cases hf : (cat rs).length + (recB (cntR m)).length ≤ 1048576
  · have hc : (cat (rs ++ [cntR m])).length = (cat rs).length + (recB (cntR m)).length := by rw [cat_snoc, List.length_append]
    refine ⟨rs ++ [cntR m], 0, fun W => ?_, by omega, by omega, .inl ⟨rfl, m, rfl, hm, rfl⟩⟩
    have := putc_add W (mkS (cat rs)) y 1048576 m m hm rfl _ _ _ 0 (fun W => add_ok W _ _ _ (cntR m) okd (by omega) (by omega))
    rw [mkS_append, ← cat_snoc] at this
    exact this
  · exact ⟨rs, 8, fun W => putc_add W (mkS (cat rs)) y 1048576 m m hm rfl _ _ _ 8 (fun W => add_full W _ _ _ (cntR m) okd (by omega) (by omega)), hs, Nat.le_refl _, .inr ⟨.inr rfl, rfl⟩⟩
theorem sync_any (rs : List ByteArray) (hs : (cat rs).length ≤ 1048576) (W : World) :
    Calls Try.prog 8 #[.agg (dR rs 0).toArray] W fun e w' => e = .returned (.tuple #[.agg (dR rs (cat rs).length).toArray, .int .i64 0]) ∧ Below W.heap.size W w' := by
  have := sync_ok W (mkS (cat rs)) (0 : Nat) 1048576 (dR_ok hs (Nat.zero_le _))
  rw [show (((mkS (cat rs)).size : Nat) : Int) = ((cat rs).length : Nat) from by rw [mkS_size]] at this
  exact this
theorem new_any (W : World) : Calls Try.prog 5 #[.int .i64 1048576] W fun e w' => e = .returned (.tuple #[.agg (dR [] 0).toArray, .int .i64 0]) ∧ Below W.heap.size W w' :=
  new_ok W 1048576 (by omega) (by omega)
/-- A failure, and the start behind it: the records that were synced, and the last one or not. -/
theorem fell_any {rs al : List ByteArray} {mo : Nat} (h : Kp rs al mo) {t : ByteArray} {rs' : List ByteArray} (h' : rs' = rs ∨ (rs' = rs ++ [entR t] ∧ t.size ≤ 8192 ∧ (entR t).size ≤ 8192)) (hs : (cat rs').length ≤ 1048576) (hle : (cat rs).length ≤ (cat rs').length) (k : Int) (b : UInt8) :
    ∃ (F : List Value) (ks es : List ByteArray), F.length = 3 ∧ (∀ v ∈ F, v.oneCell' = true) ∧ (∀ W, Calls Try.prog 9 #[.agg (dR rs' (cat rs).length).toArray, .int .i64 k, .int .u8 b.toNat] W fun e w' => e = .returned (.tuple #[.agg F.toArray, .int .i64 0]) ∧ Below W.heap.size W w') ∧
      (∀ W, Calls Try.prog 10 #[.agg F.toArray] W fun e w' => ∃ v, e = .returned (.tuple #[.agg (dR ks (cat ks).length).toArray, .agg #[v, .int .i64 (mo : Int)], .int .i64 0]) ∧ OwnV w' W.heap.size 9 v (strV es) ∧ Below W.heap.size W w') ∧
      Kp ks es mo ∧ (cat ks).length ≤ 1048576 ∧ (es = al ∨ es = al ++ [t]) := by
  have h8 : ∀ x ∈ rs', x.size ≤ 8192 := by
    rcases h' with rfl | ⟨rfl, ht, hl⟩
    · exact h.small
    · exact (h.ent ht hl).small
  have hpre : rs'.take rs.length = rs ∧ rs.length ≤ rs'.length := by
    rcases h' with rfl | ⟨rfl, -, -⟩
    · exact ⟨List.take_length, Nat.le_refl _⟩
    · exact ⟨List.take_left, by simp⟩
  have okd : okD (mkS (cat rs')) ((cat rs).length : Nat) 1048576 := dR_ok hs hle
  obtain ⟨q, hq⟩ : ∃ q, keepN (mkS (cat rs')).size (cat rs).length k = q := ⟨_, rfl⟩
  have hf := fun W => fail_ok W (mkS (cat rs')) (cat rs).length 1048576 k b okd
  rw [hq, mkS_data] at hf
  have hqb : (cat rs).length + q ≤ (cat rs').length := by
    rw [← hq, mkS_size]; unfold keepN; first | omega | (split <;> omega)
  obtain ⟨j, j1, j2, j3⟩ := torn rs' h8 rs.length q b hpre.2 (by rw [hpre.1]; exact hqb)
  rw [hpre.1] at j3
  obtain ⟨es, hk, he⟩ := h.fell h' j1 j2
  obtain ⟨D, hD⟩ : ∃ D, failL (cat rs') (cat rs).length q b = D := ⟨_, rfl⟩
  rw [hD] at hf j3
  have hDl : D.length = (cat rs).length + q := by
    rw [← hD]; unfold failL; split <;> simp <;> omega
  have okd2 : okD (mkS D) (((cat rs).length + q : Nat) : Int) 1048576 := ⟨by omega, by rw [mkS_size]; omega, by rw [mkS_size]; omega, by omega⟩
  have hr := fun W => rst_ok W (mkS D) (((cat rs).length + q : Nat) : Int) 1048576 okd2 es mo (by rw [mkS_data, j3]; exact hk.says)
  rw [mkS_data] at hr
  have hkl : (cat (rs'.take j)).length ≤ 1048576 := by
    have := rdN_le D
    unfold rdN at this
    rw [j3] at this
    omega
  unfold rdN at hr
  rw [j3] at hr
  exact ⟨[.string (mkS D), .int .i64 (((cat rs).length + q : Nat) : Int), .int .i64 1048576], rs'.take j, es, rfl, by
    intro v hv; simp at hv; rcases hv with rfl | rfl | rfl <;> rfl, hf, hr, hk, hkl, he⟩
/-- Written anew, loaded and read. -/
theorem anew_any {ks es : List ByteArray} {mo : Nat} (h : Kp ks es mo) (hs : (cat ks).length ≤ 1048576) (hz : (cat (anew es mo)).length ≤ (cat ks).length) :
    (∀ W, Calls Try.prog 11 #[.agg (dR ks (cat ks).length).toArray] W fun e w' => e = .returned (.tuple #[.agg (dR (anew es mo) (cat (anew es mo)).length).toArray, .int .i64 0]) ∧ Below W.heap.size W w') ∧
    (∀ W, Calls Try.prog 12 #[.string (mkS (cat (anew es mo)))] W fun e w' => ∃ v, e = .returned (.tuple #[.agg #[v, .int .i64 (mo : Int)], .int .i64 0]) ∧ OwnV w' W.heap.size 9 v (strV es) ∧ Below W.heap.size W w') ∧
    (∀ W, Calls Try.prog 13 #[.string (mkS (cat (anew es mo)))] W fun e w' => ∃ v, e = .returned (.tuple #[v, .int .i64 ((cat (anew es mo)).length : Nat)]) ∧ OwnV w' W.heap.size 9 v (strV (anew es mo)) ∧ Below W.heap.size W w') := by
  obtain ⟨ha, hb⟩ := h.again
  refine ⟨fun W => ?_, fun W => load_rs W _ ha.small es mo ha.says _ rfl (by rw [mkS_size]; omega), fun W => read_cat W _ _ _ rfl rfl ha.small (by omega)⟩
  have := comp_ok W (mkS (cat ks)) ((cat ks).length : Nat) 1048576 (dR_ok hs (Nat.le_refl _)) es mo (by rw [mkS_data, rdT_whole ks h.small]; exact h.says)
  rw [hb] at this
  exact this
end Go.Proofs.Ytbgooppmhgaicab.Tk
