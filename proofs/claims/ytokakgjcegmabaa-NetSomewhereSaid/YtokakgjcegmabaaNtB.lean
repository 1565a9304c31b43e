/-
  net: has, add, remove.
-/
import Derived.Test.YtokakgjcegmabaaNtA
import Derived.Maps.AppendAt
namespace Go.Proofs.Ytokakgjcegmabaa.Nt
set_option maxRecDepth 100000
set_option linter.unusedVariables false
set_option linter.unusedSimpArgs false
open Go.RowKit
open List (getElem_toArray getElem_cons_zero getElem_cons_succ setIfInBounds_toArray set_cons_zero set_cons_succ)

set_option maxHeartbeats 4000000 in
theorem has_any (w : World) (b B : Nat) (v : Value) (L : List ByteArray) (m n : Int) (h : NetAt w b B v L m n) (i : Int) : Calls Try.prog 41 #[.pointer (some ⟨b, 0, none⟩), .int .i64 i] w fun e w' => e = .returned (.bool (decide (0 ≤ i ∧ i < (L.length : Int)))) ∧ Below w.heap.size w w' := by
  obtain ⟨a, c, hv⟩ := Sl.own_form h.own
  rw [strV_length] at hv
  have c0 := h.arr.cell 0 (by simp [nR]); have c1 := h.arr.cell 1 (by simp [nR]); have c2 := h.arr.cell 2 (by simp [nR])
  simp only [nR, List.getElem_cons_zero, List.getElem_cons_succ] at c0 c1 c2
  subst hv
  by_cases h0 : 0 ≤ i
  · have e0 : decide ((0 : Int) ≤ i) = true := decide_eq_true h0
    have HF := hidp (show decide (0 ≤ i ∧ i < (L.length : Int)) = decide (i < (L.length : Int)) from by simp [h0])
    go_enter Try.func41, Try.ntmps41
    go_wp2
    go_ret
    exact ⟨by first | (rw [HF.out]; rfl) | rfl, Below.refl _ _⟩
  · have e0 : decide ((0 : Int) ≤ i) = false := decide_eq_false h0
    have HF := hidp (show decide (0 ≤ i ∧ i < (L.length : Int)) = false from by simp [h0])
    go_enter Try.func41, Try.ntmps41
    go_wp2
    go_ret
    exact ⟨by first | (rw [HF.out]; rfl) | rfl, Below.refl _ _⟩
theorem NetAt.put {w W : World} {b B : Nat} {v' : Value} {L' : List ByteArray} {m' n' : Int} {xs : List Value} (hx : Arr w b 80 xs) (ha : Arr W b 80 (nR v' m' n')) (ho : OwnV w B 9 v' (strV L')) (st : Rt.Stp b w W) : NetAt W b B v' L' m' n' :=
  ⟨ha, Sl.own_stp ho st hx (by decide)⟩
set_option maxHeartbeats 4000000 in
theorem add_any (w : World) (b B : Nat) (v : Value) (L : List ByteArray) (m n : Int) (h : NetAt w b B v L m n) (hB : B ≤ w.heap.size) (hL : L.length ≤ 1048576) (t : ByteArray) :
    Calls Try.prog 38 #[.pointer (some ⟨b, 0, none⟩), .string t] w fun e w' => e = .returned (.tuple #[]) ∧ ∃ v', NetAt w' b B v' (L ++ [t]) m n ∧ G2 b v.ownBlock w w' ∧ Nr w v v' := by
  have HN := hidp h
  have hlt := h.arr.lt
  have hvs : ∃ a c, v = .slice a L.length c := by
    obtain ⟨a, c, hv⟩ := Sl.own_form h.own
    exact ⟨a, c, by rw [hv, strV_length]⟩
  have HV := hidp hvs
  have H := hidp (Mm.M.nil w)
  clear h hvs
  go_enter Try.func38, Try.ntmps38
  go_wp2_with (first
    | (refine Mm.ldc naSS rfl (.tmp 7) ⟨b, 0, none⟩ v rfl rfl (HN.out.arr.cell 0 (by simp [nR])) ?_)
    | (refine Sl.wpL_bsS1 H rfl (.tmp 9) t rfl rfl ?_; clear H; intro b9 W9 _ n9; have HN9 := hidp (HN.out.to n9.below); have H9 := hidp n9; have hB9 := Nat.le_trans hB n9.below.size; clear n9)
    | (obtain ⟨i0, hi, hz0, hz1, hz2⟩ := info_parts Sl.infoS; refine wpList_append_own_at _ rfl (.tmp 8) (.tmp 10) 28 rfl B 9 i0 (.string ByteArray.empty) 1 16 Sl.tyS hi hz0 hz1 hz2 rfl (by decide) v L.length (strV L) rfl (by have := HN9.out.own; unfold OwnV at this; rw [strV_length] at this; exact this) ⟨b9, 0, none⟩ 1 1 [.string t] rfl rfl (by intro j u hj; rw [Rw.addr_addR]; exact H9.out.arr.range j u hj) (by intro u hu; simp at hu; subst hu; rfl) (by unfold maxLen; omega) (by omega) hB9 ?_; intro v11 W11 ho hg hnil hat; have HO := hidp (show OwnV W11 B 9 v11 (strV (L ++ [t])) from by unfold OwnV; rw [show strV (L ++ [t]) = strV L ++ [.string t] from (strV_snoc L t).symm, List.length_append, strV_length]; exact ho); have HG := hidp hg; have HAT := hidp hat; clear ho hg hnil hat hi hz0 hz1 hz2)
    | (refine Rt.wpL_putF rfl 28 (.tmp 13) (.tmp 11) rfl b 0 v11 rfl rfl (by kernel_rfl) (by obtain ⟨a, c, hv⟩ := Sl.own_form HO.out; rw [hv]; rfl) (nR v m n) ((HG.out.block b HN9.out.arr.lt HN9.out.ne).trans HN9.out.arr) (by simp [nR]) ?_; intro W14 ha14 st14; have HA := hidp ha14; have HS := hidp st14; clear ha14 st14))
  go_end0
  have g1 : G2 b v.ownBlock w W9 := G2.of_below H9.out.below
  have g2 : G2 b v.ownBlock W9 W11 := G2.of_grown HG.out
  exact ⟨rfl, v11, NetAt.put ((HG.out.block b HN9.out.arr.lt HN9.out.ne).trans HN9.out.arr) HA.out HO.out HS.out, (g1.trans g2).trans (G2.of_stp HS.out), fun g hg => HAT.out.elim (fun e => .inl (e ▸ hg)) (fun e => .inr (by rw [e] at hg; cases hg; exact H9.out.below.size))⟩
theorem strsOf_get (L : List ByteArray) (n : Nat) (hn : n = L.length) : (Lib.strsOf (Sl.sAt L) n).map encStr = strV L := by
  subst hn
  unfold Lib.strsOf strV
  refine List.ext_getElem (by simp) fun i h1 h2 => ?_
  have hi : i < L.length := by simpa using h2
  simp only [List.getElem_map, List.getElem_range, Sl.sAt_get hi, encStr]
theorem heap_drewN (w : World) (q : Nat) : (w.drewN q).heap = w.heap := rfl
/-- slices.Delete of one text of a row of one's own. -/
theorem delete_any (w : World) (B : Nat) (v : Value) (L : List ByteArray) (h : OwnV w B 9 v (strV L)) (i : Nat) (hi : i < L.length) :
    Calls Try.prog 53 #[v, .int .i64 (i : Int), .int .i64 ((i : Int) + 1)] w fun e w' => ∃ v', e = .returned v' ∧ OwnV w' B 9 v' (strV (L.eraseIdx i)) ∧ v'.ownBlock = v.ownBlock ∧ w.grownBy w' v.ownBlock := by
  have h' := h
  rcases h'.2 with ⟨rfl, hn⟩ | ⟨g, cap, cur, rfl, hB, hg, hle, hmax, hcs, htk⟩
  · rw [strV_length] at hn; omega
  rw [strV_length] at *
  obtain ⟨_, _, hv, -, -, hcell⟩ := Sl.own_cells h (by rw [strV_length]; omega)
  rw [strV_length] at hv
  simp only [Value.slice.injEq, Option.some.injEq, Addr.mk.injEq] at hv
  obtain ⟨⟨rfl, -⟩, -, rfl⟩ := hv
  have ha : Arr w g 9 cur.toList := by unfold Arr; simpa using hg
  have hc := Try.slices_Delete_string_cells g 0 L.length cap i (i + 1) (Sl.sAt L) w hle (by unfold maxLen at hmax; omega) (by omega) (by omega) (fun j hj => by
    rw [Nat.zero_add, hcell j (by rw [strV_length]; exact hj), Sl.sAt_get hj]; simp [strV]) (fun j hj => ha.frozen _)
  rw [show ((i + 1 : Nat) : Int) = (i : Int) + 1 from by omega] at hc
  refine hc.mono ?_
  rintro e w' ⟨rfl, q, rfl⟩
  obtain ⟨vs, hvs⟩ : ∃ vs, ((Lib.strsOf (Sl.sAt L) L.length).take i ++ (Lib.strsOf (Sl.sAt L) L.length).drop (i + 1) ++ List.replicate (i + 1 - i) []).map encStr = vs := ⟨_, rfl⟩
  have hvs2 : vs = strV (L.eraseIdx i) ++ [.string ⟨#[]⟩] := by
    rw [← hvs, List.map_append, List.map_append, List.map_take, List.map_drop, strsOf_get L _ rfl, show i + 1 - i = 1 from by omega, List.eraseIdx_eq_take_drop_succ]
    simp [strV, encStr]
  have hel : (L.eraseIdx i).length = L.length - 1 := by rw [List.length_eraseIdx, if_pos hi]
  have hvl : vs.length = L.length := by rw [hvs2]; simp [strV_length, hel]; omega
  rw [hvs]
  have ha2 : Arr (w.drewN q) g 9 cur.toList := ha
  have hcl : cur.toList.length = cap := by simpa using hcs
  have ha3 := Rw.setCells_arr vs 0 (w.drewN q) cur.toList ha2 (by omega)
  have st := Rw.setCells_stp g vs 0 (w.drewN q)
  have hb0 := st.below 0 (Nat.zero_le _)
  refine ⟨_, rfl, ?_, rfl, ⟨hb0.os, hb0.tape, hb0.output, hb0.size, fun k hk hne => (st.other k (fun e => hne (by rw [e]; rfl)))⟩⟩
  rw [show i + 1 - i = 1 from by omega, ← hel]
  refine ⟨by simp [strV_length], .inr ⟨g, cap, ((cur.toList.take 0 ++ vs ++ cur.toList.drop (0 + vs.length))).toArray, by rw [strV_length], hB, ha3, by rw [strV_length]; omega, hmax, by simp; omega, ?_⟩⟩
  rw [List.take_zero, List.nil_append, hvs2, List.append_assoc, Nat.mul_one, List.take_left]
set_option maxHeartbeats 4000000 in
theorem remove_any (w : World) (b B : Nat) (v : Value) (L : List ByteArray) (m n : Int) (h : NetAt w b B v L m n) (i : Nat) (hi : i < L.length) (hL : L.length ≤ 1048576) :
    Calls Try.prog 42 #[.pointer (some ⟨b, 0, none⟩), .int .i64 (i : Int)] w fun e w' => e = .returned (.string (Sl.sAt L i)) ∧ ∃ v', NetAt w' b B v' (L.eraseIdx i) m n ∧ G2 b v.ownBlock w w' ∧ v'.ownBlock = v.ownBlock := by
  have HN := hidp h
  obtain ⟨g, c, hv, -, -, hcell⟩ := Sl.own_cells h.own (by rw [strV_length]; omega)
  have hc1 := hcell i (by rw [strV_length]; exact hi)
  have hcl := hidp (show w.cell? ⟨g, i, none⟩ = some (.string (Sl.sAt L i)) from by rw [hc1, Sl.sAt_get hi]; simp [strV])
  rw [strV_length] at hv
  have cd := hidp (fun W (ho : OwnV W B 9 v (strV L)) => delete_any W B v L ho i hi)
  subst hv
  obtain ⟨l, hl⟩ : ∃ l, L.length = l := ⟨_, rfl⟩
  rw [hl] at hi hL
  rw [hl] at cd HN
  obtain ⟨X, hX⟩ : ∃ X, Sl.sAt L i = X := ⟨_, rfl⟩
  rw [hX] at hcl
  rw [hX]
  have hw := show IntKind.i64.wrap ((i : Int) + 1) = (i : Int) + 1 from by rw [IntKind.wrap_i64]; omega
  clear h hcell hc1 hl hX
  go_enter Try.func42, Try.ntmps42
  go_wp2_with (first
    | (refine Mm.ldc naSS rfl (.tmp 8) ⟨b, 0, none⟩ (.slice (some ⟨g, 0, none⟩) l c) rfl rfl (HN.out.arr.cell 0 (by simp [nR])) ?_)
    | (refine Sl.wpL_idx1 Sl.tyS (by kernel_rfl) rfl (.tmp 9) (.tmp 10) rfl g 0 l c i rfl rfl hi ?_; rw [Nat.zero_add])
    | (refine Mm.ldc naS rfl (.tmp 11) ⟨g, i, none⟩ (.string X) rfl rfl hcl.out ?_)
    | (refine Mm.ldc naSS rfl (.tmp 16) ⟨b, 0, none⟩ (.slice (some ⟨g, 0, none⟩) l c) rfl rfl (HN.out.arr.cell 0 (by simp [nR])) ?_)
    | (go_at_call 53; refine (cd.out _ HN.out.own).mono ?_; rintro e W1 ⟨v21, rfl, ho, hob, hg⟩; have HO := hidp ho; have HOB := hidp hob; have HG := hidp hg; clear ho hob hg cd)
    | (refine Rt.wpL_putF rfl 28 (.tmp 23) (.tmp 21) rfl b 0 v21 rfl rfl (by kernel_rfl) (by obtain ⟨a, c, hv⟩ := Sl.own_form HO.out; rw [hv]; rfl) (nR (.slice (some ⟨g, 0, none⟩) l c) m n) ((HG.out.block b HN.out.arr.lt HN.out.ne).trans HN.out.arr) (by simp [nR]) ?_; intro W2 ha2 st2; have HA := hidp ha2; have HS := hidp st2; clear ha2 st2))
  go_ret
  exact ⟨rfl, v21, NetAt.put ((HG.out.block b HN.out.arr.lt HN.out.ne).trans HN.out.arr) HA.out HO.out HS.out, (G2.of_grown HG.out).trans (G2.of_stp HS.out), HOB.out⟩
end Go.Proofs.Ytokakgjcegmabaa.Nt
