/-
  Joined: EvD.
-/
import Derived.Test.YtfenjincbhkodaaGreatDoorVI
import Derived.Deep.WholeRow
namespace Go.Proofs.YtfenjincbhkodaaGreatDoor
set_option maxRecDepth 100000
set_option linter.unusedVariables false
set_option linter.unusedSimpArgs false
open Go.RowKit

theorem o_put {P : Program} {ops : Array Oper} {Q : Exit → Act → World → Prop} {S : World → Prop} {k : Nat} {K : Act → World → Prop} {a : Act} {w W : World} {o : Oper} (ho : ops[k]? = some o) (hw : Region.wanted o (yielded ops a.tmps) = true)
    (hop : (execOp a.eval o).run P w = .ok .skip W) (hS : S W) (h : K (a.put o.dst undef) W) : opW P ops Q S k K a w := by
  refine ⟨o, ho, hw, ?_⟩
  unfold Oper.wp
  rw [hop]
  exact ⟨hS, h⟩
/-- What an event's parse hands back. -/
def evV : Option Ev → Value
  | some e => .agg #[.string e.room, .string e.sender, .int .u8 (e.kind : Int), .string e.key, .string e.body, .int .i64 e.nonce]
  | none => .agg #[.string ⟨#[]⟩, .string ⟨#[]⟩, .int .u8 0, .string ⟨#[]⟩, .string ⟨#[]⟩, .int .i64 0]
def evX : Option Ev → Int
  | some _ => 0
  | none => 6
theorem evOf_len {L : List ByteArray} (h : L.length ≠ 6) : evOf L = none := by
  unfold evOf
  split
  · simp at h
  · rfl
theorem strs6 {W : World} {bb off cap : Nat} {a b c d e f : ByteArray} (h : StrsAt W (.slice (some ⟨bb, off, none⟩) 6 cap) [a, b, c, d, e, f]) :
    W.cell? ⟨bb, off, none⟩ = some (.string a) ∧ W.cell? ⟨bb, off + 1, none⟩ = some (.string b) ∧ W.cell? ⟨bb, off + 2, none⟩ = some (.string c) ∧ W.cell? ⟨bb, off + 3, none⟩ = some (.string d) ∧ W.cell? ⟨bb, off + 4, none⟩ = some (.string e) ∧ W.cell? ⟨bb, off + 5, none⟩ = some (.string f) := by
  obtain ⟨x, cap', hv, hc⟩ := h
  simp only [Value.slice.injEq] at hv
  obtain ⟨hx, -, -⟩ := hv
  subst hx
  have g : ∀ k (hk : k < [a, b, c, d, e, f].length), W.cell? ⟨bb, off + k, none⟩ = some (.string [a, b, c, d, e, f][k]) := fun k hk => by
    obtain ⟨b1, o1, e1, h1⟩ := hc k hk
    simp only [Option.some.injEq, Addr.mk.injEq, and_true] at e1
    obtain ⟨rfl, rfl⟩ := e1
    exact h1
  exact ⟨g 0 (by simp), g 1 (by simp), g 2 (by simp), g 3 (by simp), g 4 (by simp), g 5 (by simp)⟩
theorem strs_form6 {W : World} {v : Value} {ss : List ByteArray} (h : StrsAt W v ss) (hl : ss.length = 6) : ∃ bb off cap, v = .slice (some ⟨bb, off, none⟩) 6 cap := by
  obtain ⟨x, cap, rfl, hc⟩ := h
  obtain ⟨bb, off, rfl, -⟩ := hc 0 (by omega)
  exact ⟨bb, off, cap, by rw [hl]⟩
theorem strs_len {W : World} {v : Value} {ss : List ByteArray} (h : StrsAt W v ss) : ∃ x cap, v = .slice x ss.length cap := by
  obtain ⟨x, cap, rfl, -⟩ := h; exact ⟨x, cap, rfl⟩
theorem arr6f {w : World} {b T : Nat} {x0 x1 x2 x3 x4 x5 : Value} (h : Arr w b T [x0, x1, x2, x3, x4, x5]) : w.cell? ⟨b, 0, none⟩ = some x0 ∧ w.cell? ⟨b, 1, none⟩ = some x1 ∧ w.cell? ⟨b, 2, none⟩ = some x2 ∧ w.cell? ⟨b, 3, none⟩ = some x3 ∧ w.cell? ⟨b, 4, none⟩ = some x4 ∧ w.cell? ⟨b, 5, none⟩ = some x5 ∧
    w.frozen? ⟨b, 0, none⟩ = false ∧ w.frozen? ⟨b, 1, none⟩ = false ∧ w.frozen? ⟨b, 2, none⟩ = false ∧ w.frozen? ⟨b, 3, none⟩ = false ∧ w.frozen? ⟨b, 4, none⟩ = false ∧ w.frozen? ⟨b, 5, none⟩ = false :=
  ⟨h.cell 0 (by simp), h.cell 1 (by simp), h.cell 2 (by simp), h.cell 3 (by simp), h.cell 4 (by simp), h.cell 5 (by simp), h.frozen 0, h.frozen 1, h.frozen 2, h.frozen 3, h.frozen 4, h.frozen 5⟩

theorem al_none {s : ByteArray} (h : (al s).2 ≠ 0) : (al s).1 = [] := by
  obtain ⟨⟨L, j, e⟩, hr⟩ : ∃ r, gl s = r := ⟨_, rfl⟩
  unfold al at h ⊢
  rw [hr] at h ⊢
  simp only at h ⊢
  by_cases he : e = 0
  · subst he
    simp only [ne_eq, not_true_eq_false, if_false] at h ⊢
    by_cases hj : j < s.size
    · rw [if_pos hj]
    · rw [if_neg hj] at h; exact absurd rfl h
  · rw [if_pos he]
theorem al_small (s : ByteArray) (hs : s.size ≤ 281474976710656) : ∀ t ∈ (al s).1, t.size ≤ 281474976710656 := by
  intro t ht
  by_cases h : (al s).2 = 0
  · obtain ⟨-, h2⟩ := al_again h
    have := h2.2 t ht; omega
  · have h1 : (al s).1 = [] := al_none h
    rw [h1] at ht; cases ht

set_option maxHeartbeats 16000000 in
theorem evParse_any (w : World) (s : ByteArray) (hs : s.size ≤ 281474976710656) (hI : IT w) (hW : WT w) :
    Calls Tryz.prog 44 #[.string s] w fun e w' => e = .returned (.tuple #[evV (evP s), .int .i64 (evX (evP s))]) ∧ Below w.heap.size w w' := by
  have c1 := hidp (fun W => all_any W s hs)
  have HI := hidp hI; have HW := hidp hW; clear hI hW
  have HX := hidp ((Below.refl w.heap.size w).alloc (Nat.le_refl _) (.cells #[.string ⟨#[]⟩, .string ⟨#[]⟩, .int .u8 0, .string ⟨#[]⟩, .string ⟨#[]⟩, .int .i64 0] 74)); have HA := hidp (Arr.new w 74 [.string ⟨#[]⟩, .string ⟨#[]⟩, .int .u8 0, .string ⟨#[]⟩, .string ⟨#[]⟩, .int .i64 0])
  obtain ⟨R, hR⟩ : ∃ R, evP s = R := ⟨_, rfl⟩
  rw [hR]
  unfold evP at hR
  have hbig := al_small s hs
  obtain ⟨⟨L, er⟩, hal⟩ : ∃ x, al s = x := ⟨_, rfl⟩
  rw [hal] at c1 hR hbig
  simp only at c1 hR hbig
  clear hal
  by_cases he : er = 0
  · have e0 : ((er : Int) != 0) = false := by rw [he]; rfl
    subst he
    rw [if_pos rfl] at hR
    by_cases hl6 : L.length = 6
    · match L, hl6, hbig with
      | [a, b, c, d, e5, f], _, hbig =>
        clear hl6
        unfold evOf at hR
        simp only at hR
        have cN := hidp (fun W => Ai.allNumW_any W f (hbig f (by simp)))
        cases hn : numOf f with
        | none =>
          have hne := Ai.nm_none hn
          rw [hn] at hR
          simp only at hR
          subst hR
          clear hn
          obtain ⟨EN, hEN⟩ : ∃ E, Ai.nmE f = E := ⟨_, rfl⟩
          obtain ⟨VN, hVN⟩ : ∃ V, Ai.nmV f = V := ⟨_, rfl⟩
          rw [hEN, hVN] at cN
          rw [hEN] at hne
          have e9 : (EN != 0) = true := by simpa using hne
          clear hEN hVN
          go_enter Tryz.func44, Tryz.ntmps44
          go_wp2_with fail
          refine (c1.out _).mono ?_
          rintro e w1 ⟨v, rfl, hst, hb1⟩
          have HB1 := hidp (HX.out.trans (hb1.mono HX.out.size)); have HA1 := hidp (HA.out.below hb1 HA.out.lt); have HST := hidp hst
          clear hb1 hst
          obtain ⟨bb, off, cap, rfl⟩ := strs_form6 HST.out rfl
          obtain ⟨x0, x1, x2, x3, x4, x5⟩ := strs6 HST.out
          go_wp2_with (go_at_call 41; (refine (cN.out _).mono ?_); rintro e w' ⟨rfl, rfl⟩; refine Hid.out ?_)
          refine Lib.hid ?_
          have HAZ := HA1; have HBZ := HB1
          obtain ⟨r0, r1, r2, r3, r4, r5, g0, g1, g2, g3, g4, g5⟩ := arr6f HAZ.out
          go_wp2_with fail
          refine bodyPost_ret (v := .tuple #[.agg #[.string ⟨#[]⟩, .string ⟨#[]⟩, .int .u8 0, .string ⟨#[]⟩, .string ⟨#[]⟩, .int .i64 0], .int .i64 6]) (by simp [results, Tryz.results44, go_sem, r0, r1, r2, r3, r4, r5]) rfl ⟨rfl, ?_⟩
          repeat (refine Below.setCell ?_ (by simp) _)
          exact HBZ.out
        | some n =>
          obtain ⟨hs1, hs2⟩ := Ai.nm_some hn
          rw [hn] at hR
          rw [hs1, hs2] at cN
          simp only at hR
          have hn48 := (numOf_some hn).2
          have hw1 : IntKind.i64.wrap (n : Int) = (n : Int) := by unfold IntKind.wrap; simp [IntKind.bits, IntKind.signed]; omega
          clear hn hs1 hs2
          have ck := hidp (fun W (h : WT W) => kindOf_any W c h)
          obtain ⟨K, hK⟩ : ∃ K, kindOf c = K := ⟨_, rfl⟩
          have hK8 : K < 256 := by
            rw [← hK]
            by_cases h0 : kindOf c = 0
            · omega
            · have := (word_kindOf (t := c) (by omega)).2; omega
          rw [hK] at ck hR
          clear hK
          have cc := hidp (fun W (h : IT W) => evCheck_any W a b K d e5 n hK8 (hbig a (by simp)) (hbig b (by simp)) (hbig d (by simp)) (hbig e5 (by simp)) h)
          have hz0 : (Tryz.prog.info? 74).map (·.size) = some 6 := by kernel_rfl
          obtain ⟨E, hE⟩ : ∃ E, evE (⟨a, b, K, d, e5, n⟩ : Ev) = E := ⟨_, rfl⟩
          rw [hE] at cc
          have HEE := hidp hE
          clear hE
          by_cases hok : evOk (⟨a, b, K, d, e5, n⟩ : Ev) = true
          · rw [if_pos hok] at hR
            have hE0 : E = 0 := by rw [← HEE.out]; unfold evE; rw [if_pos hok]
            subst hR
            subst hE0
            clear hok HEE
            go_enter Tryz.func44, Tryz.ntmps44
            go_wp2_with fail
            refine (c1.out _).mono ?_
            rintro e w1 ⟨v, rfl, hst, hb1⟩
            have HB1 := hidp (HX.out.trans (hb1.mono HX.out.size)); have HA1 := hidp (HA.out.below hb1 HA.out.lt); have HST := hidp hst
            clear hb1 hst
            obtain ⟨bb, off, cap, rfl⟩ := strs_form6 HST.out rfl
            obtain ⟨x0, x1, x2, x3, x4, x5⟩ := strs6 HST.out
            go_wp2_with fail
            refine (cN.out _).mono ?_
            rintro e w' ⟨rfl, rfl⟩
            go_wp2_with fail
            clear x0 x1 x2 x3 x4 x5
            obtain ⟨U, hU⟩ : ∃ U, ({ w1 with drawn := w1.drawn + 1 } : World) = U := ⟨_, rfl⟩
            have bU : Below w1.heap.size w1 U := by rw [← hU]; exact (Below.refl _ _).drew
            have HBU := hidp (HB1.out.trans (bU.mono HB1.out.size)); have HAU := hidp (HA1.out.below bU HA1.out.lt)
            have HSU := hidp (show StrsAt U (.slice (some ⟨bb, off, none⟩) 6 cap) [a, b, c, d, e5, f] ∧ WT U from ⟨HST.out.below bU (Nat.le_refl _), HW.out.below HBU.out (Nat.le_refl _)⟩)
            have hPS : ∀ W W', (StrsAt W (.slice (some ⟨bb, off, none⟩) 6 cap) [a, b, c, d, e5, f] ∧ WT W) → Below W.heap.size W W' → (StrsAt W' (.slice (some ⟨bb, off, none⟩) 6 cap) [a, b, c, d, e5, f] ∧ WT W') := fun W W' h hb => ⟨h.1.below hb (Nat.le_refl _), h.2.below hb (Nat.le_refl _)⟩
            have HPS := hidp hPS; clear hPS bU
            have HZ3 := hidp ((Below.refl U.heap.size U).alloc (Nat.le_refl _) (.cells #[.string ⟨#[]⟩, .string ⟨#[]⟩, .int .u8 0, .string ⟨#[]⟩, .string ⟨#[]⟩, .int .i64 0] 74)); have HN3 := hidp ((Below.refl U.heap.size U).alloc (Nat.le_refl _) (.cells #[.string a, .string b, .int .u8 (K : Int), .string d, .string e5, .int .i64 (n : Int)] 74))
            have HSZ := hidp (HPS.out _ _ HSU.out HZ3.out); have HSN := hidp (HPS.out _ _ HSU.out HN3.out)
            have hrun := run_storeCells_new (P := Tryz.prog) U 74 #[.string ⟨#[]⟩, .string ⟨#[]⟩, .int .u8 0, .string ⟨#[]⟩, .string ⟨#[]⟩, .int .i64 0] #[.string a, .string b, .int .u8 (K : Int), .string d, .string e5, .int .i64 (n : Int)] hz0 rfl (by simp [Value.oneCell'])
            refine wp_region_noPanic ?_
            refine wp_region_scr (S := fun W => StrsAt W (.slice (some ⟨bb, off, none⟩) 6 cap) [a, b, c, d, e5, f] ∧ WT W) (.take 0 (.take 1 (.take 2 (.take 3 (.take 4 (.take 5 (.take 6 (.take 7 (.take 8 (.take 10 (.take 11 (.take 12 (.take 13 (.take 14 (.take 15 (.take 16 (.take 17 (.two 9 (.take 18 (.one 19 (.one 20 .done))) 19 (.one 9 (.take 18 (.one 20 .done))))))))))))))))))))) (by kernel_rfl) (by kernel_rfl) (fun _ _ _ _ _ h => h) (by simp [Scr.depth]) (by kernel_rfl) (by rw [hU]; exact HSU.out) ?_
            simp only [hU]
            clear hU
            apply s_val
            case ho => rfl
            case hw => rfl
            case hv => intro w hw; obtain ⟨x0, x1, x2, x3, x4, x5⟩ := strs6 hw.1; go_simp; first | done | with_reducible rfl | rfl
            simp only [Act.put, List.getElem_toArray, List.getElem_cons_zero, List.getElem_cons_succ, List.setIfInBounds_toArray, List.set_cons_zero, List.set_cons_succ]
            apply s_val
            case ho => rfl
            case hw => rfl
            case hv => intro w hw; obtain ⟨x0, x1, x2, x3, x4, x5⟩ := strs6 hw.1; go_simp; first | done | with_reducible rfl | rfl
            simp only [Act.put, List.getElem_toArray, List.getElem_cons_zero, List.getElem_cons_succ, List.setIfInBounds_toArray, List.set_cons_zero, List.set_cons_succ]
            apply s_val
            case ho => rfl
            case hw => rfl
            case hv => intro w hw; obtain ⟨x0, x1, x2, x3, x4, x5⟩ := strs6 hw.1; go_simp; first | done | with_reducible rfl | rfl
            simp only [Act.put, List.getElem_toArray, List.getElem_cons_zero, List.getElem_cons_succ, List.setIfInBounds_toArray, List.set_cons_zero, List.set_cons_succ]
            apply s_val
            case ho => rfl
            case hw => rfl
            case hv => intro w hw; obtain ⟨x0, x1, x2, x3, x4, x5⟩ := strs6 hw.1; go_simp; first | done | with_reducible rfl | rfl
            simp only [Act.put, List.getElem_toArray, List.getElem_cons_zero, List.getElem_cons_succ, List.setIfInBounds_toArray, List.set_cons_zero, List.set_cons_succ]
            apply s_val
            case ho => rfl
            case hw => rfl
            case hv => intro w hw; obtain ⟨x0, x1, x2, x3, x4, x5⟩ := strs6 hw.1; go_simp; first | done | with_reducible rfl | rfl
            simp only [Act.put, List.getElem_toArray, List.getElem_cons_zero, List.getElem_cons_succ, List.setIfInBounds_toArray, List.set_cons_zero, List.set_cons_succ]
            apply s_val
            case ho => rfl
            case hw => rfl
            case hv => intro w hw; obtain ⟨x0, x1, x2, x3, x4, x5⟩ := strs6 hw.1; go_simp; first | done | with_reducible rfl | rfl
            simp only [Act.put, List.getElem_toArray, List.getElem_cons_zero, List.getElem_cons_succ, List.setIfInBounds_toArray, List.set_cons_zero, List.set_cons_succ]
            apply s_val
            case ho => rfl
            case hw => rfl
            case hv => intro w hw; obtain ⟨x0, x1, x2, x3, x4, x5⟩ := strs6 hw.1; go_simp; first | done | with_reducible rfl | rfl
            simp only [Act.put, List.getElem_toArray, List.getElem_cons_zero, List.getElem_cons_succ, List.setIfInBounds_toArray, List.set_cons_zero, List.set_cons_succ]
            apply s_val
            case ho => rfl
            case hw => rfl
            case hv => intro w hw; obtain ⟨x0, x1, x2, x3, x4, x5⟩ := strs6 hw.1; go_simp; first | done | with_reducible rfl | rfl
            simp only [Act.put, List.getElem_toArray, List.getElem_cons_zero, List.getElem_cons_succ, List.setIfInBounds_toArray, List.set_cons_zero, List.set_cons_succ]
            apply s_val
            case ho => rfl
            case hw => rfl
            case hv => intro w hw; obtain ⟨x0, x1, x2, x3, x4, x5⟩ := strs6 hw.1; go_simp; first | done | with_reducible rfl | rfl
            simp only [Act.put, List.getElem_toArray, List.getElem_cons_zero, List.getElem_cons_succ, List.setIfInBounds_toArray, List.set_cons_zero, List.set_cons_succ]
            apply s_val
            case ho => rfl
            case hw => rfl
            case hv => intro w hw; obtain ⟨x0, x1, x2, x3, x4, x5⟩ := strs6 hw.1; go_simp; first | done | with_reducible rfl | rfl
            simp only [Act.put, List.getElem_toArray, List.getElem_cons_zero, List.getElem_cons_succ, List.setIfInBounds_toArray, List.set_cons_zero, List.set_cons_succ]
            apply s_val
            case ho => rfl
            case hw => rfl
            case hv => intro w hw; obtain ⟨x0, x1, x2, x3, x4, x5⟩ := strs6 hw.1; go_simp; first | done | with_reducible rfl | rfl
            simp only [Act.put, List.getElem_toArray, List.getElem_cons_zero, List.getElem_cons_succ, List.setIfInBounds_toArray, List.set_cons_zero, List.set_cons_succ]
            apply s_val
            case ho => rfl
            case hw => rfl
            case hv => intro w hw; obtain ⟨x0, x1, x2, x3, x4, x5⟩ := strs6 hw.1; go_simp; first | done | with_reducible rfl | rfl
            simp only [Act.put, List.getElem_toArray, List.getElem_cons_zero, List.getElem_cons_succ, List.setIfInBounds_toArray, List.set_cons_zero, List.set_cons_succ]
            apply s_val
            case ho => rfl
            case hw => rfl
            case hv => intro w hw; obtain ⟨x0, x1, x2, x3, x4, x5⟩ := strs6 hw.1; go_simp; first | done | with_reducible rfl | rfl
            simp only [Act.put, List.getElem_toArray, List.getElem_cons_zero, List.getElem_cons_succ, List.setIfInBounds_toArray, List.set_cons_zero, List.set_cons_succ]
            apply s_val
            case ho => rfl
            case hw => rfl
            case hv => intro w hw; obtain ⟨x0, x1, x2, x3, x4, x5⟩ := strs6 hw.1; go_simp; first | done | with_reducible rfl | rfl
            simp only [Act.put, List.getElem_toArray, List.getElem_cons_zero, List.getElem_cons_succ, List.setIfInBounds_toArray, List.set_cons_zero, List.set_cons_succ]
            apply s_val
            case ho => rfl
            case hw => rfl
            case hv => intro w hw; obtain ⟨x0, x1, x2, x3, x4, x5⟩ := strs6 hw.1; go_simp; first | done | with_reducible rfl | rfl
            simp only [Act.put, List.getElem_toArray, List.getElem_cons_zero, List.getElem_cons_succ, List.setIfInBounds_toArray, List.set_cons_zero, List.set_cons_succ]
            apply s_val
            case ho => rfl
            case hw => rfl
            case hv => intro w hw; obtain ⟨x0, x1, x2, x3, x4, x5⟩ := strs6 hw.1; go_simp; first | done | with_reducible rfl | rfl
            simp only [Act.put, List.getElem_toArray, List.getElem_cons_zero, List.getElem_cons_succ, List.setIfInBounds_toArray, List.set_cons_zero, List.set_cons_succ]
            apply s_val
            case ho => rfl
            case hw => rfl
            case hv => intro w hw; obtain ⟨x0, x1, x2, x3, x4, x5⟩ := strs6 hw.1; go_simp; first | done | with_reducible rfl | rfl
            simp only [Act.put, List.getElem_toArray, List.getElem_cons_zero, List.getElem_cons_succ, List.setIfInBounds_toArray, List.set_cons_zero, List.set_cons_succ]
            refine ⟨?_, ?_⟩
            · apply o_call (v := .int .u8 (K : Int)) (f := 57) (args := #[.string c]) (R := fun W => W = U) (hc := ck.out _ HSU.out.2)
              case ho => rfl
              case hw => rfl
              case hop => go_simp; done
              rintro w9 rfl
              refine ⟨HSU.out, ?_⟩
              simp only [Act.put, List.getElem_toArray, List.getElem_cons_zero, List.getElem_cons_succ, List.setIfInBounds_toArray, List.set_cons_zero, List.set_cons_succ]
              apply s_val
              case ho => rfl
              case hw => rfl
              case hv => intro w hw; go_simp; first | done | with_reducible rfl | rfl
              simp only [Act.put, List.getElem_toArray, List.getElem_cons_zero, List.getElem_cons_succ, List.setIfInBounds_toArray, List.set_cons_zero, List.set_cons_succ]
              apply o_make (W := w9.alloc (.cells #[.string ⟨#[]⟩, .string ⟨#[]⟩, .int .u8 0, .string ⟨#[]⟩, .string ⟨#[]⟩, .int .i64 0] 74)) (v := .pointer (some ⟨w9.heap.size, 0, none⟩)) (hS := HSZ.out)
              case ho => rfl
              case hw => rfl
              case hop => go_simp; done
              simp only [Act.put, List.getElem_toArray, List.getElem_cons_zero, List.getElem_cons_succ, List.setIfInBounds_toArray, List.set_cons_zero, List.set_cons_succ]
              apply o_put (W := w9.alloc (.cells #[.string a, .string b, .int .u8 (K : Int), .string d, .string e5, .int .i64 (n : Int)] 74)) (hS := HSN.out)
              case ho => rfl
              case hw => rfl
              case hop => go_simp; done
              simp only [Act.put, List.getElem_toArray, List.getElem_cons_zero, List.getElem_cons_succ, List.setIfInBounds_toArray, List.set_cons_zero, List.set_cons_succ]
              refine NoPanic.normal ?_
              have HB5 := hidp (HBU.out.trans (HN3.out.mono HBU.out.size)); have HA5 := hidp (HAU.out.below HN3.out HAU.out.lt)
              have HN5 := hidp (Arr.new w9 74 [.string a, .string b, .int .u8 (K : Int), .string d, .string e5, .int .i64 (n : Int)])
              obtain ⟨be, hbe⟩ : ∃ b, w9.heap.size = b := ⟨_, rfl⟩
              generalize hW5 : (w9.alloc (.cells #[.string a, .string b, .int .u8 (K : Int), .string d, .string e5, .int .i64 (n : Int)] 74)) = W5 at HB5 HA5 HN5 ⊢
              rw [hbe] at HN5 ⊢
              clear HN3 HSN HSZ HZ3 hrun hW5
              obtain ⟨y0, y1, y2, y3, y4, y5⟩ := arr6 HN5.out
              go_wp2_with fail
              clear y0 y1 y2 y3 y4 y5
              refine (cc.out _ (HI.out.below HB5.out (Nat.le_refl _))).mono ?_
              rintro e w6 ⟨rfl, hb6⟩
              have HB6 := hidp (HB5.out.trans (hb6.mono HB5.out.size)); have HA6 := hidp (HA5.out.below hb6 HA5.out.lt); have HN6 := hidp (HN5.out.below hb6 HN5.out.lt)
              clear hb6
              obtain ⟨r0, r1, r2, r3, r4, r5, g0, g1, g2, g3, g4, g5⟩ := arr6f HA6.out
              obtain ⟨y0, y1, y2, y3, y4, y5⟩ := arr6 HN6.out
              go_wp2_with fail
              refine bodyPost_ret (v := .tuple #[.agg #[.string a, .string b, .int .u8 (K : Int), .string d, .string e5, .int .i64 (n : Int)], .int .i64 0]) (by simp [results, Tryz.results44, go_sem, r0, r1, r2, r3, r4, r5]) rfl ⟨rfl, ?_⟩
              repeat (refine Below.setCell ?_ (by simp) _)
              exact HB6.out
            · apply o_make (W := U.alloc (.cells #[.string ⟨#[]⟩, .string ⟨#[]⟩, .int .u8 0, .string ⟨#[]⟩, .string ⟨#[]⟩, .int .i64 0] 74)) (v := .pointer (some ⟨U.heap.size, 0, none⟩)) (hS := HSZ.out)
              case ho => rfl
              case hw => rfl
              case hop => go_simp; done
              simp only [Act.put, List.getElem_toArray, List.getElem_cons_zero, List.getElem_cons_succ, List.setIfInBounds_toArray, List.set_cons_zero, List.set_cons_succ]
              apply o_call (v := .int .u8 (K : Int)) (f := 57) (args := #[.string c]) (R := fun W => W = (U.alloc (.cells #[.string ⟨#[]⟩, .string ⟨#[]⟩, .int .u8 0, .string ⟨#[]⟩, .string ⟨#[]⟩, .int .i64 0] 74))) (hc := ck.out _ HSZ.out.2)
              case ho => rfl
              case hw => rfl
              case hop => go_simp; done
              rintro w9 hw9
              subst hw9
              refine ⟨HSZ.out, ?_⟩
              simp only [Act.put, List.getElem_toArray, List.getElem_cons_zero, List.getElem_cons_succ, List.setIfInBounds_toArray, List.set_cons_zero, List.set_cons_succ]
              apply s_val
              case ho => rfl
              case hw => rfl
              case hv => intro w hw; go_simp; first | done | with_reducible rfl | rfl
              simp only [Act.put, List.getElem_toArray, List.getElem_cons_zero, List.getElem_cons_succ, List.setIfInBounds_toArray, List.set_cons_zero, List.set_cons_succ]
              apply o_put (W := U.alloc (.cells #[.string a, .string b, .int .u8 (K : Int), .string d, .string e5, .int .i64 (n : Int)] 74)) (hS := HSN.out)
              case ho => rfl
              case hw => rfl
              case hop => go_simp; done
              simp only [Act.put, List.getElem_toArray, List.getElem_cons_zero, List.getElem_cons_succ, List.setIfInBounds_toArray, List.set_cons_zero, List.set_cons_succ]
              refine NoPanic.normal ?_
              have HB5 := hidp (HBU.out.trans (HN3.out.mono HBU.out.size)); have HA5 := hidp (HAU.out.below HN3.out HAU.out.lt)
              have HN5 := hidp (Arr.new U 74 [.string a, .string b, .int .u8 (K : Int), .string d, .string e5, .int .i64 (n : Int)])
              obtain ⟨be, hbe⟩ : ∃ b, U.heap.size = b := ⟨_, rfl⟩
              generalize hW5 : (U.alloc (.cells #[.string a, .string b, .int .u8 (K : Int), .string d, .string e5, .int .i64 (n : Int)] 74)) = W5 at HB5 HA5 HN5 ⊢
              rw [hbe] at HN5 ⊢
              clear HN3 HSN HSZ HZ3 hrun hW5
              obtain ⟨y0, y1, y2, y3, y4, y5⟩ := arr6 HN5.out
              go_wp2_with fail
              clear y0 y1 y2 y3 y4 y5
              refine (cc.out _ (HI.out.below HB5.out (Nat.le_refl _))).mono ?_
              rintro e w6 ⟨rfl, hb6⟩
              have HB6 := hidp (HB5.out.trans (hb6.mono HB5.out.size)); have HA6 := hidp (HA5.out.below hb6 HA5.out.lt); have HN6 := hidp (HN5.out.below hb6 HN5.out.lt)
              clear hb6
              obtain ⟨r0, r1, r2, r3, r4, r5, g0, g1, g2, g3, g4, g5⟩ := arr6f HA6.out
              obtain ⟨y0, y1, y2, y3, y4, y5⟩ := arr6 HN6.out
              go_wp2_with fail
              refine bodyPost_ret (v := .tuple #[.agg #[.string a, .string b, .int .u8 (K : Int), .string d, .string e5, .int .i64 (n : Int)], .int .i64 0]) (by simp [results, Tryz.results44, go_sem, r0, r1, r2, r3, r4, r5]) rfl ⟨rfl, ?_⟩
              repeat (refine Below.setCell ?_ (by simp) _)
              exact HB6.out
          · rw [if_neg hok] at hR
            have hE0 : E = 2 := by rw [← HEE.out]; unfold evE; rw [if_neg hok]
            subst hR
            subst hE0
            clear hok HEE
            go_enter Tryz.func44, Tryz.ntmps44
            go_wp2_with fail
            refine (c1.out _).mono ?_
            rintro e w1 ⟨v, rfl, hst, hb1⟩
            have HB1 := hidp (HX.out.trans (hb1.mono HX.out.size)); have HA1 := hidp (HA.out.below hb1 HA.out.lt); have HST := hidp hst
            clear hb1 hst
            obtain ⟨bb, off, cap, rfl⟩ := strs_form6 HST.out rfl
            obtain ⟨x0, x1, x2, x3, x4, x5⟩ := strs6 HST.out
            go_wp2_with fail
            refine (cN.out _).mono ?_
            rintro e w' ⟨rfl, rfl⟩
            go_wp2_with fail
            clear x0 x1 x2 x3 x4 x5
            obtain ⟨U, hU⟩ : ∃ U, ({ w1 with drawn := w1.drawn + 1 } : World) = U := ⟨_, rfl⟩
            have bU : Below w1.heap.size w1 U := by rw [← hU]; exact (Below.refl _ _).drew
            have HBU := hidp (HB1.out.trans (bU.mono HB1.out.size)); have HAU := hidp (HA1.out.below bU HA1.out.lt)
            have HSU := hidp (show StrsAt U (.slice (some ⟨bb, off, none⟩) 6 cap) [a, b, c, d, e5, f] ∧ WT U from ⟨HST.out.below bU (Nat.le_refl _), HW.out.below HBU.out (Nat.le_refl _)⟩)
            have hPS : ∀ W W', (StrsAt W (.slice (some ⟨bb, off, none⟩) 6 cap) [a, b, c, d, e5, f] ∧ WT W) → Below W.heap.size W W' → (StrsAt W' (.slice (some ⟨bb, off, none⟩) 6 cap) [a, b, c, d, e5, f] ∧ WT W') := fun W W' h hb => ⟨h.1.below hb (Nat.le_refl _), h.2.below hb (Nat.le_refl _)⟩
            have HPS := hidp hPS; clear hPS bU
            have HZ3 := hidp ((Below.refl U.heap.size U).alloc (Nat.le_refl _) (.cells #[.string ⟨#[]⟩, .string ⟨#[]⟩, .int .u8 0, .string ⟨#[]⟩, .string ⟨#[]⟩, .int .i64 0] 74)); have HN3 := hidp ((Below.refl U.heap.size U).alloc (Nat.le_refl _) (.cells #[.string a, .string b, .int .u8 (K : Int), .string d, .string e5, .int .i64 (n : Int)] 74))
            have HSZ := hidp (HPS.out _ _ HSU.out HZ3.out); have HSN := hidp (HPS.out _ _ HSU.out HN3.out)
            have hrun := run_storeCells_new (P := Tryz.prog) U 74 #[.string ⟨#[]⟩, .string ⟨#[]⟩, .int .u8 0, .string ⟨#[]⟩, .string ⟨#[]⟩, .int .i64 0] #[.string a, .string b, .int .u8 (K : Int), .string d, .string e5, .int .i64 (n : Int)] hz0 rfl (by simp [Value.oneCell'])
            refine wp_region_noPanic ?_
            refine wp_region_scr (S := fun W => StrsAt W (.slice (some ⟨bb, off, none⟩) 6 cap) [a, b, c, d, e5, f] ∧ WT W) (.take 0 (.take 1 (.take 2 (.take 3 (.take 4 (.take 5 (.take 6 (.take 7 (.take 8 (.take 10 (.take 11 (.take 12 (.take 13 (.take 14 (.take 15 (.take 16 (.take 17 (.two 9 (.take 18 (.one 19 (.one 20 .done))) 19 (.one 9 (.take 18 (.one 20 .done))))))))))))))))))))) (by kernel_rfl) (by kernel_rfl) (fun _ _ _ _ _ h => h) (by simp [Scr.depth]) (by kernel_rfl) (by rw [hU]; exact HSU.out) ?_
            simp only [hU]
            clear hU
            apply s_val
            case ho => rfl
            case hw => rfl
            case hv => intro w hw; obtain ⟨x0, x1, x2, x3, x4, x5⟩ := strs6 hw.1; go_simp; first | done | with_reducible rfl | rfl
            simp only [Act.put, List.getElem_toArray, List.getElem_cons_zero, List.getElem_cons_succ, List.setIfInBounds_toArray, List.set_cons_zero, List.set_cons_succ]
            apply s_val
            case ho => rfl
            case hw => rfl
            case hv => intro w hw; obtain ⟨x0, x1, x2, x3, x4, x5⟩ := strs6 hw.1; go_simp; first | done | with_reducible rfl | rfl
            simp only [Act.put, List.getElem_toArray, List.getElem_cons_zero, List.getElem_cons_succ, List.setIfInBounds_toArray, List.set_cons_zero, List.set_cons_succ]
            apply s_val
            case ho => rfl
            case hw => rfl
            case hv => intro w hw; obtain ⟨x0, x1, x2, x3, x4, x5⟩ := strs6 hw.1; go_simp; first | done | with_reducible rfl | rfl
            simp only [Act.put, List.getElem_toArray, List.getElem_cons_zero, List.getElem_cons_succ, List.setIfInBounds_toArray, List.set_cons_zero, List.set_cons_succ]
            apply s_val
            case ho => rfl
            case hw => rfl
            case hv => intro w hw; obtain ⟨x0, x1, x2, x3, x4, x5⟩ := strs6 hw.1; go_simp; first | done | with_reducible rfl | rfl
            simp only [Act.put, List.getElem_toArray, List.getElem_cons_zero, List.getElem_cons_succ, List.setIfInBounds_toArray, List.set_cons_zero, List.set_cons_succ]
            apply s_val
            case ho => rfl
            case hw => rfl
            case hv => intro w hw; obtain ⟨x0, x1, x2, x3, x4, x5⟩ := strs6 hw.1; go_simp; first | done | with_reducible rfl | rfl
            simp only [Act.put, List.getElem_toArray, List.getElem_cons_zero, List.getElem_cons_succ, List.setIfInBounds_toArray, List.set_cons_zero, List.set_cons_succ]
            apply s_val
            case ho => rfl
            case hw => rfl
            case hv => intro w hw; obtain ⟨x0, x1, x2, x3, x4, x5⟩ := strs6 hw.1; go_simp; first | done | with_reducible rfl | rfl
            simp only [Act.put, List.getElem_toArray, List.getElem_cons_zero, List.getElem_cons_succ, List.setIfInBounds_toArray, List.set_cons_zero, List.set_cons_succ]
            apply s_val
            case ho => rfl
            case hw => rfl
            case hv => intro w hw; obtain ⟨x0, x1, x2, x3, x4, x5⟩ := strs6 hw.1; go_simp; first | done | with_reducible rfl | rfl
            simp only [Act.put, List.getElem_toArray, List.getElem_cons_zero, List.getElem_cons_succ, List.setIfInBounds_toArray, List.set_cons_zero, List.set_cons_succ]
            apply s_val
            case ho => rfl
            case hw => rfl
            case hv => intro w hw; obtain ⟨x0, x1, x2, x3, x4, x5⟩ := strs6 hw.1; go_simp; first | done | with_reducible rfl | rfl
            simp only [Act.put, List.getElem_toArray, List.getElem_cons_zero, List.getElem_cons_succ, List.setIfInBounds_toArray, List.set_cons_zero, List.set_cons_succ]
            apply s_val
            case ho => rfl
            case hw => rfl
            case hv => intro w hw; obtain ⟨x0, x1, x2, x3, x4, x5⟩ := strs6 hw.1; go_simp; first | done | with_reducible rfl | rfl
            simp only [Act.put, List.getElem_toArray, List.getElem_cons_zero, List.getElem_cons_succ, List.setIfInBounds_toArray, List.set_cons_zero, List.set_cons_succ]
            apply s_val
            case ho => rfl
            case hw => rfl
            case hv => intro w hw; obtain ⟨x0, x1, x2, x3, x4, x5⟩ := strs6 hw.1; go_simp; first | done | with_reducible rfl | rfl
            simp only [Act.put, List.getElem_toArray, List.getElem_cons_zero, List.getElem_cons_succ, List.setIfInBounds_toArray, List.set_cons_zero, List.set_cons_succ]
            apply s_val
            case ho => rfl
            case hw => rfl
            case hv => intro w hw; obtain ⟨x0, x1, x2, x3, x4, x5⟩ := strs6 hw.1; go_simp; first | done | with_reducible rfl | rfl
            simp only [Act.put, List.getElem_toArray, List.getElem_cons_zero, List.getElem_cons_succ, List.setIfInBounds_toArray, List.set_cons_zero, List.set_cons_succ]
            apply s_val
            case ho => rfl
            case hw => rfl
            case hv => intro w hw; obtain ⟨x0, x1, x2, x3, x4, x5⟩ := strs6 hw.1; go_simp; first | done | with_reducible rfl | rfl
            simp only [Act.put, List.getElem_toArray, List.getElem_cons_zero, List.getElem_cons_succ, List.setIfInBounds_toArray, List.set_cons_zero, List.set_cons_succ]
            apply s_val
            case ho => rfl
            case hw => rfl
            case hv => intro w hw; obtain ⟨x0, x1, x2, x3, x4, x5⟩ := strs6 hw.1; go_simp; first | done | with_reducible rfl | rfl
            simp only [Act.put, List.getElem_toArray, List.getElem_cons_zero, List.getElem_cons_succ, List.setIfInBounds_toArray, List.set_cons_zero, List.set_cons_succ]
            apply s_val
            case ho => rfl
            case hw => rfl
            case hv => intro w hw; obtain ⟨x0, x1, x2, x3, x4, x5⟩ := strs6 hw.1; go_simp; first | done | with_reducible rfl | rfl
            simp only [Act.put, List.getElem_toArray, List.getElem_cons_zero, List.getElem_cons_succ, List.setIfInBounds_toArray, List.set_cons_zero, List.set_cons_succ]
            apply s_val
            case ho => rfl
            case hw => rfl
            case hv => intro w hw; obtain ⟨x0, x1, x2, x3, x4, x5⟩ := strs6 hw.1; go_simp; first | done | with_reducible rfl | rfl
            simp only [Act.put, List.getElem_toArray, List.getElem_cons_zero, List.getElem_cons_succ, List.setIfInBounds_toArray, List.set_cons_zero, List.set_cons_succ]
            apply s_val
            case ho => rfl
            case hw => rfl
            case hv => intro w hw; obtain ⟨x0, x1, x2, x3, x4, x5⟩ := strs6 hw.1; go_simp; first | done | with_reducible rfl | rfl
            simp only [Act.put, List.getElem_toArray, List.getElem_cons_zero, List.getElem_cons_succ, List.setIfInBounds_toArray, List.set_cons_zero, List.set_cons_succ]
            apply s_val
            case ho => rfl
            case hw => rfl
            case hv => intro w hw; obtain ⟨x0, x1, x2, x3, x4, x5⟩ := strs6 hw.1; go_simp; first | done | with_reducible rfl | rfl
            simp only [Act.put, List.getElem_toArray, List.getElem_cons_zero, List.getElem_cons_succ, List.setIfInBounds_toArray, List.set_cons_zero, List.set_cons_succ]
            refine ⟨?_, ?_⟩
            · apply o_call (v := .int .u8 (K : Int)) (f := 57) (args := #[.string c]) (R := fun W => W = U) (hc := ck.out _ HSU.out.2)
              case ho => rfl
              case hw => rfl
              case hop => go_simp; done
              rintro w9 rfl
              refine ⟨HSU.out, ?_⟩
              simp only [Act.put, List.getElem_toArray, List.getElem_cons_zero, List.getElem_cons_succ, List.setIfInBounds_toArray, List.set_cons_zero, List.set_cons_succ]
              apply s_val
              case ho => rfl
              case hw => rfl
              case hv => intro w hw; go_simp; first | done | with_reducible rfl | rfl
              simp only [Act.put, List.getElem_toArray, List.getElem_cons_zero, List.getElem_cons_succ, List.setIfInBounds_toArray, List.set_cons_zero, List.set_cons_succ]
              apply o_make (W := w9.alloc (.cells #[.string ⟨#[]⟩, .string ⟨#[]⟩, .int .u8 0, .string ⟨#[]⟩, .string ⟨#[]⟩, .int .i64 0] 74)) (v := .pointer (some ⟨w9.heap.size, 0, none⟩)) (hS := HSZ.out)
              case ho => rfl
              case hw => rfl
              case hop => go_simp; done
              simp only [Act.put, List.getElem_toArray, List.getElem_cons_zero, List.getElem_cons_succ, List.setIfInBounds_toArray, List.set_cons_zero, List.set_cons_succ]
              apply o_put (W := w9.alloc (.cells #[.string a, .string b, .int .u8 (K : Int), .string d, .string e5, .int .i64 (n : Int)] 74)) (hS := HSN.out)
              case ho => rfl
              case hw => rfl
              case hop => go_simp; done
              simp only [Act.put, List.getElem_toArray, List.getElem_cons_zero, List.getElem_cons_succ, List.setIfInBounds_toArray, List.set_cons_zero, List.set_cons_succ]
              refine NoPanic.normal ?_
              have HB5 := hidp (HBU.out.trans (HN3.out.mono HBU.out.size)); have HA5 := hidp (HAU.out.below HN3.out HAU.out.lt)
              have HN5 := hidp (Arr.new w9 74 [.string a, .string b, .int .u8 (K : Int), .string d, .string e5, .int .i64 (n : Int)])
              obtain ⟨be, hbe⟩ : ∃ b, w9.heap.size = b := ⟨_, rfl⟩
              generalize hW5 : (w9.alloc (.cells #[.string a, .string b, .int .u8 (K : Int), .string d, .string e5, .int .i64 (n : Int)] 74)) = W5 at HB5 HA5 HN5 ⊢
              rw [hbe] at HN5 ⊢
              clear HN3 HSN HSZ HZ3 hrun hW5
              obtain ⟨y0, y1, y2, y3, y4, y5⟩ := arr6 HN5.out
              go_wp2_with fail
              clear y0 y1 y2 y3 y4 y5
              refine (cc.out _ (HI.out.below HB5.out (Nat.le_refl _))).mono ?_
              rintro e w6 ⟨rfl, hb6⟩
              have HB6 := hidp (HB5.out.trans (hb6.mono HB5.out.size)); have HA6 := hidp (HA5.out.below hb6 HA5.out.lt); have HN6 := hidp (HN5.out.below hb6 HN5.out.lt)
              clear hb6
              obtain ⟨r0, r1, r2, r3, r4, r5, g0, g1, g2, g3, g4, g5⟩ := arr6f HA6.out
              obtain ⟨y0, y1, y2, y3, y4, y5⟩ := arr6 HN6.out
              go_wp2_with fail
              refine bodyPost_ret (v := .tuple #[.agg #[.string ⟨#[]⟩, .string ⟨#[]⟩, .int .u8 0, .string ⟨#[]⟩, .string ⟨#[]⟩, .int .i64 0], .int .i64 6]) (by simp [results, Tryz.results44, go_sem, r0, r1, r2, r3, r4, r5]) rfl ⟨rfl, ?_⟩
              repeat (refine Below.setCell ?_ (by simp) _)
              exact HB6.out
            · apply o_make (W := U.alloc (.cells #[.string ⟨#[]⟩, .string ⟨#[]⟩, .int .u8 0, .string ⟨#[]⟩, .string ⟨#[]⟩, .int .i64 0] 74)) (v := .pointer (some ⟨U.heap.size, 0, none⟩)) (hS := HSZ.out)
              case ho => rfl
              case hw => rfl
              case hop => go_simp; done
              simp only [Act.put, List.getElem_toArray, List.getElem_cons_zero, List.getElem_cons_succ, List.setIfInBounds_toArray, List.set_cons_zero, List.set_cons_succ]
              apply o_call (v := .int .u8 (K : Int)) (f := 57) (args := #[.string c]) (R := fun W => W = (U.alloc (.cells #[.string ⟨#[]⟩, .string ⟨#[]⟩, .int .u8 0, .string ⟨#[]⟩, .string ⟨#[]⟩, .int .i64 0] 74))) (hc := ck.out _ HSZ.out.2)
              case ho => rfl
              case hw => rfl
              case hop => go_simp; done
              rintro w9 hw9
              subst hw9
              refine ⟨HSZ.out, ?_⟩
              simp only [Act.put, List.getElem_toArray, List.getElem_cons_zero, List.getElem_cons_succ, List.setIfInBounds_toArray, List.set_cons_zero, List.set_cons_succ]
              apply s_val
              case ho => rfl
              case hw => rfl
              case hv => intro w hw; go_simp; first | done | with_reducible rfl | rfl
              simp only [Act.put, List.getElem_toArray, List.getElem_cons_zero, List.getElem_cons_succ, List.setIfInBounds_toArray, List.set_cons_zero, List.set_cons_succ]
              apply o_put (W := U.alloc (.cells #[.string a, .string b, .int .u8 (K : Int), .string d, .string e5, .int .i64 (n : Int)] 74)) (hS := HSN.out)
              case ho => rfl
              case hw => rfl
              case hop => go_simp; done
              simp only [Act.put, List.getElem_toArray, List.getElem_cons_zero, List.getElem_cons_succ, List.setIfInBounds_toArray, List.set_cons_zero, List.set_cons_succ]
              refine NoPanic.normal ?_
              have HB5 := hidp (HBU.out.trans (HN3.out.mono HBU.out.size)); have HA5 := hidp (HAU.out.below HN3.out HAU.out.lt)
              have HN5 := hidp (Arr.new U 74 [.string a, .string b, .int .u8 (K : Int), .string d, .string e5, .int .i64 (n : Int)])
              obtain ⟨be, hbe⟩ : ∃ b, U.heap.size = b := ⟨_, rfl⟩
              generalize hW5 : (U.alloc (.cells #[.string a, .string b, .int .u8 (K : Int), .string d, .string e5, .int .i64 (n : Int)] 74)) = W5 at HB5 HA5 HN5 ⊢
              rw [hbe] at HN5 ⊢
              clear HN3 HSN HSZ HZ3 hrun hW5
              obtain ⟨y0, y1, y2, y3, y4, y5⟩ := arr6 HN5.out
              go_wp2_with fail
              clear y0 y1 y2 y3 y4 y5
              refine (cc.out _ (HI.out.below HB5.out (Nat.le_refl _))).mono ?_
              rintro e w6 ⟨rfl, hb6⟩
              have HB6 := hidp (HB5.out.trans (hb6.mono HB5.out.size)); have HA6 := hidp (HA5.out.below hb6 HA5.out.lt); have HN6 := hidp (HN5.out.below hb6 HN5.out.lt)
              clear hb6
              obtain ⟨r0, r1, r2, r3, r4, r5, g0, g1, g2, g3, g4, g5⟩ := arr6f HA6.out
              obtain ⟨y0, y1, y2, y3, y4, y5⟩ := arr6 HN6.out
              go_wp2_with fail
              refine bodyPost_ret (v := .tuple #[.agg #[.string ⟨#[]⟩, .string ⟨#[]⟩, .int .u8 0, .string ⟨#[]⟩, .string ⟨#[]⟩, .int .i64 0], .int .i64 6]) (by simp [results, Tryz.results44, go_sem, r0, r1, r2, r3, r4, r5]) rfl ⟨rfl, ?_⟩
              repeat (refine Below.setCell ?_ (by simp) _)
              exact HB6.out
    · rw [evOf_len hl6] at hR
      subst hR
      obtain ⟨ln, hln⟩ : ∃ q, L.length = q := ⟨_, rfl⟩
      rw [hln] at hl6
      have e1 : ((ln : Int) != 6) = true := by simp; omega
      have n1 : ¬ ln = 6 := hl6
      have HLN := hidp hln; clear hln
      go_enter Tryz.func44, Tryz.ntmps44
      go_wp2_with fail
      refine (c1.out _).mono ?_
      rintro e w1 ⟨v, rfl, hst, hb1⟩
      have HB1 := hidp (HX.out.trans (hb1.mono HX.out.size)); have HA1 := hidp (HA.out.below hb1 HA.out.lt); have HST := hidp hst
      clear hb1 hst
      obtain ⟨xa, xc, rfl⟩ := strs_len HST.out
      rw [HLN.out]
      have HAZ := HA1; have HBZ := HB1
      obtain ⟨r0, r1, r2, r3, r4, r5, g0, g1, g2, g3, g4, g5⟩ := arr6f HAZ.out
      go_wp2_with fail
      refine bodyPost_ret (v := .tuple #[.agg #[.string ⟨#[]⟩, .string ⟨#[]⟩, .int .u8 0, .string ⟨#[]⟩, .string ⟨#[]⟩, .int .i64 0], .int .i64 6]) (by simp [results, Tryz.results44, go_sem, r0, r1, r2, r3, r4, r5]) rfl ⟨rfl, ?_⟩
      repeat (refine Below.setCell ?_ (by simp) _)
      exact HBZ.out
  · have e0 : ((er : Int) != 0) = true := by simp; omega
    have n0 : ¬ er = 0 := he
    rw [if_neg he] at hR
    subst hR
    go_enter Tryz.func44, Tryz.ntmps44
    go_wp2_with fail
    refine (c1.out _).mono ?_
    rintro e w1 ⟨v, rfl, hst, hb1⟩
    have HB1 := hidp (HX.out.trans (hb1.mono HX.out.size)); have HA1 := hidp (HA.out.below hb1 HA.out.lt); have HST := hidp hst
    clear hb1 hst
    have HAZ := HA1; have HBZ := HB1
    obtain ⟨r0, r1, r2, r3, r4, r5, g0, g1, g2, g3, g4, g5⟩ := arr6f HAZ.out
    go_wp2_with fail
    refine bodyPost_ret (v := .tuple #[.agg #[.string ⟨#[]⟩, .string ⟨#[]⟩, .int .u8 0, .string ⟨#[]⟩, .string ⟨#[]⟩, .int .i64 0], .int .i64 6]) (by simp [results, Tryz.results44, go_sem, r0, r1, r2, r3, r4, r5]) rfl ⟨rfl, ?_⟩
    repeat (refine Below.setCell ?_ (by simp) _)
    exact HBZ.out
end Go.Proofs.YtfenjincbhkodaaGreatDoor
