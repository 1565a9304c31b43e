
/-
  member: the walks of the laws.
-/
import Derived.Test.YtpdeoplocbkkkaaMbE
import Derived.Test.YtpdeoplocbkkkaaMbD
namespace Go.Proofs.Ytpdeoplocbkkkaa
set_option maxRecDepth 100000
set_option linter.unusedVariables false
set_option linter.unusedSimpArgs false
open Go.RowKit


theorem al_cases (r s a t : ByteArray) (sf iv ki bn ab : Bool) : alE r s a t sf iv ki bn ab = 0 ↔ (ckE r s a t = 0 ∧ mayB r s a t sf iv ki bn ab = true) := by
  unfold alE
  by_cases h : ckE r s a t = 0
  · rw [if_pos h]
    cases mayB r s a t sf iv ki bn ab <;> simp [h]
  · rw [if_neg h]; simp [h]
theorem banned_facts {r s t : ByteArray} {sf iv ki bn ab : Bool} (h : alE r s (⟨#[98, 97, 110]⟩ : ByteArray) t sf iv ki bn ab = 0) :
    sf = false ∧ (s.toList == ([106, 111, 105, 110] : List UInt8)) = true ∧ ab = true ∧ bn = true ∧ ((t.toList == ([108, 101, 97, 118, 101] : List UInt8)) = true ∨ ((t.toList == ([108, 101, 97, 118, 101] : List UInt8)) = false ∧ (t.toList == ([98, 97, 110] : List UInt8)) = true)) := by
  obtain ⟨-, hm⟩ := (al_cases _ _ _ _ _ _ _ _ _).1 h
  obtain ⟨k, hk, hO⟩ := one_of t
  unfold mayB at hm
  obtain ⟨o0, o1, o2, o3, o4⟩ := hO
  rw [o0, o1, o2, o3, o4] at hm
  rw [o2, o3]
  match k, hk with
  | 0, _ => simp [entB, toList_lit, anyW, isB, ruleB, inB, byB, entB, remB] at hm
  | 1, _ => simp [toList_lit, anyW, isB, ruleB, inB, byB, entB, remB] at hm
  | 2, _ => simp [toList_lit, anyW, isB, ruleB, inB, byB, entB, remB] at hm; simp; exact ⟨hm.1.1.1, hm.1.1.2, hm.1.2, hm.2⟩
  | 3, _ => simp [toList_lit, anyW, isB, ruleB, inB, byB, entB, remB] at hm; simp; exact ⟨hm.1.1.1, hm.1.1.2, hm.1.2, hm.2⟩
  | 4, _ => simp [toList_lit, anyW, isB, ruleB, inB, byB, entB, remB] at hm
  | 5, _ => simp at hm
theorem others_facts {r s a t : ByteArray} {sf iv ki bn ab : Bool} (h : alE r s a t sf iv ki bn ab = 0) :
    (sf = true ∧ ((t.toList == ([106, 111, 105, 110] : List UInt8)) = true ∨ ((t.toList == ([106, 111, 105, 110] : List UInt8)) = false ∧ (t.toList == ([108, 101, 97, 118, 101] : List UInt8)) = true) ∨ ((t.toList == ([106, 111, 105, 110] : List UInt8)) = false ∧ (t.toList == ([108, 101, 97, 118, 101] : List UInt8)) = false ∧ (t.toList == ([107, 110, 111, 99, 107] : List UInt8)) = true))) ∨
    (sf = false ∧ (s.toList == ([106, 111, 105, 110] : List UInt8)) = true ∧ (t.toList == ([106, 111, 105, 110] : List UInt8)) = false ∧ (t.toList == ([107, 110, 111, 99, 107] : List UInt8)) = false) := by
  obtain ⟨-, hm⟩ := (al_cases _ _ _ _ _ _ _ _ _).1 h
  obtain ⟨k, hk, hO⟩ := one_of t
  unfold mayB at hm
  obtain ⟨o0, o1, o2, o3, o4⟩ := hO
  rw [o0, o1, o2, o3, o4] at hm
  rw [o0, o2, o4]
  match k, hk with
  | 0, _ => simp at hm; simp [hm.1]
  | 1, _ => simp [byB] at hm; simp [hm.1.1.1, hm.1.1.2]
  | 2, _ => cases sf <;> simp [byB] at hm ⊢; exact hm.1.1
  | 3, _ => simp [byB] at hm; simp [hm.1.1.1, hm.1.1.2]
  | 4, _ => simp at hm; simp [hm.1]
  | 5, _ => simp at hm
theorem more_facts {r s a t : ByteArray} {sf iv ki bn ab x1 x2 x3 x4 : Bool} (h : alE r s a t sf iv ki bn ab = 0) (h1 : iv = true → x1 = true) (h2 : ki = true → x2 = true) (h3 : bn = true → x3 = true) (h4 : ab = true → x4 = true) :
    alE r s a t sf x1 x2 x3 x4 = 0 := by
  obtain ⟨hc, hm⟩ := (al_cases _ _ _ _ _ _ _ _ _).1 h
  refine (al_cases _ _ _ _ _ _ _ _ _).2 ⟨hc, ?_⟩
  obtain ⟨k, hk, hO⟩ := one_of t
  unfold mayB at hm ⊢
  obtain ⟨o0, o1, o2, o3, o4⟩ := hO
  rw [o0, o1, o2, o3, o4] at hm ⊢
  match k, hk with
  | 0, _ => simpa using hm
  | 1, _ => simp at hm ⊢; exact ⟨hm.1, h1 hm.2⟩
  | 2, _ =>
    simp [remB] at hm ⊢
    rcases hm with hm | ⟨⟨g1, g2⟩, g3⟩
    · exact .inl hm
    · refine .inr ⟨⟨g1, h4 g2⟩, ?_⟩
      rcases g3 with ⟨g, g'⟩ | ⟨g, g'⟩
      · exact .inl ⟨g, h3 g'⟩
      · exact .inr ⟨g, h2 g'⟩
  | 3, _ => simp at hm ⊢; exact ⟨⟨hm.1.1, h4 hm.1.2⟩, h3 hm.2⟩
  | 4, _ => simpa using hm
  | 5, _ => simp at hm

theorem same_below {f : FuncId} {args : Array Value} {w : World} {v : Value} (h : Calls Try.prog f args w fun e w' => e = .returned v ∧ w' = w) : Calls Try.prog f args w fun e w' => e = .returned v ∧ Below w.heap.size w w' :=
  h.mono fun e w' ⟨he, hw⟩ => ⟨he, hw ▸ Below.refl _ _⟩
set_option maxHeartbeats 16000000 in
theorem walk_memberTells (w : World) (r s a t : ByteArray) (sf iv ki bn ab : Bool) (x : ByteArray) (hx : x.size ≤ 140737488351232) :
    Calls Try.prog 3 #[.agg #[.string r, .string s, .string a, .string t, .bool sf, .bool iv, .bool ki, .bool bn, .bool ab], .string x] w fun e w' => e = .returned (.bool true) ∧ Below w.heap.size w w' := by
  have L := hidp (fun W => lives16_any W)
  have c1 := hidp (fun W => check_any W r s a t sf iv ki bn ab); have c2 := hidp (fun W => rcheck_any W r s a t sf iv ki bn ab)
  have c3 := hidp (fun W => allowed_any W r s a t sf iv ki bn ab); have c4 := hidp (fun W => rallowed_any W r s a t sf iv ki bn ab)
  have c5 := hidp (fun W => is_any W x); have c6 := hidp (fun W => same_below (ris_any W x))
  have c7 := hidp (fun W => rule_any W x); have c8 := hidp (fun W => same_below (rrule_any W x))
  obtain ⟨C, hC⟩ : ∃ C, ckE r s a t = C := ⟨_, rfl⟩
  obtain ⟨D, hD⟩ : ∃ C, alE r s a t sf iv ki bn ab = C := ⟨_, rfl⟩
  obtain ⟨I, hI⟩ : ∃ C, isB x = C := ⟨_, rfl⟩
  obtain ⟨J, hJ⟩ : ∃ C, ruleB x = C := ⟨_, rfl⟩
  rw [hC] at c1 c2
  rw [hD] at c3 c4
  rw [hI] at c5 c6
  rw [hJ] at c7 c8
  have eC : (C == C) = true := by simp
  have eD : (D == D) = true := by simp
  have eI : (I == I) = true := by simp
  have eJ : (J == J) = true := by simp
  clear hC hD hI hJ
  go_enter Try.func3, Try.ntmps3
  go_wp2_with (refine Rt.wpL_box 23 rfl (.tmp 0) rfl [.string r, .string s, .string a, .string t, .bool sf, .bool iv, .bool ki, .bool bn, .bool ab] rfl ?_; intro b1 w1 n1; have HB1 := hidp n1.below; have hg_b1 := hidp n1.le; have HA1 := hidp n1.arr; clear n1)
  obtain ⟨U, hU⟩ : ∃ U, ({ w1 with drawn := w1.drawn + 1 } : World) = U := ⟨_, rfl⟩
  have bU : Below w1.heap.size w1 U := by rw [← hU]; exact (Below.refl _ _).drew
  have HB2 := hidp (HB1.out.trans (bU.mono HB1.out.size))
  have HA2 := hidp (HA1.out.below bU HA1.out.lt)
  clear bU HB1 HA1
  have HS0 := hidp (show Arr U b1 23 [.string r, .string s, .string a, .string t, .bool sf, .bool iv, .bool ki, .bool bn, .bool ab] from HA2.out)
  have HX0 := HB2
  refine wp_region_noPanic ?_
  refine wp_region_scr (S := fun W => Arr W b1 23 [.string r, .string s, .string a, .string t, .bool sf, .bool iv, .bool ki, .bool bn, .bool ab]) (.one 0 (.take 1 (.take 2 (.take 4 (.one 3 (.one 5 (.take 6 (.take 7 (.take 8 (.take 9 (.take 11 (.one 10 (.one 12 (.take 13 (.take 14 (.take 15 (.take 16 (.take 18 (.one 17 (.one 19 (.take 20 (.take 21 (.take 22 (.take 23 (.take 25 (.one 24 (.one 26 (.take 27 (.take 28 (.take 29 .done)))))))))))))))))))))))))))))) (by kernel_rfl) (by kernel_rfl) (fun _ _ _ _ _ h => h) (by simp [Scr.depth]) (by kernel_rfl) (by rw [hU]; exact HS0.out) ?_
  simp only [hU]
  clear hU
  apply o_call (f := 7) (args := #[]) (v := .bool true) (hc := L.out _)
  case ho => rfl
  case hw => rfl
  case hop => go_simp; first | done | rfl
  rintro X1 hb
  have HX1 := hidp (HX0.out.trans (hb.mono HX0.out.size))
  have HS1 := hidp (show Arr X1 b1 23 [.string r, .string s, .string a, .string t, .bool sf, .bool iv, .bool ki, .bool bn, .bool ab] from (HS0.out).below hb (HS0.out).lt)
  refine ⟨HS1.out, ?_⟩
  clear hb
  simp only [Act.put, List.getElem_toArray, List.getElem_cons_zero, List.getElem_cons_succ, List.setIfInBounds_toArray, List.set_cons_zero, List.set_cons_succ]
  apply s_val
  case ho => rfl
  case hw => rfl
  case hv => intro w hw; go_simp; first | done | with_reducible rfl | rfl
  simp only [Act.put, List.getElem_toArray, List.getElem_cons_zero, List.getElem_cons_succ, List.setIfInBounds_toArray, List.set_cons_zero, List.set_cons_succ]
  refine Rt.s_get mvT rfl rfl (.tmp 2) rfl b1 [.string r, .string s, .string a, .string t, .bool sf, .bool iv, .bool ki, .bool bn, .bool ab] rfl rfl (fun w h => h) ?_
  simp only [Act.put, List.getElem_toArray, List.getElem_cons_zero, List.getElem_cons_succ, List.setIfInBounds_toArray, List.set_cons_zero, List.set_cons_succ]
  refine Rt.s_get mvT rfl rfl (.tmp 2) rfl b1 [.string r, .string s, .string a, .string t, .bool sf, .bool iv, .bool ki, .bool bn, .bool ab] rfl rfl (fun w h => h) ?_
  simp only [Act.put, List.getElem_toArray, List.getElem_cons_zero, List.getElem_cons_succ, List.setIfInBounds_toArray, List.set_cons_zero, List.set_cons_succ]
  apply o_call (f := 8) (args := #[.agg #[.string r, .string s, .string a, .string t, .bool sf, .bool iv, .bool ki, .bool bn, .bool ab]]) (v := .int .i64 C) (hc := c1.out _)
  case ho => rfl
  case hw => rfl
  case hop => go_simp; first | done | rfl
  rintro X2 hb
  have HX2 := hidp (HX1.out.trans (hb.mono HX1.out.size))
  have HS2 := hidp (show Arr X2 b1 23 [.string r, .string s, .string a, .string t, .bool sf, .bool iv, .bool ki, .bool bn, .bool ab] from (HS1.out).below hb (HS1.out).lt)
  refine ⟨HS2.out, ?_⟩
  clear hb
  simp only [Act.put, List.getElem_toArray, List.getElem_cons_zero, List.getElem_cons_succ, List.setIfInBounds_toArray, List.set_cons_zero, List.set_cons_succ]
  apply o_call (f := 9) (args := #[.agg #[.string r, .string s, .string a, .string t, .bool sf, .bool iv, .bool ki, .bool bn, .bool ab]]) (v := .int .i64 C) (hc := c2.out _)
  case ho => rfl
  case hw => rfl
  case hop => go_simp; first | done | rfl
  rintro X3 hb
  have HX3 := hidp (HX2.out.trans (hb.mono HX2.out.size))
  have HS3 := hidp (show Arr X3 b1 23 [.string r, .string s, .string a, .string t, .bool sf, .bool iv, .bool ki, .bool bn, .bool ab] from (HS2.out).below hb (HS2.out).lt)
  refine ⟨HS3.out, ?_⟩
  clear hb
  simp only [Act.put, List.getElem_toArray, List.getElem_cons_zero, List.getElem_cons_succ, List.setIfInBounds_toArray, List.set_cons_zero, List.set_cons_succ]
  apply s_val (v := .bool true)
  case ho => rfl
  case hw => rfl
  case hv => intro w hw; have q := eC; go_simp; first | done | with_reducible rfl | rfl
  simp only [Act.put, List.getElem_toArray, List.getElem_cons_zero, List.getElem_cons_succ, List.setIfInBounds_toArray, List.set_cons_zero, List.set_cons_succ]
  apply s_val
  case ho => rfl
  case hw => rfl
  case hv => intro w hw; go_simp; first | done | with_reducible rfl | rfl
  simp only [Act.put, List.getElem_toArray, List.getElem_cons_zero, List.getElem_cons_succ, List.setIfInBounds_toArray, List.set_cons_zero, List.set_cons_succ]
  apply s_val
  case ho => rfl
  case hw => rfl
  case hv => intro w hw; go_simp; first | done | with_reducible rfl | rfl
  simp only [Act.put, List.getElem_toArray, List.getElem_cons_zero, List.getElem_cons_succ, List.setIfInBounds_toArray, List.set_cons_zero, List.set_cons_succ]
  refine Rt.s_get mvT rfl rfl (.tmp 2) rfl b1 [.string r, .string s, .string a, .string t, .bool sf, .bool iv, .bool ki, .bool bn, .bool ab] rfl rfl (fun w h => h) ?_
  simp only [Act.put, List.getElem_toArray, List.getElem_cons_zero, List.getElem_cons_succ, List.setIfInBounds_toArray, List.set_cons_zero, List.set_cons_succ]
  refine Rt.s_get mvT rfl rfl (.tmp 2) rfl b1 [.string r, .string s, .string a, .string t, .bool sf, .bool iv, .bool ki, .bool bn, .bool ab] rfl rfl (fun w h => h) ?_
  simp only [Act.put, List.getElem_toArray, List.getElem_cons_zero, List.getElem_cons_succ, List.setIfInBounds_toArray, List.set_cons_zero, List.set_cons_succ]
  apply o_call (f := 10) (args := #[.agg #[.string r, .string s, .string a, .string t, .bool sf, .bool iv, .bool ki, .bool bn, .bool ab]]) (v := .int .i64 D) (hc := c3.out _)
  case ho => rfl
  case hw => rfl
  case hop => go_simp; first | done | rfl
  rintro X4 hb
  have HX4 := hidp (HX3.out.trans (hb.mono HX3.out.size))
  have HS4 := hidp (show Arr X4 b1 23 [.string r, .string s, .string a, .string t, .bool sf, .bool iv, .bool ki, .bool bn, .bool ab] from (HS3.out).below hb (HS3.out).lt)
  refine ⟨HS4.out, ?_⟩
  clear hb
  simp only [Act.put, List.getElem_toArray, List.getElem_cons_zero, List.getElem_cons_succ, List.setIfInBounds_toArray, List.set_cons_zero, List.set_cons_succ]
  apply o_call (f := 11) (args := #[.agg #[.string r, .string s, .string a, .string t, .bool sf, .bool iv, .bool ki, .bool bn, .bool ab]]) (v := .int .i64 D) (hc := c4.out _)
  case ho => rfl
  case hw => rfl
  case hop => go_simp; first | done | rfl
  rintro X5 hb
  have HX5 := hidp (HX4.out.trans (hb.mono HX4.out.size))
  have HS5 := hidp (show Arr X5 b1 23 [.string r, .string s, .string a, .string t, .bool sf, .bool iv, .bool ki, .bool bn, .bool ab] from (HS4.out).below hb (HS4.out).lt)
  refine ⟨HS5.out, ?_⟩
  clear hb
  simp only [Act.put, List.getElem_toArray, List.getElem_cons_zero, List.getElem_cons_succ, List.setIfInBounds_toArray, List.set_cons_zero, List.set_cons_succ]
  apply s_val (v := .bool true)
  case ho => rfl
  case hw => rfl
  case hv => intro w hw; have q := eD; go_simp; first | done | with_reducible rfl | rfl
  simp only [Act.put, List.getElem_toArray, List.getElem_cons_zero, List.getElem_cons_succ, List.setIfInBounds_toArray, List.set_cons_zero, List.set_cons_succ]
  apply s_val
  case ho => rfl
  case hw => rfl
  case hv => intro w hw; go_simp; first | done | with_reducible rfl | rfl
  simp only [Act.put, List.getElem_toArray, List.getElem_cons_zero, List.getElem_cons_succ, List.setIfInBounds_toArray, List.set_cons_zero, List.set_cons_succ]
  apply s_val
  case ho => rfl
  case hw => rfl
  case hv => intro w hw; go_simp; first | done | with_reducible rfl | rfl
  simp only [Act.put, List.getElem_toArray, List.getElem_cons_zero, List.getElem_cons_succ, List.setIfInBounds_toArray, List.set_cons_zero, List.set_cons_succ]
  apply s_val
  case ho => rfl
  case hw => rfl
  case hv => intro w hw; go_simp; first | done | with_reducible rfl | rfl
  simp only [Act.put, List.getElem_toArray, List.getElem_cons_zero, List.getElem_cons_succ, List.setIfInBounds_toArray, List.set_cons_zero, List.set_cons_succ]
  apply s_val
  case ho => rfl
  case hw => rfl
  case hv => intro w hw; go_simp; first | done | with_reducible rfl | rfl
  simp only [Act.put, List.getElem_toArray, List.getElem_cons_zero, List.getElem_cons_succ, List.setIfInBounds_toArray, List.set_cons_zero, List.set_cons_succ]
  apply o_call (f := 12) (args := #[.string x]) (v := .bool I) (hc := c5.out _)
  case ho => rfl
  case hw => rfl
  case hop => go_simp; first | done | rfl
  rintro X6 hb
  have HX6 := hidp (HX5.out.trans (hb.mono HX5.out.size))
  have HS6 := hidp (show Arr X6 b1 23 [.string r, .string s, .string a, .string t, .bool sf, .bool iv, .bool ki, .bool bn, .bool ab] from (HS5.out).below hb (HS5.out).lt)
  refine ⟨HS6.out, ?_⟩
  clear hb
  simp only [Act.put, List.getElem_toArray, List.getElem_cons_zero, List.getElem_cons_succ, List.setIfInBounds_toArray, List.set_cons_zero, List.set_cons_succ]
  apply o_call (f := 13) (args := #[.string x]) (v := .bool I) (hc := c6.out _)
  case ho => rfl
  case hw => rfl
  case hop => go_simp; first | done | rfl
  rintro X7 hb
  have HX7 := hidp (HX6.out.trans (hb.mono HX6.out.size))
  have HS7 := hidp (show Arr X7 b1 23 [.string r, .string s, .string a, .string t, .bool sf, .bool iv, .bool ki, .bool bn, .bool ab] from (HS6.out).below hb (HS6.out).lt)
  refine ⟨HS7.out, ?_⟩
  clear hb
  simp only [Act.put, List.getElem_toArray, List.getElem_cons_zero, List.getElem_cons_succ, List.setIfInBounds_toArray, List.set_cons_zero, List.set_cons_succ]
  apply s_val (v := .bool true)
  case ho => rfl
  case hw => rfl
  case hv => intro w hw; have q := eI; go_simp; first | done | with_reducible rfl | rfl
  simp only [Act.put, List.getElem_toArray, List.getElem_cons_zero, List.getElem_cons_succ, List.setIfInBounds_toArray, List.set_cons_zero, List.set_cons_succ]
  apply s_val
  case ho => rfl
  case hw => rfl
  case hv => intro w hw; go_simp; first | done | with_reducible rfl | rfl
  simp only [Act.put, List.getElem_toArray, List.getElem_cons_zero, List.getElem_cons_succ, List.setIfInBounds_toArray, List.set_cons_zero, List.set_cons_succ]
  apply s_val
  case ho => rfl
  case hw => rfl
  case hv => intro w hw; go_simp; first | done | with_reducible rfl | rfl
  simp only [Act.put, List.getElem_toArray, List.getElem_cons_zero, List.getElem_cons_succ, List.setIfInBounds_toArray, List.set_cons_zero, List.set_cons_succ]
  apply s_val
  case ho => rfl
  case hw => rfl
  case hv => intro w hw; go_simp; first | done | with_reducible rfl | rfl
  simp only [Act.put, List.getElem_toArray, List.getElem_cons_zero, List.getElem_cons_succ, List.setIfInBounds_toArray, List.set_cons_zero, List.set_cons_succ]
  apply s_val
  case ho => rfl
  case hw => rfl
  case hv => intro w hw; go_simp; first | done | with_reducible rfl | rfl
  simp only [Act.put, List.getElem_toArray, List.getElem_cons_zero, List.getElem_cons_succ, List.setIfInBounds_toArray, List.set_cons_zero, List.set_cons_succ]
  apply o_call (f := 14) (args := #[.string x]) (v := .bool J) (hc := c7.out _)
  case ho => rfl
  case hw => rfl
  case hop => go_simp; first | done | rfl
  rintro X8 hb
  have HX8 := hidp (HX7.out.trans (hb.mono HX7.out.size))
  have HS8 := hidp (show Arr X8 b1 23 [.string r, .string s, .string a, .string t, .bool sf, .bool iv, .bool ki, .bool bn, .bool ab] from (HS7.out).below hb (HS7.out).lt)
  refine ⟨HS8.out, ?_⟩
  clear hb
  simp only [Act.put, List.getElem_toArray, List.getElem_cons_zero, List.getElem_cons_succ, List.setIfInBounds_toArray, List.set_cons_zero, List.set_cons_succ]
  apply o_call (f := 15) (args := #[.string x]) (v := .bool J) (hc := c8.out _)
  case ho => rfl
  case hw => rfl
  case hop => go_simp; first | done | rfl
  rintro X9 hb
  have HX9 := hidp (HX8.out.trans (hb.mono HX8.out.size))
  have HS9 := hidp (show Arr X9 b1 23 [.string r, .string s, .string a, .string t, .bool sf, .bool iv, .bool ki, .bool bn, .bool ab] from (HS8.out).below hb (HS8.out).lt)
  refine ⟨HS9.out, ?_⟩
  clear hb
  simp only [Act.put, List.getElem_toArray, List.getElem_cons_zero, List.getElem_cons_succ, List.setIfInBounds_toArray, List.set_cons_zero, List.set_cons_succ]
  apply s_val (v := .bool true)
  case ho => rfl
  case hw => rfl
  case hv => intro w hw; have q := eJ; go_simp; first | done | with_reducible rfl | rfl
  simp only [Act.put, List.getElem_toArray, List.getElem_cons_zero, List.getElem_cons_succ, List.setIfInBounds_toArray, List.set_cons_zero, List.set_cons_succ]
  apply s_val
  case ho => rfl
  case hw => rfl
  case hv => intro w hw; go_simp; first | done | with_reducible rfl | rfl
  simp only [Act.put, List.getElem_toArray, List.getElem_cons_zero, List.getElem_cons_succ, List.setIfInBounds_toArray, List.set_cons_zero, List.set_cons_succ]
  apply s_val
  case ho => rfl
  case hw => rfl
  case hv => intro w hw; go_simp; first | done | with_reducible rfl | rfl
  simp only [Act.put, List.getElem_toArray, List.getElem_cons_zero, List.getElem_cons_succ, List.setIfInBounds_toArray, List.set_cons_zero, List.set_cons_succ]
  refine NoPanic.normal ?_
  go_wp2_with fail
  go_ret
  exact ⟨rfl, HX9.out⟩

set_option maxHeartbeats 16000000 in
theorem walk_memberBanned (w : World) (r s a t : ByteArray) (sf iv ki bn ab : Bool) :
    Calls Try.prog 4 #[.agg #[.string r, .string s, .string a, .string t, .bool sf, .bool iv, .bool ki, .bool bn, .bool ab]] w fun e w' => e = .returned (.bool true) ∧ Below w.heap.size w w' := by
  have L := hidp (fun W => lives16_any W)
  have c := hidp (fun W => allowed_any W r s (⟨#[98, 97, 110]⟩ : ByteArray) t sf iv ki bn ab)
  by_cases hz : alE r s (⟨#[98, 97, 110]⟩ : ByteArray) t sf iv ki bn ab = 0
  · obtain ⟨rfl, q1, rfl, rfl, q2⟩ := banned_facts hz
    rw [hz] at c
    clear hz
    rcases q2 with q2 | ⟨q2, q3⟩
    · go_enter Try.func4, Try.ntmps4
      go_wp2_with (first | (refine Rt.wpL_box 23 rfl (.tmp 0) rfl [.string r, .string s, .string a, .string t, .bool false, .bool iv, .bool ki, .bool true, .bool true] rfl ?_; intro b1 w1 n1; have HB1 := hidp n1.below; have hg_b1 := hidp n1.le; have HA1 := hidp n1.arr; clear n1) | (go_at_call 7; refine (L.out _).mono ?_; rintro e w2 ⟨rfl, hb⟩; have HB2 := hidp (HB1.out.trans (hb.mono HB1.out.size)); have HA2 := hidp (HA1.out.below hb HA1.out.lt); clear hb HB1 HA1) | (refine Rt.wpL_putF rfl 9 (.tmp 5) _ rfl b1 2 (.string (⟨#[98, 97, 110]⟩ : ByteArray)) rfl rfl (by kernel_rfl) rfl [.string r, .string s, .string a, .string t, .bool false, .bool iv, .bool ki, .bool true, .bool true] HA2.out (by simp) ?_; intro w3 ha hp; have HB3 := hidp (hp.below' HB2.out hg_b1.out); have HA3 := hidp (show Arr w3 b1 23 [.string r, .string s, .string (⟨#[98, 97, 110]⟩ : ByteArray), .string t, .bool false, .bool iv, .bool ki, .bool true, .bool true] from ha); clear ha hp HB2 HA2) | (refine Rt.wpL_get mvT rfl (.tmp 1) rfl b1 [.string r, .string s, .string (⟨#[98, 97, 110]⟩ : ByteArray), .string t, .bool false, .bool iv, .bool ki, .bool true, .bool true] rfl rfl HA3.out ?_) | (go_at_call 10; refine (c.out _).mono ?_; rintro e w4 ⟨rfl, hb⟩; have HB4 := hidp (HB3.out.trans (hb.mono HB3.out.size)); have HA4 := hidp (HA3.out.below hb HA3.out.lt); clear hb HB3 HA3; obtain ⟨x0, x1, x2, x3, x4, x5, x6, x7, x8⟩ := arr9 HA4.out; go_wp2_with fail))
      go_ret
      exact ⟨rfl, HB4.out⟩
    · go_enter Try.func4, Try.ntmps4
      go_wp2_with (first | (refine Rt.wpL_box 23 rfl (.tmp 0) rfl [.string r, .string s, .string a, .string t, .bool false, .bool iv, .bool ki, .bool true, .bool true] rfl ?_; intro b1 w1 n1; have HB1 := hidp n1.below; have hg_b1 := hidp n1.le; have HA1 := hidp n1.arr; clear n1) | (go_at_call 7; refine (L.out _).mono ?_; rintro e w2 ⟨rfl, hb⟩; have HB2 := hidp (HB1.out.trans (hb.mono HB1.out.size)); have HA2 := hidp (HA1.out.below hb HA1.out.lt); clear hb HB1 HA1) | (refine Rt.wpL_putF rfl 9 (.tmp 5) _ rfl b1 2 (.string (⟨#[98, 97, 110]⟩ : ByteArray)) rfl rfl (by kernel_rfl) rfl [.string r, .string s, .string a, .string t, .bool false, .bool iv, .bool ki, .bool true, .bool true] HA2.out (by simp) ?_; intro w3 ha hp; have HB3 := hidp (hp.below' HB2.out hg_b1.out); have HA3 := hidp (show Arr w3 b1 23 [.string r, .string s, .string (⟨#[98, 97, 110]⟩ : ByteArray), .string t, .bool false, .bool iv, .bool ki, .bool true, .bool true] from ha); clear ha hp HB2 HA2) | (refine Rt.wpL_get mvT rfl (.tmp 1) rfl b1 [.string r, .string s, .string (⟨#[98, 97, 110]⟩ : ByteArray), .string t, .bool false, .bool iv, .bool ki, .bool true, .bool true] rfl rfl HA3.out ?_) | (go_at_call 10; refine (c.out _).mono ?_; rintro e w4 ⟨rfl, hb⟩; have HB4 := hidp (HB3.out.trans (hb.mono HB3.out.size)); have HA4 := hidp (HA3.out.below hb HA3.out.lt); clear hb HB3 HA3; obtain ⟨x0, x1, x2, x3, x4, x5, x6, x7, x8⟩ := arr9 HA4.out; go_wp2_with fail))
      go_ret
      exact ⟨rfl, HB4.out⟩
  · obtain ⟨D, hD⟩ : ∃ C, alE r s (⟨#[98, 97, 110]⟩ : ByteArray) t sf iv ki bn ab = C := ⟨_, rfl⟩
    rw [hD] at c hz
    have e1 : (D != 0) = true := by simpa using hz
    clear hD hz
    go_enter Try.func4, Try.ntmps4
    go_wp2_with (first | (refine Rt.wpL_box 23 rfl (.tmp 0) rfl [.string r, .string s, .string a, .string t, .bool sf, .bool iv, .bool ki, .bool bn, .bool ab] rfl ?_; intro b1 w1 n1; have HB1 := hidp n1.below; have hg_b1 := hidp n1.le; have HA1 := hidp n1.arr; clear n1) | (go_at_call 7; refine (L.out _).mono ?_; rintro e w2 ⟨rfl, hb⟩; have HB2 := hidp (HB1.out.trans (hb.mono HB1.out.size)); have HA2 := hidp (HA1.out.below hb HA1.out.lt); clear hb HB1 HA1) | (refine Rt.wpL_putF rfl 9 (.tmp 5) _ rfl b1 2 (.string (⟨#[98, 97, 110]⟩ : ByteArray)) rfl rfl (by kernel_rfl) rfl [.string r, .string s, .string a, .string t, .bool sf, .bool iv, .bool ki, .bool bn, .bool ab] HA2.out (by simp) ?_; intro w3 ha hp; have HB3 := hidp (hp.below' HB2.out hg_b1.out); have HA3 := hidp (show Arr w3 b1 23 [.string r, .string s, .string (⟨#[98, 97, 110]⟩ : ByteArray), .string t, .bool sf, .bool iv, .bool ki, .bool bn, .bool ab] from ha); clear ha hp HB2 HA2) | (refine Rt.wpL_get mvT rfl (.tmp 1) rfl b1 [.string r, .string s, .string (⟨#[98, 97, 110]⟩ : ByteArray), .string t, .bool sf, .bool iv, .bool ki, .bool bn, .bool ab] rfl rfl HA3.out ?_) | (go_at_call 10; refine (c.out _).mono ?_; rintro e w4 ⟨rfl, hb⟩; have HB4 := hidp (HB3.out.trans (hb.mono HB3.out.size)); have HA4 := hidp (HA3.out.below hb HA3.out.lt); clear hb HB3 HA3; go_wp2_with fail))
    go_ret
    exact ⟨rfl, HB4.out⟩

set_option maxHeartbeats 16000000 in
theorem walk_memberOthers (w : World) (r s a t : ByteArray) (sf iv ki bn ab : Bool) :
    Calls Try.prog 5 #[.agg #[.string r, .string s, .string a, .string t, .bool sf, .bool iv, .bool ki, .bool bn, .bool ab]] w fun e w' => e = .returned (.bool true) ∧ Below w.heap.size w w' := by
  have L := hidp (fun W => lives16_any W)
  have c := hidp (fun W => allowed_any W r s a t sf iv ki bn ab)
  by_cases hz : alE r s a t sf iv ki bn ab = 0
  · have hf := others_facts hz
    rw [hz] at c
    clear hz
    rcases hf with ⟨rfl, hf⟩ | ⟨rfl, q1, q2, q3⟩
    · rcases hf with q1 | ⟨q1, q2⟩ | ⟨q1, q2, q3⟩
      · go_enter Try.func5, Try.ntmps5
        go_wp2_with (first | (refine Rt.wpL_box 23 rfl (.tmp 0) rfl [.string r, .string s, .string a, .string t, .bool true, .bool iv, .bool ki, .bool bn, .bool ab] rfl ?_; intro b1 w1 n1; have HB1 := hidp n1.below; have hg_b1 := hidp n1.le; have HA1 := hidp n1.arr; clear n1) | (go_at_call 7; refine (L.out _).mono ?_; rintro e w2 ⟨rfl, hb⟩; have HB2 := hidp (HB1.out.trans (hb.mono HB1.out.size)); have HA2 := hidp (HA1.out.below hb HA1.out.lt); clear hb HB1 HA1) | (refine Rt.wpL_get mvT rfl (.tmp 1) rfl b1 [.string r, .string s, .string a, .string t, .bool true, .bool iv, .bool ki, .bool bn, .bool ab] rfl rfl HA2.out ?_) | (go_at_call 10; refine (c.out _).mono ?_; rintro e w3 ⟨rfl, hb⟩; have HB3 := hidp (HB2.out.trans (hb.mono HB2.out.size)); have HA3 := hidp (HA2.out.below hb HA2.out.lt); clear hb HB2 HA2; obtain ⟨x0, x1, x2, x3, x4, x5, x6, x7, x8⟩ := arr9 HA3.out; go_wp2_with fail))
        go_ret
        exact ⟨rfl, HB3.out⟩
      · go_enter Try.func5, Try.ntmps5
        go_wp2_with (first | (refine Rt.wpL_box 23 rfl (.tmp 0) rfl [.string r, .string s, .string a, .string t, .bool true, .bool iv, .bool ki, .bool bn, .bool ab] rfl ?_; intro b1 w1 n1; have HB1 := hidp n1.below; have hg_b1 := hidp n1.le; have HA1 := hidp n1.arr; clear n1) | (go_at_call 7; refine (L.out _).mono ?_; rintro e w2 ⟨rfl, hb⟩; have HB2 := hidp (HB1.out.trans (hb.mono HB1.out.size)); have HA2 := hidp (HA1.out.below hb HA1.out.lt); clear hb HB1 HA1) | (refine Rt.wpL_get mvT rfl (.tmp 1) rfl b1 [.string r, .string s, .string a, .string t, .bool true, .bool iv, .bool ki, .bool bn, .bool ab] rfl rfl HA2.out ?_) | (go_at_call 10; refine (c.out _).mono ?_; rintro e w3 ⟨rfl, hb⟩; have HB3 := hidp (HB2.out.trans (hb.mono HB2.out.size)); have HA3 := hidp (HA2.out.below hb HA2.out.lt); clear hb HB2 HA2; obtain ⟨x0, x1, x2, x3, x4, x5, x6, x7, x8⟩ := arr9 HA3.out; go_wp2_with fail))
        go_ret
        exact ⟨rfl, HB3.out⟩
      · go_enter Try.func5, Try.ntmps5
        go_wp2_with (first | (refine Rt.wpL_box 23 rfl (.tmp 0) rfl [.string r, .string s, .string a, .string t, .bool true, .bool iv, .bool ki, .bool bn, .bool ab] rfl ?_; intro b1 w1 n1; have HB1 := hidp n1.below; have hg_b1 := hidp n1.le; have HA1 := hidp n1.arr; clear n1) | (go_at_call 7; refine (L.out _).mono ?_; rintro e w2 ⟨rfl, hb⟩; have HB2 := hidp (HB1.out.trans (hb.mono HB1.out.size)); have HA2 := hidp (HA1.out.below hb HA1.out.lt); clear hb HB1 HA1) | (refine Rt.wpL_get mvT rfl (.tmp 1) rfl b1 [.string r, .string s, .string a, .string t, .bool true, .bool iv, .bool ki, .bool bn, .bool ab] rfl rfl HA2.out ?_) | (go_at_call 10; refine (c.out _).mono ?_; rintro e w3 ⟨rfl, hb⟩; have HB3 := hidp (HB2.out.trans (hb.mono HB2.out.size)); have HA3 := hidp (HA2.out.below hb HA2.out.lt); clear hb HB2 HA2; obtain ⟨x0, x1, x2, x3, x4, x5, x6, x7, x8⟩ := arr9 HA3.out; go_wp2_with fail))
        go_ret
        exact ⟨rfl, HB3.out⟩
    · have nq2 : (t.toList != ([106, 111, 105, 110] : List UInt8)) = true := by rw [bne, q2]; rfl
      have nq3 : (t.toList != ([107, 110, 111, 99, 107] : List UInt8)) = true := by rw [bne, q3]; rfl
      go_enter Try.func5, Try.ntmps5
      go_wp2_with (first | (refine Rt.wpL_box 23 rfl (.tmp 0) rfl [.string r, .string s, .string a, .string t, .bool false, .bool iv, .bool ki, .bool bn, .bool ab] rfl ?_; intro b1 w1 n1; have HB1 := hidp n1.below; have hg_b1 := hidp n1.le; have HA1 := hidp n1.arr; clear n1) | (go_at_call 7; refine (L.out _).mono ?_; rintro e w2 ⟨rfl, hb⟩; have HB2 := hidp (HB1.out.trans (hb.mono HB1.out.size)); have HA2 := hidp (HA1.out.below hb HA1.out.lt); clear hb HB1 HA1) | (refine Rt.wpL_get mvT rfl (.tmp 1) rfl b1 [.string r, .string s, .string a, .string t, .bool false, .bool iv, .bool ki, .bool bn, .bool ab] rfl rfl HA2.out ?_) | (go_at_call 10; refine (c.out _).mono ?_; rintro e w3 ⟨rfl, hb⟩; have HB3 := hidp (HB2.out.trans (hb.mono HB2.out.size)); have HA3 := hidp (HA2.out.below hb HA2.out.lt); clear hb HB2 HA2; obtain ⟨x0, x1, x2, x3, x4, x5, x6, x7, x8⟩ := arr9 HA3.out; go_wp2_with fail))
      go_ret
      exact ⟨rfl, HB3.out⟩
  · obtain ⟨D, hD⟩ : ∃ C, alE r s a t sf iv ki bn ab = C := ⟨_, rfl⟩
    rw [hD] at c hz
    have e1 : (D != 0) = true := by simpa using hz
    clear hD hz
    go_enter Try.func5, Try.ntmps5
    go_wp2_with (first | (refine Rt.wpL_box 23 rfl (.tmp 0) rfl [.string r, .string s, .string a, .string t, .bool sf, .bool iv, .bool ki, .bool bn, .bool ab] rfl ?_; intro b1 w1 n1; have HB1 := hidp n1.below; have hg_b1 := hidp n1.le; have HA1 := hidp n1.arr; clear n1) | (go_at_call 7; refine (L.out _).mono ?_; rintro e w2 ⟨rfl, hb⟩; have HB2 := hidp (HB1.out.trans (hb.mono HB1.out.size)); have HA2 := hidp (HA1.out.below hb HA1.out.lt); clear hb HB1 HA1) | (refine Rt.wpL_get mvT rfl (.tmp 1) rfl b1 [.string r, .string s, .string a, .string t, .bool sf, .bool iv, .bool ki, .bool bn, .bool ab] rfl rfl HA2.out ?_) | (go_at_call 10; refine (c.out _).mono ?_; rintro e w3 ⟨rfl, hb⟩; have HB3 := hidp (HB2.out.trans (hb.mono HB2.out.size)); have HA3 := hidp (HA2.out.below hb HA2.out.lt); clear hb HB2 HA2; go_wp2_with fail))
    go_ret
    exact ⟨rfl, HB3.out⟩
end Go.Proofs.Ytpdeoplocbkkkaa
