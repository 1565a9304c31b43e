
/-
  store.Load, of both sides.
-/
import Derived.Test.YtbgooppmhgaicabStoA
import Derived.Test.YtbgooppmhgaicabBaC
namespace Go.Proofs.Ytbgooppmhgaicab
set_option maxRecDepth 100000
set_option linter.unusedVariables false
set_option linter.unusedSimpArgs false
open Go.RowKit

theorem o_app {P : Program} {ops : Array Oper} {Q : Exit → Act → World → Prop} {S : World → Prop} {k : Nat} {K : Act → World → Prop} {a : Act} {w : World} {o : Oper} (ho : ops[k]? = some o) (hw : Region.wanted o (yielded ops a.tmps) = true) (s x : Operand) (t : TypeId)
    (hop : o.op = .call { callee := .builtin .append, args := #[s, x], argTypes := #[t, t] }) (v' xv : Value) (w' : World) (v : Value) (hs : a.eval s = v) (hx : a.eval x = xv)
    (hrun : (Builtin.append_ #[t, t] o.type #[v, xv]).run P w = .ok v' w') (hS : S w') (h : K (a.put o.dst v') w') : opW P ops Q S k K a w := by
  refine ⟨o, ho, hw, ?_⟩
  unfold Oper.wp
  simp [execOp, hop, resolve, invoke, builtin, hs, hx, hrun, Result.andThen]
  exact ⟨hS, h⟩
theorem o_put {P : Program} {ops : Array Oper} {Q : Exit → Act → World → Prop} {S : World → Prop} {k : Nat} {K : Act → World → Prop} {a : Act} {w W : World} {o : Oper} (ho : ops[k]? = some o) (hw : Region.wanted o (yielded ops a.tmps) = true)
    (hop : (execOp a.eval o).run P w = .ok .skip W) (hS : S W) (h : K (a.put o.dst undef) W) : opW P ops Q S k K a w := by
  refine ⟨o, ho, hw, ?_⟩
  unfold Oper.wp
  rw [hop]
  exact ⟨hS, h⟩
theorem arr2 {w : World} {b T : Nat} {x0 x1 : Value} (h : Arr w b T [x0, x1]) : w.cell? ⟨b, 0, none⟩ = some x0 ∧ w.cell? ⟨b, 1, none⟩ = some x1 ∧ ∀ i, w.frozen? ⟨b, i, none⟩ = false :=
  ⟨h.cell 0 (by simp), h.cell 1 (by simp), h.frozen⟩
theorem OwnV.lt {w : World} {B e : Nat} {v : Value} {l : List Value} (h : OwnV w B e v l) : ∀ k, v.ownBlock = some k → k < w.heap.size := fun k hk => (World.ownsRow.lt h k hk).2
theorem OwnV.beside {w w' : World} {B C e e' : Nat} {v u : Value} {l m : List Value} (h : OwnV w B e v l) (hlt : ∀ k, v.ownBlock = some k → k < C) (h' : OwnV w C e' u m) (hg : w.grownBy w' u.ownBlock) : OwnV w' B e v l :=
  World.ownsRow.kept h hg (by
    by_cases hn : v.ownBlock = none
    · exact .inl hn
    · refine .inr fun heq => ?_
      obtain ⟨k, hk⟩ := Option.ne_none_iff_exists'.1 hn
      have h1 := hlt k hk
      have h2 := (World.ownsRow.lt h' k (by rw [← heq]; exact hk)).1
      omega)
theorem maxN (W : World) (ts : Array TypeId) (c n : Nat) : (Builtin.max_ ts 3 #[.int .i64 (c : Int), .int .i64 (n : Int)]).run Try.prog W = .ok (.int .i64 ((max c n : Nat) : Int)) W := by
  go_simp
  first | done | (congr 2; first | done | omega | (split <;> omega))
theorem StrsAt.two {w : World} {v : Value} {a b : ByteArray} (h : StrsAt w v [a, b]) : ∃ g o c, v = .slice (some ⟨g, o, none⟩) 2 c ∧ w.cell? ⟨g, o, none⟩ = some (.string a) ∧ w.cell? ⟨g, o + 1, none⟩ = some (.string b) := by
  obtain ⟨x, c, e, hc⟩ := h
  obtain ⟨g, o, e0, h0⟩ := hc 0 (by simp)
  obtain ⟨g', o', e1, h1⟩ := hc 1 (by simp)
  subst e0
  simp only [Option.some.injEq, Addr.mk.injEq, and_true] at e1
  obtain ⟨rfl, rfl⟩ := e1
  exact ⟨g, o, c, e, h0, h1⟩
theorem strV_get (ss : List ByteArray) (k : Nat) (h : k < ss.length) : (strV ss)[k]? = some (.string ss[k]) := by simp [strV, h]
theorem toList_no' {a : ByteArray} {x : UInt8} (h : a ≠ ⟨#[x]⟩) : (a.toList == [x]) = false := by
  have := toList_no h
  rw [ByteArray.toList_eq (ByteArray.mk #[x])] at this
  exact this

set_option maxHeartbeats 16000000 in
theorem load_any (w : World) (s : ByteArray) (hs : s.size ≤ 1099511627776) :
    Calls Try.prog 12 #[.string s] w fun e w' => ∃ v, e = .returned (.tuple #[.agg #[v, .int .i64 (((ld (rdT s.data.toList)).2.1 : Nat) : Int)], .int .i64 (((ld (rdT s.data.toList)).2.2 : Nat) : Int)]) ∧ OwnV w' w.heap.size 9 v (strV (ld (rdT s.data.toList)).1) ∧ Below w.heap.size w w' := by
  obtain ⟨i0, hi, hz0, hz1, hz2⟩ := info_parts info9
  have HI := hidp hi; have HZ0 := hidp hz0; have HZ1 := hidp hz1; have HZ2 := hidp hz2
  clear hi hz0 hz1 hz2
  have c1 := hidp (fun W => read_any W s hs)
  have hln : 5 * (rdT s.data.toList).length ≤ s.size := by have := rcs_len s; have := rcs_count s; omega
  have hsm := rdT_small s.data.toList
  obtain ⟨rs, hrs⟩ : ∃ r, rdT s.data.toList = r := ⟨_, rfl⟩
  obtain ⟨N, hN⟩ : ∃ r, rdN s.data.toList = r := ⟨_, rfl⟩
  rw [hrs] at c1 hln hsm ⊢
  rw [hN] at c1
  clear hrs hN
  obtain ⟨R, hR⟩ : ∃ R, ld rs = R := ⟨_, rfl⟩
  rw [hR]
  have HR := hidp (show ldF rs [] 0 = R from hR)
  have HSM := hidp hsm
  clear hR hsm
  go_enter Try.func12, Try.ntmps12
  go_wp2_with fail
  refine (c1.out _).mono ?_
  rintro e w2 ⟨vr, rfl, hvr, hb2⟩
  have HAr := hidp (((Arr.new w 35 [.slice none 0 0, .int .i64 0]).alloc (.cells #[.slice none 0 0, .int .i64 0] 35)).below hb2 (by simp; omega))
  have HAs := hidp (show Arr w2 (w.heap.size + 1) 35 [.slice none 0 0, .int .i64 0] from by
    have h := Arr.new (w.alloc (.cells #[.slice none 0 0, .int .i64 0] 35)) 35 [.slice none 0 0, .int .i64 0]
    rw [heap_size_alloc] at h
    exact h.below hb2 (by simp))
  have HB := hidp ((((Below.refl _ w).alloc (Nat.le_refl _) (.cells #[.slice none 0 0, .int .i64 0] 35)).alloc (by simp) (.cells #[.slice none 0 0, .int .i64 0] 35)).trans (hb2.mono (by simp; omega)))
  obtain ⟨ra, rc, hve, hrc⟩ := hvr.formS
  subst hve
  obtain ⟨ln, hlnn⟩ : ∃ q, rs.length = q := ⟨_, rfl⟩
  rw [hlnn] at hvr hln ⊢
  have HLN := hidp hlnn
  have HV := hidp hvr
  have HVL := hidp hvr.lt
  obtain ⟨Bn, hBn⟩ : ∃ b, w2.heap.size = b := ⟨_, rfl⟩
  rw [hBn] at HVL
  have hBw : w.heap.size + 2 ≤ Bn := by rw [← hBn]; have := hb2.size; simpa using this
  have hBn2 := hidp hBn
  clear hlnn hvr hb2 hrc hBn
  generalize hVB : (((w.alloc (.cells #[.slice none 0 0, .int .i64 0] 35)).alloc (.cells #[.slice none 0 0, .int .i64 0] 35)).heap.size) = VB at HV
  clear hVB
  go_wp2_with fail
  go_loopw [20] (fun t wr => ∃ (i : Nat) (es : List ByteArray) (c : Nat) (va : Option Addr) (vc : Nat), t = .int .i64 i ∧ i ≤ ln ∧ es.length ≤ i ∧ ldF (rs.drop i) es c = R ∧ Arr wr w.heap.size 35 [.slice none 0 0, .int .i64 0] ∧ Arr wr (w.heap.size + 1) 35 [.slice va es.length vc, .int .i64 (c : Int)] ∧
      OwnV wr VB 9 (.slice ra ln rc) (strV rs) ∧ OwnV wr Bn 9 (.slice va es.length vc) (strV es) ∧ Below w.heap.size w wr ∧ Bn ≤ wr.heap.size) (fun t _ => ln - (intOf t).toNat)
  case atStart => exact ⟨0, [], 0, none, 0, rfl, by omega, by simp, HR.out, HAr.out, HAs.out, HV.out, OwnV.nil _ _ _, HB.out, by rw [hBn2.out]; exact Nat.le_refl _⟩
  case round =>
    obtain ⟨i, es, c, va, vc, rfl, hi, hes, hld, hAr, hAs, hV, hE, hB, hBs⟩ := hrel
    have HLD := hidp hld; have HAr := hidp hAr; have HAs := hidp hAs; have HV := hidp hV; have HE := hidp hE; have HB := hidp hB
    clear hld hAr hAs hV hE hB c1
    obtain ⟨le, hle⟩ : ∃ q, es.length = q := ⟨_, rfl⟩
    rw [hle] at hes HAs HE
    have HLE := hidp hle
    clear hle
    by_cases hlt : i < ln
    · have hlt' : i < rs.length := by rw [HLN.out]; exact hlt
      obtain ⟨x, hx⟩ : ∃ x, rs[i] = x := ⟨_, rfl⟩
      have hdr : rs.drop i = x :: rs.drop (i + 1) := by rw [List.drop_eq_getElem_cons hlt', hx]
      have hxs : x.size ≤ 8192 := by rw [← hx]; exact HSM.out _ (List.getElem_mem hlt')
      obtain ⟨b0, o0, eb, hcx⟩ : ∃ b o, ra = some ⟨b, o, none⟩ ∧ wr.cell? ⟨b, o + i, none⟩ = some (.string x) := by
        obtain ⟨a', c', e', hc'⟩ := HV.out.strs
        simp only [Value.slice.injEq] at e'
        obtain ⟨rfl, -, -⟩ := e'
        obtain ⟨b, o, e1, h1⟩ := hc' i hlt'
        exact ⟨b, o, e1, by rw [h1, hx]⟩
      subst eb
      have hst := HLD.out
      rw [hdr, ldF] at hst
      have HST := hidp hst
      clear hst hdr hx HLD
      have c2 := hidp (fun W => all_any W x (by omega))
      have hab := al_bd x
      obtain ⟨⟨L, ea⟩, hal⟩ : ∃ r, al x = r := ⟨_, rfl⟩
      rw [hal] at c2 hab
      simp only at c2 hab
      obtain ⟨hb1, hb2, hb3⟩ := hab
      have HAL := hidp hal
      clear hal
      by_cases he : ea = 0
      · have hea := he
        subst he
        by_cases h2 : L.length = 2
        · obtain ⟨a, b, rfl⟩ : ∃ a b, L = [a, b] := by
            match L, h2 with
            | [a, b], _ => exact ⟨a, b, rfl⟩
          clear h2
          have hP := prs_two HAL.out
          have hbs : b.size ≤ 8192 := hb3 b (by simp)
          clear hb1 hb2 hb3 hea
          go_wp2_with fail
          clear hcx
          refine (c2.out _).mono ?_
          rintro e w3 ⟨vl, rfl, hvl, hb3x⟩
          obtain ⟨g, og, cg, rfl, ga, gb⟩ := hvl.two
          have HAr3 := hidp (HAr.out.below hb3x HAr.out.lt); have HAs3 := hidp (HAs.out.below hb3x HAs.out.lt); have HV3 := hidp (HV.out.kept hb3x (Nat.le_refl _)); have HE3 := hidp (HE.out.kept hb3x (Nat.le_refl _)); have HB3 := hidp (HB.out.trans (hb3x.mono HB.out.size))
          have hBs3 : Bn ≤ w3.heap.size := Nat.le_trans hBs hb3x.size
          clear hb3x hvl c2
          by_cases ha1 : a = tE
          · subst ha1
            unfold tE at ga
            have hP : prs x = (1, b, 0) := by rw [hP]; exact if_pos rfl
            have HPx := hidp hP
            have hst2 := HST.out
            rw [hP] at hst2
            simp only [if_true] at hst2
            have HST2 := hidp hst2
            clear hst2 hP HST
            obtain ⟨s0, s1, sf⟩ := arr2 HAs3.out
            have hs3 := HAs3.out.lt
            clear sf
            go_wp2_with fail
            clear s0 s1
            obtain ⟨U, hU⟩ : ∃ U, ({ w3 with drawn := w3.drawn + 1 } : World) = U := ⟨_, rfl⟩
            have bU : Below w3.heap.size w3 U := by rw [← hU]; exact (Below.refl _ _).drew
            have HArU := hidp (HAr3.out.below bU HAr3.out.lt); have HAsU := hidp (HAs3.out.below bU HAs3.out.lt); have HVU := hidp (HV3.out.kept bU (Nat.le_refl _)); have HEU := hidp (HE3.out.kept bU (Nat.le_refl _)); have HBU := hidp (HB3.out.trans (bU.mono HB3.out.size))
            have hBsU : Bn ≤ U.heap.size := Nat.le_trans hBs3 bU.size
            have gbU : U.cell? ⟨g, og + 1, none⟩ = some (.string b) := by
              have := World.block_lt_of_cell? w3 _ gb
              rw [bU.cell (p := ⟨g, og + 1, none⟩) this]; exact gb
            obtain ⟨s0, s1, sf⟩ := arr2 HAsU.out
            have sf0 := sf 0; have sf1 := sf 1
            have hsU := HAsU.out.lt
            have s5 : (U.alloc (.cells #[.string b] 9)).cell? ⟨w.heap.size + 1, 0, none⟩ = some (.slice va le vc) := by
              have := (arr2 (HAsU.out.alloc (.cells #[.string b] 9))).1; exact this
            obtain ⟨v', w5, hrun, r1, r2, r3⟩ := run_append_own (P := Try.prog) (w := U.alloc (.cells #[.string b] 9)) Bn 22 22 9 i0 _ 1 16 Try.underlying22 HI.out HZ0.out HZ1.out HZ2.out rfl (by decide) (.slice va le vc) le (strV es) (by have h := HEU.out.alloc (.cells #[.string b] 9); unfold OwnV at h; rw [strV_length, HLE.out] at h; exact h) ⟨U.heap.size, 0, none⟩ 1 1 [.string b] rfl (cell_one_new _ _ _) (by intro u hu; simp at hu; subst hu; rfl) (by unfold maxLen; omega) (by omega) (by simp; omega)
            have HE5 := hidp (show OwnV w5 Bn 9 v' (strV (es ++ [b])) from by
              rw [← strV_snoc]; unfold OwnV; rw [List.length_append, strV_length, HLE.out]; exact r1)
            have HEa := HEU.out.alloc (.cells #[.string b] 9)
            have HAr5 := hidp ((HArU.out.alloc (.cells #[.string b] 9)).grown (by decide) HEa r2)
            have HAs5 := hidp ((HAsU.out.alloc (.cells #[.string b] 9)).grown (by decide) HEa r2)
            have HV5 := hidp ((HVU.out.alloc (.cells #[.string b] 9)).beside HVL.out HEa r2)
            have HB5 := hidp ((HBU.out.alloc HBU.out.size (.cells #[.string b] 9)).grown r2 (by have := HBU.out.size; simp; omega) (fun k hk => by have := (World.ownsRow.lt HEa k hk).1; omega))
            have hBs5 : Bn ≤ w5.heap.size := by have := r2.size; simp at this; omega
            obtain ⟨xa, xc, hv5, -⟩ := HE5.out.formS
            subst hv5
            have hl5 : (es ++ [b]).length = le + 1 := by rw [List.length_append, HLE.out]; rfl
            rw [hl5] at hrun HE5
            obtain ⟨z0, z1, zf⟩ := arr2 HAs5.out
            have zf0 := zf 0; have zf1 := zf 1
            have HAs6 := hidp (HAs5.out.set 0 (.slice (xa) (le + 1) xc))
            have HAr6 := hidp (HAr5.out.other ⟨w.heap.size + 1, 0, none⟩ (by simp) (.slice xa (le + 1) xc))
            have HV6 := hidp (HV5.out.put HAs5.out (by decide) 0 (.slice xa (le + 1) xc))
            have HE6 := hidp (HE5.out.put HAs5.out (by decide) 0 (.slice xa (le + 1) xc))
            have HB6 := hidp (HB5.out.setCell (p := ⟨w.heap.size + 1, 0, none⟩) (by simp) (.slice xa (le + 1) xc))
            have HL5 := hidp hl5
            clear r1 r2 r3 HEa sf zf bU gb ga hl5 HAs3 HAr3 HV3 HE3 HB3 HAsU HArU HVU HEU HBU HAs HAr HV HE HB
            refine wp_region_noPanic ?_
            refine wp_region_scr (S := fun _ => True) (.take 0 (.take 2 (.take 3 (.two 1 (.one 4 (.one 5 (.one 6 (.take 7 (.one 8 .done))))) 4 (.two 1 (.one 5 (.one 6 (.take 7 (.one 8 .done)))) 5 (.one 1 (.one 6 (.take 7 (.one 8 .done))))))))) (by kernel_rfl) (by kernel_rfl) (fun _ _ _ _ _ h => h) (by simp [Scr.depth]) (by kernel_rfl) trivial ?_
            simp only [hU]
            apply s_val
            case ho => rfl
            case hw => rfl
            case hv => intro w hw; go_simp; first | done | with_reducible rfl | rfl
            simp only [Act.put, List.getElem_toArray, List.getElem_cons_zero, List.getElem_cons_succ, List.setIfInBounds_toArray, List.set_cons_zero, List.set_cons_succ]
            apply s_val
            case ho => rfl
            case hw => rfl
            case hv => intro w hw; go_simp; first | done | with_reducible rfl | rfl
            simp only [Act.put, List.getElem_toArray, List.getElem_cons_zero, List.getElem_cons_succ, List.setIfInBounds_toArray, List.set_cons_zero, List.set_cons_succ]
            apply s_val
            case ho => rfl
            case hw => rfl
            case hv => intro w hw; go_simp; first | done | with_reducible rfl | rfl
            simp only [Act.put, List.getElem_toArray, List.getElem_cons_zero, List.getElem_cons_succ, List.setIfInBounds_toArray, List.set_cons_zero, List.set_cons_succ]
            refine ⟨?_, ?_⟩
            · apply o_make (W := U) (v := .slice va le vc) (hS := trivial)
              case ho => rfl
              case hw => rfl
              case hop => go_simp; done
              simp only [Act.put, List.getElem_toArray, List.getElem_cons_zero, List.getElem_cons_succ, List.setIfInBounds_toArray, List.set_cons_zero, List.set_cons_succ]
              apply o_make (W := U) (v := .string b) (hS := trivial)
              case ho => rfl
              case hw => rfl
              case hop => go_simp; done
              simp only [Act.put, List.getElem_toArray, List.getElem_cons_zero, List.getElem_cons_succ, List.setIfInBounds_toArray, List.set_cons_zero, List.set_cons_succ]
              apply o_make (W := (U.alloc (.cells #[.string b] 9))) (v := .slice (some ⟨U.heap.size, 0, none⟩) 1 1) (hS := trivial)
              case ho => rfl
              case hw => rfl
              case hop => go_simp; done
              simp only [Act.put, List.getElem_toArray, List.getElem_cons_zero, List.getElem_cons_succ, List.setIfInBounds_toArray, List.set_cons_zero, List.set_cons_succ]
              refine o_app rfl ?hw (.tmp 44) (.tmp 48) 22 ?hop (.slice xa (le + 1) xc) (.slice (some ⟨U.heap.size, 0, none⟩) 1 1) w5 (.slice va le vc) ?hs ?hx ?hrun trivial ?_
              case hw => rfl
              case hop => rfl
              case hs => rfl
              case hx => rfl
              case hrun => exact hrun
              simp only [Act.put, List.getElem_toArray, List.getElem_cons_zero, List.getElem_cons_succ, List.setIfInBounds_toArray, List.set_cons_zero, List.set_cons_succ]
              apply s_val
              case ho => rfl
              case hw => rfl
              case hv => intro w hw; go_simp; first | done | with_reducible rfl | rfl
              simp only [Act.put, List.getElem_toArray, List.getElem_cons_zero, List.getElem_cons_succ, List.setIfInBounds_toArray, List.set_cons_zero, List.set_cons_succ]
              apply o_put (W := (w5.setCell ⟨w.heap.size + 1, 0, none⟩ (.slice xa (le + 1) xc))) (hS := trivial)
              case ho => rfl
              case hw => rfl
              case hop => go_simp; done
              simp only [Act.put, List.getElem_toArray, List.getElem_cons_zero, List.getElem_cons_succ, List.setIfInBounds_toArray, List.set_cons_zero, List.set_cons_succ]
              refine NoPanic.normal ?_
              go_wp2_with fail
              exact ⟨⟨i + 1, es ++ [b], c, xa, xc, by go_num, by omega, by rw [HL5.out]; omega, HST2.out, HAr6.out, by rw [HL5.out]; exact HAs6.out, HV6.out, by rw [HL5.out]; exact HE6.out, HB6.out, by simp; omega⟩, by simp [intOf]; omega⟩
            · apply o_make (W := U) (v := .string b) (hS := trivial)
              case ho => rfl
              case hw => rfl
              case hop => go_simp; done
              simp only [Act.put, List.getElem_toArray, List.getElem_cons_zero, List.getElem_cons_succ, List.setIfInBounds_toArray, List.set_cons_zero, List.set_cons_succ]
              refine ⟨?_, ?_⟩
              · apply o_make (W := U) (v := .slice va le vc) (hS := trivial)
                case ho => rfl
                case hw => rfl
                case hop => go_simp; done
                simp only [Act.put, List.getElem_toArray, List.getElem_cons_zero, List.getElem_cons_succ, List.setIfInBounds_toArray, List.set_cons_zero, List.set_cons_succ]
                apply o_make (W := (U.alloc (.cells #[.string b] 9))) (v := .slice (some ⟨U.heap.size, 0, none⟩) 1 1) (hS := trivial)
                case ho => rfl
                case hw => rfl
                case hop => go_simp; done
                simp only [Act.put, List.getElem_toArray, List.getElem_cons_zero, List.getElem_cons_succ, List.setIfInBounds_toArray, List.set_cons_zero, List.set_cons_succ]
                refine o_app rfl ?hw (.tmp 44) (.tmp 48) 22 ?hop (.slice xa (le + 1) xc) (.slice (some ⟨U.heap.size, 0, none⟩) 1 1) w5 (.slice va le vc) ?hs ?hx ?hrun trivial ?_
                case hw => rfl
                case hop => rfl
                case hs => rfl
                case hx => rfl
                case hrun => exact hrun
                simp only [Act.put, List.getElem_toArray, List.getElem_cons_zero, List.getElem_cons_succ, List.setIfInBounds_toArray, List.set_cons_zero, List.set_cons_succ]
                apply s_val
                case ho => rfl
                case hw => rfl
                case hv => intro w hw; go_simp; first | done | with_reducible rfl | rfl
                simp only [Act.put, List.getElem_toArray, List.getElem_cons_zero, List.getElem_cons_succ, List.setIfInBounds_toArray, List.set_cons_zero, List.set_cons_succ]
                apply o_put (W := (w5.setCell ⟨w.heap.size + 1, 0, none⟩ (.slice xa (le + 1) xc))) (hS := trivial)
                case ho => rfl
                case hw => rfl
                case hop => go_simp; done
                simp only [Act.put, List.getElem_toArray, List.getElem_cons_zero, List.getElem_cons_succ, List.setIfInBounds_toArray, List.set_cons_zero, List.set_cons_succ]
                refine NoPanic.normal ?_
                go_wp2_with fail
                exact ⟨⟨i + 1, es ++ [b], c, xa, xc, by go_num, by omega, by rw [HL5.out]; omega, HST2.out, HAr6.out, by rw [HL5.out]; exact HAs6.out, HV6.out, by rw [HL5.out]; exact HE6.out, HB6.out, by simp; omega⟩, by simp [intOf]; omega⟩
              · apply o_make (W := (U.alloc (.cells #[.string b] 9))) (v := .slice (some ⟨U.heap.size, 0, none⟩) 1 1) (hS := trivial)
                case ho => rfl
                case hw => rfl
                case hop => go_simp; done
                simp only [Act.put, List.getElem_toArray, List.getElem_cons_zero, List.getElem_cons_succ, List.setIfInBounds_toArray, List.set_cons_zero, List.set_cons_succ]
                apply o_make (W := (U.alloc (.cells #[.string b] 9))) (v := .slice va le vc) (hS := trivial)
                case ho => rfl
                case hw => rfl
                case hop => go_simp; done
                simp only [Act.put, List.getElem_toArray, List.getElem_cons_zero, List.getElem_cons_succ, List.setIfInBounds_toArray, List.set_cons_zero, List.set_cons_succ]
                refine o_app rfl ?hw (.tmp 44) (.tmp 48) 22 ?hop (.slice xa (le + 1) xc) (.slice (some ⟨U.heap.size, 0, none⟩) 1 1) w5 (.slice va le vc) ?hs ?hx ?hrun trivial ?_
                case hw => rfl
                case hop => rfl
                case hs => rfl
                case hx => rfl
                case hrun => exact hrun
                simp only [Act.put, List.getElem_toArray, List.getElem_cons_zero, List.getElem_cons_succ, List.setIfInBounds_toArray, List.set_cons_zero, List.set_cons_succ]
                apply s_val
                case ho => rfl
                case hw => rfl
                case hv => intro w hw; go_simp; first | done | with_reducible rfl | rfl
                simp only [Act.put, List.getElem_toArray, List.getElem_cons_zero, List.getElem_cons_succ, List.setIfInBounds_toArray, List.set_cons_zero, List.set_cons_succ]
                apply o_put (W := (w5.setCell ⟨w.heap.size + 1, 0, none⟩ (.slice xa (le + 1) xc))) (hS := trivial)
                case ho => rfl
                case hw => rfl
                case hop => go_simp; done
                simp only [Act.put, List.getElem_toArray, List.getElem_cons_zero, List.getElem_cons_succ, List.setIfInBounds_toArray, List.set_cons_zero, List.set_cons_succ]
                refine NoPanic.normal ?_
                go_wp2_with fail
                exact ⟨⟨i + 1, es ++ [b], c, xa, xc, by go_num, by omega, by rw [HL5.out]; omega, HST2.out, HAr6.out, by rw [HL5.out]; exact HAs6.out, HV6.out, by rw [HL5.out]; exact HE6.out, HB6.out, by simp; omega⟩, by simp [intOf]; omega⟩
          · by_cases ha2 : a = tC
            · subst ha2
              unfold tC at ga
              rw [if_neg (by decide), if_pos rfl] at hP
              have c3 := hidp (fun W => count_any W b (by omega))
              by_cases hc0 : cnE b = 0
              · rw [if_pos hc0] at hP
                rw [hc0] at c3
                have hst2 := HST.out
                rw [hP] at hst2
                simp only [show ¬ (2 = 1) from by decide, if_false, if_true] at hst2
                have HST2 := hidp hst2
                clear hst2 hP HST hc0
                obtain ⟨n, hn⟩ : ∃ n, cnN b = n := ⟨_, rfl⟩
                rw [hn] at c3 HST2
                clear hn
                have hmx := fun W ts => maxN W ts c n
                go_wp2_with fail
                refine (c3.out _).mono ?_
                rintro e w4 ⟨rfl, hb4⟩
                have HAr4 := hidp (HAr3.out.below hb4 HAr3.out.lt); have HAs4 := hidp (HAs3.out.below hb4 HAs3.out.lt); have HV4 := hidp (HV3.out.kept hb4 (Nat.le_refl _)); have HE4 := hidp (HE3.out.kept hb4 (Nat.le_refl _)); have HB4 := hidp (HB3.out.trans (hb4.mono HB3.out.size))
                have hBs4 : Bn ≤ w4.heap.size := Nat.le_trans hBs3 hb4.size
                clear hb4
                obtain ⟨s0, s1, sf⟩ := arr2 HAs4.out
                have sf0 := sf 0; have sf1 := sf 1
                clear sf
                go_wp2_with fail
                have HAs6 := hidp (HAs4.out.set 1 (.int .i64 ((max c n : Nat) : Int)))
                have HAr6 := hidp (HAr4.out.other ⟨w.heap.size + 1, 1, none⟩ (by simp) (.int .i64 ((max c n : Nat) : Int)))
                have HV6 := hidp (HV4.out.put HAs4.out (by decide) 1 (.int .i64 ((max c n : Nat) : Int)))
                have HE6 := hidp (HE4.out.put HAs4.out (by decide) 1 (.int .i64 ((max c n : Nat) : Int)))
                have HB6 := hidp (HB4.out.setCell (p := ⟨w.heap.size + 1, 1, none⟩) (by simp) (.int .i64 ((max c n : Nat) : Int)))
                exact ⟨⟨i + 1, es, max c n, va, vc, by go_num, by omega, by rw [HLE.out]; omega, HST2.out, HAr6.out, by rw [HLE.out]; exact HAs6.out, HV6.out, by rw [HLE.out]; exact HE6.out, HB6.out, by simp; omega⟩, by simp [intOf]; omega⟩
              · rw [if_neg hc0] at hP
                have he6 : cnE b = 6 := by
                  unfold cnE at hc0 ⊢
                  split
                  · rfl
                  · split
                    · rfl
                    · split
                      · rfl
                      · rename_i h1 h2 h3; rw [if_neg h1, if_neg h2, if_neg h3] at hc0; exact absurd rfl hc0
                rw [he6] at c3
                have HP0 := hidp (show (prs x).1 = 0 by rw [hP])
                obtain ⟨n, hn⟩ : ∃ n, cnN b = n := ⟨_, rfl⟩
                rw [hn] at c3
                clear hn hc0 he6 hP
                go_wp2_with fail
                refine (c3.out _).mono ?_
                rintro e w4 ⟨rfl, hb4⟩
                have HAr4 := hidp (HAr3.out.below hb4 HAr3.out.lt); have HB4 := hidp (HB3.out.trans (hb4.mono HB3.out.size))
                clear hb4
                obtain ⟨r0, r1, rf⟩ := arr2 HAr4.out
                have g0 := rf 0; have g1 := rf 1
                clear rf
                go_wp2_with fail
                refine bodyPost_ret (v := .tuple #[.agg #[.slice none 0 0, .int .i64 0], .int .i64 6]) (by simp [results, Try.results12, go_sem, r0, r1]) rfl ?_
                refine ⟨_, by rw [← HST.out]; rw [if_neg (by rw [HP0.out]; decide), if_neg (by rw [HP0.out]; decide)]; rfl, ?_, ?_⟩
                · rw [← HST.out]; rw [if_neg (by rw [HP0.out]; decide), if_neg (by rw [HP0.out]; decide)]; exact OwnV.nil _ _ _
                · repeat (refine Below.setCell ?_ (by simp) _)
                  exact HB4.out
            · rw [if_neg ha1, if_neg ha2] at hP
              have HP0 := hidp (show (prs x).1 = 0 by rw [hP])
              have k1 : (a.toList == [101]) = false := toList_no' ha1
              have k2 : (a.toList == [99]) = false := toList_no' ha2
              have k3 : (a.toList = [101]) = False := eq_false (fun h => by rw [h] at k1; simp at k1)
              have k4 : (a.toList = [99]) = False := eq_false (fun h => by rw [h] at k2; simp at k2)
              clear hP ha1 ha2
              obtain ⟨r0, r1, rf⟩ := arr2 HAr3.out
              have g0 := rf 0; have g1 := rf 1
              clear rf
              go_wp2_with fail
              refine bodyPost_ret (v := .tuple #[.agg #[.slice none 0 0, .int .i64 0], .int .i64 6]) (by simp [results, Try.results12, go_sem, r0, r1]) rfl ?_
              refine ⟨_, by rw [← HST.out]; rw [if_neg (by rw [HP0.out]; decide), if_neg (by rw [HP0.out]; decide)]; rfl, ?_, ?_⟩
              · rw [← HST.out]; rw [if_neg (by rw [HP0.out]; decide), if_neg (by rw [HP0.out]; decide)]; exact OwnV.nil _ _ _
              · repeat (refine Below.setCell ?_ (by simp) _)
                exact HB3.out
        · have HP0 := hidp (show (prs x).1 = 0 from prs_len (by rw [HAL.out]; exact h2))
          have k1 : (((L.length : Nat) : Int) != 2) = true := by simp; omega
          clear hea
          go_wp2_with fail
          clear hcx
          refine (c2.out _).mono ?_
          rintro e w3 ⟨vl, rfl, hvl, hb3x⟩
          obtain ⟨xa, xc, hvl2, -⟩ := hvl
          subst hvl2
          have HAr3 := hidp (HAr.out.below hb3x HAr.out.lt); have HAs3 := hidp (HAs.out.below hb3x HAs.out.lt); have HV3 := hidp (HV.out.kept hb3x (Nat.le_refl _)); have HE3 := hidp (HE.out.kept hb3x (Nat.le_refl _)); have HB3 := hidp (HB.out.trans (hb3x.mono HB.out.size))
          have hBs3 : Bn ≤ w3.heap.size := Nat.le_trans hBs hb3x.size
          clear hb3x
          obtain ⟨Ll, hLl⟩ : ∃ q, L.length = q := ⟨_, rfl⟩
          rw [hLl] at k1 h2 ⊢
          clear hLl
          obtain ⟨r0, r1, rf⟩ := arr2 HAr3.out
          have g0 := rf 0; have g1 := rf 1
          clear rf
          go_wp2_with fail
          refine bodyPost_ret (v := .tuple #[.agg #[.slice none 0 0, .int .i64 0], .int .i64 6]) (by simp [results, Try.results12, go_sem, r0, r1]) rfl ?_
          refine ⟨_, by rw [← HST.out]; rw [if_neg (by rw [HP0.out]; decide), if_neg (by rw [HP0.out]; decide)]; rfl, ?_, ?_⟩
          · rw [← HST.out]; rw [if_neg (by rw [HP0.out]; decide), if_neg (by rw [HP0.out]; decide)]; exact OwnV.nil _ _ _
          · repeat (refine Below.setCell ?_ (by simp) _)
            exact HB3.out
      · have heb := errB he
        have HP0 := hidp (show (prs x).1 = 0 from prs_err (by rw [HAL.out]; exact he))
        clear he
        go_wp2_with fail
        clear hcx
        refine (c2.out _).mono ?_
        rintro e w3 ⟨vl, rfl, hvl, hb3x⟩
        obtain ⟨xa, xc, hvl2, -⟩ := hvl
        subst hvl2
        have HAr3 := hidp (HAr.out.below hb3x HAr.out.lt); have HAs3 := hidp (HAs.out.below hb3x HAs.out.lt); have HV3 := hidp (HV.out.kept hb3x (Nat.le_refl _)); have HE3 := hidp (HE.out.kept hb3x (Nat.le_refl _)); have HB3 := hidp (HB.out.trans (hb3x.mono HB.out.size))
        have hBs3 : Bn ≤ w3.heap.size := Nat.le_trans hBs hb3x.size
        clear hb3x
        obtain ⟨r0, r1, rf⟩ := arr2 HAr3.out
        have g0 := rf 0; have g1 := rf 1
        clear rf
        go_wp2_with fail
        refine bodyPost_ret (v := .tuple #[.agg #[.slice none 0 0, .int .i64 0], .int .i64 6]) (by simp [results, Try.results12, go_sem, r0, r1]) rfl ?_
        refine ⟨_, by rw [← HST.out]; rw [if_neg (by rw [HP0.out]; decide), if_neg (by rw [HP0.out]; decide)]; rfl, ?_, ?_⟩
        · rw [← HST.out]; rw [if_neg (by rw [HP0.out]; decide), if_neg (by rw [HP0.out]; decide)]; exact OwnV.nil _ _ _
        · repeat (refine Below.setCell ?_ (by simp) _)
          exact HB3.out
    · obtain rfl : i = ln := by omega
      have hst := HLD.out
      rw [List.drop_of_length_le (by rw [HLN.out]; exact Nat.le_refl _), ldF] at hst
      have HST := hidp hst
      clear hst HLD
      obtain ⟨s0, s1, sf⟩ := arr2 HAs.out
      obtain ⟨r0, r1, rf⟩ := arr2 HAr.out
      have g0 := rf 0; have g1 := rf 1
      clear sf rf
      have hO := hidp ((HE.out.put HAr.out (by decide) 0 (.slice va le vc)).put (HAr.out.set 0 (.slice va le vc)) (by decide) 1 (.int .i64 (c : Int)))
      go_wp2_with fail
      refine bodyPost_ret (v := .tuple #[.agg #[.slice va le vc, .int .i64 (c : Int)], .int .i64 0]) (by simp [results, Try.results12, go_sem, r0, r1]) rfl ?_
      refine ⟨_, by rw [← HST.out]; rfl, ?_, ?_⟩
      · rw [← HST.out]; exact hO.out.base (by omega)
      · repeat (refine Below.setCell ?_ (by simp) _)
        exact HB.out
end Go.Proofs.Ytbgooppmhgaicab
