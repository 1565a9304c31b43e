
/-
  power: the document's words, walked.
-/
import Derived.Test.YtiakfopdohcigaaGreatDoorPxI
import Derived.Test.YtiakfopdohcigaaGreatDoorPxS
namespace Go.Proofs.YtiakfopdohcigaaGreatDoor
set_option maxRecDepth 100000
set_option linter.unusedVariables false
set_option linter.unusedSimpArgs false
open Go.RowKit Rw
open List (getElem_toArray getElem_cons_zero getElem_cons_succ setIfInBounds_toArray set_cons_zero set_cons_succ)
attribute [local go_sem] Oper.semAt_some
theorem OwnV.oneP {B b : Nat} {W : World} {u : Value} (ha : Arr W b 9 [u]) (hB : B ≤ b) : OwnV W B 9 (.slice (some ⟨b, 0, none⟩) 1 1) [u] :=
  ⟨rfl, .inr ⟨b, 1, #[u], rfl, hB, ha, Nat.le_refl _, by decide, rfl, rfl⟩⟩
theorem OwnV.blkP {w : World} {B : Nat} {v : Value} {l : List Value} (h : OwnV w B 9 v l) (hl : 1 ≤ l.length) : ∃ g cap cur, v = .slice (some ⟨g, 0, none⟩) l.length cap ∧ B ≤ g ∧ Arr w g 9 cur ∧ l.length ≤ cap ∧ cap ≤ maxLen ∧ cur.length = cap ∧ cur.take l.length = l := by
  rcases h.2 with ⟨_, h0⟩ | ⟨g, cap, cur, e, hB, hg, h1, h2, h3, h4⟩
  · omega
  · exact ⟨g, cap, cur.toList, e, hB, by unfold Arr; simpa using hg, h1, h2, by simpa using h3, by simpa using h4⟩
theorem OwnV.ofP {w : World} {B g cap : Nat} {cur l : List Value} (ha : Arr w g 9 cur) (hB : B ≤ g) (h1 : l.length ≤ cap) (h2 : cap ≤ maxLen) (h3 : cur.length = cap) (h4 : cur.take l.length = l) : OwnV w B 9 (.slice (some ⟨g, 0, none⟩) l.length cap) l :=
  ⟨by simp, .inr ⟨g, cap, cur.toArray, rfl, hB, ha, h1, h2, by simpa using h3, by simpa using h4⟩⟩
/-- The last word is told anew. -/
theorem last_set {cur : List Value} {ini : List ByteArray} {x y : ByteArray} (h : cur.take (ini.length + 1) = strV (ini ++ [x])) (hc : ini.length < cur.length) : (cur.set ini.length (.string y)).take (ini.length + 1) = strV (ini ++ [y]) := by
  have e1 : cur.take ini.length = strV ini := by
    have : (cur.take (ini.length + 1)).take ini.length = (strV (ini ++ [x])).take ini.length := by rw [h]
    rw [List.take_take, Nat.min_eq_left (by omega)] at this
    rw [this]; simp [strV]
  rw [List.take_add_one, List.take_set_of_le (Nat.le_refl _), e1]
  simp [strV, hc]
theorem last_get {cur : List Value} {ini : List ByteArray} {x : ByteArray} (h : cur.take (ini.length + 1) = strV (ini ++ [x])) : cur[ini.length]? = some (.string x) := by
  have h1 : (cur.take (ini.length + 1))[ini.length]? = (strV (ini ++ [x]))[ini.length]? := by rw [h]
  rw [List.getElem?_take, if_pos (by omega)] at h1
  rw [h1]; simp [strV]

theorem run_str1 (W : World) (nb bn : Nat) (b : UInt8) (hb : b.toNat = bn) (ha : Arr W nb 5 [.int .u8 (bn : Int)]) : (convert 135 9 (.slice (some ⟨nb, 0, none⟩) 1 1)).run Tryz.prog W = .ok (.string ⟨#[b]⟩) W := by
  refine run_str_at Tryz.underlying135 Tryz.underlying5 Tryz.underlying9 nb 0 1 [b] fun i hi => ?_
  obtain rfl : i = 0 := by simpa using hi
  have := ha.cell 0 (by simp)
  simp only [List.getElem_cons_zero] at this
  show W.cell? ⟨nb, 0 + 0, none⟩ = some (Value.int .u8 ((b.toNat : Nat) : Int))
  rw [hb]; exact this
set_option maxHeartbeats 16000000 in
theorem rwords_any (w : World) (s : ByteArray) (hs : s.size ≤ 4096) :
    Calls Tryz.prog 69 #[.string s] w fun e w' => ∃ v, e = .returned v ∧ StrsAt w' v (wdL s) ∧ Below w.heap.size w w' := by
  have H := hidp (Mm.M.nil w)
  obtain ⟨n, hn⟩ : ∃ n, s.size = n := ⟨_, rfl⟩
  have HN := hidp hn
  go_enter Tryz.func69, Tryz.ntmps69
  go_wp2_with (first | (refine wpL_oneG H rfl (.const (.string ⟨#[]⟩)) ⟨#[]⟩ rfl rfl ?_; clear H; intro b5 _ H nw; have HO := hidp (OwnV.oneP nw.arr nw.le); clear nw))
  go_loopw [3, 4] (fun t3 t4 wr => ∃ i : Nat, t4 = .int .i64 (i : Int) ∧ i ≤ n ∧ OwnV wr w.heap.size 9 t3 (strV (wdT s i)) ∧ Mm.M w.heap.size w wr []) (fun _ t4 _ => n - (intOf t4).toNat)
  case atStart => exact ⟨0, rfl, by omega, HO.out, H.out.tail⟩
  case round =>
    clear H HO
    obtain ⟨i, rfl, hi, hO, hM⟩ := hrel
    have H := hidp hM; have HO := hidp hO
    clear hM hO
    by_cases hlt : i < n
    · have hl : i < s.size := by omega
      have e1 : decide ((i : Int) < (s.size : Int)) = true := by simp; omega
      obtain ⟨b, hbq⟩ : ∃ b, s[i]'hl = b := ⟨_, rfl⟩
      have HST0 := wdT_succ s hl
      obtain ⟨bn, hbn⟩ : ∃ bn, (s[i]'hl).toNat = bn := ⟨_, rfl⟩
      have HBB := hidp (show b.toNat = bn from by rw [← hbq]; exact hbn)
      rw [hbq] at HST0
      have hlen := wdT_len s i
      obtain ⟨ini, x, hg1, hg2, hg3⟩ := wdT_good s i
      obtain ⟨ws, hws⟩ : ∃ z, wdT s i = z := ⟨_, rfl⟩
      rw [hws] at HO HST0 hlen hg1
      have HLT := hidp hl
      by_cases hb : b = 32
      · have e2 : ((bn : Int) == 32) = true := by have := HBB.out; rw [hb] at this; rw [← this]; rfl
        have HST := hidp (show wdT s (i + 1) = ws ++ [⟨#[]⟩] from by rw [HST0]; unfold wdS; rw [if_pos hb])
        have HLN := hidp (show (strV ws).length ≤ 4398046511104 from by rw [strV_length]; omega)
        clear HST0 hlen hg1 hg2 hg3 hws hb hbq
        go_wp2_with (first | (refine wpL_oneG H rfl (.const (.string ⟨#[]⟩)) ⟨#[]⟩ rfl rfl ?_; clear H; intro b17 _ H nw; replace HO := hidp (HO.out.kept nw.below (Nat.le_refl _)); clear nw) | (at_builtin; (refine wpL_appSP rfl (.tmp 16) (.tmp 17) rfl w.heap.size _ _ b17 _ (.string ⟨#[]⟩) rfl rfl HO.out H.out.at0 rfl HLN.out H.out.le ?_; intro v9 w9 ho9 hb9; have HB9 := hidp (H.out.below.trans hb9); have HO9 := hidp ho9; clear ho9 hb9 HO)))
        exact ⟨⟨i + 1, by go_num, by omega, by rw [HST.out, ← strV_snoc]; exact HO9.out, ⟨HB9.out, HB9.out.size, by simp, List.Pairwise.nil, by simp⟩⟩, by simp [intOf]; omega⟩
      · have e2 : ((bn : Int) == 32) = false := by
          rw [beq_eq_false_iff_ne]
          intro g
          have h1 : bn = 32 := by omega
          apply hb
          have h2 := HBB.out
          rw [h1] at h2
          exact UInt8.toNat_inj.1 h2
        have HST := hidp (show wdT s (i + 1) = ini ++ [x ++ ⟨#[b]⟩] from by rw [HST0, hg1]; unfold wdS; rw [if_neg hb]; simp)
        have hxs : x.size ≤ 4096 := by have := wdT_sz s i x (by rw [hws, hg1]; simp); omega
        have nzx : ¬ 9223372036854775807 < x.size + 1 := by omega
        obtain ⟨g, cap, cur, hv3, hBg, ha, h1, h2, h3, h4⟩ := OwnV.blkP HO.out (by rw [strV_length]; exact hlen.2)
        subst hv3
        rw [strV_length, hg1] at h1 h4
        rw [hg1] at hlen
        obtain ⟨kk, hkk⟩ : ∃ z, ini.length = z := ⟨_, rfl⟩
        simp only [List.length_append, List.length_singleton] at h1 h4 hlen
        have HLG := hidp (last_get h4)
        have HCT := hidp h4
        have HA := hidp ha; have HBG := hidp hBg; have HCM := hidp h2; have HCU := hidp h3; have HCL := hidp h1; have HBW := hidp H.out.below
        have HKL := hidp (show ini.length < cur.length from by omega)
        rw [show (strV ws).length = kk + 1 from by rw [strV_length, hg1, List.length_append, hkk]; rfl]
        have HKC := hidp (show kk < cur.length from by omega)
        rw [hkk] at HLG
        have hwk : IntKind.i64.wrap (((kk + 1 : Nat) : Int) - 1) = (kk : Int) := by rw [IntKind.wrap_i64]; omega
        have hwk2 : IntKind.i64.wrap ((kk : Int) + 1 - 1) = (kk : Int) := by rw [IntKind.wrap_i64]; omega
        have hwk3 : IntKind.i64.wrap (kk : Int) = (kk : Int) := by rw [IntKind.wrap_i64]; omega
        have ik2 : ¬ ((kk : Int) + 1 ≤ (kk : Int)) := by omega
        have HKK := hidp hkk
        have ik0 : (0 : Int) ≤ (kk : Int) := by omega
        have ik1 : (kk : Int) < ((kk + 1 : Nat) : Int) := by omega
        have hcv := fun (W : World) (nb : Nat) h => run_str1 W nb bn b HBB.out h
        clear HST0 hlen hg1 hg2 hg3 hws hb hbq ha hBg h1 h2 h3 h4 HO
        go_wp2_with fail
        obtain ⟨X0, hU⟩ : ∃ U, ({ wr with drawn := wr.drawn + 1 } : World) = U := ⟨_, rfl⟩
        have bU : Below wr.heap.size wr X0 := by rw [← hU]; exact (Below.refl _ _).drew
        have HX0 := hidp bU
        clear bU
        refine wp_region_noPanic ?_
        refine wp_region_scr (S := fun _ => True) (.take 0 (.take 1 (.take 2 (.take 3 (.take 4 (.take 6 (.take 7 (.take 8 (.two 5 (.one 9 (.one 10 (.take 11 (.take 12 (.one 13 .done))))) 9 (.two 5 (.one 10 (.take 11 (.take 12 (.one 13 .done)))) 10 (.one 5 (.take 11 (.take 12 (.one 13 .done)))))))))))))) (by kernel_rfl) (by kernel_rfl) (fun _ _ _ _ _ h => h) (by simp [Scr.depth]) (by kernel_rfl) trivial ?_
        simp only [hU]
        clear hU
        apply s_val
        case ho => rfl
        case hw => rfl
        case hv => intro w hw; go_simp; first | done | with_reducible rfl | rfl
        simp only [Act.put, List.getElem_toArray, List.getElem_cons_zero, List.getElem_cons_succ, List.setIfInBounds_toArray, List.set_cons_zero, List.set_cons_succ]
        apply s_val
        case ho => rfl
        case hw => rfl
        case hv => intro w hw; go_simp; first | done | with_reducible rfl | rfl
        simp only [Act.put, List.getElem_toArray, List.getElem_cons_zero, List.getElem_cons_succ, List.setIfInBounds_toArray, List.set_cons_zero, List.set_cons_succ]
        apply s_val
        case ho => rfl
        case hw => rfl
        case hv => intro w hw; go_simp; first | done | with_reducible rfl | rfl
        simp only [Act.put, List.getElem_toArray, List.getElem_cons_zero, List.getElem_cons_succ, List.setIfInBounds_toArray, List.set_cons_zero, List.set_cons_succ]
        apply s_val (v := .int .i64 (kk : Int))
        case ho => rfl
        case hw => rfl
        case hv => intro w hw; have q := hwk3; go_simp; first | done | with_reducible rfl | rfl
        simp only [Act.put, List.getElem_toArray, List.getElem_cons_zero, List.getElem_cons_succ, List.setIfInBounds_toArray, List.set_cons_zero, List.set_cons_succ]
        apply s_val (v := .pointer (some ⟨g, kk, none⟩))
        case ho => rfl
        case hw => rfl
        case hv => intro w hw; have q1 := ik0; have q2 := ik1; have q3 := ik2; go_simp; first | done | with_reducible rfl | rfl
        simp only [Act.put, List.getElem_toArray, List.getElem_cons_zero, List.getElem_cons_succ, List.setIfInBounds_toArray, List.set_cons_zero, List.set_cons_succ]
        apply s_val
        case ho => rfl
        case hw => rfl
        case hv => intro w hw; go_simp; first | done | with_reducible rfl | rfl
        simp only [Act.put, List.getElem_toArray, List.getElem_cons_zero, List.getElem_cons_succ, List.setIfInBounds_toArray, List.set_cons_zero, List.set_cons_succ]
        apply s_val
        case ho => rfl
        case hw => rfl
        case hv => intro w hw; go_simp; first | done | with_reducible rfl | rfl
        simp only [Act.put, List.getElem_toArray, List.getElem_cons_zero, List.getElem_cons_succ, List.setIfInBounds_toArray, List.set_cons_zero, List.set_cons_succ]
        apply s_val (v := .int .u8 (bn : Int))
        case ho => rfl
        case hw => rfl
        case hv => intro w hw; have q := hbn; have q2 := HLT.out; go_simp; first | done | with_reducible rfl | rfl
        simp only [Act.put, List.getElem_toArray, List.getElem_cons_zero, List.getElem_cons_succ, List.setIfInBounds_toArray, List.set_cons_zero, List.set_cons_succ]
        refine ⟨?_, ?_⟩
        · apply o_make (v := .string x) (W := X0)
          case ho => rfl
          case hw => rfl
          case hop => have z5 := (HA.out.below HX0.out HA.out.lt).cell' kk _ HLG.out; go_simp; first | done | rfl
          case hS => trivial
          simp only [Act.put, List.getElem_toArray, List.getElem_cons_zero, List.getElem_cons_succ, List.setIfInBounds_toArray, List.set_cons_zero, List.set_cons_succ]
          apply o_make (v := .slice (some ⟨X0.heap.size, 0, none⟩) 1 1) (W := X0.alloc (.cells #[.int .u8 (bn : Int)] 5))
          case ho => rfl
          case hw => rfl
          case hop => go_simp; first | done | rfl
          case hS => trivial
          have HX1 := hidp (HX0.out.alloc HX0.out.size (.cells #[.int .u8 (bn : Int)] 5))
          have HNB := hidp (Arr.new X0 5 [.int .u8 (bn : Int)])
          obtain ⟨nb, hnb⟩ : ∃ z, X0.heap.size = z := ⟨_, rfl⟩
          obtain ⟨X1, hXX⟩ : ∃ z, X0.alloc (.cells #[.int .u8 (bn : Int)] 5) = z := ⟨_, rfl⟩
          replace HX1 := hidp (show Below wr.heap.size wr X1 from by rw [← hXX]; exact HX1.out)
          replace HNB := hidp (show Arr X1 nb 5 [.int .u8 (bn : Int)] from by rw [← hXX, ← hnb]; exact HNB.out)
          rw [hXX, hnb]
          clear hXX hnb
          simp only [Act.put, List.getElem_toArray, List.getElem_cons_zero, List.getElem_cons_succ, List.setIfInBounds_toArray, List.set_cons_zero, List.set_cons_succ]
          apply o_make (v := .string ⟨#[b]⟩) (W := X1)
          case ho => rfl
          case hw => rfl
          case hop =>
            have zc := hcv X1 nb HNB.out
            go_simp; first | done | rfl
          case hS => trivial
          simp only [Act.put, List.getElem_toArray, List.getElem_cons_zero, List.getElem_cons_succ, List.setIfInBounds_toArray, List.set_cons_zero, List.set_cons_succ]
          apply s_val (v := .string (x ++ ⟨#[b]⟩))
          case ho => rfl
          case hw => rfl
          case hv => intro w hw; have q := nzx; go_simp; first | done | with_reducible rfl | rfl
          simp only [Act.put, List.getElem_toArray, List.getElem_cons_zero, List.getElem_cons_succ, List.setIfInBounds_toArray, List.set_cons_zero, List.set_cons_succ]
          apply s_val (v := .pointer (some ⟨g, kk, none⟩))
          case ho => rfl
          case hw => rfl
          case hv => intro w hw; have q1 := ik0; have q2 := ik1; have q3 := ik2; go_simp; first | done | with_reducible rfl | rfl
          simp only [Act.put, List.getElem_toArray, List.getElem_cons_zero, List.getElem_cons_succ, List.setIfInBounds_toArray, List.set_cons_zero, List.set_cons_succ]
          refine o_putV rfl rfl 9 9 (.tmp 31) (.tmp 30) rfl g kk (.string (x ++ ⟨#[b]⟩)) rfl rfl (by kernel_rfl) rfl cur (HA.out.below HX1.out HA.out.lt) HKC.out ?_
          intro Z ha hp
          refine ⟨trivial, ?_⟩
          simp only [Act.put, List.getElem_toArray, List.getElem_cons_zero, List.getElem_cons_succ, List.setIfInBounds_toArray, List.set_cons_zero, List.set_cons_succ]
          refine NoPanic.normal ?_
          have HBZ := hidp (hp.below' (HBW.out.trans (HX1.out.mono HBW.out.size)) HBG.out)
          have HOZ := hidp (OwnV.ofP (l := strV (ini ++ [x ++ ⟨#[b]⟩])) ha HBG.out (by rw [strV_length]; simp; have := HCL.out; omega) HCM.out (by rw [List.length_set]; exact HCU.out) (by rw [strV_length, List.length_append, ← HKK.out]; exact last_set HCT.out HKL.out))
          clear ha hp
          go_wp2_with fail
          refine ⟨⟨i + 1, by go_num, by omega, ?_, ⟨HBZ.out, HBZ.out.size, by simp, List.Pairwise.nil, by simp⟩⟩, by simp [intOf]; omega⟩
          have hh := HOZ.out
          rw [strV_length, List.length_append, List.length_singleton, HKK.out] at hh
          rw [HST.out]; exact hh
        · apply o_make (v := .slice (some ⟨X0.heap.size, 0, none⟩) 1 1) (W := X0.alloc (.cells #[.int .u8 (bn : Int)] 5))
          case ho => rfl
          case hw => rfl
          case hop => go_simp; first | done | rfl
          case hS => trivial
          have HX1 := hidp (HX0.out.alloc HX0.out.size (.cells #[.int .u8 (bn : Int)] 5))
          have HNB := hidp (Arr.new X0 5 [.int .u8 (bn : Int)])
          obtain ⟨nb, hnb⟩ : ∃ z, X0.heap.size = z := ⟨_, rfl⟩
          obtain ⟨X1, hXX⟩ : ∃ z, X0.alloc (.cells #[.int .u8 (bn : Int)] 5) = z := ⟨_, rfl⟩
          replace HX1 := hidp (show Below wr.heap.size wr X1 from by rw [← hXX]; exact HX1.out)
          replace HNB := hidp (show Arr X1 nb 5 [.int .u8 (bn : Int)] from by rw [← hXX, ← hnb]; exact HNB.out)
          rw [hXX, hnb]
          clear hXX hnb
          simp only [Act.put, List.getElem_toArray, List.getElem_cons_zero, List.getElem_cons_succ, List.setIfInBounds_toArray, List.set_cons_zero, List.set_cons_succ]
          refine ⟨?_, ?_⟩
          · apply o_make (v := .string x) (W := X1)
            case ho => rfl
            case hw => rfl
            case hop => have z5 := (HA.out.below HX1.out HA.out.lt).cell' kk _ HLG.out; go_simp; first | done | rfl
            case hS => trivial
            simp only [Act.put, List.getElem_toArray, List.getElem_cons_zero, List.getElem_cons_succ, List.setIfInBounds_toArray, List.set_cons_zero, List.set_cons_succ]
            apply o_make (v := .string ⟨#[b]⟩) (W := X1)
            case ho => rfl
            case hw => rfl
            case hop =>
              have zc := hcv X1 nb HNB.out
              go_simp; first | done | rfl
            case hS => trivial
            simp only [Act.put, List.getElem_toArray, List.getElem_cons_zero, List.getElem_cons_succ, List.setIfInBounds_toArray, List.set_cons_zero, List.set_cons_succ]
            apply s_val (v := .string (x ++ ⟨#[b]⟩))
            case ho => rfl
            case hw => rfl
            case hv => intro w hw; have q := nzx; go_simp; first | done | with_reducible rfl | rfl
            simp only [Act.put, List.getElem_toArray, List.getElem_cons_zero, List.getElem_cons_succ, List.setIfInBounds_toArray, List.set_cons_zero, List.set_cons_succ]
            apply s_val (v := .pointer (some ⟨g, kk, none⟩))
            case ho => rfl
            case hw => rfl
            case hv => intro w hw; have q1 := ik0; have q2 := ik1; have q3 := ik2; go_simp; first | done | with_reducible rfl | rfl
            simp only [Act.put, List.getElem_toArray, List.getElem_cons_zero, List.getElem_cons_succ, List.setIfInBounds_toArray, List.set_cons_zero, List.set_cons_succ]
            refine o_putV rfl rfl 9 9 (.tmp 31) (.tmp 30) rfl g kk (.string (x ++ ⟨#[b]⟩)) rfl rfl (by kernel_rfl) rfl cur (HA.out.below HX1.out HA.out.lt) HKC.out ?_
            intro Z ha hp
            refine ⟨trivial, ?_⟩
            simp only [Act.put, List.getElem_toArray, List.getElem_cons_zero, List.getElem_cons_succ, List.setIfInBounds_toArray, List.set_cons_zero, List.set_cons_succ]
            refine NoPanic.normal ?_
            have HBZ := hidp (hp.below' (HBW.out.trans (HX1.out.mono HBW.out.size)) HBG.out)
            have HOZ := hidp (OwnV.ofP (l := strV (ini ++ [x ++ ⟨#[b]⟩])) ha HBG.out (by rw [strV_length]; simp; have := HCL.out; omega) HCM.out (by rw [List.length_set]; exact HCU.out) (by rw [strV_length, List.length_append, ← HKK.out]; exact last_set HCT.out HKL.out))
            clear ha hp
            go_wp2_with fail
            refine ⟨⟨i + 1, by go_num, by omega, ?_, ⟨HBZ.out, HBZ.out.size, by simp, List.Pairwise.nil, by simp⟩⟩, by simp [intOf]; omega⟩
            have hh := HOZ.out
            rw [strV_length, List.length_append, List.length_singleton, HKK.out] at hh
            rw [HST.out]; exact hh
          · apply o_make (v := .string ⟨#[b]⟩) (W := X1)
            case ho => rfl
            case hw => rfl
            case hop =>
              have zc := hcv X1 nb HNB.out
              go_simp; first | done | rfl
            case hS => trivial
            simp only [Act.put, List.getElem_toArray, List.getElem_cons_zero, List.getElem_cons_succ, List.setIfInBounds_toArray, List.set_cons_zero, List.set_cons_succ]
            apply o_make (v := .string x) (W := X1)
            case ho => rfl
            case hw => rfl
            case hop => have z5 := (HA.out.below HX1.out HA.out.lt).cell' kk _ HLG.out; go_simp; first | done | rfl
            case hS => trivial
            simp only [Act.put, List.getElem_toArray, List.getElem_cons_zero, List.getElem_cons_succ, List.setIfInBounds_toArray, List.set_cons_zero, List.set_cons_succ]
            apply s_val (v := .string (x ++ ⟨#[b]⟩))
            case ho => rfl
            case hw => rfl
            case hv => intro w hw; have q := nzx; go_simp; first | done | with_reducible rfl | rfl
            simp only [Act.put, List.getElem_toArray, List.getElem_cons_zero, List.getElem_cons_succ, List.setIfInBounds_toArray, List.set_cons_zero, List.set_cons_succ]
            apply s_val (v := .pointer (some ⟨g, kk, none⟩))
            case ho => rfl
            case hw => rfl
            case hv => intro w hw; have q1 := ik0; have q2 := ik1; have q3 := ik2; go_simp; first | done | with_reducible rfl | rfl
            simp only [Act.put, List.getElem_toArray, List.getElem_cons_zero, List.getElem_cons_succ, List.setIfInBounds_toArray, List.set_cons_zero, List.set_cons_succ]
            refine o_putV rfl rfl 9 9 (.tmp 31) (.tmp 30) rfl g kk (.string (x ++ ⟨#[b]⟩)) rfl rfl (by kernel_rfl) rfl cur (HA.out.below HX1.out HA.out.lt) HKC.out ?_
            intro Z ha hp
            refine ⟨trivial, ?_⟩
            simp only [Act.put, List.getElem_toArray, List.getElem_cons_zero, List.getElem_cons_succ, List.setIfInBounds_toArray, List.set_cons_zero, List.set_cons_succ]
            refine NoPanic.normal ?_
            have HBZ := hidp (hp.below' (HBW.out.trans (HX1.out.mono HBW.out.size)) HBG.out)
            have HOZ := hidp (OwnV.ofP (l := strV (ini ++ [x ++ ⟨#[b]⟩])) ha HBG.out (by rw [strV_length]; simp; have := HCL.out; omega) HCM.out (by rw [List.length_set]; exact HCU.out) (by rw [strV_length, List.length_append, ← HKK.out]; exact last_set HCT.out HKL.out))
            clear ha hp
            go_wp2_with fail
            refine ⟨⟨i + 1, by go_num, by omega, ?_, ⟨HBZ.out, HBZ.out.size, by simp, List.Pairwise.nil, by simp⟩⟩, by simp [intOf]; omega⟩
            have hh := HOZ.out
            rw [strV_length, List.length_append, List.length_singleton, HKK.out] at hh
            rw [HST.out]; exact hh
    · have e1 : decide ((i : Int) < (s.size : Int)) = false := by simp; omega
      have HE := hidp (show wdT s i = wdL s from by unfold wdL; rw [show i = s.size by omega])
      go_wp2_with fail
      go_ret
      exact ⟨_, rfl, by have := HO.out.strs; rw [HE.out] at this; exact this, H.out.below⟩
end Go.Proofs.YtiakfopdohcigaaGreatDoor
