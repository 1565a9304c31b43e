
/-
  event.Bytes.
-/
import Derived.Test.YtglfdenlgglccaaDoorEvB
namespace Go.Proofs.YtglfdenlgglccaaDoor
set_option maxRecDepth 100000
set_option linter.unusedVariables false
set_option linter.unusedSimpArgs false
open Go.RowKit

theorem strsLit6 (w : World) (a b c d e f : ByteArray) (t : Nat) : StrsAt (w.alloc (.cells #[.string a, .string b, .string c, .string d, .string e, .string f] t)) (.slice (some ⟨w.heap.size, 0, none⟩) 6 6) [a, b, c, d, e, f] := by
  refine ⟨_, _, rfl, fun k hk => ⟨w.heap.size, 0, rfl, ?_⟩⟩
  have h : (w.alloc (.cells #[.string a, .string b, .string c, .string d, .string e, .string f] t)).heap[w.heap.size]? = some (.cells #[.string a, .string b, .string c, .string d, .string e, .string f] t) := heap_alloc_new w _
  match k, hk with
  | 0, _ => unfold World.cell?; dsimp only; rw [h]; rfl
  | 1, _ => unfold World.cell?; dsimp only; rw [h]; rfl
  | 2, _ => unfold World.cell?; dsimp only; rw [h]; rfl
  | 3, _ => unfold World.cell?; dsimp only; rw [h]; rfl
  | 4, _ => unfold World.cell?; dsimp only; rw [h]; rfl
  | 5, _ => unfold World.cell?; dsimp only; rw [h]; rfl

set_option maxHeartbeats 16000000 in
theorem evBytes_any (w : World) (r s : ByteArray) (k : Nat) (y b : ByteArray) (n : Int) (hk : k < 256) (hr : r.size ≤ 281474976710656) (hs : s.size ≤ 281474976710656) (hy : y.size ≤ 281474976710656) (hb : b.size ≤ 281474976710656) (hI : IT w) (hW : WT w) :
    Calls Tryd.prog 7 #[.agg #[.string r, .string s, .int .u8 (k : Int), .string y, .string b, .int .i64 n]] w fun e w' => e = .returned (.tuple #[.string (evB (⟨r, s, k, y, b, n⟩ : Ev)), .int .i64 (evE (⟨r, s, k, y, b, n⟩ : Ev))]) ∧ Below w.heap.size w w' := by
  have c1 := hidp (fun W (h : IT W) => evCheck_any W r s k y b n hk hr hs hy hb h)
  have HI := hidp hI; have HW := hidp hW; clear hI hW
  have HX := hidp ((Below.refl w.heap.size w).alloc (Nat.le_refl _) (.cells #[.string r, .string s, .int .u8 (k : Int), .string y, .string b, .int .i64 n] 24)); have HA := hidp (Arr.new w 24 [.string r, .string s, .int .u8 (k : Int), .string y, .string b, .int .i64 n])
  cases hok : evOk (⟨r, s, k, y, b, n⟩ : Ev) with
  | false =>
    have h1 : evE (⟨r, s, k, y, b, n⟩ : Ev) = 2 := by unfold evE; rw [hok]; rfl
    have h2 : evB (⟨r, s, k, y, b, n⟩ : Ev) = ⟨#[]⟩ := by unfold evB; rw [hok]; rfl
    rw [h1] at c1
    rw [h1, h2]
    clear h1 h2 hok
    go_enter Tryd.func7, Tryd.ntmps7
    go_wp2_with fail
    refine (c1.out _ (HI.out.below HX.out (Nat.le_refl _))).mono ?_
    rintro e w1 ⟨rfl, hb1⟩
    have HB1 := hidp (HX.out.trans (hb1.mono HX.out.size))
    clear hb1
    go_wp2_with fail
    go_ret2
    exact ⟨rfl, HB1.out⟩
  | true =>
    have h1 : evE (⟨r, s, k, y, b, n⟩ : Ev) = 0 := by unfold evE; rw [hok]; rfl
    have hLok := evL_ok hok
    obtain ⟨-, -, -, -, -, -, p7, p8⟩ := evOk_parts hok
    simp only at p7 p8
    have h2 : evB (⟨r, s, k, y, b, n⟩ : Ev) = mkS (encL (evL (⟨r, s, k, y, b, n⟩ : Ev))) := by unfold evB; rw [hok]; rfl
    obtain ⟨m, rfl⟩ : ∃ m : Nat, n = m := ⟨n.toNat, by omega⟩
    have hm : m ≤ 1099511627776 := by omega
    unfold evL at hLok h2
    simp only [Int.toNat_natCast] at hLok h2
    have cn := hidp (show ∀ W, Calls Tryd.prog 22 #[.int .u64 (m : Int)] W fun e w' => e = .returned (.tuple #[.string (mkS (encN m)), .int .i64 0]) ∧ Below W.heap.size W w' from fun W => by
      have := num_any W m (by omega)
      rw [numS_yes (by omega), numE_yes (by omega)] at this; exact this)
    obtain ⟨N, hN⟩ : ∃ N, mkS (encN m) = N := ⟨_, rfl⟩
    obtain ⟨K, hK⟩ : ∃ K, word k = K := ⟨_, rfl⟩
    have ck := hidp (fun W (h : WT W) => word_any W k hk h)
    rw [hN] at cn hLok h2
    rw [hK] at ck hLok h2
    have cl := hidp (show ∀ W v, StrsAt W v [r, s, K, y, b, N] → Calls Tryd.prog 23 #[v] W fun e w' => e = .returned (.tuple #[.string (mkS (encL [r, s, K, y, b, N])), .int .i64 0]) ∧ Below W.heap.size W w' from fun W v h => by
      have := list_any W v _ h (by simp) (fun z hz => by have := hLok.2 z hz; omega)
      rw [listS_yes hLok, listE_yes hLok] at this; exact this)
    rw [h1] at c1
    rw [h1, h2]
    obtain ⟨R, hR⟩ : ∃ R, mkS (encL [r, s, K, y, b, N]) = R := ⟨_, rfl⟩
    rw [hR] at cl ⊢
    have hw1 : IntKind.u64.wrap (m : Int) = (m : Int) := IntWalk.u64_in _ ⟨by omega, by omega⟩
    clear h1 h2 hok hN hK hLok p7 p8 hR
    go_enter Tryd.func7, Tryd.ntmps7
    go_wp2_with fail
    obtain ⟨bd, hbd⟩ : ∃ b, w.heap.size = b := ⟨_, rfl⟩
    generalize hW0 : (w.alloc (.cells #[.string r, .string s, .int .u8 (k : Int), .string y, .string b, .int .i64 (m : Int)] 24)) = W0 at HX HA ⊢
    rw [hbd] at HA ⊢
    rw [← hbd]
    clear hW0
    refine (c1.out _ (HI.out.below HX.out (Nat.le_refl _))).mono ?_
    rintro e w1 ⟨rfl, hb1⟩
    have HB1 := hidp (HX.out.trans (hb1.mono HX.out.size)); have HA1 := hidp (HA.out.below hb1 HA.out.lt)
    clear hb1
    obtain ⟨x0, x1, x2, x3, x4, x5⟩ := arr6 HA1.out
    go_wp2_with fail
    clear x0 x1 x2 x3 x4 x5
    refine (cn.out _).mono ?_
    rintro e w2 ⟨rfl, hb2⟩
    have HB2 := hidp (HB1.out.trans (hb2.mono HB1.out.size)); have HA2 := hidp (HA1.out.below hb2 HA1.out.lt)
    clear hb2
    go_wp2_with fail
    obtain ⟨U, hU⟩ : ∃ U, ({ w2 with drawn := w2.drawn + 1 } : World) = U := ⟨_, rfl⟩
    have bU : Below w2.heap.size w2 U := by rw [← hU]; exact (Below.refl _ _).drew
    have HBU := hidp (HB2.out.trans (bU.mono HB2.out.size)); have HAU := hidp (HA2.out.below bU HA2.out.lt)
    have HSU := hidp (show Arr U bd 24 [.string r, .string s, .int .u8 (k : Int), .string y, .string b, .int .i64 (m : Int)] ∧ WT U from ⟨HAU.out, HW.out.below HBU.out (Nat.le_refl _)⟩)
    clear bU
    have hPS : ∀ W W', (Arr W bd 24 [.string r, .string s, .int .u8 (k : Int), .string y, .string b, .int .i64 (m : Int)] ∧ WT W) → Below W.heap.size W W' → (Arr W' bd 24 [.string r, .string s, .int .u8 (k : Int), .string y, .string b, .int .i64 (m : Int)] ∧ WT W') := fun W W' h hb => ⟨h.1.below hb h.1.lt, h.2.below hb (Nat.le_refl _)⟩
    have HPS := hidp hPS; clear hPS
    refine wp_region_noPanic ?_
    refine wp_region_scr (S := fun W => Arr W bd 24 [.string r, .string s, .int .u8 (k : Int), .string y, .string b, .int .i64 (m : Int)] ∧ WT W) (.take 0 (.take 1 (.take 2 (.take 3 (.take 4 (.take 5 (.take 7 (.take 8 (.take 9 (.take 10 (.take 11 (.one 6 (.one 12 (.one 13 (.take 14 (.take 15 (.take 16 (.take 17 .done)))))))))))))))))) (by kernel_rfl) (by kernel_rfl) (fun _ _ _ _ _ h => h) (by simp [Scr.depth]) (by kernel_rfl) (by rw [hU]; exact HSU.out) ?_
    simp only [hU]
    clear hU
    apply s_val
    case ho => rfl
    case hw => rfl
    case hv => intro w hw; obtain ⟨x0, x1, x2, x3, x4, x5⟩ := arr6 hw.1; go_simp; first | done | with_reducible rfl | rfl
    simp only [Act.put, List.getElem_toArray, List.getElem_cons_zero, List.getElem_cons_succ, List.setIfInBounds_toArray, List.set_cons_zero, List.set_cons_succ]
    apply s_val
    case ho => rfl
    case hw => rfl
    case hv => intro w hw; obtain ⟨x0, x1, x2, x3, x4, x5⟩ := arr6 hw.1; go_simp; first | done | with_reducible rfl | rfl
    simp only [Act.put, List.getElem_toArray, List.getElem_cons_zero, List.getElem_cons_succ, List.setIfInBounds_toArray, List.set_cons_zero, List.set_cons_succ]
    apply s_val
    case ho => rfl
    case hw => rfl
    case hv => intro w hw; obtain ⟨x0, x1, x2, x3, x4, x5⟩ := arr6 hw.1; go_simp; first | done | with_reducible rfl | rfl
    simp only [Act.put, List.getElem_toArray, List.getElem_cons_zero, List.getElem_cons_succ, List.setIfInBounds_toArray, List.set_cons_zero, List.set_cons_succ]
    apply s_val
    case ho => rfl
    case hw => rfl
    case hv => intro w hw; obtain ⟨x0, x1, x2, x3, x4, x5⟩ := arr6 hw.1; go_simp; first | done | with_reducible rfl | rfl
    simp only [Act.put, List.getElem_toArray, List.getElem_cons_zero, List.getElem_cons_succ, List.setIfInBounds_toArray, List.set_cons_zero, List.set_cons_succ]
    apply s_val
    case ho => rfl
    case hw => rfl
    case hv => intro w hw; obtain ⟨x0, x1, x2, x3, x4, x5⟩ := arr6 hw.1; go_simp; first | done | with_reducible rfl | rfl
    simp only [Act.put, List.getElem_toArray, List.getElem_cons_zero, List.getElem_cons_succ, List.setIfInBounds_toArray, List.set_cons_zero, List.set_cons_succ]
    apply s_val
    case ho => rfl
    case hw => rfl
    case hv => intro w hw; obtain ⟨x0, x1, x2, x3, x4, x5⟩ := arr6 hw.1; go_simp; first | done | with_reducible rfl | rfl
    simp only [Act.put, List.getElem_toArray, List.getElem_cons_zero, List.getElem_cons_succ, List.setIfInBounds_toArray, List.set_cons_zero, List.set_cons_succ]
    apply s_val
    case ho => rfl
    case hw => rfl
    case hv => intro w hw; obtain ⟨x0, x1, x2, x3, x4, x5⟩ := arr6 hw.1; go_simp; first | done | with_reducible rfl | rfl
    simp only [Act.put, List.getElem_toArray, List.getElem_cons_zero, List.getElem_cons_succ, List.setIfInBounds_toArray, List.set_cons_zero, List.set_cons_succ]
    apply s_val
    case ho => rfl
    case hw => rfl
    case hv => intro w hw; obtain ⟨x0, x1, x2, x3, x4, x5⟩ := arr6 hw.1; go_simp; first | done | with_reducible rfl | rfl
    simp only [Act.put, List.getElem_toArray, List.getElem_cons_zero, List.getElem_cons_succ, List.setIfInBounds_toArray, List.set_cons_zero, List.set_cons_succ]
    apply s_val
    case ho => rfl
    case hw => rfl
    case hv => intro w hw; obtain ⟨x0, x1, x2, x3, x4, x5⟩ := arr6 hw.1; go_simp; first | done | with_reducible rfl | rfl
    simp only [Act.put, List.getElem_toArray, List.getElem_cons_zero, List.getElem_cons_succ, List.setIfInBounds_toArray, List.set_cons_zero, List.set_cons_succ]
    apply s_val
    case ho => rfl
    case hw => rfl
    case hv => intro w hw; obtain ⟨x0, x1, x2, x3, x4, x5⟩ := arr6 hw.1; go_simp; first | done | with_reducible rfl | rfl
    simp only [Act.put, List.getElem_toArray, List.getElem_cons_zero, List.getElem_cons_succ, List.setIfInBounds_toArray, List.set_cons_zero, List.set_cons_succ]
    apply s_val
    case ho => rfl
    case hw => rfl
    case hv => intro w hw; obtain ⟨x0, x1, x2, x3, x4, x5⟩ := arr6 hw.1; go_simp; first | done | with_reducible rfl | rfl
    simp only [Act.put, List.getElem_toArray, List.getElem_cons_zero, List.getElem_cons_succ, List.setIfInBounds_toArray, List.set_cons_zero, List.set_cons_succ]
    apply o_call (v := .string K) (f := 15) (args := #[.int .u8 (k : Int)]) (R := fun W => W = U) (hc := ck.out _ HSU.out.2)
    case ho => rfl
    case hw => rfl
    case hop => go_simp; done
    rintro w' rfl
    refine ⟨HSU.out, ?_⟩
    simp only [Act.put, List.getElem_toArray, List.getElem_cons_zero, List.getElem_cons_succ, List.setIfInBounds_toArray, List.set_cons_zero, List.set_cons_succ]
    have HB3 := hidp ((Below.refl w'.heap.size w').alloc (Nat.le_refl _) (.cells #[.string r, .string s, .string K, .string y, .string b, .string N] 9))
    have HS3 := hidp (HPS.out _ _ HSU.out HB3.out)
    have HT3 := hidp (strsLit6 w' r s K y b N 9)
    have hbk := hidp (HBU.out.trans (HB3.out.mono HBU.out.size))
    apply o_make (W := w'.alloc (.cells #[.string r, .string s, .string K, .string y, .string b, .string N] 9)) (v := .slice (some ⟨w'.heap.size, 0, none⟩) 6 6) (hS := HS3.out)
    case ho => rfl
    case hw => rfl
    case hop => go_simp; done
    simp only [Act.put, List.getElem_toArray, List.getElem_cons_zero, List.getElem_cons_succ, List.setIfInBounds_toArray, List.set_cons_zero, List.set_cons_succ]
    apply o_call (v := .tuple #[.string R, .int .i64 0]) (f := 23) (args := #[.slice (some ⟨w'.heap.size, 0, none⟩) 6 6]) (hc := cl.out _ _ HT3.out)
    case ho => rfl
    case hw => rfl
    case hop => go_simp; done
    intro w4 hb4
    have HS4 := hidp (HPS.out _ _ HS3.out hb4)
    have HB4 := hidp (hbk.out.trans (hb4.mono hbk.out.size))
    refine ⟨HS4.out, ?_⟩
    simp only [Act.put, List.getElem_toArray, List.getElem_cons_zero, List.getElem_cons_succ, List.setIfInBounds_toArray, List.set_cons_zero, List.set_cons_succ]
    apply s_val
    case ho => rfl
    case hw => rfl
    case hv => intro w hw; obtain ⟨x0, x1, x2, x3, x4, x5⟩ := arr6 hw.1; go_simp; first | done | with_reducible rfl | rfl
    simp only [Act.put, List.getElem_toArray, List.getElem_cons_zero, List.getElem_cons_succ, List.setIfInBounds_toArray, List.set_cons_zero, List.set_cons_succ]
    apply s_val
    case ho => rfl
    case hw => rfl
    case hv => intro w hw; obtain ⟨x0, x1, x2, x3, x4, x5⟩ := arr6 hw.1; go_simp; first | done | with_reducible rfl | rfl
    simp only [Act.put, List.getElem_toArray, List.getElem_cons_zero, List.getElem_cons_succ, List.setIfInBounds_toArray, List.set_cons_zero, List.set_cons_succ]
    apply s_val
    case ho => rfl
    case hw => rfl
    case hv => intro w hw; obtain ⟨x0, x1, x2, x3, x4, x5⟩ := arr6 hw.1; go_simp; first | done | with_reducible rfl | rfl
    simp only [Act.put, List.getElem_toArray, List.getElem_cons_zero, List.getElem_cons_succ, List.setIfInBounds_toArray, List.set_cons_zero, List.set_cons_succ]
    apply s_val
    case ho => rfl
    case hw => rfl
    case hv => intro w hw; obtain ⟨x0, x1, x2, x3, x4, x5⟩ := arr6 hw.1; go_simp; first | done | with_reducible rfl | rfl
    simp only [Act.put, List.getElem_toArray, List.getElem_cons_zero, List.getElem_cons_succ, List.setIfInBounds_toArray, List.set_cons_zero, List.set_cons_succ]
    refine NoPanic.normal ?_
    go_wp2_with fail
    go_ret2
    exact ⟨rfl, HB4.out⟩
end Go.Proofs.YtglfdenlgglccaaDoor
