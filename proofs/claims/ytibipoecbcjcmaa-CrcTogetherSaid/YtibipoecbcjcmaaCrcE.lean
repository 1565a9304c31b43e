/-
  The walk of CrcTogether.
-/
import Derived.Test.YtibipoecbcjcmaaCrcD
import Derived.Test.YtibipoecbcjcmaaBaC
namespace Go.Proofs.Ytibipoecbcjcmaa
set_option maxRecDepth 100000
set_option linter.unusedVariables false
set_option linter.unusedSimpArgs false
open Go.RowKit

/-- What is put together so far, and noughts. -/
def bothL (a b : List UInt8) (n k : Nat) : List UInt8 := zipX (a.take k) (b.take k) ++ List.replicate (n - k) 0
theorem bothL_len (a b : List UInt8) (n k : Nat) (ha : a.length = n) (hb : b.length = n) (hk : k ≤ n) : (bothL a b n k).length = n := by unfold bothL zipX; simp [ha, hb]; omega
theorem bothL_set (a b : List UInt8) (n k : Nat) (ha : a.length = n) (hb : b.length = n) (hk : k < n) : (bothL a b n k).set k (a.getD k 0 ^^^ b.getD k 0) = bothL a b n (k + 1) := by
  unfold bothL zipX
  have h1 : (List.zipWith (· ^^^ ·) (a.take k) (b.take k)).length = k := by simp [ha, hb]; omega
  rw [List.set_append_right _ _ (by omega), h1, Nat.sub_self, show n - k = (n - (k + 1)) + 1 from by omega, List.replicate_succ, List.set_cons_zero]
  rw [List.take_succ_eq_append_getElem (by omega), List.take_succ_eq_append_getElem (by omega), List.zipWith_append (by simp [ha, hb])]
  simp [List.getD_eq_getElem?_getD, ha, hb, hk]
theorem bothL_all (a b : List UInt8) (n : Nat) (ha : a.length = n) (hb : b.length = n) : bothL a b n n = zipX a b := by unfold bothL; rw [List.take_of_length_le (by omega), List.take_of_length_le (by omega)]; simp
theorem bothL_zero (a b : List UInt8) (n : Nat) : bothL a b n 0 = List.replicate n 0 := by unfold bothL zipX; simp
set_option maxHeartbeats 4000000 in
theorem walk_crcTogether (w : World) (a : ByteArray) (ha : a.size ≤ 140737488351232) (b : ByteArray) (hb : b.size ≤ 140737488351232) :
    Calls Try.prog 6 #[.string a, .string b] w fun e w' => e = .returned (.bool true) ∧ Below w.heap.size w w' := by
  have c0 := hidp lives7_any
  obtain ⟨n, hna, hnb, hn6, hm⟩ : ∃ n : Nat, n ≤ a.size ∧ n ≤ b.size ∧ n ≤ 65536 ∧ ∀ W ts, (Builtin.min_ ts 3 #[.int .i64 a.size, .int .i64 b.size, .int .i64 65536]).run Try.prog W = .ok (.int .i64 (n : Int)) W := by
    refine ⟨min (min a.size b.size) 65536, by omega, by omega, by omega, fun W ts => ?_⟩
    go_simp
    congr 2
    first | omega | (split <;> split <;> omega)
  have k0 : (0 : Int) ≤ (n : Int) := by omega
  have k1 : (n : Int) ≤ a.size := by omega
  have k2 : (n : Int) ≤ b.size := by omega
  go_enter Try.func6, Try.ntmps6
  go_wp2_with fail
  refine (c0.out _).mono ?_
  rintro e w1 ⟨rfl, hb1⟩
  have HB1 := hidp hb1; clear hb1
  go_wp2_with fail
  go_quiet (fail)
  obtain ⟨X, hX⟩ : ∃ X, a.extract 0 n = X := ⟨_, rfl⟩
  obtain ⟨Y, hY⟩ : ∃ Y, b.extract 0 n = Y := ⟨_, rfl⟩
  have hXs : X.size = n := by rw [← hX]; simp; omega
  have hYs : Y.size = n := by rw [← hY]; simp; omega
  rw [hX, hY]
  have hXl := hidp (show X.data.toList.length = n from by simpa using hXs)
  have hYl := hidp (show Y.data.toList.length = n from by simpa using hYs)
  have hxn : X.size ≤ n := by omega
  have hxn' : n ≤ X.size := by omega
  have hyn : Y.size ≤ n := by omega
  have hyn' : n ≤ Y.size := by omega
  have HW := hidp (show Below w.heap.size w (w1.drewN nq) from below_drewN HB1.out nq)
  obtain ⟨W, hW⟩ : ∃ W, w1.drewN nq = W := ⟨_, rfl⟩
  rw [hW] at HW ⊢
  clear hX hY hm hXs hYs hW HB1
  have hws := HW.out.size
  have HZ := hidp (zeros_mut W n)
  have hmk := fun W => mkz W n hn6
  go_wp2_with fail
  clear hmk
  have HB0 := hidp (show Below w.heap.size w (W.alloc (.cells (Array.replicate n (.int .u8 0)) 5)) from HW.out.alloc hws _)
  go_loopw [27] (fun t27 wr => ∃ k : Nat, t27 = .int .i64 k ∧ k ≤ n ∧ MutB wr W.heap.size (bothL X.data.toList Y.data.toList n k) ∧ Below w.heap.size w wr) (fun t27 _ => n - (intOf t27).toNat)
  case atStart => exact ⟨0, rfl, by omega, by rw [bothL_zero]; exact HZ.out, HB0.out⟩
  case round =>
    obtain ⟨k, rfl, hk, hM, hbw⟩ := hrel
    have HMr := hidp hM; have HBW := hidp hbw; have hbs := hbw.size
    have hlen := hidp (bothL_len X.data.toList Y.data.toList n k hXl.out hYl.out hk)
    clear hM hbw
    by_cases hlt : k < n
    · obtain ⟨hc, hf⟩ := HMr.out.2 k (by rw [hlen.out]; exact hlt)
      have hset := hidp (HMr.out.set k (X.data.toList.getD k 0 ^^^ Y.data.toList.getD k 0) (by rw [hlen.out]; exact hlt))
      rw [bothL_set _ _ _ _ hXl.out hYl.out hlt] at hset
      have hkX : k < X.size := by omega
      have hkY : k < Y.size := by omega
      have hx : bits .xor .u8 ((X[k]'hkX).toNat : Int) ((Y[k]'hkY).toNat : Int) = ((X.data.toList.getD k 0 ^^^ Y.data.toList.getD k 0).toNat : Int) := by
        rw [UInt8.toNat_xor, ← Go.u8_xor_nat _ _ (UInt8.toNat_lt _) (UInt8.toNat_lt _)]
        have e1 : X.data.toList.getD k 0 = X[k]'hkX := by rw [List.getD_eq_getElem?_getD, List.getElem?_eq_getElem (by simpa using hkX)]; rfl
        have e2 : Y.data.toList.getD k 0 = Y[k]'hkY := by rw [List.getD_eq_getElem?_getD, List.getElem?_eq_getElem (by simpa using hkY)]; rfl
        rw [e1, e2]
      generalize (X.data.toList.getD k 0 ^^^ Y.data.toList.getD k 0).toNat = cn at hset hx
      generalize hco : ((bothL X.data.toList Y.data.toList n k).getD k 0).toNat = co at hc
      clear hco
      go_wp2_with fail
      go_region
      all_goals
        go_wp2_with fail
        exact ⟨⟨k + 1, by go_num, by omega, hset.out, (HBW.out.setCell (p := ⟨W.heap.size, k, none⟩) hws _).drew⟩, by simp [intOf]; omega⟩
    · obtain rfl : k = n := by omega
      have hall := bothL_all X.data.toList Y.data.toList k hXl.out hYl.out
      have htog := together X.data.toList Y.data.toList (by rw [hXl.out, hYl.out])
      rw [hXl.out] at htog
      obtain ⟨U, hU⟩ : ∃ U, ({ wr with drawn := wr.drawn + 1 } : World) = U := ⟨_, rfl⟩
      have hMU : MutB U W.heap.size (bothL X.data.toList Y.data.toList k k) := by rw [← hU]; exact HMr.out
      have hBU : Below w.heap.size w U := by rw [← hU]; exact HBW.out.drew
      have hbU := hBU.size
      have hs3 := str_mut U W.heap.size k _ hMU
      rw [hlen.out] at hs3
      rw [hall] at hs3
      have hmk := mkz U k hn6
      have hz4 := zeros_mut U k
      have hs4 := str_mut _ U.heap.size k _ hz4
      rw [List.length_replicate] at hs4
      have hzl : (zipX X.data.toList Y.data.toList).length = k := by unfold zipX; simp [hXl.out, hYl.out]
      have hs3' := str_mut (U.alloc (.cells (Array.replicate k (.int .u8 0)) 5)) W.heap.size k (bothL X.data.toList Y.data.toList k k) (by
        obtain ⟨m1, m2⟩ := hMU
        refine ⟨by simp; omega, fun i hi => ?_⟩
        have hb := (Below.refl U.heap.size U).alloc (Nat.le_refl _) (.cells (Array.replicate k (.int .u8 0)) 5)
        have h1 := hb.cell (p := ⟨W.heap.size, i, none⟩) (by simpa using m1)
        have h2 := hb.frozen (p := ⟨W.heap.size, i, none⟩) (by simpa using m1)
        exact ⟨h1.trans (m2 i hi).1, h2.trans (m2 i hi).2⟩)
      rw [hlen.out, hall] at hs3'
      have HB2 := hidp (hBU.alloc hbU (.cells (Array.replicate k (.int .u8 0)) 5))
      obtain ⟨U2, hU2⟩ : ∃ U2, U.alloc (.cells (Array.replicate k (.int .u8 0)) 5) = U2 := ⟨_, rfl⟩
      rw [hU2] at hmk hs4 hs3' HB2
      obtain ⟨S3, hS3⟩ : ∃ S, mkS (zipX X.data.toList Y.data.toList) = S := ⟨_, rfl⟩
      obtain ⟨S4, hS4⟩ : ∃ S, mkS (List.replicate k 0) = S := ⟨_, rfl⟩
      have d3 : S3.data.toList = zipX X.data.toList Y.data.toList := by rw [← hS3, mkS_data]
      have d4 : S4.data.toList = List.replicate k 0 := by rw [← hS4, mkS_data]
      have z3 : S3.size ≤ maxLen := by rw [← hS3, mkS_size, hzl]; unfold maxLen; omega
      have z4 : S4.size ≤ maxLen := by rw [← hS4, mkS_size, List.length_replicate]; unfold maxLen; omega
      have z1 : X.size ≤ maxLen := by unfold maxLen; omega
      have z2 : Y.size ≤ maxLen := by unfold maxLen; omega
      rw [hS3] at hs3 hs3'
      rw [hS4] at hs4
      rw [← d3, ← d4] at htog
      have l1 := sumL_lt X.data.toList
      have l2 := sumL_lt Y.data.toList
      have l3 := sumL_lt S3.data.toList
      have l4 := sumL_lt S4.data.toList
      have x1 := xor32 _ _ l1 l2
      have x2 := xor32 _ _ l3 l4
      rw [← htog] at x2
      clear hall d3 d4 hS3 hS4 htog hzl hz4 HZ HB0 HMr hlen HW hXl hYl hMU hU2 hlt hk hna hnb hxn hxn' hyn hyn' hBU
      go_wp2_with fail
      refine wp_region_noPanic ?_
      refine wp_region_scr (S := fun w => w = U ∨ w = U2) (.take 0 (.take 2 (.take 5 (.take 6 (.take 8 (.two 1 (.two 3 (.take 4 (.two 7 (.one 9 (.to (fun w => w = U2) (.take 10 (.one 11 (.take 12 (.take 13 (.take 14 .done))))))) 9 (.to (fun w => w = U2) (.take 10 (.one 7 (.one 11 (.take 12 (.take 13 (.take 14 .done))))))))) 9 (.to (fun w => w = U2) (.take 10 (.one 3 (.take 4 (.one 7 (.one 11 (.take 12 (.take 13 (.take 14 .done)))))))))) 9 (.to (fun w => w = U2) (.take 10 (.one 1 (.one 3 (.take 4 (.one 7 (.one 11 (.take 12 (.take 13 (.take 14 .done)))))))))))))))) (by kernel_rfl) (by kernel_rfl) (fun _ _ _ _ _ h => h) (by simp [Scr.depth]) (by kernel_rfl) (.inl hU) ?_
      simp only [hU]
      apply s_val
      case ho => rfl
      case hw => rfl
      case hv => intro w hw; go_simp; first | done | with_reducible rfl | rfl
      simp only [Act.put, List.getElem_toArray, List.getElem_cons_zero, List.getElem_cons_succ, List.setIfInBounds_toArray, List.set_cons_zero, List.set_cons_succ]
      apply s_val
      case ho => rfl
      case hw => rfl
      case hv => intro w hw; go_simp; first | done | with_reducible rfl | rfl
      simp only [Act.put, List.getElem_toArray, List.getElem_cons_zero, List.getElem_cons_succ, List.setIfInBounds_toArray, List.set_cons_zero, List.set_cons_succ]
      apply s_val
      case ho => rfl
      case hw => rfl
      case hv => intro w hw; go_simp; first | done | with_reducible rfl | rfl
      simp only [Act.put, List.getElem_toArray, List.getElem_cons_zero, List.getElem_cons_succ, List.setIfInBounds_toArray, List.set_cons_zero, List.set_cons_succ]
      apply s_val (v := .string S3)
      case ho => rfl
      case hw => rfl
      case hv => intro w hw; rcases hw with rfl | rfl <;> (go_simp; done)
      simp only [Act.put, List.getElem_toArray, List.getElem_cons_zero, List.getElem_cons_succ, List.setIfInBounds_toArray, List.set_cons_zero, List.set_cons_succ]
      apply s_val
      case ho => rfl
      case hw => rfl
      case hv => intro w hw; go_simp; first | done | with_reducible rfl | rfl
      simp only [Act.put, List.getElem_toArray, List.getElem_cons_zero, List.getElem_cons_succ, List.setIfInBounds_toArray, List.set_cons_zero, List.set_cons_succ]
      refine ⟨?_, ?_⟩
      · apply o_call (f := 10) (args := #[.string X]) (hc := crc_any _ _ (by assumption))
        case ho => rfl
        case hw => rfl
        case hop => go_simp; done
        rintro _ rfl
        refine ⟨.inl rfl, ?_⟩
        simp only [Act.put, List.getElem_toArray, List.getElem_cons_zero, List.getElem_cons_succ, List.setIfInBounds_toArray, List.set_cons_zero, List.set_cons_succ]
        refine ⟨?_, ?_⟩
        · apply o_call (f := 10) (args := #[.string Y]) (hc := crc_any _ _ (by assumption))
          case ho => rfl
          case hw => rfl
          case hop => go_simp; done
          rintro _ rfl
          refine ⟨.inl rfl, ?_⟩
          simp only [Act.put, List.getElem_toArray, List.getElem_cons_zero, List.getElem_cons_succ, List.setIfInBounds_toArray, List.set_cons_zero, List.set_cons_succ]
          apply s_val
          case ho => rfl
          case hw => rfl
          case hv => intro w hw; go_simp; first | done | with_reducible rfl | rfl
          simp only [Act.put, List.getElem_toArray, List.getElem_cons_zero, List.getElem_cons_succ, List.setIfInBounds_toArray, List.set_cons_zero, List.set_cons_succ]
          refine ⟨?_, ?_⟩
          · apply o_call (f := 10) (args := #[.string S3]) (hc := crc_any _ _ (by assumption))
            case ho => rfl
            case hw => rfl
            case hop => go_simp; done
            rintro _ rfl
            refine ⟨.inl rfl, ?_⟩
            simp only [Act.put, List.getElem_toArray, List.getElem_cons_zero, List.getElem_cons_succ, List.setIfInBounds_toArray, List.set_cons_zero, List.set_cons_succ]
            apply o_make (W := U2) (v := .slice (some ⟨U.heap.size, 0, none⟩) k k) (hS := .inr rfl)
            case ho => rfl
            case hw => rfl
            case hop => go_simp; done
            simp only [Act.put, List.getElem_toArray, List.getElem_cons_zero, List.getElem_cons_succ, List.setIfInBounds_toArray, List.set_cons_zero, List.set_cons_succ]
            refine ⟨rfl, fun w h => .inr h, ?_⟩
            apply s_val (v := .string S4)
            case ho => rfl
            case hw => rfl
            case hv => intro w hw; subst hw; go_simp; done
            simp only [Act.put, List.getElem_toArray, List.getElem_cons_zero, List.getElem_cons_succ, List.setIfInBounds_toArray, List.set_cons_zero, List.set_cons_succ]
            apply o_call (f := 10) (args := #[.string S4]) (hc := crc_any _ _ (by assumption))
            case ho => rfl
            case hw => rfl
            case hop => go_simp; done
            rintro _ rfl
            refine ⟨rfl, ?_⟩
            simp only [Act.put, List.getElem_toArray, List.getElem_cons_zero, List.getElem_cons_succ, List.setIfInBounds_toArray, List.set_cons_zero, List.set_cons_succ]
            apply s_val
            case ho => rfl
            case hw => rfl
            case hv => intro w hw; go_simp; first | done | with_reducible rfl | rfl
            simp only [Act.put, List.getElem_toArray, List.getElem_cons_zero, List.getElem_cons_succ, List.setIfInBounds_toArray, List.set_cons_zero, List.set_cons_succ]
            apply s_val
            case ho => rfl
            case hw => rfl
            case hv => intro w hw; go_simp; first | done | with_reducible rfl | rfl
            simp only [Act.put, List.getElem_toArray, List.getElem_cons_zero, List.getElem_cons_succ, List.setIfInBounds_toArray, List.set_cons_zero, List.set_cons_succ]
            apply s_val
            case ho => rfl
            case hw => rfl
            case hv => intro w hw; go_simp; first | done | with_reducible rfl | rfl
            simp only [Act.put, List.getElem_toArray, List.getElem_cons_zero, List.getElem_cons_succ, List.setIfInBounds_toArray, List.set_cons_zero, List.set_cons_succ]
            refine NoPanic.normal ?_
            go_wp2_with fail
            go_ret
            exact ⟨rfl, HB2.out⟩
          · apply o_make (W := U2) (v := .slice (some ⟨U.heap.size, 0, none⟩) k k) (hS := .inr rfl)
            case ho => rfl
            case hw => rfl
            case hop => go_simp; done
            simp only [Act.put, List.getElem_toArray, List.getElem_cons_zero, List.getElem_cons_succ, List.setIfInBounds_toArray, List.set_cons_zero, List.set_cons_succ]
            refine ⟨rfl, fun w h => .inr h, ?_⟩
            apply s_val (v := .string S4)
            case ho => rfl
            case hw => rfl
            case hv => intro w hw; subst hw; go_simp; done
            simp only [Act.put, List.getElem_toArray, List.getElem_cons_zero, List.getElem_cons_succ, List.setIfInBounds_toArray, List.set_cons_zero, List.set_cons_succ]
            apply o_call (f := 10) (args := #[.string S3]) (hc := crc_any _ _ (by assumption))
            case ho => rfl
            case hw => rfl
            case hop => go_simp; done
            rintro _ rfl
            refine ⟨rfl, ?_⟩
            simp only [Act.put, List.getElem_toArray, List.getElem_cons_zero, List.getElem_cons_succ, List.setIfInBounds_toArray, List.set_cons_zero, List.set_cons_succ]
            apply o_call (f := 10) (args := #[.string S4]) (hc := crc_any _ _ (by assumption))
            case ho => rfl
            case hw => rfl
            case hop => go_simp; done
            rintro _ rfl
            refine ⟨rfl, ?_⟩
            simp only [Act.put, List.getElem_toArray, List.getElem_cons_zero, List.getElem_cons_succ, List.setIfInBounds_toArray, List.set_cons_zero, List.set_cons_succ]
            apply s_val
            case ho => rfl
            case hw => rfl
            case hv => intro w hw; go_simp; first | done | with_reducible rfl | rfl
            simp only [Act.put, List.getElem_toArray, List.getElem_cons_zero, List.getElem_cons_succ, List.setIfInBounds_toArray, List.set_cons_zero, List.set_cons_succ]
            apply s_val
            case ho => rfl
            case hw => rfl
            case hv => intro w hw; go_simp; first | done | with_reducible rfl | rfl
            simp only [Act.put, List.getElem_toArray, List.getElem_cons_zero, List.getElem_cons_succ, List.setIfInBounds_toArray, List.set_cons_zero, List.set_cons_succ]
            apply s_val
            case ho => rfl
            case hw => rfl
            case hv => intro w hw; go_simp; first | done | with_reducible rfl | rfl
            simp only [Act.put, List.getElem_toArray, List.getElem_cons_zero, List.getElem_cons_succ, List.setIfInBounds_toArray, List.set_cons_zero, List.set_cons_succ]
            refine NoPanic.normal ?_
            go_wp2_with fail
            go_ret
            exact ⟨rfl, HB2.out⟩
        · apply o_make (W := U2) (v := .slice (some ⟨U.heap.size, 0, none⟩) k k) (hS := .inr rfl)
          case ho => rfl
          case hw => rfl
          case hop => go_simp; done
          simp only [Act.put, List.getElem_toArray, List.getElem_cons_zero, List.getElem_cons_succ, List.setIfInBounds_toArray, List.set_cons_zero, List.set_cons_succ]
          refine ⟨rfl, fun w h => .inr h, ?_⟩
          apply s_val (v := .string S4)
          case ho => rfl
          case hw => rfl
          case hv => intro w hw; subst hw; go_simp; done
          simp only [Act.put, List.getElem_toArray, List.getElem_cons_zero, List.getElem_cons_succ, List.setIfInBounds_toArray, List.set_cons_zero, List.set_cons_succ]
          apply o_call (f := 10) (args := #[.string Y]) (hc := crc_any _ _ (by assumption))
          case ho => rfl
          case hw => rfl
          case hop => go_simp; done
          rintro _ rfl
          refine ⟨rfl, ?_⟩
          simp only [Act.put, List.getElem_toArray, List.getElem_cons_zero, List.getElem_cons_succ, List.setIfInBounds_toArray, List.set_cons_zero, List.set_cons_succ]
          apply s_val
          case ho => rfl
          case hw => rfl
          case hv => intro w hw; go_simp; first | done | with_reducible rfl | rfl
          simp only [Act.put, List.getElem_toArray, List.getElem_cons_zero, List.getElem_cons_succ, List.setIfInBounds_toArray, List.set_cons_zero, List.set_cons_succ]
          apply o_call (f := 10) (args := #[.string S3]) (hc := crc_any _ _ (by assumption))
          case ho => rfl
          case hw => rfl
          case hop => go_simp; done
          rintro _ rfl
          refine ⟨rfl, ?_⟩
          simp only [Act.put, List.getElem_toArray, List.getElem_cons_zero, List.getElem_cons_succ, List.setIfInBounds_toArray, List.set_cons_zero, List.set_cons_succ]
          apply o_call (f := 10) (args := #[.string S4]) (hc := crc_any _ _ (by assumption))
          case ho => rfl
          case hw => rfl
          case hop => go_simp; done
          rintro _ rfl
          refine ⟨rfl, ?_⟩
          simp only [Act.put, List.getElem_toArray, List.getElem_cons_zero, List.getElem_cons_succ, List.setIfInBounds_toArray, List.set_cons_zero, List.set_cons_succ]
          apply s_val
          case ho => rfl
          case hw => rfl
          case hv => intro w hw; go_simp; first | done | with_reducible rfl | rfl
          simp only [Act.put, List.getElem_toArray, List.getElem_cons_zero, List.getElem_cons_succ, List.setIfInBounds_toArray, List.set_cons_zero, List.set_cons_succ]
          apply s_val
          case ho => rfl
          case hw => rfl
          case hv => intro w hw; go_simp; first | done | with_reducible rfl | rfl
          simp only [Act.put, List.getElem_toArray, List.getElem_cons_zero, List.getElem_cons_succ, List.setIfInBounds_toArray, List.set_cons_zero, List.set_cons_succ]
          apply s_val
          case ho => rfl
          case hw => rfl
          case hv => intro w hw; go_simp; first | done | with_reducible rfl | rfl
          simp only [Act.put, List.getElem_toArray, List.getElem_cons_zero, List.getElem_cons_succ, List.setIfInBounds_toArray, List.set_cons_zero, List.set_cons_succ]
          refine NoPanic.normal ?_
          go_wp2_with fail
          go_ret
          exact ⟨rfl, HB2.out⟩
      · apply o_make (W := U2) (v := .slice (some ⟨U.heap.size, 0, none⟩) k k) (hS := .inr rfl)
        case ho => rfl
        case hw => rfl
        case hop => go_simp; done
        simp only [Act.put, List.getElem_toArray, List.getElem_cons_zero, List.getElem_cons_succ, List.setIfInBounds_toArray, List.set_cons_zero, List.set_cons_succ]
        refine ⟨rfl, fun w h => .inr h, ?_⟩
        apply s_val (v := .string S4)
        case ho => rfl
        case hw => rfl
        case hv => intro w hw; subst hw; go_simp; done
        simp only [Act.put, List.getElem_toArray, List.getElem_cons_zero, List.getElem_cons_succ, List.setIfInBounds_toArray, List.set_cons_zero, List.set_cons_succ]
        apply o_call (f := 10) (args := #[.string X]) (hc := crc_any _ _ (by assumption))
        case ho => rfl
        case hw => rfl
        case hop => go_simp; done
        rintro _ rfl
        refine ⟨rfl, ?_⟩
        simp only [Act.put, List.getElem_toArray, List.getElem_cons_zero, List.getElem_cons_succ, List.setIfInBounds_toArray, List.set_cons_zero, List.set_cons_succ]
        apply o_call (f := 10) (args := #[.string Y]) (hc := crc_any _ _ (by assumption))
        case ho => rfl
        case hw => rfl
        case hop => go_simp; done
        rintro _ rfl
        refine ⟨rfl, ?_⟩
        simp only [Act.put, List.getElem_toArray, List.getElem_cons_zero, List.getElem_cons_succ, List.setIfInBounds_toArray, List.set_cons_zero, List.set_cons_succ]
        apply s_val
        case ho => rfl
        case hw => rfl
        case hv => intro w hw; go_simp; first | done | with_reducible rfl | rfl
        simp only [Act.put, List.getElem_toArray, List.getElem_cons_zero, List.getElem_cons_succ, List.setIfInBounds_toArray, List.set_cons_zero, List.set_cons_succ]
        apply o_call (f := 10) (args := #[.string S3]) (hc := crc_any _ _ (by assumption))
        case ho => rfl
        case hw => rfl
        case hop => go_simp; done
        rintro _ rfl
        refine ⟨rfl, ?_⟩
        simp only [Act.put, List.getElem_toArray, List.getElem_cons_zero, List.getElem_cons_succ, List.setIfInBounds_toArray, List.set_cons_zero, List.set_cons_succ]
        apply o_call (f := 10) (args := #[.string S4]) (hc := crc_any _ _ (by assumption))
        case ho => rfl
        case hw => rfl
        case hop => go_simp; done
        rintro _ rfl
        refine ⟨rfl, ?_⟩
        simp only [Act.put, List.getElem_toArray, List.getElem_cons_zero, List.getElem_cons_succ, List.setIfInBounds_toArray, List.set_cons_zero, List.set_cons_succ]
        apply s_val
        case ho => rfl
        case hw => rfl
        case hv => intro w hw; go_simp; first | done | with_reducible rfl | rfl
        simp only [Act.put, List.getElem_toArray, List.getElem_cons_zero, List.getElem_cons_succ, List.setIfInBounds_toArray, List.set_cons_zero, List.set_cons_succ]
        apply s_val
        case ho => rfl
        case hw => rfl
        case hv => intro w hw; go_simp; first | done | with_reducible rfl | rfl
        simp only [Act.put, List.getElem_toArray, List.getElem_cons_zero, List.getElem_cons_succ, List.setIfInBounds_toArray, List.set_cons_zero, List.set_cons_succ]
        apply s_val
        case ho => rfl
        case hw => rfl
        case hv => intro w hw; go_simp; first | done | with_reducible rfl | rfl
        simp only [Act.put, List.getElem_toArray, List.getElem_cons_zero, List.getElem_cons_succ, List.setIfInBounds_toArray, List.set_cons_zero, List.set_cons_succ]
        refine NoPanic.normal ?_
        go_wp2_with fail
        go_ret
        exact ⟨rfl, HB2.out⟩
end Go.Proofs.Ytibipoecbcjcmaa
