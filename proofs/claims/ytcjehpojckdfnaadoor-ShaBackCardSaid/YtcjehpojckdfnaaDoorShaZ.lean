/-
  Layer 2: the walk of ShaBack.
-/
import Derived.Test.YtcjehpojckdfnaaDoorShaY
namespace Go.Proofs.YtcjehpojckdfnaaDoor
set_option linter.unusedVariables false
set_option linter.unusedSimpArgs false
open Go.RowKit

theorem dig_hexc : ∀ n : Fin 16, dig (hexc n.val) = n.val := by decide +kernel
theorem hexc_dig : ∀ n : Fin 256, dig (UInt8.ofNat n.val) < 16 → hexc (dig (UInt8.ofNat n.val)) = UInt8.ofNat n.val := by decide +kernel
theorem dig_hexc' (n : Nat) (h : n < 16) : dig (hexc n) = n := dig_hexc ⟨n, h⟩
theorem hexc_dig' (c : UInt8) (h : dig c < 16) : hexc (dig c) = c := by
  have := hexc_dig ⟨c.toNat, c.toNat_lt⟩
  simp only [UInt8.ofNat_toNat] at this
  exact this h
theorem hexL_get (l : List UInt8) (i : Nat) (h : i < l.length) : (hexL l).getD (2 * i) 0 = hexc ((l.getD i 0).toNat / 16) ∧ (hexL l).getD (2 * i + 1) 0 = hexc ((l.getD i 0).toNat % 16) := by
  induction l generalizing i with
  | nil => simp at h
  | cons a l ih =>
    have e : hexL (a :: l) = hexc (a.toNat / 16) :: hexc (a.toNat % 16) :: hexL l := rfl
    rw [e]
    cases i with
    | zero => exact ⟨rfl, rfl⟩
    | succ i =>
      have := ih i (by simpa using h)
      rw [show 2 * (i + 1) = 2 * i + 1 + 1 from by omega]
      simpa using this
theorem hex_ok (l : List UInt8) (hl : l.length = 32) : unOk (hexL l) = true := by
  refine unOk_yes _ (by rw [hexL_len, hl]) fun j hj => ?_
  have h := hexL_get l (j / 2) (by omega)
  have hb := (l.getD (j / 2) 0).toNat_lt
  rcases (by omega : j = 2 * (j / 2) ∨ j = 2 * (j / 2) + 1) with e | e
  · rw [e, h.1, dig_hexc' _ (by omega)]; omega
  · rw [e, h.2, dig_hexc' _ (by omega)]; omega
theorem un_hex (l : List UInt8) (hl : l.length = 32) : unV (hexL l) = l := by
  unfold unV
  rw [hex_ok l hl]
  simp only [if_true]
  apply List.ext_getElem?
  intro i
  by_cases h : i < 32
  · have hg := hexL_get l i (by omega)
    have hb := (l.getD i 0).toNat_lt
    rw [unL_get _ _ h, hg.1, hg.2, dig_hexc' _ (by omega), dig_hexc' _ (by omega), show 16 * ((l.getD i 0).toNat / 16) + (l.getD i 0).toNat % 16 = (l.getD i 0).toNat from by omega, UInt8.ofNat_toNat, List.getD_eq_getElem?_getD, List.getElem?_eq_getElem (by omega)]
    rfl
  · rw [List.getElem?_eq_none (by rw [unL_len]; omega), List.getElem?_eq_none (by omega)]
theorem hex_un (t : List UInt8) (h : unOk t = true) : hexL (unV t) = t := by
  unfold unV
  rw [h]
  simp only [if_true]
  unfold unOk at h
  rw [decide_eq_true_iff] at h
  obtain ⟨hl, hd⟩ := h
  have hdj : ∀ j, j < 64 → dig (t.getD j 0) < 16 := fun j hj => hd _ (by rw [List.getD_eq_getElem?_getD, List.getElem?_eq_getElem (by omega)]; exact List.getElem_mem _)
  apply List.ext_getElem (by rw [hexL_len, unL_len, hl])
  intro j h1 h2
  have g := hexL_get (unL t) (j / 2) (by rw [unL_len]; omega)
  have hu : (unL t).getD (j / 2) 0 = UInt8.ofNat (16 * dig (t.getD (2 * (j / 2)) 0) + dig (t.getD (2 * (j / 2) + 1) 0)) := by
    rw [List.getD_eq_getElem?_getD, unL_get _ _ (by omega)]; rfl
  have d1 := hdj (2 * (j / 2)) (by omega)
  have d2 := hdj (2 * (j / 2) + 1) (by omega)
  rw [hu, u8n _ (by omega)] at g
  have e1 : (hexL (unL t))[j] = (hexL (unL t)).getD j 0 := by simp [List.getD_eq_getElem?_getD, h1]
  have e2 : t[j] = t.getD j 0 := by simp [List.getD_eq_getElem?_getD, h2]
  rw [e1, e2]
  rcases (by omega : j = 2 * (j / 2) ∨ j = 2 * (j / 2) + 1) with e | e
  · rw [e, g.1, show (16 * dig (t.getD (2 * (j / 2)) 0) + dig (t.getD (2 * (j / 2) + 1) 0)) / 16 = dig (t.getD (2 * (j / 2)) 0) from by omega, hexc_dig' _ d1]
  · rw [e, g.2, show (16 * dig (t.getD (2 * (j / 2)) 0) + dig (t.getD (2 * (j / 2) + 1) 0)) % 16 = dig (t.getD (2 * (j / 2) + 1) 0) from by omega, hexc_dig' _ d2]
set_option maxRecDepth 100000 in
set_option maxHeartbeats 8000000 in
theorem walk_shaBack (w : World) (hl : List UInt8) (hll : hl.length = 32) (s : ByteArray) (hs : s.size ≤ 140737488351232) (hK : KT w) :
    Calls Tryd.prog 5 #[.agg (u8s hl).toArray, .string s] w fun e w' => e = .returned (.bool true) ∧ Below w.heap.size w w' := by
  have hu := Tryd.underlying24
  have L := hidp (fun W (h : KT W) => lives_any W h)
  have HK := hidp hK
  have hkp := hK.pos
  clear hK
  have hT64 := hexL_len hl
  obtain ⟨T, hT⟩ : ∃ T, mkS (hexL hl) = T := ⟨_, rfl⟩
  have hTs : T.size = 64 := by rw [← hT, mkS_size, hT64, hll]
  have hTz : ((T.size : Int) == 64) = true := by simp [hTs]
  have hTd : T.data.toList = hexL hl := by rw [← hT]; rfl
  obtain ⟨H, hH⟩ : ∃ A, u8s hl = A := ⟨_, rfl⟩
  have hHl : H.length = 32 := by rw [← hH, u8s_length, hll]
  have hH1 := hidp (show H.toArray.all (·.oneCell') = true from by rw [← hH]; exact u8s_one _)
  have hsz32 := hidp (show (Tryd.prog.info? 24).map (·.size) = some 32 from by kernel_rfl)
  have HIH := hidp (show (Tryd.prog.info? 24).map (·.size) = some H.toArray.size from by rw [hsz32.out]; simp [hHl])
  have HLH := hidp (show H.toArray.size = 32 from by simp [hHl])
  have hq := hidp (eq_row _ hll H hH)
  have c3 := hidp (show ∀ W, Calls Tryd.prog 24 #[.agg H.toArray] W fun e w' => e = .returned (.string T) ∧ Below W.heap.size W w' from fun W => by rw [← hH, ← hT]; exact hex_any W hl hll)
  have c5 := hidp (show ∀ W, Calls Tryd.prog 22 #[.string T] W fun e w' => e = .returned (.tuple #[.agg H.toArray, .int .i64 0]) ∧ Below W.heap.size W w' from fun W => by
    have := unhex_any W T (by omega); rw [hTd, un_hex hl hll, hH, show unE (hexL hl) = 0 from by unfold unE; rw [hex_ok hl hll]; rfl] at this; exact this)
  rw [hH]
  have HT := hidp hTs
  clear hH hT hTs hT64 hTd
  have HA0 := hidp (show Arr (w.alloc (.cells H.toArray 24)) w.heap.size 24 H from Arr.new w _ H)
  have HB0 := hidp (show Below w.heap.size w (w.alloc (.cells H.toArray 24)) from (Below.refl _ w).alloc (Nat.le_refl _) _)
  obtain ⟨W0, hW0⟩ : ∃ W, w.alloc (.cells H.toArray 24) = W := ⟨_, rfl⟩
  rw [hW0] at HA0 HB0
  have HW0 := hidp hW0
  clear hW0
  obtain ⟨X, hX⟩ : ∃ A, u8s (unV s.data.toList) = A := ⟨_, rfl⟩
  have hXl : X.length = 32 := by rw [← hX, u8s_length, unV_len]
  have hX1 := hidp (show X.toArray.all (·.oneCell') = true from by rw [← hX]; exact u8s_one _)
  have HIX := hidp (show (Tryd.prog.info? 24).map (·.size) = some X.toArray.size from by rw [hsz32.out]; simp [hXl])
  have HLX := hidp (show X.toArray.size = 32 from by simp [hXl])
  · obtain ⟨E, hE⟩ : ∃ E : Nat, unE s.data.toList = E := ⟨_, rfl⟩
    have c1 := hidp (show ∀ W, Calls Tryd.prog 22 #[.string s] W fun e w' => e = .returned (.tuple #[.agg X.toArray, .int .i64 (E : Int)]) ∧ Below W.heap.size W w' from fun W => by rw [← hX, ← hE]; exact unhex_any W s (by omega))
    have c4 := hidp (show unOk s.data.toList = true → ∀ W, Calls Tryd.prog 24 #[.agg X.toArray] W fun e w' => e = .returned (.string s) ∧ Below W.heap.size W w' from fun ho W => by
      have := hex_any W (unV s.data.toList) (unV_len _); rw [hX, hex_un _ ho] at this; exact this)
    have HEE := hidp (show (unOk s.data.toList = true → E = 0) ∧ (¬ unOk s.data.toList = true → E = 6) from by
      constructor
      · intro h; rw [← hE]; unfold unE; rw [h]; rfl
      · intro h; rw [← hE]; unfold unE; rw [show unOk s.data.toList = false from by simpa using h]; rfl)
    have HEE := hidp (show (unOk s.data.toList = true ∧ ((E : Int) != 0) = false) ∨ ((E : Int) != 0) = true from by
      by_cases h : unOk s.data.toList = true
      · left; refine ⟨h, ?_⟩; rw [HEE.out.1 h]; rfl
      · right; rw [HEE.out.2 h]; rfl)
    clear hE hX
    go_enter Tryd.func5, Tryd.ntmps5
    go_wp2_with fail
    rw [HW0.out]
    refine (L.out _ (HK.out.below HB0.out hkp)).mono ?_
    rintro e w1 ⟨rfl, hb1⟩
    have HB1 := hidp (HB0.out.trans (hb1.mono HB0.out.size))
    have HA1 := hidp (HA0.out.below hb1 HA0.out.lt)
    clear hb1
    go_wp2_with (refine wpList_load_row rfl 24 (.tmp 2) rfl w.heap.size rfl 24 H.toArray (0, 0) _ HA1.out Tryd.underlying24 rfl HIH.out ?_)
    refine (c3.out _).mono ?_
    rintro e w2 ⟨rfl, hb2⟩
    have HB2 := hidp (HB1.out.trans (hb2.mono HB1.out.size))
    have HA2 := hidp (HA1.out.below hb2 HA1.out.lt)
    clear hb2
    go_wp2_with fail
    refine (c5.out _).mono ?_
    rintro e w3 ⟨rfl, hb3⟩
    have hv3 := hidp (var_new w3 #[Value.int .u8 0, Value.int .u8 0, Value.int .u8 0, Value.int .u8 0, Value.int .u8 0, Value.int .u8 0, Value.int .u8 0, Value.int .u8 0, Value.int .u8 0, Value.int .u8 0, Value.int .u8 0, Value.int .u8 0, Value.int .u8 0, Value.int .u8 0, Value.int .u8 0, Value.int .u8 0, Value.int .u8 0, Value.int .u8 0, Value.int .u8 0, Value.int .u8 0, Value.int .u8 0, Value.int .u8 0, Value.int .u8 0, Value.int .u8 0, Value.int .u8 0, Value.int .u8 0, Value.int .u8 0, Value.int .u8 0, Value.int .u8 0, Value.int .u8 0, Value.int .u8 0, Value.int .u8 0] 24 H)
    have hbb := hb3.trans (hv3.out.2.1.mono hb3.size)
    have HB3 := hidp (HB2.out.trans (hbb.mono HB2.out.size))
    have HA3 := hidp (HA2.out.below hbb HA2.out.lt)
    have hz2 := HA2.out.lt
    have hs3 := hb3.size
    clear hb3 hbb
    go_wp2_with (refine wpList_store_row rfl 24 (.tmp 5) (.tmp 15) rfl w3.heap.size H.toArray rfl rfl 24 _ (heap_alloc_new w3 _) HIH.out (by rw [HLH.out]; rfl) hH1.out ?_)
    generalize hW3 : ((w3.alloc (.cells _ 24)).setRow w3.heap.size H.toArray) = W3 at hv3 HB3 HA3 ⊢
    have hz3 := hv3.out.2.2
    have HH3 := hidp hv3.out.1
    clear hv3 hW3
    refine (c1.out _).mono ?_
    rintro e w4 ⟨rfl, hb4⟩
    have hs4 := hb4.size
    have hv4 := hidp (var_new w4 #[Value.int .u8 0, Value.int .u8 0, Value.int .u8 0, Value.int .u8 0, Value.int .u8 0, Value.int .u8 0, Value.int .u8 0, Value.int .u8 0, Value.int .u8 0, Value.int .u8 0, Value.int .u8 0, Value.int .u8 0, Value.int .u8 0, Value.int .u8 0, Value.int .u8 0, Value.int .u8 0, Value.int .u8 0, Value.int .u8 0, Value.int .u8 0, Value.int .u8 0, Value.int .u8 0, Value.int .u8 0, Value.int .u8 0, Value.int .u8 0, Value.int .u8 0, Value.int .u8 0, Value.int .u8 0, Value.int .u8 0, Value.int .u8 0, Value.int .u8 0, Value.int .u8 0, Value.int .u8 0] 24 X)
    have hbb := hb4.trans (hv4.out.2.1.mono hb4.size)
    have HB4 := hidp (HB3.out.trans (hbb.mono HB3.out.size))
    have HA4 := hidp (HA3.out.below hbb HA3.out.lt)
    have HH4 := hidp (HH3.out.below hbb HH3.out.lt)
    clear hb4 hbb
    have hq4 := hq.out ((w4.alloc (.cells #[Value.int .u8 0, Value.int .u8 0, Value.int .u8 0, Value.int .u8 0, Value.int .u8 0, Value.int .u8 0, Value.int .u8 0, Value.int .u8 0, Value.int .u8 0, Value.int .u8 0, Value.int .u8 0, Value.int .u8 0, Value.int .u8 0, Value.int .u8 0, Value.int .u8 0, Value.int .u8 0, Value.int .u8 0, Value.int .u8 0, Value.int .u8 0, Value.int .u8 0, Value.int .u8 0, Value.int .u8 0, Value.int .u8 0, Value.int .u8 0, Value.int .u8 0, Value.int .u8 0, Value.int .u8 0, Value.int .u8 0, Value.int .u8 0, Value.int .u8 0, Value.int .u8 0, Value.int .u8 0] 24)).setRow w4.heap.size X.toArray)
    go_wp2_with (first
      | (refine wpList_store_row rfl 24 (.tmp 7) (.tmp 20) rfl w4.heap.size X.toArray rfl rfl 24 _ (heap_alloc_new w4 _) HIX.out (by rw [HLX.out]; rfl) hX1.out ?_)
      | (refine wpList_load_row_g rfl 24 (.tmp 5) rfl w3.heap.size rfl 24 H.toArray (0, 0) _ HH4.out Tryd.underlying24 rfl HIH.out ?_)
      | (refine wpList_load_row_g rfl 24 (.tmp 2) rfl w.heap.size rfl 24 H.toArray (0, 0) _ HA4.out Tryd.underlying24 rfl HIH.out ?_))
    generalize hW4 : ((w4.alloc (.cells _ 24)).setRow w4.heap.size X.toArray) = W4 at hv4 HB4 HA4 HH4 ⊢
    have HX4 := hidp hv4.out.1
    clear hv4 hW4 hq4
    refine (c3.out _).mono ?_
    rintro e w5 ⟨rfl, hb5⟩
    have HB5 := hidp (HB4.out.trans (hb5.mono HB4.out.size))
    have HX5 := hidp (HX4.out.below hb5 HX4.out.lt)
    clear hb5
    rcases HEE.out with ⟨ho, he⟩ | he
    · have HO := hidp ho
      clear ho
      go_wp2_with (refine wpList_load_row_g rfl 24 (.tmp 7) rfl w4.heap.size rfl 24 X.toArray (0, 0) _ HX5.out Tryd.underlying24 rfl HIX.out ?_)
      refine (c4.out HO.out _).mono ?_
      rintro e w6 ⟨rfl, hb6⟩
      have HB6 := hidp (HB5.out.trans (hb6.mono HB5.out.size))
      clear hb6
      go_wp2_with fail
      go_ret
      exact ⟨rfl, HB6.out⟩
    · go_wp2_with fail
      go_ret
      exact ⟨rfl, HB5.out⟩
end Go.Proofs.YtcjehpojckdfnaaDoor
