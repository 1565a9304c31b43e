
/-
  power: Text.
-/
import Derived.Test.YtiakfopdohcigaaGreatDoorPwD
namespace Go.Proofs.YtiakfopdohcigaaGreatDoor
set_option maxRecDepth 100000
set_option linter.unusedVariables false
set_option linter.unusedSimpArgs false
open Go.RowKit Rw


def wordsL (l : Lv) : List ByteArray := (sixL l).map itT ++ l.us.flatMap fun p => [p.1, itT p.2]
def joinW (ws : List ByteArray) : ByteArray := ⟨(Lib.join (ws.map (·.data.toList)) [32]).toArray⟩
def txL (l : Lv) : ByteArray := joinW (wordsL l)
def txV (l : Lv) : ByteArray := if lvOk l = true then txL l else ⟨#[]⟩
theorem usr_size {t : ByteArray} (h : usr t = true) : t.size ≤ 20 := by
  unfold usr who at h
  cases hp : idP t with
  | none => rw [hp] at h; cases h
  | some q =>
    obtain ⟨k, nm, n⟩ := q
    obtain ⟨h1, h2⟩ := idP_some hp
    have := idOk_size h1
    have h3 := idL_len k nm n
    rw [← h2, mkS_size]; omega
theorem itT_size {n : Int} (h : inR n = true) : (itT n).size ≤ 3 := by
  have hd : ∀ k : Fin 101, (Lib.itoa (k.val : Int)).length ≤ 3 := by decide +kernel
  unfold inR at h
  simp only [Bool.and_eq_true, decide_eq_true_eq] at h
  have := hd ⟨n.toNat, by omega⟩
  simp only [Int.toNat_of_nonneg h.1] at this
  unfold itT
  simpa [ByteArray.size] using this
structure LvOk (l : Lv) : Prop where
  six : ∀ n ∈ sixL l, inR n = true
  len : l.us.length ≤ 16
  us : ∀ p ∈ l.us, usr p.1 = true ∧ inR p.2 = true
theorem lvOk_parts {l : Lv} (h : lvOk l = true) : LvOk l := by
  unfold lvOk at h
  simp only [Bool.and_eq_true, List.all_eq_true, decide_eq_true_eq] at h
  refine ⟨h.1.1, h.1.2, fun p hp => ?_⟩
  obtain ⟨i, hi, rfl⟩ := List.mem_iff_getElem.1 hp
  have := uTo_le h.2 hi
  unfold uAt at this
  simp only [Bool.and_eq_true, getU hi] at this
  exact this.1
theorem words_size {l : Lv} (h : LvOk l) : ∀ x ∈ wordsL l, x.size ≤ 20 := by
  intro x hx
  unfold wordsL at hx
  rw [List.mem_append] at hx
  rcases hx with hx | hx
  · obtain ⟨n, hn, rfl⟩ := List.mem_map.1 hx
    have := itT_size (h.six n hn); omega
  · obtain ⟨p, hp, hx⟩ := List.mem_flatMap.1 hx
    simp at hx
    rcases hx with rfl | rfl
    · exact usr_size (h.us p hp).1
    · have := itT_size (h.us p hp).2; omega
theorem flat_two (us : List (ByteArray × Int)) : (us.flatMap fun p => [p.1, itT p.2]).length = 2 * us.length := by
  induction us with
  | nil => rfl
  | cons a r ih => simp only [List.flatMap_cons, List.length_append, ih, List.length_cons, List.length_nil]; omega
theorem words_len (l : Lv) : (wordsL l).length = 6 + 2 * l.us.length := by
  unfold wordsL; rw [List.length_append, List.length_map, flat_two]; rfl
theorem joinTail_len (sep : List UInt8) : ∀ (r : List (List UInt8)), (∀ x ∈ r, x.length ≤ 20) → (Lib.joinTail sep r).length ≤ r.length * (20 + sep.length)
  | [], _ => by simp [Lib.joinTail]
  | x :: r, h => by
    have h1 := h x (by simp)
    have h2 := joinTail_len sep r (fun z hz => h z (by simp [hz]))
    have h3 : Lib.joinTail sep (x :: r) = (sep ++ x) ++ Lib.joinTail sep r := rfl
    rw [h3, List.length_append, List.length_append, List.length_cons, Nat.add_mul, Nat.one_mul]
    omega
theorem join_len (sep : List UInt8) (ws : List (List UInt8)) (h : ∀ x ∈ ws, x.length ≤ 20) : (Lib.join ws sep).length ≤ ws.length * (20 + sep.length) := by
  cases ws with
  | nil => rw [Lib.join_nil]; simp
  | cons x r =>
    have h1 := h x (by simp)
    have h2 := joinTail_len sep r (fun z hz => h z (by simp [hz]))
    rw [Lib.join_cons, List.length_append, List.length_cons, Nat.add_mul, Nat.one_mul]
    omega
theorem join_ok {l : Lv} (h : LvOk l) : (Lib.join ((wordsL l).map (·.data.toList)) [32]).length ≤ 140737488355328 := by
  have h1 := join_len [32] ((wordsL l).map (·.data.toList)) (fun x hx => by
    obtain ⟨y, hy, rfl⟩ := List.mem_map.1 hx
    have := words_size h y hy
    simpa using this)
  rw [List.length_map, words_len] at h1
  have := h.len
  have h2 : (6 + 2 * l.us.length) * (20 + [(32 : UInt8)].length) ≤ 38 * 21 := Nat.mul_le_mul (by omega) (by simp)
  omega
theorem WAt.cells {w : World} {g : Nat} {ws : List ByteArray} (h : WAt w g ws) (j : Nat) (x : ByteArray) (hx : ws[j]? = some x) : w.cell? ⟨g, 0 + j, none⟩ = some (.string x) := by
  have hj := (List.getElem?_eq_some_iff.1 hx)
  obtain ⟨hj, rfl⟩ := hj
  have := World.ownsRow.cells h (g := g) rfl j (.string ws[j]) (by unfold strV; rw [List.getElem?_map, List.getElem?_eq_getElem hj]; rfl)
  rw [addr_addR] at this
  exact this

set_option maxHeartbeats 32000000 in
theorem text_any (w : World) (l : Lv) (v : Value) (hv : UsAt w v l.us) (hP : PT w) :
    Calls Tryz.prog 18 #[.agg #[.int .i64 l.a, .int .i64 l.s, .int .i64 l.i, .int .i64 l.k, .int .i64 l.b, .int .i64 l.r, v]] w fun e w' => e = .returned (.tuple #[.string (txV l), .int .i64 (lvE l)]) ∧ Below w.heap.size w w' := by
  have HP := hidp hP; clear hP
  have ck := hidp (fun W h h' => lvCheck_any W l v h h')
  have HV := hidp hv; clear hv
  obtain ⟨av, cv, rfl⟩ := HV.out.form
  obtain ⟨n, hn⟩ : ∃ n, l.us.length = n := ⟨_, rfl⟩
  have HN := hidp hn
  have hn47 := HV.out.len
  rw [hn] at HV hn47 ck ⊢
  clear hn
  cases hok : lvOk l with
  | false =>
    have hE : lvE l = 2 := if_neg (by rw [hok]; exact Bool.false_ne_true)
    have HF := hidp (show txV l = ⟨#[]⟩ from if_neg (by rw [hok]; exact Bool.false_ne_true))
    rw [hE] at ck ⊢
    clear hok hE
    go_enter Tryz.func18, Tryz.ntmps18
    go_wp2_with (first | (refine Rt.wpL_box 37 rfl (.tmp 0) rfl [.int .i64 l.a, .int .i64 l.s, .int .i64 l.i, .int .i64 l.k, .int .i64 l.b, .int .i64 l.r, .slice av n cv] rfl ?_; intro b1 w1 n1; have HB1 := hidp n1.below; have hg_b1 := hidp n1.le; have HA1 := hidp n1.arr; clear n1) | (refine Rt.wpL_get tyL rfl (.tmp 1) rfl b1 [.int .i64 l.a, .int .i64 l.s, .int .i64 l.i, .int .i64 l.k, .int .i64 l.b, .int .i64 l.r, .slice av n cv] rfl rfl HA1.out ?_) | (go_at_call 22; refine (ck.out _ (HV.out.to HB1.out) (HP.out.below HB1.out (Nat.le_refl _))).mono ?_; rintro e w2 ⟨rfl, hb⟩; have HB2 := hidp (HB1.out.trans (hb.mono HB1.out.size)); have HA2 := hidp (HA1.out.below hb HA1.out.lt); clear hb HB1 HA1))
    go_ret2
    exact ⟨by rw [HF.out]; rfl, HB2.out⟩
  | true =>
    have HOKP := hidp (lvOk_parts hok)
    have hE : lvE l = 0 := if_pos hok
    have HF := hidp (show txV l = joinW (wordsL l) from if_pos hok)
    have h16 := HOKP.out.len
    rw [HN.out] at h16
    rw [hE] at ck ⊢
    clear hok hE
    have cn := hidp (fun W => numbersOf_any W l (.slice av n cv))
    go_enter Tryz.func18, Tryz.ntmps18
    go_wp2_with (first | (refine Rt.wpL_box 37 rfl (.tmp 0) rfl [.int .i64 l.a, .int .i64 l.s, .int .i64 l.i, .int .i64 l.k, .int .i64 l.b, .int .i64 l.r, .slice av n cv] rfl ?_; intro b1 w1 n1; have HB1 := hidp n1.below; have hg_b1 := hidp n1.le; have HA1 := hidp n1.arr; clear n1) | (refine Rt.wpL_get tyL rfl (.tmp 1) rfl b1 [.int .i64 l.a, .int .i64 l.s, .int .i64 l.i, .int .i64 l.k, .int .i64 l.b, .int .i64 l.r, .slice av n cv] rfl rfl HA1.out ?_) | (go_at_call 22; refine (ck.out _ (HV.out.to HB1.out) (HP.out.below HB1.out (Nat.le_refl _))).mono ?_; rintro e w2 ⟨rfl, hb⟩; have HB2 := hidp (HB1.out.trans (hb.mono HB1.out.size)); have HA2 := hidp (HA1.out.below hb HA1.out.lt); clear hb HB1 HA1; obtain ⟨C, hmk, hwm⟩ := mk38 w2; have HWM := hidp hwm; have HBM := hidp (HB2.out.alloc HB2.out.size (.cells C 9)); have HAM := hidp (HA2.out.alloc (.cells C 9)); have hb12 := hidp HA2.out.lt; clear hwm HB2 HA2) | (refine Rt.wpL_get tyL rfl (.tmp 1) rfl b1 [.int .i64 l.a, .int .i64 l.s, .int .i64 l.i, .int .i64 l.k, .int .i64 l.b, .int .i64 l.r, .slice av n cv] rfl rfl HAM.out ?_) | (go_at_call 60; refine (cn.out _).mono ?_; rintro e w4 ⟨rfl, hb⟩; have HB4 := hidp (HBM.out.trans (hb.mono HBM.out.size)); have HA4 := hidp (HAM.out.below hb HAM.out.lt); have HW4 := hidp (HWM.out.to hb); have hg1 := hb12; have hgw := hidp (show w.heap.size ≤ w2.heap.size from Nat.le_trans hg_b1.out (Nat.le_of_lt hb12.out)); clear hb HBM HAM HWM))
    obtain ⟨g, hgd⟩ : ∃ g, w2.heap.size = g := ⟨_, rfl⟩
    rw [hgd] at HW4 hg1 hgw ⊢
    clear hmk hb12 hgd
    go_loopw [5, 18] (fun t5 t18 wr => ∃ i m : Nat, t18 = .int .i64 (i : Int) ∧ i ≤ 6 ∧ t5 = .slice (some ⟨g, 0, none⟩) m 38 ∧ m = i ∧ WAt wr g (((sixL l).take i).map itT) ∧ Below w.heap.size w wr ∧ Arr wr b1 37 [.int .i64 l.a, .int .i64 l.s, .int .i64 l.i, .int .i64 l.k, .int .i64 l.b, .int .i64 l.r, .slice av n cv]) (fun _ t18 _ => 6 - (intOf t18).toNat)
    case atStart => exact ⟨0, 0, rfl, by omega, rfl, rfl, HW4.out, HB4.out, HA4.out⟩
    case round =>
      obtain ⟨i, m, rfl, hi, rfl, hm, hwr, hb, ha⟩ := hrel
      have HWr := hidp hwr; have HB := hidp hb; have HA := hidp ha
      clear hwr hb ha HW4 HB4 HA4
      by_cases hlt : i < 6
      · have e1 : decide ((i : Int) < 6) = true := by simp; omega
        have e1n : (i : Int) < 6 := by omega
        have hix := index_num l i hlt wr
        have hl6 : i < (sixL l).length := hlt
        have hsn := hidp (show ((sixL l).take (i + 1)).map itT = ((sixL l).take i).map itT ++ [itT ((sixL l).getD i 0)] from by
          rw [List.take_add_one, List.getElem?_eq_getElem hl6, List.map_append, List.getD_eq_getElem?_getD, List.getElem?_eq_getElem hl6]; rfl)
        have hr := HOKP.out.six ((sixL l).getD i 0) (by rw [List.getD_eq_getElem?_getD, List.getElem?_eq_getElem hl6]; exact List.getElem_mem hl6)
        have hlw := hidp (show (((sixL l).take i).map itT).length = m from by rw [List.length_map, List.length_take, hm]; exact Nat.min_eq_left (by omega))
        obtain ⟨WS, hWS⟩ : ∃ x, ((sixL l).take i).map itT = x := ⟨_, rfl⟩
        obtain ⟨z, hz⟩ : ∃ z, (sixL l).getD i 0 = z := ⟨_, rfl⟩
        rw [hz] at hix hsn hr
        rw [hWS] at hsn hlw HWr
        have cz := hidp (fun W h => itoa_any W z (by unfold inR at hr; simp at hr; omega) (by unfold inR at hr; simp at hr; omega) h)
        obtain ⟨X, hX⟩ : ∃ x, itT z = x := ⟨_, rfl⟩
        rw [hX] at hsn cz
        clear hz hWS hX hr hl6
        have HM := hidp hm
        clear hm
        go_wp2_with (first | (go_at_call 61; refine (cz.out _ (HP.out.below HB.out (Nat.le_refl _))).mono ?_; rintro e w5 ⟨rfl, hb5⟩; have HB5 := hidp (HB.out.trans (hb5.mono HB.out.size)); have HA5 := hidp (HA.out.below hb5 HA.out.lt); have HW5 := hidp (HWr.out.to hb5); have hsz := hidp (show w.heap.size ≤ (w5.alloc (.cells #[.string X] 9)).heap.size from by have := HB5.out.size; simp; omega); clear hb5 HB HA HWr) | (refine wpL_app38 rfl (.tmp 21) (.tmp 24) rfl g m WS [X] w5.heap.size rfl rfl hlw.out (HW5.out.alloc _) (show Arr (w5.alloc (.cells #[.string X] 9)) w5.heap.size 9 (strV [X]) from Arr.new _ _ _) (by have := HM.out; simp; omega) ?_; intro w6 hw6 hg6; have HB6 := hidp ((HB5.out.alloc HB5.out.size _).trans (hg6.below _ hgw.out hsz.out)); have HA6 := hidp (hg6.arr (by have := hg1.out; omega) (HA5.out.alloc _)); have HW6 := hidp hw6; clear hw6 hg6 HB5 HA5 HW5))
        exact ⟨⟨i + 1, m + 1, by go_num, by omega, rfl, by have := HM.out; omega, by rw [hsn.out]; exact HW6.out, HB6.out, HA6.out⟩, by simp [intOf]; omega⟩
      · have e1 : decide ((i : Int) < 6) = false := by simp; omega
        obtain rfl : i = 6 := by omega
        have HWs := hidp (show WAt wr g ((sixL l).map itT) from HWr.out)
        obtain rfl : m = 6 := hm
        clear HWr
        obtain ⟨x0, x1, x2, x3, x4, x5, x6⟩ := arr7 HA.out
        go_wp2_with fail
        clear e1 hlt hi
        have HBs := HB; have HAs := HA
        clear HB HA
        clear x0 x1 x2 x3 x4 x5 x6
        go_loopw [5, 30] (fun t5 t30 wr => ∃ i m : Nat, t30 = .int .i64 (i : Int) ∧ i ≤ n ∧ t5 = .slice (some ⟨g, 0, none⟩) m 38 ∧ m = 6 + 2 * i ∧ WAt wr g ((sixL l).map itT ++ (l.us.take i).flatMap fun p => [p.1, itT p.2]) ∧ Below w.heap.size w wr ∧ Arr wr b1 37 [.int .i64 l.a, .int .i64 l.s, .int .i64 l.i, .int .i64 l.k, .int .i64 l.b, .int .i64 l.r, .slice av n cv]) (fun _ t30 _ => n - (intOf t30).toNat)
        case atStart => exact ⟨0, 6, rfl, by omega, rfl, rfl, by simpa using HWs.out, HBs.out, HAs.out⟩
        case round =>
          obtain ⟨i, m, rfl, hi, rfl, hm, hwr, hb, ha⟩ := hrel
          have HWr := hidp hwr; have HB := hidp hb; have HA := hidp ha; have HM := hidp hm
          clear hwr hb ha hm HWs HBs HAs
          by_cases hlt : i < n
          · have e1 : decide ((i : Int) < (n : Int)) = true := by simp; omega
            have hgl : i < l.us.length := by rw [HN.out]; exact hlt
            obtain ⟨BK, off, c, e2, hc, hBK0, hR0⟩ := HV.out.get (by rw [HN.out]; omega)
            rw [HN.out] at e2
            simp only [Value.slice.injEq] at e2
            obtain ⟨rfl, -, rfl⟩ := e2
            have hBK := hidp (show BK < wr.heap.size from Nat.lt_of_lt_of_le hBK0 HB.out.size)
            obtain ⟨p, hpe0⟩ : ∃ p, l.us[i] = p := ⟨_, rfl⟩
            have HRI := hidp (show wr.rangeAt BK (off + 2 * i) (uR p) from by rw [← hpe0]; exact rangeAt_below (hR0 i hgl) HB.out hBK0)
            have hsn := hidp (show (sixL l).map itT ++ ((l.us.take (i + 1)).flatMap fun p => [p.1, itT p.2]) = ((sixL l).map itT ++ (l.us.take i).flatMap fun p => [p.1, itT p.2]) ++ [p.1, itT p.2] from by
              rw [List.take_add_one, List.getElem?_eq_getElem hgl, List.flatMap_append, ← List.append_assoc, hpe0]; rfl)
            have hr := (HOKP.out.us p (by rw [← hpe0]; exact List.getElem_mem hgl)).2
            have hlw := hidp (show ((sixL l).map itT ++ (l.us.take i).flatMap fun p => [p.1, itT p.2]).length = m from by
              rw [List.length_append, List.length_map, flat_two, List.length_take, HM.out, Nat.min_eq_left (by omega)]; rfl)
            obtain ⟨WS, hWS⟩ : ∃ x, ((sixL l).map itT ++ (l.us.take i).flatMap fun p => [p.1, itT p.2]) = x := ⟨_, rfl⟩
            rw [hWS] at hsn hlw HWr
            have cz := hidp (fun W h => itoa_any W p.2 (by unfold inR at hr; simp at hr; omega) (by unfold inR at hr; simp at hr; omega) h)
            obtain ⟨X, hX⟩ : ∃ x, itT p.2 = x := ⟨_, rfl⟩
            rw [hX] at hsn cz
            clear hWS hX hr hpe0 hc hR0 hBK0 hgl
            go_wp2_with (first | (refine wpL_idxR tyU rfl (.tmp 28) (.tmp 30) rfl BK off n _ i rfl rfl hlt ?_) | (refine wpL_atR tyU rfl (.tmp 32) rfl BK (off + 2 * i) (uR p) rfl rfl HRI.out ?_) | (refine Rt.wpL_new tyP (some 9) rfl rfl rfl ?_; intro b9 wq1 n1; have HB1 := hidp (HB.out.trans (n1.below.mono HB.out.size)); have hbw := hidp (Nat.le_trans HB.out.size n1.le); have HA1 := hidp (n1.old HA.out); have hab := hidp (show b1 < b9 from by have := n1.at_; have := HA.out.lt; omega)) | (refine Rt.wpL_put tyP rfl (.tmp 9) (.tmp 33) rfl b9 (uR p) rfl rfl rfl (uR_one p) zU rfl n1.arr ?_; intro wq2 ha hp; have HB2 := hidp (hp.below' HB1.out hbw.out); have HE2 := hidp (show Arr wq2 b9 83 [.string p.1, .int .i64 p.2] from ha); have HA2 := hidp (hp.arr (by have := hab.out; omega) HA1.out); obtain ⟨y0, y1⟩ := arr2 HE2.out; have hbq := n1.put hp; have HW2 := hidp (HWr.out.to hbq); have hg9 := hidp (show g < b9 from by have := HWr.out.lt; have := n1.at_; omega); clear hbq ha hp n1 HB1 HA1))
            obtain ⟨U, hU⟩ : ∃ U, ({ wq2 with drawn := wq2.drawn + 1 } : World) = U := ⟨_, rfl⟩
            have bU : Below wq2.heap.size wq2 U := by rw [← hU]; exact (Below.refl _ _).drew
            have HE3 := hidp (HE2.out.below bU HE2.out.lt); have HA3 := hidp (HA2.out.below bU HA2.out.lt); have HB3 := hidp (HB2.out.trans (bU.mono HB2.out.size)); have HW3 := hidp (HW2.out.to bU)
            clear bU HE2 HA2 HB2 HW2 y0 y1
            refine wp_region_noPanic ?_
            refine wp_region_scr (S := fun W => Arr W b9 83 [.string p.1, .int .i64 p.2]) (.take 0 (.take 1 (.take 2 (.take 3 (.take 4 (.one 5 (.one 6 (.one 7 (.take 8 .done))))))))) (by kernel_rfl) (by kernel_rfl) (fun _ _ _ _ _ h => h) (by simp [Scr.depth]) (by kernel_rfl) (by rw [hU]; exact HE3.out) ?_
            simp only [hU]
            clear hU
            apply s_val
            case ho => rfl
            case hw => rfl
            case hv => intro w hw; obtain ⟨y0, y1⟩ := arr2 hw; go_simp; first | done | with_reducible rfl | rfl
            simp only [Act.put, List.getElem_toArray, List.getElem_cons_zero, List.getElem_cons_succ, List.setIfInBounds_toArray, List.set_cons_zero, List.set_cons_succ]
            apply s_val
            case ho => rfl
            case hw => rfl
            case hv => intro w hw; obtain ⟨y0, y1⟩ := arr2 hw; go_simp; first | done | with_reducible rfl | rfl
            simp only [Act.put, List.getElem_toArray, List.getElem_cons_zero, List.getElem_cons_succ, List.setIfInBounds_toArray, List.set_cons_zero, List.set_cons_succ]
            apply s_val
            case ho => rfl
            case hw => rfl
            case hv => intro w hw; obtain ⟨y0, y1⟩ := arr2 hw; go_simp; first | done | with_reducible rfl | rfl
            simp only [Act.put, List.getElem_toArray, List.getElem_cons_zero, List.getElem_cons_succ, List.setIfInBounds_toArray, List.set_cons_zero, List.set_cons_succ]
            apply s_val
            case ho => rfl
            case hw => rfl
            case hv => intro w hw; obtain ⟨y0, y1⟩ := arr2 hw; go_simp; first | done | with_reducible rfl | rfl
            simp only [Act.put, List.getElem_toArray, List.getElem_cons_zero, List.getElem_cons_succ, List.setIfInBounds_toArray, List.set_cons_zero, List.set_cons_succ]
            apply s_val
            case ho => rfl
            case hw => rfl
            case hv => intro w hw; obtain ⟨y0, y1⟩ := arr2 hw; go_simp; first | done | with_reducible rfl | rfl
            simp only [Act.put, List.getElem_toArray, List.getElem_cons_zero, List.getElem_cons_succ, List.setIfInBounds_toArray, List.set_cons_zero, List.set_cons_succ]
            apply o_call (f := 61) (args := #[.int .i64 p.2]) (v := .string X) (hc := cz.out _ (HP.out.below HB3.out (Nat.le_refl _)))
            case ho => rfl
            case hw => rfl
            case hop => go_simp; first | done | rfl
            rintro X4 hb
            have HE4 := hidp (HE3.out.below hb HE3.out.lt); have HA4 := hidp (HA3.out.below hb HA3.out.lt); have HB4 := hidp (HB3.out.trans (hb.mono HB3.out.size)); have HW4 := hidp (HW3.out.to hb)
            refine ⟨HE4.out, ?_⟩
            clear hb HE3 HA3 HB3 HW3
            simp only [Act.put, List.getElem_toArray, List.getElem_cons_zero, List.getElem_cons_succ, List.setIfInBounds_toArray, List.set_cons_zero, List.set_cons_succ]
            apply o_make (v := .slice (some ⟨X4.heap.size, 0, none⟩) 2 2) (W := X4.alloc (.cells #[.string p.1, .string X] 9))
            case ho => rfl
            case hw => rfl
            case hop => go_simp; first | done | rfl
            case hS => exact HE4.out.alloc _
            have HE5 := hidp (HE4.out.alloc (.cells #[.string p.1, .string X] 9)); have HA5 := hidp (HA4.out.alloc (.cells #[.string p.1, .string X] 9)); have HB5 := hidp (HB4.out.alloc HB4.out.size (.cells #[.string p.1, .string X] 9)); have HW5 := hidp (HW4.out.alloc (.cells #[.string p.1, .string X] 9))
            have HN5 := hidp (Arr.new X4 9 [.string p.1, .string X])
            obtain ⟨N5, hN5⟩ : ∃ k, X4.heap.size = k := ⟨_, rfl⟩
            obtain ⟨W5, hW5⟩ : ∃ W, X4.alloc (.cells #[.string p.1, .string X] 9) = W := ⟨_, rfl⟩
            have hgN := hidp (show w.heap.size ≤ W5.heap.size from by rw [← hW5]; exact HB5.out.size)
            change Hid (Arr (X4.alloc (.cells #[.string p.1, .string X] 9)) _ _ _) at HN5
            rw [hW5] at HE5 HA5 HB5 HW5 HN5 ⊢
            rw [hN5] at HN5 ⊢
            clear HE4 HA4 HB4 HW4 hW5 hN5
            simp only [Act.put, List.getElem_toArray, List.getElem_cons_zero, List.getElem_cons_succ, List.setIfInBounds_toArray, List.set_cons_zero, List.set_cons_succ]
            refine o_app38 rfl rfl (.tmp 34) (.tmp 40) rfl g m WS [p.1, X] N5 rfl rfl hlw.out HW5.out HN5.out (by have := HM.out; simp; omega) ?_
            intro W6 hw6 hg6
            have HB6 := hidp (HB5.out.trans (hg6.below _ hgw.out hgN.out)); have HA6 := hidp (hg6.arr (by have := hg1.out; omega) HA5.out)
            have HW6 := hidp hw6
            refine ⟨hg6.arr (by have := hg9.out; omega) HE5.out, ?_⟩
            clear hw6 hg6 HE5 HA5 HB5 HW5 HN5
            simp only [Act.put, List.getElem_toArray, List.getElem_cons_zero, List.getElem_cons_succ, List.setIfInBounds_toArray, List.set_cons_zero, List.set_cons_succ]
            apply s_val
            case ho => rfl
            case hw => rfl
            case hv => intro w hw; obtain ⟨y0, y1⟩ := arr2 hw; go_simp; first | done | with_reducible rfl | rfl
            simp only [Act.put, List.getElem_toArray, List.getElem_cons_zero, List.getElem_cons_succ, List.setIfInBounds_toArray, List.set_cons_zero, List.set_cons_succ]
            refine NoPanic.normal ?_
            go_wp2_with fail
            exact ⟨⟨i + 1, m + 2, by go_num, by omega, rfl, by have := HM.out; omega, by rw [hsn.out]; exact HW6.out, HB6.out, HA6.out⟩, by simp [intOf]; omega⟩
          · have e1 : decide ((i : Int) < (n : Int)) = false := by simp; omega
            obtain rfl : i = n := by omega
            have HWf := hidp (show WAt wr g (wordsL l) from by
              have := HWr.out
              rw [show l.us.take i = l.us from List.take_of_length_le (by rw [HN.out]; exact Nat.le_refl _)] at this
              exact this)
            have hml := hidp (show (wordsL l).length = m from by rw [words_len, HN.out, HM.out])
            obtain ⟨WS, hWS⟩ : ∃ x, wordsL l = x := ⟨_, rfl⟩
            have hjl := hidp (join_ok HOKP.out)
            rw [hWS] at HWf hml hjl HF
            have cj := hidp (Tryz.strings_Join g 0 38 WS ⟨#[32]⟩ wr (fun j x hx => HWf.out.cells j x hx) HWf.out.lt (by rw [hml.out, HM.out]; omega) (by rw [hml.out, HM.out]; omega) hjl.out)
            rw [hml.out] at cj
            clear hWS
            go_wp2_with (go_at_call 62; refine cj.out.mono ?_; rintro e w7 ⟨rfl, hb7⟩; have HB7 := hidp (HB.out.trans (hb7.mono HB.out.size)); clear hb7)
            go_ret2
            exact ⟨by rw [HF.out]; rfl, HB7.out⟩
end Go.Proofs.YtiakfopdohcigaaGreatDoor
