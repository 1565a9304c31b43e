
/-
  power: changed, the iterator over the users whose number changes.
-/
import Derived.Test.YtiakfopdohcigaaGreatDoorPwC
import Derived.Test.YtiakfopdohcigaaGreatDoorRnd
import Derived.Test.YtiakfopdohcigaaGreatDoorOctAll
namespace Go.Proofs.YtiakfopdohcigaaGreatDoor
set_option maxRecDepth 100000
set_option linter.unusedVariables false
set_option linter.unusedSimpArgs false
open Go.RowKit Rw Go.Shelf
attribute [local go_sem] Oper.semAt_some


/-- A user of the one levels is not in the others with that number. -/
def chF (is : List (ByteArray × Int)) (p : ByteArray × Int) : Bool := match ownL is p.1 with | none => true | some k => k != p.2
def chG (was : List (ByteArray × Int)) (p : ByteArray × Int) : Bool := (ownL was p.1).isNone
def chW (was is : List (ByteArray × Int)) (i : Nat) : List ByteArray := ((was.take i).filter (chF is)).map (·.1)
def chI (was is : List (ByteArray × Int)) (i : Nat) : List ByteArray := chW was is was.length ++ ((is.take i).filter (chG was)).map (·.1)
def chL (was is : List (ByteArray × Int)) : List ByteArray := chI was is is.length
theorem chW_succ {was is : List (ByteArray × Int)} {i : Nat} {p : ByteArray × Int} (h : i < was.length) (hp : was[i] = p) : chW was is (i + 1) = chW was is i ++ (if chF is p = true then [p.1] else []) := by
  unfold chW
  rw [List.take_add_one, List.getElem?_eq_getElem h, hp, List.filter_append, List.map_append]
  congr 1
  cases hc : chF is p <;> simp [hc]
theorem chI_succ {was is : List (ByteArray × Int)} {i : Nat} {p : ByteArray × Int} (h : i < is.length) (hp : is[i] = p) : chI was is (i + 1) = chI was is i ++ (if chG was p = true then [p.1] else []) := by
  unfold chI
  rw [List.take_add_one, List.getElem?_eq_getElem h, hp, List.filter_append, List.map_append, ← List.append_assoc]
  congr 1
  cases hc : chG was p <;> simp [hc]
theorem chW_pre (was is : List (ByteArray × Int)) (i : Nat) : chW was is i <+: chW was is was.length := by
  unfold chW
  obtain ⟨t, ht⟩ : was.take i <+: was.take was.length := by rw [List.take_length]; exact List.take_prefix _ _
  rw [← ht, List.filter_append, List.map_append]; exact List.prefix_append _ _
theorem chI_pre (was is : List (ByteArray × Int)) (i : Nat) : chI was is i <+: chL was is := by
  unfold chL chI
  obtain ⟨t, ht⟩ : is.take i <+: is.take is.length := by rw [List.take_length]; exact List.take_prefix _ _
  rw [← ht, List.filter_append, List.map_append, ← List.append_assoc]; exact List.prefix_append _ _
theorem chW_all (was is : List (ByteArray × Int)) (i : Nat) : chW was is i <+: chL was is := (chW_pre was is i).trans (List.prefix_append _ _)
def encU (x : ByteArray) : Array Value := #[.string x]
theorem lt_of_pre {l m : List ByteArray} {x : ByteArray} (h : l ++ [x] <+: m) : l.length < m.length := by
  have := h.length_le; simp at this; omega

set_option maxHeartbeats 16000000 in
theorem changed1_in (n : Nat) (hn : 2 ≤ n) (l : Nat) (bw bi : Nat) (was is : Lv) (vw vi : Value) (w0 : World) (hw : Arr w0 bw 37 [.int .i64 was.a, .int .i64 was.s, .int .i64 was.i, .int .i64 was.k, .int .i64 was.b, .int .i64 was.r, vw]) (hi : Arr w0 bi 37 [.int .i64 is.a, .int .i64 is.s, .int .i64 is.i, .int .i64 is.k, .int .i64 is.b, .int .i64 is.r, vi]) (huw : UsAt w0 vw was.us) (hui : UsAt w0 vi is.us)
    (J Jx : List ByteArray → World → Prop) (W : World) (hW : Below w0.heap.size w0 W) (hJ : AbidesFrom W.heap.size J)
    (hY : ∀ pre x W1, J pre W1 → pre.length < (chL was.us is.us).length → YieldAt Fence.wide (n - 1) Tryz.prog l (encU x) W1 fun e W' =>
      (e = .returned (.bool true) ∧ J (pre ++ [x]) W' ∧ Below w0.heap.size W1 W') ∨ (e = .returned (.bool false) ∧ Jx (pre ++ [x]) W'))
    (h0 : J [] W) :
    CallsIn Fence.wide n Tryz.prog 118 #[.func (.yield l) #[] #[], .pointer (some ⟨bw, 0, none⟩), .pointer (some ⟨bi, 0, none⟩)] W fun e W' => (∃ v, e = .returned v) ∧
      ((∃ ys, ys = chL was.us is.us ∧ J ys W') ∨ (∃ pre, pre <+: chL was.us is.us ∧ Jx pre W')) := by
  have HY := hidp hY; have HUw := hidp huw; have HUi := hidp hui; have HWB := hidp hW
  clear hY huw hui hW
  obtain ⟨aw, cw, rfl⟩ := HUw.out.form
  obtain ⟨ai, ci, rfl⟩ := HUi.out.form
  obtain ⟨nw, hnw⟩ : ∃ k, was.us.length = k := ⟨_, rfl⟩
  obtain ⟨ni, hni⟩ : ∃ k, is.us.length = k := ⟨_, rfl⟩
  have HNw := hidp hnw; have HNi := hidp hni
  have h47w := HUw.out.len
  have h47i := HUi.out.len
  rw [hnw] at hw HUw h47w
  rw [hni] at hi HUi h47i
  have HW0 := hidp hw; have HI0 := hidp hi
  clear hnw hni hw hi
  have HWW := hidp (HW0.out.below HWB.out HW0.out.lt)
  refine callsIn_of_wp Tryz.func118 rfl trivial ?_ rfl
  simp only [Tryz.ntmps118, List.size_toArray, List.length_cons, List.length_nil, Nat.reduceAdd, Nat.reduceSub, Array.replicate_succ, Array.replicate_zero, List.push_toArray, List.append_toArray, List.nil_append, List.cons_append]
  obtain ⟨x0, x1, x2, x3, x4, x5, x6⟩ := arr7 HWW.out
  gi_wp2
  clear x0 x1 x2 x3 x4 x5 x6
  clear HWW
  gi_loopw [15] (fun t15 wr => ∃ i : Nat, t15 = .int .i64 (i : Int) ∧ i ≤ nw ∧ J (chW was.us is.us i) wr ∧ Below w0.heap.size w0 wr) (fun t15 _ => nw - (intOf t15).toNat)
  case atStart => exact ⟨0, rfl, by omega, h0, HWB.out⟩
  case round =>
    obtain ⟨i, rfl, hi, hJs, hb⟩ := hrel
    have HJ := hidp hJs; have HB := hidp hb
    clear hJs hb
    by_cases hlt : i < nw
    · have e1 : decide ((i : Int) < (nw : Int)) = true := by simp; omega
      have hgl : i < was.us.length := by rw [HNw.out]; exact hlt
      obtain ⟨BK, off, c, e2, hc, hBK0, hR0⟩ := HUw.out.get (by rw [HNw.out]; omega)
      rw [HNw.out] at e2
      simp only [Value.slice.injEq] at e2
      obtain ⟨rfl, -, rfl⟩ := e2
      obtain ⟨p, hpe0⟩ : ∃ p, was.us[i] = p := ⟨_, rfl⟩
      have HRI := hidp (show wr.rangeAt BK (off + 2 * i) (uR p) from by rw [← hpe0]; exact rangeAt_below (hR0 i hgl) HB.out hBK0)
      have hst := chW_succ (was := was.us) (is := is.us) hgl hpe0
      have co := hidp (fun W h => own_any W is (.slice ai ni ci) p.1 h)
      clear hR0 hBK0 hpe0 hc
      cases hq : ownL is.us p.1 with
      | none =>
        rw [hq] at co
        simp only [ownV] at co
        have HS := hidp (show chW was.us is.us (i + 1) = chW was.us is.us i ++ [p.1] from by rw [hst]; unfold chF; rw [hq]; rfl)
        clear hst hq
        gi_wp2_with (first | (refine Rnd.to_in Rnd.wideF rfl ?_; refine wpL_idxR tyU rfl (.tmp 13) (.tmp 15) rfl BK off nw _ i rfl rfl hlt ?_; refine ⟨rfl, ?_⟩) | (refine Rnd.to_in Rnd.wideF rfl ?_; refine wpL_atR tyU rfl (.tmp 17) rfl BK (off + 2 * i) (uR p) rfl rfl HRI.out ?_; refine ⟨rfl, ?_⟩) | (refine Rnd.to_in Rnd.wideF rfl ?_; refine Rt.wpL_new tyP (some 5) rfl rfl rfl ?_; intro b9 wq1 n1; refine ⟨rfl, ?_⟩) | (refine Rnd.to_in Rnd.wideF rfl ?_; refine Rt.wpL_put tyP rfl (.tmp 5) (.tmp 18) rfl b9 (uR p) rfl rfl rfl (uR_one p) zU rfl n1.arr ?_; intro wq2 ha hp; refine ⟨rfl, ?_⟩; have HBQ := hidp (n1.put hp); have HE2 := hidp (show Arr wq2 b9 83 [.string p.1, .int .i64 p.2] from ha); obtain ⟨y0, y1⟩ := arr2 HE2.out; clear ha hp n1; have HBW := hidp (HB.out.trans (HBQ.out.mono HB.out.size)); have HO2 := hidp (HI0.out.below HBW.out HI0.out.lt)) | (refine Rnd.to_in Rnd.wideF rfl ?_; refine Rt.wpL_get tyL rfl (.tmp 2) rfl bi [.int .i64 is.a, .int .i64 is.s, .int .i64 is.i, .int .i64 is.k, .int .i64 is.b, .int .i64 is.r, .slice ai ni ci] rfl rfl HO2.out ?_; refine ⟨rfl, ?_⟩))
        refine ⟨trivial, fun _ => by omega, ?_⟩
        refine (callsIn_wide.2 (co.out _ (HUi.out.to HBW.out))).mono ?_
        rintro e1 w2 ⟨rfl, hb2⟩
        have HBX := hidp (HBQ.out.trans (hb2.mono HBQ.out.size)); have HE3 := hidp (HE2.out.below hb2 HE2.out.lt)
        clear hb2 HE2 HBQ HBW HO2 y0 y1
        obtain ⟨y0, y1⟩ := arr2 HE3.out
        have hpx := hidp (show chW was.us is.us i ++ [p.1] <+: chL was.us is.us from by rw [← HS.out]; exact chW_all _ _ _)
        have hJ2 := hJ _ wr w2 none HJ.out (grown_of_below HBX.out) (fun r e => by cases e)
        obtain ⟨fn, tmps, assign, body, hy, hR⟩ := HY.out _ p.1 w2 hJ2 (lt_of_pre hpx.out)
        simp only [encU] at hy hR
        gi_wp2
        refine ⟨fun _ => by omega, hR.mono ?_⟩
        rintro e1 W3 (⟨rfl, hJ3, hk3⟩ | ⟨rfl, hJx3⟩)
        · have HB3 := hidp ((HB.out.trans (HBX.out.mono HB.out.size)).trans hk3)
          have HJ3 := hidp (show J (chW was.us is.us (i + 1)) W3 from by rw [HS.out]; exact hJ3)
          clear hk3 hJ3
          gi_wp2
          exact ⟨⟨i + 1, by go_num, by omega, HJ3.out, HB3.out⟩, by simp [intOf]; omega⟩
        · gi_wp2
          refine bodyPost_ret (results_none rfl _ _ _) rfl ?_
          exact ⟨⟨_, rfl⟩, .inr ⟨_, hpx.out, hJx3⟩⟩
      | some k =>
        rw [hq] at co
        simp only [ownV] at co
        cases hk : (k != p.2) with
        | true =>
          have HS := hidp (show chW was.us is.us (i + 1) = chW was.us is.us i ++ [p.1] from by rw [hst]; unfold chF; rw [hq]; simp only [hk]; rfl)
          clear hst hq
          gi_wp2_with (first | (refine Rnd.to_in Rnd.wideF rfl ?_; refine wpL_idxR tyU rfl (.tmp 13) (.tmp 15) rfl BK off nw _ i rfl rfl hlt ?_; refine ⟨rfl, ?_⟩) | (refine Rnd.to_in Rnd.wideF rfl ?_; refine wpL_atR tyU rfl (.tmp 17) rfl BK (off + 2 * i) (uR p) rfl rfl HRI.out ?_; refine ⟨rfl, ?_⟩) | (refine Rnd.to_in Rnd.wideF rfl ?_; refine Rt.wpL_new tyP (some 5) rfl rfl rfl ?_; intro b9 wq1 n1; refine ⟨rfl, ?_⟩) | (refine Rnd.to_in Rnd.wideF rfl ?_; refine Rt.wpL_put tyP rfl (.tmp 5) (.tmp 18) rfl b9 (uR p) rfl rfl rfl (uR_one p) zU rfl n1.arr ?_; intro wq2 ha hp; refine ⟨rfl, ?_⟩; have HBQ := hidp (n1.put hp); have HE2 := hidp (show Arr wq2 b9 83 [.string p.1, .int .i64 p.2] from ha); obtain ⟨y0, y1⟩ := arr2 HE2.out; clear ha hp n1; have HBW := hidp (HB.out.trans (HBQ.out.mono HB.out.size)); have HO2 := hidp (HI0.out.below HBW.out HI0.out.lt)) | (refine Rnd.to_in Rnd.wideF rfl ?_; refine Rt.wpL_get tyL rfl (.tmp 2) rfl bi [.int .i64 is.a, .int .i64 is.s, .int .i64 is.i, .int .i64 is.k, .int .i64 is.b, .int .i64 is.r, .slice ai ni ci] rfl rfl HO2.out ?_; refine ⟨rfl, ?_⟩))
          refine ⟨trivial, fun _ => by omega, ?_⟩
          refine (callsIn_wide.2 (co.out _ (HUi.out.to HBW.out))).mono ?_
          rintro e1 w2 ⟨rfl, hb2⟩
          have HBX := hidp (HBQ.out.trans (hb2.mono HBQ.out.size)); have HE3 := hidp (HE2.out.below hb2 HE2.out.lt)
          clear hb2 HE2 HBQ HBW HO2 y0 y1
          obtain ⟨y0, y1⟩ := arr2 HE3.out
          have hpx := hidp (show chW was.us is.us i ++ [p.1] <+: chL was.us is.us from by rw [← HS.out]; exact chW_all _ _ _)
          have hJ2 := hJ _ wr w2 none HJ.out (grown_of_below HBX.out) (fun r e => by cases e)
          obtain ⟨fn, tmps, assign, body, hy, hR⟩ := HY.out _ p.1 w2 hJ2 (lt_of_pre hpx.out)
          simp only [encU] at hy hR
          gi_wp2
          refine ⟨fun _ => by omega, hR.mono ?_⟩
          rintro e1 W3 (⟨rfl, hJ3, hk3⟩ | ⟨rfl, hJx3⟩)
          · have HB3 := hidp ((HB.out.trans (HBX.out.mono HB.out.size)).trans hk3)
            have HJ3 := hidp (show J (chW was.us is.us (i + 1)) W3 from by rw [HS.out]; exact hJ3)
            clear hk3 hJ3
            gi_wp2
            exact ⟨⟨i + 1, by go_num, by omega, HJ3.out, HB3.out⟩, by simp [intOf]; omega⟩
          · gi_wp2
            refine bodyPost_ret (results_none rfl _ _ _) rfl ?_
            exact ⟨⟨_, rfl⟩, .inr ⟨_, hpx.out, hJx3⟩⟩
        | false =>
          have HS := hidp (show chW was.us is.us (i + 1) = chW was.us is.us i ++ [] from by rw [hst]; unfold chF; rw [hq]; simp only [hk]; rfl)
          clear hst hq
          gi_wp2_with (first | (refine Rnd.to_in Rnd.wideF rfl ?_; refine wpL_idxR tyU rfl (.tmp 13) (.tmp 15) rfl BK off nw _ i rfl rfl hlt ?_; refine ⟨rfl, ?_⟩) | (refine Rnd.to_in Rnd.wideF rfl ?_; refine wpL_atR tyU rfl (.tmp 17) rfl BK (off + 2 * i) (uR p) rfl rfl HRI.out ?_; refine ⟨rfl, ?_⟩) | (refine Rnd.to_in Rnd.wideF rfl ?_; refine Rt.wpL_new tyP (some 5) rfl rfl rfl ?_; intro b9 wq1 n1; refine ⟨rfl, ?_⟩) | (refine Rnd.to_in Rnd.wideF rfl ?_; refine Rt.wpL_put tyP rfl (.tmp 5) (.tmp 18) rfl b9 (uR p) rfl rfl rfl (uR_one p) zU rfl n1.arr ?_; intro wq2 ha hp; refine ⟨rfl, ?_⟩; have HBQ := hidp (n1.put hp); have HE2 := hidp (show Arr wq2 b9 83 [.string p.1, .int .i64 p.2] from ha); obtain ⟨y0, y1⟩ := arr2 HE2.out; clear ha hp n1; have HBW := hidp (HB.out.trans (HBQ.out.mono HB.out.size)); have HO2 := hidp (HI0.out.below HBW.out HI0.out.lt)) | (refine Rnd.to_in Rnd.wideF rfl ?_; refine Rt.wpL_get tyL rfl (.tmp 2) rfl bi [.int .i64 is.a, .int .i64 is.s, .int .i64 is.i, .int .i64 is.k, .int .i64 is.b, .int .i64 is.r, .slice ai ni ci] rfl rfl HO2.out ?_; refine ⟨rfl, ?_⟩))
          refine ⟨trivial, fun _ => by omega, ?_⟩
          refine (callsIn_wide.2 (co.out _ (HUi.out.to HBW.out))).mono ?_
          rintro e1 w2 ⟨rfl, hb2⟩
          have HBX := hidp (HBQ.out.trans (hb2.mono HBQ.out.size)); have HE3 := hidp (HE2.out.below hb2 HE2.out.lt)
          clear hb2 HE2 HBQ HBW HO2 y0 y1
          obtain ⟨y0, y1⟩ := arr2 HE3.out
          have HJ3 := hidp (show J (chW was.us is.us (i + 1)) w2 from by rw [HS.out, List.append_nil]; exact hJ _ wr w2 none HJ.out (grown_of_below HBX.out) (fun r e => by cases e))
          have HB3 := hidp (HB.out.trans (HBX.out.mono HB.out.size))
          gi_wp2
          refine ⟨fun _ _ => trivial, ?_⟩
          gi_wp2
          exact ⟨⟨i + 1, by go_num, by omega, HJ3.out, HB3.out⟩, by simp [intOf]; omega⟩
    · have e1 : decide ((i : Int) < (nw : Int)) = false := by simp; omega
      have HJ1 := hidp (show J (chI was.us is.us 0) wr from by
        unfold chI
        rw [show (is.us.take 0).filter (chG was.us) = [] from rfl, List.map_nil, List.append_nil, show was.us.length = i from by rw [HNw.out]; omega]
        exact HJ.out)
      have HII := hidp (HI0.out.below HB.out HI0.out.lt)
      obtain ⟨x0, x1, x2, x3, x4, x5, x6⟩ := arr7 HII.out
      gi_wp2
      clear x0 x1 x2 x3 x4 x5 x6
      have HBs := HB
      clear HII HJ HB hlt hi e1
      gi_loopw [45] (fun t45 wr => ∃ i : Nat, t45 = .int .i64 (i : Int) ∧ i ≤ ni ∧ J (chI was.us is.us i) wr ∧ Below w0.heap.size w0 wr) (fun t45 _ => ni - (intOf t45).toNat)
      case atStart => exact ⟨0, rfl, by omega, HJ1.out, HBs.out⟩
      case round =>
        obtain ⟨i, rfl, hi, hJs, hb⟩ := hrel
        have HJ := hidp hJs; have HB := hidp hb
        clear hJs hb HBs HJ1
        by_cases hlt : i < ni
        · have e1 : decide ((i : Int) < (ni : Int)) = true := by simp; omega
          have hgl : i < is.us.length := by rw [HNi.out]; exact hlt
          obtain ⟨BK, off, c, e2, hc, hBK0, hR0⟩ := HUi.out.get (by rw [HNi.out]; omega)
          rw [HNi.out] at e2
          simp only [Value.slice.injEq] at e2
          obtain ⟨rfl, -, rfl⟩ := e2
          obtain ⟨p, hpe0⟩ : ∃ p, is.us[i] = p := ⟨_, rfl⟩
          have HRI := hidp (show wr.rangeAt BK (off + 2 * i) (uR p) from by rw [← hpe0]; exact rangeAt_below (hR0 i hgl) HB.out hBK0)
          have hst := chI_succ (was := was.us) (is := is.us) hgl hpe0
          have co := hidp (fun W h => own_any W was (.slice aw nw cw) p.1 h)
          clear hR0 hBK0 hpe0 hc
          cases hq : ownL was.us p.1 with
          | none =>
            rw [hq] at co
            simp only [ownV] at co
            have HS := hidp (show chI was.us is.us (i + 1) = chI was.us is.us i ++ [p.1] from by rw [hst]; unfold chG; rw [hq]; rfl)
            clear hst hq
            gi_wp2_with (first | (refine Rnd.to_in Rnd.wideF rfl ?_; refine wpL_idxR tyU rfl (.tmp 43) (.tmp 45) rfl BK off ni _ i rfl rfl hlt ?_; refine ⟨rfl, ?_⟩) | (refine Rnd.to_in Rnd.wideF rfl ?_; refine wpL_atR tyU rfl (.tmp 47) rfl BK (off + 2 * i) (uR p) rfl rfl HRI.out ?_; refine ⟨rfl, ?_⟩) | (refine Rnd.to_in Rnd.wideF rfl ?_; refine Rt.wpL_new tyP (some 9) rfl rfl rfl ?_; intro b9 wq1 n1; refine ⟨rfl, ?_⟩) | (refine Rnd.to_in Rnd.wideF rfl ?_; refine Rt.wpL_put tyP rfl (.tmp 9) (.tmp 48) rfl b9 (uR p) rfl rfl rfl (uR_one p) zU rfl n1.arr ?_; intro wq2 ha hp; refine ⟨rfl, ?_⟩; have HBQ := hidp (n1.put hp); have HE2 := hidp (show Arr wq2 b9 83 [.string p.1, .int .i64 p.2] from ha); obtain ⟨y0, y1⟩ := arr2 HE2.out; clear ha hp n1; have HBW := hidp (HB.out.trans (HBQ.out.mono HB.out.size)); have HO2 := hidp (HW0.out.below HBW.out HW0.out.lt)) | (refine Rnd.to_in Rnd.wideF rfl ?_; refine Rt.wpL_get tyL rfl (.tmp 1) rfl bw [.int .i64 was.a, .int .i64 was.s, .int .i64 was.i, .int .i64 was.k, .int .i64 was.b, .int .i64 was.r, .slice aw nw cw] rfl rfl HO2.out ?_; refine ⟨rfl, ?_⟩))
            refine ⟨trivial, fun _ => by omega, ?_⟩
            refine (callsIn_wide.2 (co.out _ (HUw.out.to HBW.out))).mono ?_
            rintro e1 w2 ⟨rfl, hb2⟩
            have HBX := hidp (HBQ.out.trans (hb2.mono HBQ.out.size)); have HE3 := hidp (HE2.out.below hb2 HE2.out.lt)
            clear hb2 HE2 HBQ HBW HO2 y0 y1
            obtain ⟨y0, y1⟩ := arr2 HE3.out
            have hpx := hidp (show chI was.us is.us i ++ [p.1] <+: chL was.us is.us from by rw [← HS.out]; exact chI_pre _ _ _)
            have hJ2 := hJ _ wr w2 none HJ.out (grown_of_below HBX.out) (fun r e => by cases e)
            obtain ⟨fn, tmps, assign, body, hy, hR⟩ := HY.out _ p.1 w2 hJ2 (lt_of_pre hpx.out)
            simp only [encU] at hy hR
            gi_wp2
            refine ⟨fun _ => by omega, hR.mono ?_⟩
            rintro e1 W3 (⟨rfl, hJ3, hk3⟩ | ⟨rfl, hJx3⟩)
            · have HB3 := hidp ((HB.out.trans (HBX.out.mono HB.out.size)).trans hk3)
              have HJ3 := hidp (show J (chI was.us is.us (i + 1)) W3 from by rw [HS.out]; exact hJ3)
              clear hk3 hJ3
              gi_wp2
              exact ⟨⟨i + 1, by go_num, by omega, HJ3.out, HB3.out⟩, by simp [intOf]; omega⟩
            · gi_wp2
              refine bodyPost_ret (results_none rfl _ _ _) rfl ?_
              exact ⟨⟨_, rfl⟩, .inr ⟨_, hpx.out, hJx3⟩⟩
          | some k =>
            rw [hq] at co
            simp only [ownV] at co
            have HS := hidp (show chI was.us is.us (i + 1) = chI was.us is.us i ++ [] from by rw [hst]; unfold chG; rw [hq]; rfl)
            clear hst hq
            gi_wp2_with (first | (refine Rnd.to_in Rnd.wideF rfl ?_; refine wpL_idxR tyU rfl (.tmp 43) (.tmp 45) rfl BK off ni _ i rfl rfl hlt ?_; refine ⟨rfl, ?_⟩) | (refine Rnd.to_in Rnd.wideF rfl ?_; refine wpL_atR tyU rfl (.tmp 47) rfl BK (off + 2 * i) (uR p) rfl rfl HRI.out ?_; refine ⟨rfl, ?_⟩) | (refine Rnd.to_in Rnd.wideF rfl ?_; refine Rt.wpL_new tyP (some 9) rfl rfl rfl ?_; intro b9 wq1 n1; refine ⟨rfl, ?_⟩) | (refine Rnd.to_in Rnd.wideF rfl ?_; refine Rt.wpL_put tyP rfl (.tmp 9) (.tmp 48) rfl b9 (uR p) rfl rfl rfl (uR_one p) zU rfl n1.arr ?_; intro wq2 ha hp; refine ⟨rfl, ?_⟩; have HBQ := hidp (n1.put hp); have HE2 := hidp (show Arr wq2 b9 83 [.string p.1, .int .i64 p.2] from ha); obtain ⟨y0, y1⟩ := arr2 HE2.out; clear ha hp n1; have HBW := hidp (HB.out.trans (HBQ.out.mono HB.out.size)); have HO2 := hidp (HW0.out.below HBW.out HW0.out.lt)) | (refine Rnd.to_in Rnd.wideF rfl ?_; refine Rt.wpL_get tyL rfl (.tmp 1) rfl bw [.int .i64 was.a, .int .i64 was.s, .int .i64 was.i, .int .i64 was.k, .int .i64 was.b, .int .i64 was.r, .slice aw nw cw] rfl rfl HO2.out ?_; refine ⟨rfl, ?_⟩))
            refine ⟨trivial, fun _ => by omega, ?_⟩
            refine (callsIn_wide.2 (co.out _ (HUw.out.to HBW.out))).mono ?_
            rintro e1 w2 ⟨rfl, hb2⟩
            have HBX := hidp (HBQ.out.trans (hb2.mono HBQ.out.size)); have HE3 := hidp (HE2.out.below hb2 HE2.out.lt)
            clear hb2 HE2 HBQ HBW HO2 y0 y1
            obtain ⟨y0, y1⟩ := arr2 HE3.out
            have HJ3 := hidp (show J (chI was.us is.us (i + 1)) w2 from by rw [HS.out, List.append_nil]; exact hJ _ wr w2 none HJ.out (grown_of_below HBX.out) (fun r e => by cases e))
            have HB3 := hidp (HB.out.trans (HBX.out.mono HB.out.size))
            gi_wp2
            refine ⟨fun _ _ => trivial, ?_⟩
            gi_wp2
            exact ⟨⟨i + 1, by go_num, by omega, HJ3.out, HB3.out⟩, by simp [intOf]; omega⟩
        · have e1 : decide ((i : Int) < (ni : Int)) = false := by simp; omega
          have HJ1 := hidp (show J (chL was.us is.us) wr from by
            unfold chL
            rw [show is.us.length = i from by rw [HNi.out]; omega]
            exact HJ.out)
          gi_wp2
          go_end0
          exact ⟨⟨_, rfl⟩, .inl ⟨_, rfl, HJ1.out⟩⟩
/-- changed hands back a value that supplies the users. -/
theorem changed_stops (n : Nat) (hn : 2 ≤ n) (bw bi : Nat) (was is : Lv) (vw vi : Value) (w0 : World) (hw : Arr w0 bw 37 [.int .i64 was.a, .int .i64 was.s, .int .i64 was.i, .int .i64 was.k, .int .i64 was.b, .int .i64 was.r, vw]) (hi : Arr w0 bi 37 [.int .i64 is.a, .int .i64 is.s, .int .i64 is.i, .int .i64 is.k, .int .i64 is.b, .int .i64 is.r, vi]) (huw : UsAt w0 vw was.us) (hui : UsAt w0 vi is.us) :
    SeqStopsK Fence.wide n Tryz.prog 118 #[.pointer (some ⟨bw, 0, none⟩), .pointer (some ⟨bi, 0, none⟩)] encU (Below w0.heap.size) (fun ys => ys = chL was.us is.us) (fun pre => pre <+: chL was.us is.us) (chL was.us is.us).length w0 :=
  fun l J Jx W hW hJ _ hY h0 => changed1_in n hn l bw bi was is vw vi w0 hw hi huw hui J Jx W hW hJ hY h0
end Go.Proofs.YtiakfopdohcigaaGreatDoor
