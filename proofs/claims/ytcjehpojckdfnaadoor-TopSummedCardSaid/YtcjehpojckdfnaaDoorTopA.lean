/-
  TopSummed: the walk.
-/
import Derived.Test.YtcjehpojckdfnaaDoorOctQ
import Derived.Test.YtcjehpojckdfnaaDoorOctP
import Derived.Test.YtcjehpojckdfnaaDoorOctL
import Derived.Test.YtcjehpojckdfnaaDoorShaW
namespace Go.Proofs.YtcjehpojckdfnaaDoor
set_option linter.unusedVariables false
set_option linter.unusedSimpArgs false
set_option maxRecDepth 100000
open Go.RowKit

theorem begins_any (w : World) : Calls Tryd.prog 47 #[] w fun e w' => e = .returned (.bool true) ∧ Below w.heap.size w w' := by
  have c1 : Hid (∀ w, Calls Tryd.prog 70 #[.int .u64 300] w fun e w' => e = .returned (.tuple #[.string ⟨#[172, 2]⟩, .int .i64 0]) ∧ Below w.heap.size w w') := fun w => by
    have := num_any w 300 (by omega); rw [numS_yes (by omega), numE_yes (by omega), e300] at this; exact this
  go_enter Tryd.func47, Tryd.ntmps47
  go_wp2_with fail
  refine (c1.out _).mono ?_
  rintro e w1 ⟨rfl, hb1⟩
  go_wp2_with fail
  go_ret
  exact ⟨rfl, hb1⟩
theorem al_enc (ss : List ByteArray) (h : okL ss) : al (mkS (encL ss)) = (ss, 0) := by
  have hg := gl_back ss h []
  rw [List.append_nil] at hg
  unfold al
  rw [hg]
  simp [mkS_size]
theorem encL_inj {ss tt : List ByteArray} (h : okL ss) (h' : okL tt) (e : encL ss = encL tt) : ss = tt := by
  have h1 := al_enc ss h
  have h2 := al_enc tt h'
  rw [e, h2] at h1
  exact (congrArg Prod.fst h1).symm
theorem eq_rowT (xs : List UInt8) (hl : xs.length = 32) (A : List Value) (hA : u8s xs = A) : ∀ W, (Op.equalIn 10000 24 (.agg A.toArray) (.agg A.toArray)).run Tryd.prog W = .ok true W := by
  intro W; rw [← hA, eqin_hash W _ _ hl hl, decide_eq_true rfl]
def smK (ss tt : List ByteArray) (k : Nat) : Bool := decide (ss.length = tt.length ∧ ss.take k = tt.take k)
theorem smK_succ (ss tt : List ByteArray) (k : Nat) (h : k < ss.length) (h' : k < tt.length) (hk : smK ss tt k = true) : smK ss tt (k + 1) = decide (ss[k] = tt[k]) := by
  unfold smK at *
  rw [decide_eq_true_iff] at hk
  rw [Bool.eq_iff_iff, decide_eq_true_iff, decide_eq_true_iff, List.take_add_one, List.take_add_one, List.getElem?_eq_getElem h, List.getElem?_eq_getElem h', hk.2]
  simp only [Option.toList, hk.1, true_and]
  constructor
  · intro e; exact (List.append_inj_right' e rfl) |> List.cons.inj |> And.left
  · intro e; rw [e]
theorem smK_no (ss tt : List ByteArray) (k : Nat) (hk : smK ss tt k = false) : smK ss tt (k + 1) = false := by
  unfold smK at *
  rw [decide_eq_false_iff_not] at *
  rintro ⟨h1, h2⟩
  refine hk ⟨h1, ?_⟩
  have := congrArg (List.take k) h2
  simpa [List.take_take, Nat.min_eq_left] using this
theorem smK_zero (ss tt : List ByteArray) : smK ss tt 0 = decide (ss.length = tt.length) := by unfold smK; simp
theorem smK_all (ss tt : List ByteArray) : smK ss tt ss.length = decide (ss = tt) := by
  unfold smK
  rw [Bool.eq_iff_iff, decide_eq_true_iff, decide_eq_true_iff]
  constructor
  · rintro ⟨h1, h2⟩; rw [List.take_of_length_le (Nat.le_refl _), List.take_of_length_le (by omega)] at h2; exact h2
  · rintro rfl; exact ⟨rfl, rfl⟩
attribute [irreducible] smK
theorem smK_len {ss tt : List ByteArray} {k : Nat} (h : smK ss tt k = true) : ss.length = tt.length := by unfold smK at h; exact (decide_eq_true_iff.1 h).1

set_option maxHeartbeats 8000000 in
theorem walk_topSummed (w : World) (v : Value) (ss : List ByteArray) (hat : StrsAt w v ss) (hn : ss.length ≤ 140737488351232) (hz : ∀ s ∈ ss, s.size ≤ 140737488351232)
    (v' : Value) (tt : List ByteArray) (hat' : StrsAt w v' tt) (hn' : tt.length ≤ 140737488351232) (hz' : ∀ s ∈ tt, s.size ≤ 140737488351232) (hK : KT w) :
    Calls Tryd.prog 15 #[v, v'] w fun e w' => e = .returned (.bool true) ∧ Below w.heap.size w w' := by
  have HK := hidp hK
  have hkp := hK.pos
  have HAT := hidp hat; have HAT' := hidp hat'; have HZ := hidp hz; have HZ' := hidp hz'
  clear hK hat hat' hz hz'
  have HB := hidp begins_any
  have hl2 : Hid (∀ W, Below w.heap.size w W → Calls Tryd.prog 48 #[v'] W fun e w' => e = .returned (.tuple #[.string (listS tt), .int .i64 (listE tt)]) ∧ Below W.heap.size W w') := fun W hb => list_any W v' tt (HAT'.out.below hb (Nat.le_refl _)) hn' HZ'.out
  by_cases hok : okL ss
  · have hl1 : Hid (∀ W, Below w.heap.size w W → Calls Tryd.prog 48 #[v] W fun e w' => e = .returned (.tuple #[.string (mkS (encL ss)), .int .i64 0]) ∧ Below W.heap.size W w') := fun W hb => by
      have := list_any W v ss (HAT.out.below hb (Nat.le_refl _)) hn HZ.out
      rw [listS_yes hok, listE_yes hok] at this; exact this
    have hal : Hid (∀ W, (encL ss).length ≤ 281474976710656 → Calls Tryd.prog 49 #[.string (mkS (encL ss))] W fun e w' => ∃ v, e = .returned (.tuple #[v, .int .i64 0]) ∧ StrsAt w' v ss ∧ Below W.heap.size W w') := fun W hlen => by
      have := all_any W (mkS (encL ss)) (by rw [mkS_size]; exact hlen)
      rw [al_enc ss hok] at this; exact this
    have hlen : (encL ss).length ≤ 281474976710656 := by
      have h1 := encTs_len ss hok.2
      have h2 := encN_len64 ss.length (by omega)
      have h3 := hok.1
      unfold encL; rw [List.length_append]; omega
    have hpos : 0 < (encL ss).length := by have := encN_pos ss.length; unfold encL; rw [List.length_append]; omega
    obtain ⟨a, ha⟩ : ∃ a, mkS (encL ss) = a := ⟨_, rfl⟩
    have has : (encL ss).length = a.size := by rw [← ha, mkS_size]
    rw [has] at hlen hpos
    rw [ha] at hl1 hal
    rw [has] at hal
    have hne : a.toList.isEmpty = false := by
      rw [← ha, mkS_toList]; cases h : encL ss with
      | nil => rw [h] at has; simp at has; omega
      | cons x l => rfl
    have HA := hidp ha
    have HOK := hidp hok
    clear ha has hok
    by_cases hbig : 262144 < a.size
    · go_enter Tryd.func15, Tryd.ntmps15
      go_wp2_with fail
      refine (HB.out _).mono ?_
      rintro e w1 ⟨rfl, hb1⟩
      have HB1 := hidp hb1; clear hb1
      go_wp2_with fail
      refine (hl1.out _ HB1.out).mono ?_
      rintro e w2 ⟨rfl, hb2⟩
      have HB2 := hidp (HB1.out.trans (hb2.mono HB1.out.size)); clear hb2
      go_wp2_with fail
      refine (hl2.out _ HB2.out).mono ?_
      rintro e w3 ⟨rfl, hb3⟩
      have HB3 := hidp (HB2.out.trans (hb3.mono HB2.out.size)); clear hb3
      go_wp2_with fail
      refine (hal.out _ hlen).mono ?_
      rintro e w4 ⟨vx, rfl, -, hb4⟩
      have HB4 := hidp (HB3.out.trans (hb4.mono HB3.out.size)); clear hb4
      go_wp2_with fail
      go_ret
      exact ⟨rfl, HB4.out⟩
    · obtain ⟨n, hnn⟩ : ∃ n, ss.length = n := ⟨_, rfl⟩
      obtain ⟨n', hnn'⟩ : ∃ n, tt.length = n := ⟨_, rfl⟩
      have HN := hidp hnn; have HN' := hidp hnn'
      obtain ⟨c0, cap0, rfl, hc0⟩ := HAT.out
      obtain ⟨c1, cap1, rfl, hc1⟩ := HAT'.out
      have hn256 : n ≤ 256 := by rw [← hnn]; exact HOK.out.1
      rw [hnn'] at hn'
      rw [hnn] at hl1 hn
      rw [hnn'] at hl2
      rw [hnn, hnn']
      have HC0 := hidp hc0; have HC1 := hidp hc1
      clear hc0 hc1 hnn hnn' HAT HAT'
      obtain ⟨b2, hb2⟩ : ∃ b, listS tt = b := ⟨_, rfl⟩
      obtain ⟨e2, he2⟩ : ∃ e, listE tt = e := ⟨_, rfl⟩
      rw [hb2, he2] at hl2
      have HB2 := hidp hb2; have HE2 := hidp he2
      clear hb2 he2
      have hnself : ((n : Int) != (n : Int)) = false := by simp
      obtain ⟨z, hz⟩ : ∃ z, ((n : Int) == (n' : Int)) = z := ⟨_, rfl⟩
      have HZZ := hidp (show smK ss tt 0 = z from by
        rw [smK_zero, ← hz, HN.out, HN'.out, Bool.eq_iff_iff, decide_eq_true_iff, beq_iff_eq]; omega)
      go_enter Tryd.func15, Tryd.ntmps15
      go_wp2_with fail
      refine (HB.out _).mono ?_
      rintro e w1 ⟨rfl, hb1⟩
      have HB1 := hidp hb1; clear hb1
      go_wp2_with fail
      refine (hl1.out _ HB1.out).mono ?_
      rintro e w2 ⟨rfl, hb2⟩
      have HB2w := hidp (HB1.out.trans (hb2.mono HB1.out.size)); clear hb2
      go_wp2_with fail
      refine (hl2.out _ HB2w.out).mono ?_
      rintro e w3 ⟨rfl, hb3⟩
      have HB3 := hidp (HB2w.out.trans (hb3.mono HB2w.out.size)); clear hb3
      go_wp2_with fail
      refine (hal.out _ hlen).mono ?_
      rintro e W ⟨vx, rfl, hsx, hb4⟩
      have HB4 := hidp (HB3.out.trans (hb4.mono HB3.out.size)); clear hb4
      obtain ⟨cx, capx, rfl, hcx⟩ := hsx
      rw [HN.out]
      have HCX := hidp hcx
      have hsW := HB4.out.size
      clear hcx
      go_wp2_with fail
      go_loopw [11, 61] (fun t11 t61 wr => ∃ k : Nat, t61 = .int .i64 (k : Int) ∧ k ≤ n ∧ t11 = .bool (smK ss tt k) ∧ Below W.heap.size W wr) (fun _ t61 _ => n - (intOf t61).toNat)
      case atStart => exact ⟨0, rfl, by omega, by rw [HZZ.out], Below.refl _ _⟩
      case round =>
        obtain ⟨k, rfl, hk, rfl, hbw⟩ := hrel
        have hbs := hbw.size
        have HBW := hidp hbw
        clear hbw
        by_cases hlt : k < n
        · have hk1 : k < ss.length := by rw [HN.out]; exact hlt
          obtain ⟨bx, ox, rfl, hxc⟩ := HCX.out k hk1
          obtain ⟨bl, ol, rfl, hlc⟩ := HC0.out k hk1
          obtain ⟨s, hs⟩ : ∃ s, ss[k] = s := ⟨_, rfl⟩
          rw [hs] at hxc hlc
          have hxb := World.block_lt_of_cell? W _ hxc
          have hlb := World.block_lt_of_cell? w _ hlc
          simp only at hxb hlb
          have hxr := (HBW.out.cell (p := ⟨bx, ox + k, none⟩) hxb).trans hxc
          have hlW := (HB4.out.cell (p := ⟨bl, ol + k, none⟩) hlb).trans hlc
          have hlr := (HBW.out.cell (p := ⟨bl, ol + k, none⟩) (show bl < W.heap.size by omega)).trans hlW
          have HS := hidp hs
          have hss : s.size ≤ 8192 := by rw [← hs]; exact HOK.out.2 _ (List.getElem_mem _)
          have HLC := hidp hlc
          clear hs hxc hlc hlW
          have HLR := hidp hlr
          clear hlr
          obtain ⟨X, hX⟩ : ∃ X, u8s (shaL s.data.toList) = X := ⟨_, rfl⟩
          have hq := hidp (eq_rowT (shaL s.data.toList) (shaL_len _) X hX)
          have cs := hidp (show ∀ W', KT W' → Calls Tryd.prog 18 #[.string s] W' fun e w' => e = .returned (.agg X.toArray) ∧ Below W'.heap.size W' w' from fun W' h => by rw [← hX]; exact sum_any W' s (by omega) h)
          clear hX
          have hi0 : (0 : Int) ≤ (k : Int) := by omega
          have hi1 : (k : Int) < (n : Int) := by omega
          go_wp2_with fail
          have HKr := hidp (HK.out.below (HB4.out.trans (HBW.out.mono hsW)) hkp)
          have k1 := hidp (show ∀ w', Cls wr.heap.size wr w' → Calls Tryd.prog 18 #[.string s] w' fun e w'' => e = .returned (.agg X.toArray) ∧ Cls wr.heap.size wr w'' from fun w' h => (cs.out w' (h.kt HKr.out (by omega))).mono fun e w'' ⟨h1, h2⟩ => ⟨h1, h.step (Nat.le_refl _) h2⟩)
          have rc := hidp (show ∀ w', Cls wr.heap.size wr w' → w'.cell? ⟨bl, ol + k, none⟩ = some (.string s) from fun w' h => (Below.cell h (p := ⟨bl, ol + k, none⟩) (show bl < wr.heap.size by omega)).trans HLR.out)
          have hq' := hq.out
          refine wp_region_quiet (C := Cls wr.heap.size wr) (by kernel_rfl) (by kernel_rfl) (Cls.start _ _) ?_
          simp only []
          repeat (first
            | (refine q_call ?_ 18 #[.string s] ?_ k1.out ?_
               · rfl
               · intro w; go_simp; done
               simp only [Act.put, List.setIfInBounds_toArray, List.set_cons_zero, List.set_cons_succ])
            | (apply q_val
               · rfl
               · intro w' hw; have hx := rc.out w' hw; go_simp; first | done | with_reducible rfl | rfl
               simp only [Act.put, List.setIfInBounds_toArray, List.set_cons_zero, List.set_cons_succ])
            | (refine q_skip ?_ ?_
               · rfl
               simp only [Act.put, List.setIfInBounds_toArray, List.set_cons_zero, List.set_cons_succ]))
          refine wpQuiet_nil ?_
          intro w9 hC9
          have HB9 := hidp (HBW.out.trans (Below.mono hC9 hbs))
          have h9s := HB9.out.size
          clear hq' k1 rc
          obtain ⟨sm, hsm⟩ : ∃ sm, smK ss tt k = sm := ⟨_, rfl⟩
          rw [hsm]
          cases sm
          · have HNO := hidp (smK_no ss tt k hsm)
            clear hsm
            go_wp2_with fail
            go_quiet (fail)
            go_wp2_with fail
            exact ⟨⟨k + 1, by go_num, by omega, by rw [HNO.out], below_drewN HB9.out _⟩, by simp [intOf]; omega⟩
          · have hl' := smK_len hsm
            have hk2 : k < tt.length := by omega
            have hyes := smK_succ ss tt k hk1 hk2 hsm
            obtain ⟨bm, om, rfl, hmc⟩ := HC1.out k hk2
            obtain ⟨t, ht⟩ : ∃ t, tt[k] = t := ⟨_, rfl⟩
            rw [ht] at hmc hyes
            rw [HS.out] at hyes
            have hmb := World.block_lt_of_cell? w _ hmc
            simp only at hmb
            have hn2 : (k : Int) < (n' : Int) := by have := HN'.out; omega
            have hlr9 := (HB9.out.cell (p := ⟨bl, ol + k, none⟩) (show bl < W.heap.size by omega)).trans ((HB4.out.cell (p := ⟨bl, ol + k, none⟩) hlb).trans (show w.cell? ⟨bl, ol + k, none⟩ = some (.string s) from HLC.out))
            have hmr9 := (HB9.out.cell (p := ⟨bm, om + k, none⟩) (show bm < W.heap.size by omega)).trans ((HB4.out.cell (p := ⟨bm, om + k, none⟩) hmb).trans hmc)
            have HT := hidp ht; have HSM := hidp hsm; have HYES := hidp hyes
            clear ht hmc hsm hyes hl'
            by_cases hst : s = t
            · subst hst
              have hb := toList_yes (rfl : s = s)
              have HEQ := hidp (show smK ss tt (k + 1) = true from by rw [HYES.out]; simp)
              go_wp2_with fail
              go_quiet (fail)
              go_wp2_with fail
              exact ⟨⟨k + 1, by go_num, by omega, by rw [HEQ.out], below_drewN HB9.out _⟩, by simp [intOf]; omega⟩
            · have hb := toList_no hst
              have HEQ := hidp (show smK ss tt (k + 1) = false from by rw [HYES.out]; simp [hst])
              have HST := hidp hst
              clear hst
              go_wp2_with fail
              go_quiet (fail)
              go_wp2_with fail
              exact ⟨⟨k + 1, by go_num, by omega, by rw [HEQ.out], below_drewN HB9.out _⟩, by simp [intOf]; omega⟩
        · have hkn := hidp (show smK ss tt k = decide (ss = tt) from by rw [show k = ss.length from by have := HN.out; omega, smK_all])
          rw [hkn.out]
          have HBE := hidp (HB4.out.trans (HBW.out.mono hsW))
          by_cases hok2 : okL tt
          · have he : ((e2 : Int) != 0) = false := by rw [← HE2.out, listE_yes hok2]; rfl
            have hb2 : mkS (encL tt) = b2 := by rw [← HB2.out, listS_yes hok2]
            have HOK2 := hidp hok2
            clear hok2
            by_cases hst : ss = tt
            · have hd : decide (ss = tt) = true := by simp [hst]
              have hab : (a.toList == b2.toList) = true := toList_yes (by rw [← HA.out, ← hb2, hst])
              have HST := hidp hst
              clear hst hb2
              rw [hd]
              clear hd
              go_wp2_with fail
              go_ret
              exact ⟨rfl, HBE.out⟩
            · have hd : decide (ss = tt) = false := by simp [hst]
              have hab : (a.toList == b2.toList) = false := toList_no (by rw [← HA.out, ← hb2]; exact fun e => hst (encL_inj HOK.out HOK2.out (mkS_inj e)))
              have HST := hidp hst
              clear hst hb2
              rw [hd]
              clear hd
              go_wp2_with fail
              go_ret
              exact ⟨rfl, HBE.out⟩
          · have he : ((e2 : Int) != 0) = true := by rw [← HE2.out, listE_no hok2]; rfl
            clear hok2
            obtain ⟨d, hd⟩ : ∃ d, decide (ss = tt) = d := ⟨_, rfl⟩
            rw [hd]
            clear hd
            go_wp2_with fail
            go_ret
            exact ⟨rfl, HBE.out⟩
  · have hl1 : Hid (∀ W, Below w.heap.size w W → Calls Tryd.prog 48 #[v] W fun e w' => e = .returned (.tuple #[.string ByteArray.empty, .int .i64 7]) ∧ Below W.heap.size W w') := fun W hb => by
      have := list_any W v ss (HAT.out.below hb (Nat.le_refl _)) hn HZ.out
      rw [listS_no hok, listE_no hok] at this; exact this
    have hal : Hid (∀ W, Calls Tryd.prog 49 #[.string ByteArray.empty] W fun e w' => ∃ v e1, e = .returned (.tuple #[v, .int .i64 e1]) ∧ Below W.heap.size W w') := fun W => by
      exact (all_any W ByteArray.empty (by decide)).mono fun e w' ⟨v, h1, h2, h3⟩ => ⟨v, _, h1, h3⟩
    go_enter Tryd.func15, Tryd.ntmps15
    go_wp2_with fail
    refine (HB.out _).mono ?_
    rintro e w1 ⟨rfl, hb1⟩
    have HB1 := hidp hb1; clear hb1
    go_wp2_with fail
    refine (hl1.out _ HB1.out).mono ?_
    rintro e w2 ⟨rfl, hb2⟩
    have HB2 := hidp (HB1.out.trans (hb2.mono HB1.out.size)); clear hb2
    go_wp2_with fail
    refine (hl2.out _ HB2.out).mono ?_
    rintro e w3 ⟨rfl, hb3⟩
    have HB3 := hidp (HB2.out.trans (hb3.mono HB2.out.size)); clear hb3
    go_wp2_with fail
    refine (hal.out _).mono ?_
    rintro e w4 ⟨vx, e1, rfl, hb4⟩
    have HB4 := hidp (HB3.out.trans (hb4.mono HB3.out.size)); clear hb4
    go_wp2_with fail
    go_ret
    exact ⟨rfl, HB4.out⟩
end Go.Proofs.YtcjehpojckdfnaaDoor
