/-
  Tree: the walk of TreeThere.
-/
import Derived.Test.YtnaenhmcmnkdjaaDoorTrX
namespace Go.Proofs.YtnaenhmcmnkdjaaDoor
set_option maxRecDepth 100000
set_option linter.unusedVariables false
set_option linter.unusedSimpArgs false
open Go.RowKit

theorem there_no (w : World) (v : Value) (hs : List (List UInt8)) (hH : HsAt w v hs) (hn : hs.length ≤ 4611686018427387904) (hf : fitN hs.length = false) (hK : KT w) :
    Calls Tryd.prog 5 #[v] w fun e w' => e = .returned (.bool true) ∧ Below w.heap.size w w' := by
  have L := hidp (fun W (h : KT W) => lives3_any W h)
  have HK := hidp hK
  have hkp := hK.pos
  have c1 := hidp (fun W (h : HsAt W v hs) (hk : KT W) => root_any W v hs h hn hk)
  have c2 := hidp (fun W (h : HsAt W v hs) (hk : KT W) => path_any W v hs 0 (by decide) h hn hk)
  have e1 : rootE hs.length = 1 := if_neg (by simp [hf])
  have e2 : pathE hs.length 0 = 1 := if_neg (by unfold okP; simp [hf])
  have hrl := rootV_len hs hH.1
  obtain ⟨R, hR⟩ : ∃ R, rootV hs = R := ⟨_, rfl⟩
  rw [hR, e1] at c1
  rw [e2] at c2
  rw [hR] at hrl
  obtain ⟨a, c, hve⟩ := hH.form
  obtain ⟨n, hnn⟩ : ∃ n, hs.length = n := ⟨_, rfl⟩
  rw [hnn] at hve
  subst hve
  have HH := hidp hH
  clear hR hH hK hnn hn e1 e2 hf
  go_enter Tryd.func5, Tryd.ntmps5
  go_wp2_with (first
    | (go_at_call 20; refine (L.out _ HK.out).mono ?_; rintro e w1 ⟨rfl, hb1⟩
       have hB1 := hidp hb1; clear hb1)
    | (go_at_call 16; refine (c1.out _ (HH.out.to hB1.out) (HK.out.below hB1.out hkp)).mono ?_; rintro e w2 ⟨rfl, hb2⟩
       have hB2 := hidp (hB1.out.trans (hb2.mono hB1.out.size)); clear hb2)
    | (refine wpL_newD 3 rfl rfl rfl ?_; intro b3 w3 n3)
    | (refine wpL_put rfl (.tmp 3) (.tmp 18) rfl b3 R rfl rfl hrl (u8s z32) rfl n3.arr ?_; intro w4 ha4 hp4
       have hB4 := hidp (hB2.out.trans ((n3.put hp4).mono hB2.out.size)); clear n3 hp4 ha4)
    | (go_at_call 18; refine (c2.out _ (HH.out.to hB4.out) (HK.out.below hB4.out hkp)).mono ?_; rintro e w5 ⟨v5, rfl, ho5, hb5⟩
       obtain ⟨pa, pc, rfl⟩ := ho5.hs.form
       have hB5 := hidp (hB4.out.trans (hb5.mono hB4.out.size)); clear hb5 ho5))
  go_ret
  exact ⟨rfl, hB5.out⟩
set_option maxHeartbeats 8000000 in
theorem there_yes (w : World) (v : Value) (hs : List (List UInt8)) (hH : HsAt w v hs) (hn : hs.length ≤ 4611686018427387904) (hf : fitN hs.length = true) (hK : KT w) :
    Calls Tryd.prog 5 #[v] w fun e w' => e = .returned (.bool true) ∧ Below w.heap.size w w' := by
  have L := hidp (fun W (h : KT W) => lives3_any W h)
  have HK := hidp hK
  have hkp := hK.pos
  obtain ⟨hl0, hK7⟩ := fit_hi hf
  have c1 := hidp (fun W (h : HsAt W v hs) (hk : KT W) => root_any W v hs h hn hk)
  have e1 : rootE hs.length = 0 := if_pos hf
  have er : rootV hs = refR (hiN hs.length) hs := if_pos hf
  have hrl := rootV_len hs hH.1
  have c2 := hidp (show ∀ i, i < hs.length → ∀ W, HsAt W v hs → KT W → Calls Tryd.prog 18 #[v, .int .i64 (i : Int)] W fun e w' => ∃ v', e = .returned (.tuple #[v', .int .i64 0]) ∧ OwnH w' W.heap.size v' (refP (hiN hs.length) hs i) ∧ Below W.heap.size W w' from fun i hi W h hk => by
    have ho : okP hs.length (i : Int) = true := by unfold okP; rw [hf]; simp; omega
    have := path_any W v hs (i : Int) (by simp [Lit.wf, IntKind.min, IntKind.max, IntKind.signed, IntKind.bits]; omega) h hn hk
    rw [show pathV hs (i : Int) = refP (hiN hs.length) hs i from by unfold pathV; rw [if_pos ho]; rfl, show pathE hs.length (i : Int) = 0 from if_pos ho] at this
    exact this)
  have c3 := hidp (show ∀ i (hi : i < hs.length), ∀ W v', HsAt W v' (refP (hiN hs.length) hs i) → KT W → Calls Tryd.prog 22 #[.agg (u8s (hs[i]'hi)).toArray, .int .i64 (i : Int), v'] W fun e w' => e = .returned (.tuple #[.agg (u8s (rootV hs)).toArray, .int .i64 0]) ∧ Below W.heap.size W w' from fun i hi W v' h hk => by
    have := climb_ok W (hs[i]'hi) (hH.1.get i hi) i v' _ h (by rw [refP_len]; exact hK7) (by rw [refP_len, ← hl0]; exact hi) hk
    rw [show climbL (hs[i]'hi) i (refP (hiN hs.length) hs i) = rootV hs from by
      rw [er, ← climb_path (hiN hs.length) hs i hl0 (by rw [← hl0]; exact hi)]
      congr 1
      rw [List.getD_eq_getElem?_getD, List.getElem?_eq_getElem hi]; rfl] at this
    exact this)
  obtain ⟨R, hR⟩ : ∃ R, rootV hs = R := ⟨_, rfl⟩
  rw [hR, e1] at c1
  rw [hR] at hrl c3
  have hpl := hidp (fun i => refP_len (hiN hs.length) hs i)
  obtain ⟨K, hKe⟩ : ∃ K, hiN hs.length = K := ⟨_, rfl⟩
  rw [hKe] at hl0 hK7 c2 c3 hpl
  have hcast : ((2 : Int) ^ K) = ((2 ^ K : Nat) : Int) := by simp
  have hl128 : 2 ^ K ≤ 128 := by
    have := Nat.pow_le_pow_right (n := 2) (show 0 < 2 by omega) hK7
    simpa using this
  obtain ⟨B, off, c, hve, hcc, hB, hrr⟩ := hH.get (by rw [hl0]; exact Nat.pow_pos (by omega))
  obtain ⟨n, hnn⟩ : ∃ n, hs.length = n := ⟨_, rfl⟩
  rw [← hl0, hnn] at hcast hl128
  have hw2 : wrap64 ((2 : Int) ^ K) = (n : Int) := by rw [hcast]; unfold wrap64; omega
  rw [hnn] at hve c2
  subst hve
  have HH := hidp hH; have HN := hidp hnn; have HR := hidp hrr
  clear hR hH hK hnn hn e1 er hf hl0 hKe hrr hcc hcast
  go_enter Tryd.func5, Tryd.ntmps5
  go_wp2_with (first
    | (go_at_call 20; refine (L.out _ HK.out).mono ?_; rintro e w1 ⟨rfl, hb1⟩
       have hB1 := hidp hb1; clear hb1)
    | (go_at_call 16; refine (c1.out _ (HH.out.to hB1.out) (HK.out.below hB1.out hkp)).mono ?_; rintro e w2 ⟨rfl, hb2⟩
       have hB2 := hidp (hB1.out.trans (hb2.mono hB1.out.size)); clear hb2)
    | (refine wpL_newD 3 rfl rfl rfl ?_; intro b3 w3 n3)
    | (refine wpL_put rfl (.tmp 3) (.tmp 18) rfl b3 R rfl rfl hrl (u8s z32) rfl n3.arr ?_; intro w4 ha4 hp4
       have hB4 := hidp (hB2.out.trans ((n3.put hp4).mono hB2.out.size)); have hA4 := hidp ha4
       have h3w := hidp (show w.heap.size ≤ b3 from Nat.le_trans hB2.out.size n3.le); clear n3 hp4 ha4))
  go_loopw [31] (fun t31 wr => ∃ i : Nat, t31 = .int .i64 (i : Int) ∧ i ≤ n ∧ Arr wr b3 24 (u8s R) ∧ Below w.heap.size w wr) (fun t31 _ => n - (intOf t31).toNat)
  case atStart => exact ⟨0, rfl, by omega, hA4.out, hB4.out⟩
  case round =>
    obtain ⟨i, rfl, hi, ha, hb⟩ := hrel
    have HA := hidp ha; have HB := hidp hb
    clear ha hb hA4 hB4
    by_cases hlt : i < n
    · have ti : ((i : Int) < (n : Int)) := by omega
      have hil : i < hs.length := by rw [HN.out]; exact hlt
      have hxl := HH.out.1.get i hil
      have hrx := range_nth HR.out HH.out.1 i hil
      have c2i := hidp (c2.out i hlt)
      have c3i := hidp (c3.out i hil)
      have hpli := hpl.out i
      obtain ⟨x, hx⟩ : ∃ x, hs[i]'hil = x := ⟨_, rfl⟩
      rw [hx] at hxl hrx c3i
      have HRX := hidp (show wr.rangeAt B (off + 32 * i) (u8s x) from rangeAt_below hrx HB.out hB)
      obtain ⟨P, hP⟩ : ∃ P, refP K hs i = P := ⟨_, rfl⟩
      rw [hP] at c2i c3i hpli
      have HPL := hidp hpli
      clear hx hrx hP hpli hil
      go_wp2_with (first
        | (refine wpL_idx rfl (.tmp 29) (.tmp 31) rfl B off _ _ i rfl rfl hlt ?_)
        | (refine wpL_at rfl (.tmp 34) rfl B (off + 32 * i) x rfl hxl HRX.out ?_)
        | (refine wpL_newD 8 rfl rfl rfl ?_; intro b5 w5 n5)
        | (refine wpL_put rfl (.tmp 8) (.tmp 35) rfl b5 x rfl rfl hxl (u8s z32) rfl n5.arr ?_; intro w6 ha6 hp6
           have hB6 := hidp (HB.out.trans ((n5.put hp6).mono HB.out.size)); have hA6 := hidp ha6; have hR6 := hidp (HA.out.below (n5.put hp6) HA.out.lt); clear n5 hp6 ha6)
        | (go_at_call 18; refine (c2i.out _ (HH.out.to hB6.out) (HK.out.below hB6.out hkp)).mono ?_; rintro e w7 ⟨v7, rfl, ho7, hb7⟩
           obtain ⟨pa, pc, hv7⟩ := ho7.hs.form
           rw [HPL.out] at hv7
           subst hv7
           have hB7 := hidp (hB6.out.trans (hb7.mono hB6.out.size)); have hA7 := hidp (hA6.out.below hb7 hA6.out.lt); have hR7 := hidp (hR6.out.below hb7 hR6.out.lt); have hP7 := hidp ho7.hs; clear hb7 ho7)
        | (refine wpL_get rfl (.tmp 8) rfl b5 x rfl hxl hA7.out ?_)
        | (go_at_call 22; refine (c3i.out _ _ hP7.out (HK.out.below hB7.out hkp)).mono ?_; rintro e w8 ⟨rfl, hb8⟩
           have hB8 := hidp (hB7.out.trans (hb8.mono hB7.out.size)); have hR8 := hidp (hR7.out.below hb8 hR7.out.lt); clear hb8)
        | (refine wpL_newD 11 rfl rfl rfl ?_; intro b9 w9 n9)
        | (refine wpL_put rfl (.tmp 11) (.tmp 47) rfl b9 R rfl rfl hrl (u8s z32) rfl n9.arr ?_; intro w10 ha10 hp10
           have hB10 := hidp (hB8.out.trans ((n9.put hp10).mono hB8.out.size)); have hR10 := hidp (hR8.out.below (n9.put hp10) hR8.out.lt); have hC10 := hidp ha10; clear n9 hp10 ha10)
        | (refine wpL_getg rfl (.tmp 11) rfl b9 R rfl hrl hC10.out ?_)
        | (refine wpL_getg rfl (.tmp 3) rfl b3 R rfl hrl hR10.out ?_)
        | (refine wpL_neqg rfl (.tmp 56) (.tmp 57) _ rfl R R rfl rfl hrl hrl false (by simp) ?_))
      exact ⟨⟨i + 1, by go_num, by omega, hR10.out, hB10.out⟩, by simp [intOf]; omega⟩
    · obtain rfl : i = n := by omega
      go_wp2
      go_ret
      exact ⟨rfl, HB.out⟩
theorem walk_treeThere (w : World) (v : Value) (hs : List (List UInt8)) (hH : HsAt w v hs) (hn : hs.length ≤ 4611686018427387904) (hK : KT w) :
    Calls Tryd.prog 5 #[v] w fun e w' => e = .returned (.bool true) ∧ Below w.heap.size w w' := by
  cases hf : fitN hs.length with
  | true => exact there_yes w v hs hH hn hf hK
  | false => exact there_no w v hs hH hn hf hK
end Go.Proofs.YtnaenhmcmnkdjaaDoor
