/-
  TopOnce: the walk.
-/
import Derived.Test.YtlmadjmccbkjbaaDoorTreC
import Derived.Test.YtlmadjmccbkjbaaDoorOnGL
import Derived.Test.YtlmadjmccbkjbaaDoorOctL
namespace Go.Proofs.YtlmadjmccbkjbaaDoor
set_option maxRecDepth 100000
set_option linter.unusedVariables false
set_option linter.unusedSimpArgs false
open Go.RowKit

section
variable {ops : Array Oper} {rest : List Oper} {o : Oper} {a : Act} {w : World} {Q : Exit → Act → World → Prop}
theorem wpL_getT (hw : Region.wanted o (yielded ops a.tmps) = true) (x : Operand) (ho : o.op = .load 24 x) (b : Nat) (l : List UInt8) (hx : a.eval x = .pointer (some ⟨b, 0, none⟩)) (hl : l.length = 32) (hg : Arr w b 24 (u8s l))
    (h : wpList Tryd.prog ops Q rest (a.put o.dst (.agg (u8s l).toArray)) w) : wpList Tryd.prog ops Q (o :: rest) a w :=
  wpList_load_row_g hw 24 x ho b hx 24 _ (0, 0) _ hg hash_row rfl (hash_size hl) h
theorem wpL_valT (hw : Region.wanted o (yielded ops a.tmps) = true) (v : Value) (hr : (execOp a.eval o).run Tryd.prog w = .ok (.value v) w) (h : wpList Tryd.prog ops Q rest (a.put o.dst v) w) : wpList Tryd.prog ops Q (o :: rest) a w :=
  wpList_step fun K hK => by
    rw [if_pos hw]
    unfold Oper.wp
    rw [hr]
    exact hK _ _ h
theorem wpL_neqT (hw : Region.wanted o (yielded ops a.tmps) = true) (x y : Operand) (u : TypeId) (ho : o.op = .binOp .neq 24 x y u) (l m : List UInt8) (hx : a.eval x = .agg (u8s l).toArray) (hy : a.eval y = .agg (u8s m).toArray) (hl : l.length = 32) (hm : m.length = 32) (b : Bool) (hb : (!decide (l = m)) = b)
    (h : wpList Tryd.prog ops Q rest (a.put o.dst (.bool b)) w) : wpList Tryd.prog ops Q (o :: rest) a w :=
  wpL_valT hw _ (by
    unfold execOp
    simp only [ho, hx, hy, Sem.run_bind, run_eqGuard_agg (P := Tryd.prog) _ _ _ _ _ _ _ guard_hash, neq_hash w l m hl hm, hb, Result.andThen_ok, Sem.run_pure]) h
end
theorem begins_once (w : World) : Calls Tryd.prog 59 #[] w fun e w' => e = .returned (.bool true) ∧ Below w.heap.size w w' := by
  have c1 : Hid (∀ w, Calls Tryd.prog 97 #[.int .u64 300] w fun e w' => e = .returned (.tuple #[.string ⟨#[172, 2]⟩, .int .i64 0]) ∧ Below w.heap.size w w') := fun w => by
    have := num_any w 300 (by omega); rw [numS_yes (by omega), numE_yes (by omega), e300] at this; exact this
  go_enter Tryd.func59, Tryd.ntmps59
  go_wp2_with fail
  refine (c1.out _).mono ?_
  rintro e w1 ⟨rfl, hb1⟩
  go_wp2_with fail
  go_ret
  exact ⟨rfl, hb1⟩

/-- The public sums of the first seeds. -/
def pubs (ss : List ByteArray) : List (List UInt8) := ss.map fun s => pubL s.data.toList
theorem pubs_len (ss : List ByteArray) : (pubs ss).length = ss.length := by simp [pubs]
theorem pubs_32 (ss : List ByteArray) : All32 (pubs ss) := by
  intro x hx
  obtain ⟨s, _, rfl⟩ := List.mem_map.1 hx
  exact pubL_len _
theorem pubs_snoc (ss : List ByteArray) (k : Nat) (h : k < ss.length) : pubs (ss.take (k + 1)) = pubs (ss.take k) ++ [pubL (ss[k]).data.toList] := by
  unfold pubs; rw [List.take_succ_eq_append_getElem h, List.map_append]; rfl
theorem pubs_get (ss : List ByteArray) (k : Nat) (h : k < ss.length) (h' : k < (pubs ss).length) : (pubs ss)[k]'h' = pubL (ss[k]).data.toList := by simp [pubs]
attribute [irreducible] pubs

set_option maxHeartbeats 8000000 in
theorem walk_topOnce (w : World) (v : Value) (ss : List ByteArray) (hat : StrsAt w v ss) (hn : ss.length ≤ 140737488351232) (hz : ∀ s ∈ ss, s.size ≤ 140737488351232) (t : ByteArray) (ht : t.size ≤ 140737488351232) (hK : KT w) :
    Calls Tryd.prog 14 #[v, .string t] w fun e w' => e = .returned (.bool true) ∧ Below w.heap.size w w' := by
  have c0 := hidp begins_once
  have HK := hidp hK
  have hkp := hK.pos
  obtain ⟨a, cap, rfl, hc⟩ := hat
  obtain ⟨n, hnn⟩ : ∃ n, ss.length = n := ⟨_, rfl⟩
  have HN := hidp hnn
  have HC := hidp hc
  rw [hnn] at hn
  rw [hnn]
  clear hK hc hnn hz
  by_cases h8 : 8 < n
  · have hd : decide ((8 : Int) < (n : Int)) = true := by simp; omega
    clear h8
    go_enter Tryd.func14, Tryd.ntmps14
    go_wp2_with fail
    refine (c0.out _).mono ?_
    rintro e w1 ⟨rfl, hb1⟩
    go_wp2_with fail
    go_ret
    exact ⟨rfl, hb1⟩
  · have hd : decide ((8 : Int) < (n : Int)) = false := by simp; omega
    have h8' : n ≤ 8 := by omega
    by_cases ht4 : 16384 < t.size
    · have hd2 : decide ((16384 : Int) < (t.size : Int)) = true := by simp; omega
      clear h8 ht4
      go_enter Tryd.func14, Tryd.ntmps14
      go_wp2_with fail
      refine (c0.out _).mono ?_
      rintro e w1 ⟨rfl, hb1⟩
      go_wp2_with fail
      go_ret
      exact ⟨rfl, hb1⟩
    · have hd2 : decide ((16384 : Int) < (t.size : Int)) = false := by simp; omega
      have ht4' : t.size ≤ 16384 := by omega
      clear h8 ht4
      have cp := hidp (fun W (s : ByteArray) (h : s.size ≤ 1024) (hk : KT W) => public_any W s (by omega) hk)
      go_enter Tryd.func14, Tryd.ntmps14
      go_wp2_with fail
      refine (c0.out _).mono ?_
      rintro e w1 ⟨rfl, hb1⟩
      have HB1 := hidp hb1; clear hb1
      have hs1 := HB1.out.size
      go_wp2_with fail
      go_loopw [5, 30] (fun t5 t30 wr => ∃ (i : Nat) (vl : Value), t30 = .int .i64 i ∧ i ≤ n ∧ t5 = vl ∧ OwnH wr w.heap.size vl (pubs (ss.take i)) ∧ (∀ j (h : j < ss.length), j < i → (ss[j]).size ≤ 1024) ∧ Below w.heap.size w wr) (fun _ t30 _ => n - (intOf t30).toNat)
      case atStart => exact ⟨0, _, rfl, by omega, rfl, by rw [show pubs (ss.take 0) = [] from by unfold pubs; simp]; exact OwnH.nil _ _, fun j h h0 => by omega, HB1.out⟩
      case round =>
        obtain ⟨i, vl, rfl, hi, rfl, ho, hsm, hbw⟩ := hrel
        have HO := hidp ho; have HSM := hidp hsm; have HBW := hidp hbw; have hle := hbw.size
        clear ho hsm hbw
        by_cases hlt : i < n
        · have hil : i < ss.length := by rw [HN.out]; exact hlt
          obtain ⟨b, off, rfl, hce⟩ := HC.out i hil
          have hbl := World.block_lt_of_cell? w _ hce
          simp only at hbl
          have hcr := (HBW.out.cell (p := ⟨b, off + i, none⟩) hbl).trans hce
          have hps := hidp (pubs_snoc ss i hil)
          have HIL := hidp hil
          obtain ⟨s, hs⟩ : ∃ s, ss[i]'hil = s := ⟨_, rfl⟩
          rw [hs] at hcr hps
          have HS := hidp hs
          have hpl := hidp (show (pubs (ss.take i)).length ≤ 1024 from by rw [pubs_len]; simp; omega)
          clear hce hs
          by_cases hbig : 1024 < s.size
          · have hd3 : decide ((1024 : Int) < (s.size : Int)) = true := by simp; omega
            clear hbig
            go_wp2_with fail
            go_ret
            exact ⟨rfl, HBW.out⟩
          · have hd3 : decide ((1024 : Int) < (s.size : Int)) = false := by simp; omega
            have hsb : s.size ≤ 1024 := by omega
            have cps := hidp (fun W (hk : KT W) => cp.out W s hsb hk)
            have hl32 : (pubL s.data.toList).length = 32 := pubL_len _
            obtain ⟨x, hx⟩ : ∃ x, pubL s.data.toList = x := ⟨_, rfl⟩
            rw [hx] at cps hps hl32
            clear hbig hx
            go_wp2_with (first
              | (go_at_call 60; refine (cps.out _ (HK.out.below HBW.out hkp)).mono ?_; rintro e w2 ⟨rfl, hb2⟩
                 have hB2 := hidp (HBW.out.trans (hb2.mono HBW.out.size)); have hO2 := hidp (HO.out.to hb2 (Nat.le_refl _)); have hle2 := hB2.out.size; clear hb2)
              | (refine wpL_bs1 rfl (.tmp 39) rfl x rfl hl32 ?_; intro b3 w3 n3
                 have hB3 := hidp (hB2.out.trans (n3.below.mono hB2.out.size)); have hO3 := hidp (hO2.out.to n3.below (Nat.le_refl _)); have hle3 := hB3.out.size)
              | (at_builtin; refine wpL_app rfl (.tmp 37) (.tmp 40) rfl w.heap.size b3 _ _ x rfl rfl hO3.out n3.arr hl32 hle3 hpl.out ?_; intro v4 w4 ho4 hb4
                 have hB4 := hidp (hB3.out.trans hb4); have hO4 := hidp ho4; clear hb4 ho4 n3))
            exact ⟨⟨i + 1, v4, by go_num, by omega, rfl, by rw [hps.out]; exact hO4.out, fun j h hj => by
              by_cases hji : j < i
              · exact HSM.out j h hji
              · obtain rfl : j = i := by omega
                rw [HS.out]; exact hsb, hB4.out⟩, by simp [intOf]; omega⟩
        · obtain rfl : i = n := by omega
          have hts : ss.take i = ss := by rw [← HN.out]; exact List.take_length
          rw [hts] at HO
          have HL := hidp (show (pubs ss).length = i from by rw [pubs_len]; exact HN.out)
          have H32 := hidp (pubs_32 ss)
          obtain ⟨L, hL⟩ : ∃ L, pubs ss = L := ⟨_, rfl⟩
          rw [hL] at HO HL H32
          obtain ⟨va, vc, rfl⟩ := HO.out.hs.form
          rw [HL.out] at HO ⊢
          have HH := hidp HO.out.hs
          have hLeq : ∀ k (h : k < ss.length) (h' : k < L.length), L[k]'h' = pubL (ss[k]).data.toList := fun k h h' => by subst hL; exact pubs_get ss k h h'
          have HLQ := hidp hLeq
          clear hL hts HO hLeq
          have hi8 : i ≤ 8 := h8'
          cases hf : fitN i with
          | false =>
            have c1 := hidp (show ∀ W, HsAt W (.slice va i vc) L → KT W → Calls Tryd.prog 16 #[.slice va i vc] W fun e w' => e = .returned (.tuple #[.agg (u8s (rootV L)).toArray, .int .i64 1]) ∧ Below W.heap.size W w' from fun W h hk => by
              have := root_any W (.slice va i vc) L h (by rw [HL.out]; omega) hk
              rw [show rootE L.length = 1 from by rw [HL.out]; exact if_neg (by simp [hf])] at this
              exact this)
            have hrl := rootV_len L H32.out
            obtain ⟨R, hR⟩ : ∃ R, rootV L = R := ⟨_, rfl⟩
            rw [hR] at c1 hrl
            clear hR hf
            go_wp2_with (first
              | (go_at_call 16; refine (c1.out _ HH.out (HK.out.below HBW.out hkp)).mono ?_; rintro e w2 ⟨rfl, hb2⟩
                 have hB2 := hidp (HBW.out.trans (hb2.mono HBW.out.size)); clear hb2)
              | (refine wpL_newD 8 rfl rfl rfl ?_; intro b3 w3 n3)
              | (refine wpL_put rfl (.tmp 8) (.tmp 46) rfl b3 R rfl rfl hrl (u8s z32) rfl n3.arr ?_; intro w4 ha4 hp4
                 have hB4 := hidp (hB2.out.trans ((n3.put hp4).mono hB2.out.size)); clear n3 hp4 ha4))
            go_ret
            exact ⟨rfl, hB4.out⟩
          | true =>
            have hfL : fitN L.length = true := by rw [HL.out]; exact hf
            obtain ⟨hl0, hK7⟩ := fit_hi hfL
            have er : rootV L = refR (hiN L.length) L := if_pos hfL
            have c1 := hidp (show ∀ W, HsAt W (.slice va i vc) L → KT W → Calls Tryd.prog 16 #[.slice va i vc] W fun e w' => e = .returned (.tuple #[.agg (u8s (rootV L)).toArray, .int .i64 0]) ∧ Below W.heap.size W w' from fun W h hk => by
              have := root_any W (.slice va i vc) L h (by rw [HL.out]; omega) hk
              rw [show rootE L.length = 0 from if_pos hfL] at this
              exact this)
            have hrl := rootV_len L H32.out
            have c2 := hidp (show ∀ k, k < i → ∀ W, HsAt W (.slice va i vc) L → KT W → Calls Tryd.prog 18 #[.slice va i vc, .int .i64 (k : Int)] W fun e w' => ∃ v', e = .returned (.tuple #[v', .int .i64 0]) ∧ OwnH w' W.heap.size v' (refP (hiN L.length) L k) ∧ Below W.heap.size W w' from fun k hk W h hkt => by
              have ho : okP L.length (k : Int) = true := by unfold okP; rw [hfL]; simp; rw [HL.out]; omega
              have := path_any W (.slice va i vc) L (k : Int) (by simp [Lit.wf, IntKind.min, IntKind.max, IntKind.signed, IntKind.bits]; omega) h (by rw [HL.out]; omega) hkt
              rw [show pathV L (k : Int) = refP (hiN L.length) L k from by unfold pathV; rw [if_pos ho]; rfl, show pathE L.length (k : Int) = 0 from if_pos ho] at this
              exact this)
            have c3 := hidp (show ∀ k (hk : k < L.length), ∀ W v', HsAt W v' (refP (hiN L.length) L k) → KT W → Calls Tryd.prog 22 #[.agg (u8s (L[k]'hk)).toArray, .int .i64 (k : Int), v'] W fun e w' => e = .returned (.tuple #[.agg (u8s (rootV L)).toArray, .int .i64 0]) ∧ Below W.heap.size W w' from fun k hk W v' h hkt => by
              have := climb_ok W (L[k]'hk) (H32.out.get k hk) k v' _ h (by rw [refP_len]; exact hK7) (by rw [refP_len, ← hl0]; exact hk) hkt
              rw [show climbL (L[k]'hk) k (refP (hiN L.length) L k) = rootV L from by
                rw [er, ← climb_path (hiN L.length) L k hl0 (by rw [← hl0]; exact hk)]
                congr 1
                rw [List.getD_eq_getElem?_getD, List.getElem?_eq_getElem hk]; rfl] at this
              exact this)
            obtain ⟨R, hR⟩ : ∃ R, rootV L = R := ⟨_, rfl⟩
            rw [hR] at c1 c3 hrl
            have hpl := hidp (fun k => refP_len (hiN L.length) L k)
            obtain ⟨K, hKe⟩ : ∃ K, hiN L.length = K := ⟨_, rfl⟩
            rw [hKe] at c2 c3 hpl
            have csg := hidp (fun W (s : ByteArray) (h : s.size ≤ 1024) (hk : KT W) => sign_any W s t (by omega) (by omega) hk)
            have crc := hidp (fun W (s : ByteArray) (hk : KT W) => show Calls Tryd.prog 61 #[.string t, .string (mkS (signL s.data.toList t.data.toList))] W fun e w' => e = .returned (.tuple #[.agg (u8s (pubL s.data.toList)).toArray, .int .i64 0]) ∧ Below W.heap.size W w' from by
              have := recover_any W t (mkS (signL s.data.toList t.data.toList)) (by omega) (by rw [mkS_size, signL_len]; omega) hk
              rw [mkS_data, recV_yes _ _ (signL_len _ _), recE_yes _ (signL_len _ _), rec_sign] at this
              exact this)
            clear hR hKe er hl0 hfL hf c0 cp
            go_wp2_with (first
              | (go_at_call 16; refine (c1.out _ HH.out (HK.out.below HBW.out hkp)).mono ?_; rintro e w2 ⟨rfl, hb2⟩
                 have hB2 := hidp (HBW.out.trans (hb2.mono HBW.out.size)); have hH2 := hidp (HH.out.to hb2); clear hb2)
              | (refine wpL_newD 8 rfl rfl rfl ?_; intro b3 w3 n3)
              | (refine wpL_put rfl (.tmp 8) (.tmp 46) rfl b3 R rfl rfl hrl (u8s z32) rfl n3.arr ?_; intro w4 ha4 hp4
                 have hB4 := hidp (hB2.out.trans ((n3.put hp4).mono hB2.out.size)); have hA4 := hidp ha4; have hH4 := hidp (hH2.out.to (n3.put hp4)); clear n3 hp4 ha4))
            go_loopw [54] (fun t54 wq => ∃ k : Nat, t54 = .int .i64 (k : Int) ∧ k ≤ i ∧ Arr wq b3 24 (u8s R) ∧ HsAt wq (.slice va i vc) L ∧ Below w.heap.size w wq) (fun t54 _ => i - (intOf t54).toNat)
            case atStart => exact ⟨0, rfl, by omega, hA4.out, hH4.out, hB4.out⟩
            case round =>
              obtain ⟨k, rfl, hk, ha, hh, hb⟩ := hrel
              have HA := hidp ha; have HQ := hidp hh; have HB := hidp hb
              clear ha hh hb hA4 hH4 hB4 HH
              by_cases hlt2 : k < i
              · have hkl : k < ss.length := by rw [HN.out]; exact hlt2
                have hkL : k < L.length := by rw [HL.out]; exact hlt2
                obtain ⟨b, off, rfl, hce⟩ := HC.out k hkl
                have hbl := World.block_lt_of_cell? w _ hce
                simp only at hbl
                have hcr := (HB.out.cell (p := ⟨b, off + k, none⟩) hbl).trans hce
                have hsb := HSM.out k hkl hlt2
                obtain ⟨s, hs⟩ : ∃ s, ss[k]'hkl = s := ⟨_, rfl⟩
                have hxl : (pubL s.data.toList).length = 32 := pubL_len _
                have c2k := hidp (c2.out k hlt2)
                have c3k := hidp (c3.out k hkL)
                have hLk2 : L[k]'hkL = pubL s.data.toList := by rw [← hs]; exact HLQ.out k hkl hkL
                rw [hLk2] at c3k
                rw [hs] at hcr hsb
                have cs := hidp (fun W (h : KT W) => csg.out W s hsb h)
                have cr := hidp (fun W (h : KT W) => crc.out W s h)
                have hpli := hpl.out k
                obtain ⟨P, hP⟩ : ∃ P, refP K L k = P := ⟨_, rfl⟩
                rw [hP] at c2k c3k hpli
                have HPL := hidp hpli
                obtain ⟨x, hx⟩ : ∃ x, pubL s.data.toList = x := ⟨_, rfl⟩
                rw [hx] at c3k cr hxl
                obtain ⟨SG, hSG⟩ : ∃ S, mkS (signL s.data.toList t.data.toList) = S := ⟨_, rfl⟩
                rw [hSG] at cs cr
                clear hce hs hLk2 hP hpli hx hSG hkL hsb
                go_wp2_with (first
                  | (go_at_call 62; refine (cs.out _ (HK.out.below HB.out hkp)).mono ?_; rintro e w5 ⟨rfl, hb5⟩
                     have hB5 := hidp (HB.out.trans (hb5.mono HB.out.size)); have hR5 := hidp (HA.out.below hb5 HA.out.lt); have hH5 := hidp (HQ.out.to hb5); clear hb5)
                  | (go_at_call 61; refine (cr.out _ (HK.out.below hB5.out hkp)).mono ?_; rintro e w6 ⟨rfl, hb6⟩
                     have hB6 := hidp (hB5.out.trans (hb6.mono hB5.out.size)); have hR6 := hidp (hR5.out.below hb6 hR5.out.lt); have hH6 := hidp (hH5.out.to hb6); clear hb6)
                  | (refine wpL_newD 12 rfl rfl rfl ?_; intro b7 w7 n7)
                  | (refine wpL_put rfl (.tmp 12) (.tmp 65) rfl b7 x rfl rfl hxl (u8s z32) rfl n7.arr ?_; intro w8 ha8 hp8
                     have hB8 := hidp (hB6.out.trans ((n7.put hp8).mono hB6.out.size)); have hA8 := hidp ha8; have hR8 := hidp (hR6.out.below (n7.put hp8) hR6.out.lt); have hH8 := hidp (hH6.out.to (n7.put hp8)); clear n7 hp8 ha8)
                  | (go_at_call 18; refine (c2k.out _ hH8.out (HK.out.below hB8.out hkp)).mono ?_; rintro e w9 ⟨v9, rfl, ho9, hb9⟩
                     obtain ⟨pa, pc, hv9⟩ := ho9.hs.form
                     rw [HPL.out] at hv9
                     subst hv9
                     have hB9 := hidp (hB8.out.trans (hb9.mono hB8.out.size)); have hA9 := hidp (hA8.out.below hb9 hA8.out.lt); have hR9 := hidp (hR8.out.below hb9 hR8.out.lt); have hH9 := hidp (hH8.out.to hb9); have hP9 := hidp ho9.hs; clear hb9 ho9)
                  | (refine wpL_get rfl (.tmp 12) rfl b7 x rfl hxl hA9.out ?_)
                  | (go_at_call 22; refine (c3k.out _ _ hP9.out (HK.out.below hB9.out hkp)).mono ?_; rintro e w10 ⟨rfl, hb10⟩
                     have hB10 := hidp (hB9.out.trans (hb10.mono hB9.out.size)); have hR10 := hidp (hR9.out.below hb10 hR9.out.lt); have hH10 := hidp (hH9.out.to hb10); clear hb10)
                  | (refine wpL_newD 16 rfl rfl rfl ?_; intro b11 w11 n11)
                  | (refine wpL_put rfl (.tmp 16) (.tmp 78) rfl b11 R rfl rfl hrl (u8s z32) rfl n11.arr ?_; intro w12 ha12 hp12
                     have hB12 := hidp (hB10.out.trans ((n11.put hp12).mono hB10.out.size)); have hR12 := hidp (hR10.out.below (n11.put hp12) hR10.out.lt); have hH12 := hidp (hH10.out.to (n11.put hp12)); have hC12 := hidp ha12; clear n11 hp12 ha12)
                  | (refine wpL_getT rfl (.tmp 16) rfl b11 R rfl hrl hC12.out ?_)
                  | (refine wpL_getT rfl (.tmp 8) rfl b3 R rfl hrl hR12.out ?_)
                  | (refine wpL_neqT rfl (.tmp 91) (.tmp 92) _ rfl R R rfl rfl hrl hrl false (by simp) ?_))
                exact ⟨⟨k + 1, by go_num, by omega, hR12.out, hH12.out, hB12.out⟩, by simp [intOf]; omega⟩
              · obtain rfl : k = i := by omega
                go_wp2_with fail
                go_ret
                exact ⟨rfl, HB.out⟩
end Go.Proofs.YtlmadjmccbkjbaaDoor
