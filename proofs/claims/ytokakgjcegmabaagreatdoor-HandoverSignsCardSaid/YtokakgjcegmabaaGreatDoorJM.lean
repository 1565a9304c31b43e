import Derived.Test.YtokakgjcegmabaaGreatDoorJL
set_option linter.unusedVariables false
set_option linter.unusedSimpArgs false
set_option maxHeartbeats 64000000
set_option maxRecDepth 100000
namespace Go.Proofs.YtokakgjcegmabaaGreatDoor
section
open Go.RowKit
theorem flat_drop : ∀ (i : Nat) (p : List (List UInt8)), All32 p → (flat p).drop (32 * i) = flat (p.drop i)
 | 0, p, _ => rfl
 | i + 1, [], _ => by simp [flat]
 | i + 1, a :: p, h => by
   have ha : a.length = 32 := h a (by simp)
   have e : flat (a :: p) = a ++ flat p := rfl
   rw [e, show 32 * (i + 1) = a.length + 32 * i from by omega, List.drop_append, List.drop_eq_nil_of_le (by omega), List.nil_append, show a.length + 32 * i - a.length = 32 * i from by omega, flat_drop i p h.tail]
   rfl
theorem hashes_flat (p : List (List UInt8)) (h : All32 p) : hashesL (flat p) = p := by
 have hl : (hashesL (flat p)).length = p.length := by rw [hashesL_len, flat_len h]; omega
 refine List.ext_getElem hl fun i h1 h2 => ?_
 rw [hashesL_get, flat_drop i p h, List.drop_eq_getElem_cons h2]
 have e : flat (p[i] :: p.drop (i + 1)) = p[i] ++ flat (p.drop (i + 1)) := rfl
 have hx : (p[i]).length = 32 := h _ (List.getElem_mem _)
 rw [e, List.take_append_of_le_length (by omega), List.take_of_length_le (by omega)]
theorem sig_parts {S : ByteArray} {h m : Nat} (t : List UInt8) (hh : h ≤ 7) (hm : m < 2 ^ h) :
 (pathV (leafL S.data.toList h) m).length = h ∧ (mkS (sigL S.data.toList h m t)).size = 1089 + 32 * h ∧ plV h (mkS (sigL S.data.toList h m t)) = some m := by
 have hP := pow_le7 hh
 have ho := okP_leaf S.data.toList hh hm
 have hp : (pathV (leafL S.data.toList h) m).length = h := by
  unfold pathV; rw [if_pos ho, refP_len, leafL_len, hiN_pow]
 have hz : (mkS (sigL S.data.toList h m t)).size = 1089 + 32 * h := by
  rw [mkS_size]; unfold sigL sigH
  rw [List.length_append, List.length_cons, signL_len, flat_len (pathV_32 _ _ (leafL_32 _ _)), hp]
 refine ⟨hp, hz, ?_⟩
 have h0 : ((mkS (sigL S.data.toList h m t)).data.toList.getD 0 0).toNat = m := by
  rw [mkS_data]; unfold sigL sigH
  rw [List.cons_append, List.getD_cons_zero, u8n _ (by omega)]
 unfold plV
 rw [h0, Int.toNat_natCast]
 have hk : hiK (h : Int) = true := decide_eq_true ⟨by omega, by omega⟩
 rw [if_pos ⟨hk, by rw [hz]; omega, hm⟩]
theorem drop_1089 (A : List UInt8) (B : List UInt8) (h : A.length = 1089) : (A ++ B).drop 1089 = B := by
 rw [← h]; exact List.drop_left
theorem vf_key (SL A B T root : List UInt8) (i : Int) (h1 : (SL.drop 1).take 1088 = A) (h2 : SL.drop 1089 = B) :
 (if climbV (recV T ((SL.drop 1).take 1088)) i (hashesL (SL.drop 1089)) = root then (0 : Int) else 9) = if climbV (recV T A) i (hashesL B) = root then 0 else 9 := by rw [h1, h2]
theorem vf_sign {S : ByteArray} {h m : Nat} (t : ByteArray) (root : List UInt8) (hh : h ≤ 7) (hm : m < 2 ^ h) :
 vfE root h t (mkS (sigL S.data.toList h m t.data.toList)) = if rootV (leafL S.data.toList h) = root then 0 else 9 := by
 obtain ⟨hp, hz, hpl⟩ := sig_parts (S := S) t.data.toList hh hm
 unfold vfE
 rw [hpl]
 simp only [mkS_data]
 have e1 : (sigL S.data.toList h m t.data.toList).drop 1 = signL (seedL S.data.toList m) t.data.toList ++ flat (pathV (leafL S.data.toList h) m) := rfl
 have hs : (signL (seedL S.data.toList m) t.data.toList).length = 1088 := signL_len _ _
 have e2 : ((sigL S.data.toList h m t.data.toList).drop 1).take 1088 = signL (seedL S.data.toList m) t.data.toList := by
  rw [e1, List.take_append_of_le_length (by omega), List.take_of_length_le (by omega)]
 have e3 : (sigL S.data.toList h m t.data.toList).drop 1089 = flat (pathV (leafL S.data.toList h) m) := by
  unfold sigL sigH
  exact drop_1089 _ _ (by rw [List.length_cons, hs])
 refine (vf_key _ _ _ _ root (m : Int) e2 e3).trans ?_
 rw [hashes_flat _ (pathV_32 _ _ (leafL_32 _ _)), recV_yes _ _ hs, rec_sign]
 have ho := okP_leaf S.data.toList hh hm
 have hf : fitN (leafL S.data.toList h).length = true := by rw [leafL_len]; exact fit_pow h hh
 have e4 : climbV (pubL (seedL S.data.toList m)) (m : Int) (pathV (leafL S.data.toList h) m) = rootV (leafL S.data.toList h) := by
  unfold climbV
  rw [if_pos (by rw [hp]; exact okC_pow hh hm), Int.toNat_natCast]
  unfold pathV rootV
  rw [if_pos ho, if_pos hf, leafL_len, hiN_pow, Int.toNat_natCast, ← climb_path h (leafL S.data.toList h) m (leafL_len _ _) hm]
  congr 1
  rw [List.getD_eq_getElem?_getD, List.getElem?_eq_getElem (by rw [leafL_len]; exact hm), Option.getD_some, leafL_get _ _ _ hm]
 rw [e4]
end
section
open Go.RowKit
theorem arr4k {w : World} {b T : Nat} {x0 x1 x2 x3 : Value} (h : Arr w b T [x0, x1, x2, x3]) : w.cell? ⟨b, 0, none⟩ = some x0 ∧ w.cell? ⟨b, 1, none⟩ = some x1 ∧ w.cell? ⟨b, 2, none⟩ = some x2 ∧ w.cell? ⟨b, 3, none⟩ = some x3 ∧ ∀ i, w.frozen? ⟨b, i, none⟩ = false :=
 ⟨h.cell 0 (by simp), h.cell 1 (by simp), h.cell 2 (by simp), h.cell 3 (by simp), h.frozen⟩
theorem Stp.trans {w W X : World} {b : Nat} (h : Stp b w W) (k : Stp b W X) : Stp b w X :=
 ⟨k.size.trans h.size, fun c hc => (k.other c hc).trans (h.other c hc), fun N hN => (h.below N hN).trans (k.below N hN)⟩
theorem set4 {w : World} {b T : Nat} {a0 a1 a2 a3 : Value} (h : Arr w b T [a0, a1, a2, a3]) (x0 x1 x2 x3 : Value) : ∃ W, (((w.setCell ⟨b, 0, none⟩ x0).setCell ⟨b, 1, none⟩ x1).setCell ⟨b, 2, none⟩ x2).setCell ⟨b, 3, none⟩ x3 = W ∧ Arr W b T [x0, x1, x2, x3] ∧ Stp b w W := by
 have s1 : ∀ (w : World) (i : Nat) (v : Value), Stp b w (w.setCell ⟨b, i, none⟩ v) := fun w i v => ⟨by simp, fun c hc => Below.heap_setCell w ⟨b, i, none⟩ v c hc, fun N hN => (Below.refl N w).setCell (p := ⟨b, i, none⟩) hN v⟩
 exact ⟨_, rfl, (((h.set 0 x0).set 1 x1).set 2 x2).set 3 x3, (((s1 w 0 x0).trans (s1 _ 1 x1)).trans (s1 _ 2 x2)).trans (s1 _ 3 x3)⟩
theorem infoDRing : (Tryz.prog.info? 39).map (fun i => (i.zero, i.size)) = some (some (.agg #[.string ⟨#[]⟩, .int .i64 0, .int .i64 0, .slice none 0 0]), 4) := by kernel_rfl
theorem dring_size (x y z u : Value) : (Tryz.prog.info? 39).map (·.size) = some #[x, y, z, u].size := by
 rw [show (Tryz.prog.info? 39).map (·.size) = some 4 from by kernel_rfl]; rfl
theorem zero_dring (w : World) : (zeroValue 39).run Tryz.prog w = .ok (.agg #[.string ⟨#[]⟩, .int .i64 0, .int .i64 0, .slice none 0 0]) w := by
 have hi0 := infoDRing
 cases hi : Tryz.prog.info? 39 with
 | none => rw [hi] at hi0; cases hi0
 | some i0 =>
   rw [hi] at hi0
   simp only [Option.map_some, Option.some.injEq, Prod.mk.injEq] at hi0
   obtain ⟨hz0, -⟩ := hi0
   simp [zeroValue, typeInfo, hi, hz0]
section
variable {ops : Array Oper} {rest : List Oper} {o : Oper} {a : Act} {w : World} {Q : Exit → Act → World → Prop}
theorem wpL_newDr (hgd : o.guard = none) (ho : o.op = .alloc 39)
 (h : ∀ b W, NewAt w W b 39 [.string ⟨#[]⟩, .int .i64 0, .int .i64 0, .slice none 0 0] → wpList Tryz.prog ops Q rest (a.put o.dst (.pointer (some ⟨b, 0, none⟩))) W) :
 wpList Tryz.prog ops Q (o :: rest) a w := by
 refine wpList_plain hgd fun K hK => ?_
 have := hK _ _ (h w.heap.size (w.alloc (.cells #[.string ⟨#[]⟩, .int .i64 0, .int .i64 0, .slice none 0 0] 39)) (NewAt.mk' _ _ _))
 unfold Oper.wp execOp
 simp only [ho, Instr.alloc, Sem.run_bind, Result.andThen_ok, zero_dring w]
 simp [newVar, newRow, Value.cells]
 exact this
theorem wpL_boxT (T : TypeId) (hgd : o.guard = none) (x : Operand) (ho : o.op = .box T x) (xs : List Value) (hx : a.eval x = .agg xs.toArray)
 (h : ∀ b W, NewAt w W b T xs → wpList Tryz.prog ops Q rest (a.put o.dst (.pointer (some ⟨b, 0, none⟩))) W) :
 wpList Tryz.prog ops Q (o :: rest) a w := by
 refine wpList_plain hgd fun K hK => ?_
 have := hK _ _ (h w.heap.size (w.alloc (.cells xs.toArray T)) (NewAt.mk' _ _ _))
 unfold Oper.wp execOp
 simp only [ho, Instr.box, Sem.run_bind, Result.andThen_ok, hx]
 simp [newVar, newRow, Value.cells]
 exact this
end
theorem o_putD {ops : Array Oper} {Q : Exit → Act → World → Prop} {S : World → Prop} {k : Nat} {o : Oper} {a : Act} {w : World} {K : Act → World → Prop} (ho : ops[k]? = some o) (hw : Region.wanted o (yielded ops a.tmps) = true) (x y : Operand) (hop : o.op = .store 39 x y) (b : Nat) (x0 x1 x2 x3 : Value) (hx : a.eval x = .pointer (some ⟨b, 0, none⟩)) (hy : a.eval y = .agg #[x0, x1, x2, x3])
 (h1 : #[x0, x1, x2, x3].all (·.oneCell') = true) (y0 y1 y2 y3 : Value) (hg : Arr w b 39 [y0, y1, y2, y3])
 (h : ∀ W, Arr W b 39 [x0, x1, x2, x3] → Stp b w W → S W ∧ K (a.put o.dst undef) W) : opW Tryz.prog ops Q S k K a w :=
 ⟨o, ho, hw, wp_store_row (P := Tryz.prog) 39 x y hop b #[x0, x1, x2, x3] hx hy 39 _ hg (dring_size _ _ _ _) rfl h1 (h _ (Arr.row hg _) (Stp.setRow _ _ _))⟩
theorem conv1 (W : World) (b m : Nat) (hm : m < 256) (hc : W.cell? ⟨b, 0, none⟩ = some (.int .u8 (m : Int))) : (convert 174 9 (.slice (some ⟨b, 0, none⟩) 1 1)).run Tryz.prog W = .ok (.string (mkS [UInt8.ofNat m])) W := by
 refine run_str_at (P := Tryz.prog) (src := 174) (e := 5) (dst := 9) Tryz.underlying174 Tryz.underlying5 Tryz.underlying9 b 0 1 [UInt8.ofNat m] (w := W) fun i hi => ?_
 obtain rfl : i = 0 := by simpa using hi
 simp only [Nat.add_zero]
 rw [hc]
 simp [u8n m hm]
theorem krKey_any (w : World) (b : Nat) (S : ByteArray) (H N : Int) (hA : Arr w b 118 [.string S, .int .i64 H, .int .i64 N]) :
 Calls Tryz.prog 19 #[.pointer (some ⟨b, 0, none⟩)] w fun e w' => e = .returned (.agg #[.string S, .int .i64 H, .int .i64 N]) ∧ Below w.heap.size w w' := by
 have HA := hidp hA; have hlt := hidp hA.lt; clear hA
 go_enter Tryz.func19, Tryz.ntmps19
 go_wp2_with (refine wpL_newK rfl rfl ?_; intro b2 w2 n2; have HX := hidp (n2.old HA.out); have HR := hidp n2.arr; have HB := hidp n2.below; have h2w := hidp n2.le; have hne : b ≠ b2 := (by have := n2.at_; have := hlt.out; omega); clear n2; obtain ⟨x0, x1, x2, -⟩ := arr3k HX.out; obtain ⟨y0, y1, y2, yf⟩ := arr3k HR.out; have f0 := yf 0; have f1 := yf 1; have f2 := yf 2; clear yf; have hne' : b2 ≠ b := Ne.symm hne)
 clear y0 y1 y2 f0 f1 f2
 clear x0 x1 x2
 obtain ⟨w9, hw9, ha9, hp9⟩ := set3 HR.out (.string S) (.int .i64 H) (.int .i64 N)
 rw [hw9]
 have HB9 := hidp (hp9.below' HB.out h2w.out)
 obtain ⟨y0, y1, y2, -⟩ := arr3k ha9
 refine bodyPost_ret (v := .agg #[.string S, .int .i64 H, .int .i64 N]) (by simp [results, Tryz.results19, go_sem, y0, y1, y2]) rfl ⟨rfl, HB9.out⟩
theorem krRoot_any (w : World) (b : Nat) (S : ByteArray) (H N : Int) (hA : Arr w b 118 [.string S, .int .i64 H, .int .i64 N]) (hK : KT w) :
 Calls Tryz.prog 28 #[.pointer (some ⟨b, 0, none⟩)] w fun e w' => e = .returned (.agg (u8s (keyR S H N)).toArray) ∧ Below w.heap.size w w' := by
 have HK := hidp hK; have hkp := hK.pos; clear hK
 have HA := hidp hA; have hlt := hidp hA.lt; clear hA
 have hRl := hidp (keyR_len S H N)
 have cr := hidp (fun W (k : KT W) => kroot_any W S H N k)
 obtain ⟨R, hR⟩ : ∃ R, keyR S H N = R := ⟨_, rfl⟩
 rw [hR] at hRl cr ⊢
 clear hR
 go_enter Tryz.func28, Tryz.ntmps28
 go_wp2_with (refine wpL_new rfl rfl ?_; intro b2 w2 n2; have HA2 := hidp (n2.old HA.out); have HR2 := hidp n2.arr; have HB2 := hidp n2.below; have h2w := hidp n2.le; clear n2)
 refine (krKey_any _ b S H N HA2.out).mono ?_
 rintro e w3 ⟨rfl, hb3⟩
 have HB3 := hidp (HB2.out.trans (hb3.mono HB2.out.size)); have HR3 := hidp (HR2.out.below hb3 HR2.out.lt)
 clear hb3
 go_wp2_with fail
 refine (cr.out _ (HK.out.below HB3.out hkp)).mono ?_
 rintro e w4 ⟨rfl, hb4⟩
 have HB4 := hidp (HB3.out.trans (hb4.mono HB3.out.size)); have HR4 := hidp (HR3.out.below hb4 HR3.out.lt)
 clear hb4
 go_wp2_with (first
  | (refine wpL_new rfl rfl ?_; intro b3 w5 n5)
  | (refine wpL_put rfl (.tmp 3) (.tmp 9) rfl b3 R rfl rfl hRl.out (u8s z32) rfl n5.arr ?_; intro w6 ha hp; have HR6 := hidp (hp.old (n5.old HR4.out) (by have := n5.at_; have := HR4.out.lt; omega)); have HB6 := hidp (HB4.out.trans ((n5.put hp).mono HB4.out.size)); clear n5 hp; have HC6 := hidp ha; clear ha)
  | (refine wpL_get rfl (.tmp 3) rfl b3 R rfl hRl.out HC6.out ?_)
  | (refine wpL_put rfl (.tmp 2) (.tmp 11) rfl b2 R rfl rfl hRl.out (u8s z32) rfl HR6.out ?_; intro w9 ha9 hp9))
 have HB9 := hidp (hp9.below' HB6.out h2w.out)
 refine bodyPost_ret (results_cell_row (P := Tryz.prog) (p := 2) (ty := 58) Tryz.results28 _ _ b2 58 (u8s R).toArray (0, 0) _ rfl ha9 hash_row rfl (hash_size hRl.out)) rfl ⟨rfl, HB9.out⟩
def rgA (S : ByteArray) (H N : Int) : List Value := if sgE S H N = 0 then sgA S H N else [.string S, .int .i64 H, .int .i64 N]
theorem krSign_any (w : World) (b : Nat) (S : ByteArray) (h m : Nat) (hok : kyOk S h m = true) (t : ByteArray) (ht : t.size ≤ 281474976710656 / 4) (hA : Arr w b 118 [.string S, .int .i64 (h : Int), .int .i64 (m : Int)]) (hK : KT w) :
 Calls Tryz.prog 39 #[.pointer (some ⟨b, 0, none⟩), .string t] w fun e w' => e = .returned (.tuple #[.string (sgS S h m t.data.toList), .int .i64 (sgE S h m)]) ∧ ∃ W, Below w.heap.size w W ∧ Stp b W w' ∧ Arr w' b 118 (rgA S h m) := by
 have HK := hidp hK; have hkp := hK.pos; clear hK
 have HA := hidp hA; have hlt := hidp hA.lt; clear hA
 have hS := (kyOk_parts hok).1.2
 have cs := hidp (fun W (k : KT W) => ksign_any W S (h : Int) (m : Int) t ht k)
 by_cases hn : m = 2 ^ h
 · obtain ⟨g1, g2, g3⟩ := sg_over t.data.toList hok (by rw [Int.toNat_natCast, hn])
   have G4 := hidp (show rgA S h m = [.string S, .int .i64 (h : Int), .int .i64 (m : Int)] from by unfold rgA; rw [g3]; rfl)
   rw [g1, g2, g3] at cs
   rw [g2, g3, G4.out]
   clear g1 g2 g3 hn hok
   go_enter Tryz.func39, Tryz.ntmps39
   go_wp2_with fail
   refine (krKey_any _ b S h m HA.out).mono ?_
   rintro e w1 ⟨rfl, hb1⟩
   have HA1 := hidp (HA.out.below hb1 hlt.out); have HB1 := hidp hb1
   clear hb1
   go_wp2_with fail
   refine (cs.out _ (HK.out.below HB1.out hkp)).mono ?_
   rintro e w2 ⟨rfl, hb2⟩
   have HA2 := hidp (HA1.out.below hb2 HA1.out.lt); have HB2 := hidp (HB1.out.trans (hb2.mono HB1.out.size))
   clear hb2 HA1
   go_wp2_with (first
    | (refine wpL_newK rfl rfl ?_; intro b6 w3 n3; have HA3 := hidp (n3.old HA2.out); have HR3 := hidp n3.arr; have HB3 := hidp (HB2.out.trans (n3.below.mono HB2.out.size)); have h3w := hidp (Nat.le_trans HB2.out.size n3.le); have hbb := hidp (show b < b6 from by have := n3.at_; have := HA2.out.lt; omega); clear n3)
    | (refine wpL_putK rfl (.tmp 6) (.tmp 14) rfl b6 (.string S) (.int .i64 (h : Int)) (.int .i64 (m : Int)) rfl rfl (by simp [Value.oneCell']) _ _ _ HR3.out ?_; intro w4 ha hp; have HA4 := hidp (hp.old HA3.out hbb.out); have HC4 := hidp ha; have HB4 := hidp (hp.below' HB3.out h3w.out); clear ha hp HA3 HR3 HB3; obtain ⟨x0, x1, x2, -⟩ := arr3k HC4.out; obtain ⟨y0, y1, y2, yf⟩ := arr3k HA4.out; have f0 := yf 0; have f1 := yf 1; have f2 := yf 2; clear yf; have hne : b ≠ b6 := (by have := hbb.out; omega); have hne' : b6 ≠ b := Ne.symm hne))
   clear x0 x1 x2 y0 y1 y2 f0 f1 f2
   go_ret2
   exact ⟨rfl, _, HB4.out, ⟨rfl, fun _ _ => rfl, fun N _ => Below.refl N _⟩, HA4.out⟩
 · obtain ⟨g1, g2, g3⟩ := sg_yes t.data.toList hok (by rw [Int.toNat_natCast]; exact_mod_cast hn)
   have G4 := hidp (show rgA S h m = [.string S, .int .i64 (h : Int), .int .i64 ((m : Int) + 1)] from by unfold rgA; rw [g3, if_pos rfl, g1])
   rw [g1, g3] at cs
   rw [g3, G4.out]
   obtain ⟨G, hG⟩ : ∃ G, sgS S h m t.data.toList = G := ⟨_, rfl⟩
   rw [hG] at cs ⊢
   clear g1 g2 g3 hn hok hG
   go_enter Tryz.func39, Tryz.ntmps39
   go_wp2_with fail
   refine (krKey_any _ b S h m HA.out).mono ?_
   rintro e w1 ⟨rfl, hb1⟩
   have HA1 := hidp (HA.out.below hb1 hlt.out); have HB1 := hidp hb1
   clear hb1
   go_wp2_with fail
   refine (cs.out _ (HK.out.below HB1.out hkp)).mono ?_
   rintro e w2 ⟨rfl, hb2⟩
   have HA2 := hidp (HA1.out.below hb2 HA1.out.lt); have HB2 := hidp (HB1.out.trans (hb2.mono HB1.out.size))
   clear hb2 HA1
   go_wp2_with (first
    | (refine wpL_newK rfl rfl ?_; intro b6 w3 n3; have HA3 := hidp (n3.old HA2.out); have HR3 := hidp n3.arr; have HB3 := hidp (HB2.out.trans (n3.below.mono HB2.out.size)); have h3w := hidp (Nat.le_trans HB2.out.size n3.le); have hbb := hidp (show b < b6 from by have := n3.at_; have := HA2.out.lt; omega); clear n3)
    | (refine wpL_putK rfl (.tmp 6) (.tmp 14) rfl b6 (.string S) (.int .i64 (h : Int)) (.int .i64 ((m : Int) + 1)) rfl rfl (by simp [Value.oneCell']) _ _ _ HR3.out ?_; intro w4 ha hp; have HA4 := hidp (hp.old HA3.out hbb.out); have HC4 := hidp ha; have HB4 := hidp (hp.below' HB3.out h3w.out); clear ha hp HA3 HR3 HB3; obtain ⟨x0, x1, x2, -⟩ := arr3k HC4.out; obtain ⟨y0, y1, y2, yf⟩ := arr3k HA4.out; have f0 := yf 0; have f1 := yf 1; have f2 := yf 2; clear yf; have hne : b ≠ b6 := (by have := hbb.out; omega); have hne' : b6 ≠ b := Ne.symm hne))
   clear x0 x1 x2 y0 y1 y2 f0 f1 f2
   obtain ⟨w9, hw9, ha9, hp9⟩ := set3 HA4.out (.string S) (.int .i64 (h : Int)) (.int .i64 ((m : Int) + 1))
   rw [hw9]
   go_ret2
   exact ⟨rfl, _, HB4.out, hp9, ha9⟩
theorem kmake_yes (w : World) (S : ByteArray) (H N : Int) (hS : S.size ≤ 281474976710656) (hok : kyOk S H N = true) :
 Calls Tryz.prog 15 #[.agg #[.string S, .int .i64 H, .int .i64 N]] w fun e w' => ∃ b, e = .returned (.tuple #[.pointer (some ⟨b, 0, none⟩), .int .i64 0]) ∧ Arr w' b 118 [.string S, .int .i64 H, .int .i64 N] ∧ w.heap.size ≤ b ∧ Below w.heap.size w w' := by
 have c1 := hidp (fun W => kyCheck_any W S H N)
 have co := hidp (fun W => owned_any W S H N hS)
 have hE : kyE S H N = 0 := by unfold kyE; rw [hok]; rfl
 rw [hE] at c1
 clear hE hok
 go_enter Tryz.func15, Tryz.ntmps15
 go_wp2_with (refine wpL_boxK rfl _ rfl [.string S, .int .i64 H, .int .i64 N] rfl ?_; intro b1 w1 n1; have HA := hidp n1.arr; have HB := hidp n1.below; clear n1; obtain ⟨x0, x1, x2, -⟩ := arr3k HA.out)
 clear x0 x1 x2
 refine (c1.out _).mono ?_
 rintro e w2 ⟨rfl, hb2⟩
 have HA2 := hidp (HA.out.below hb2 HA.out.lt); have HB2 := hidp (HB.out.trans (hb2.mono HB.out.size))
 clear hb2 HA HB
 obtain ⟨x0, x1, x2, -⟩ := arr3k HA2.out
 go_wp2_with fail
 clear x0 x1 x2
 refine (co.out _).mono ?_
 rintro e w3 ⟨rfl, hb3⟩
 have HB3 := hidp (HB2.out.trans (hb3.mono HB2.out.size))
 clear hb3
 go_wp2_with (refine wpL_boxT 118 rfl (.tmp 12) rfl [.string S, .int .i64 H, .int .i64 N] rfl ?_; intro b5 w5 n5)
 go_ret2
 exact ⟨b5, rfl, n5.arr, Nat.le_trans HB3.out.size n5.le, HB3.out.trans (n5.below.mono HB3.out.size)⟩
theorem rmake_any (w : World) (S : ByteArray) (h : Nat) (N : Int) (hS : S.size ≤ 64) (hh : h ≤ 7) :
 Calls Tryz.prog 18 #[.agg #[.string S, .int .i64 (h : Int), .int .i64 N]] w fun e w' => ∃ v, e = .returned (.agg #[.string S, .int .i64 (h : Int), .int .i64 N, v]) ∧ OwnH w' w.heap.size v (leafL S.data.toList h) ∧ Below w.heap.size w w' := by
 have cl := hidp (fun W => leaves_any W S h N hS hh)
 obtain ⟨L, hL⟩ : ∃ L, leafL S.data.toList h = L := ⟨_, rfl⟩
 rw [hL] at cl ⊢
 clear hL
 go_enter Tryz.func18, Tryz.ntmps18
 go_wp2_with (first | (refine wpL_boxK rfl _ rfl [.string S, .int .i64 (h : Int), .int .i64 N] rfl ?_; intro b1 w1 n1) | (refine wpL_newDr rfl rfl ?_; intro b2 w2 n2; have HA := hidp (n2.old n1.arr); have HR := hidp n2.arr; have HB := hidp (n1.below.trans (n2.below.mono n1.below.size)); have h2w := hidp (Nat.le_trans n1.below.size n2.le); have h12 := hidp (show b1 < b2 from by have := n2.at_; have := n1.lt; omega); clear n1 n2))
 obtain ⟨U, hU⟩ : ∃ U, ({ w2 with drawn := w2.drawn + 1 } : World) = U := ⟨_, rfl⟩
 have bU : Below w2.heap.size w2 U := by rw [← hU]; exact (Below.refl _ _).drew
 have HA3 := hidp (HA.out.below bU HA.out.lt); have HR3 := hidp (HR.out.below bU HR.out.lt); have HB3 := hidp (HB.out.trans (bU.mono HB.out.size))
 clear bU HA HR HB
 refine wp_region_noPanic ?_
 refine wp_region_scr (S := fun W => Arr W b1 23 [.string S, .int .i64 (h : Int), .int .i64 N]) (.take 0 (.take 1 (.one 2 (.take 3 (.one 4 .done))))) (by kernel_rfl) (by kernel_rfl) (fun _ _ _ _ _ h => h) (by simp [Scr.depth]) (by kernel_rfl) (by rw [hU]; exact HA3.out) ?_
 simp only [hU]
 clear hU
 iterate 2
  apply s_val
  case ho => rfl
  case hw => rfl
  case hv => intro w hw; obtain ⟨x0, x1, x2, -⟩ := arr3k hw; go_simp; first | done | with_reducible rfl | rfl
  simp only [Act.put, aP]
 apply o_callE (f := 65) (args := #[.agg #[.string S, .int .i64 (h : Int), .int .i64 N]]) (hc := cl.out _)
 case ho => rfl
 case hw => rfl
 case hop => go_simp; first | done | rfl
 rintro v W4 ⟨hv, hb⟩
 refine ⟨HA3.out.below hb HA3.out.lt, ?_⟩
 have HA4 := hidp (HA3.out.below hb HA3.out.lt); have HR4 := hidp (HR3.out.below hb HR3.out.lt); have HB4 := hidp (HB3.out.trans (hb.mono HB3.out.size)); have HV4 := hidp (hv.base (C := w.heap.size) HB3.out.size)
 clear hb hv HA3 HR3 HB3
 obtain ⟨av, cv, rfl⟩ := HV4.out.hs.form
 simp only [Act.put, aP]
 apply s_val
 case ho => rfl
 case hw => rfl
 case hv => intro w hw; go_simp; first | done | with_reducible rfl | rfl
 simp only [Act.put, aP]
 refine o_putD rfl rfl (.tmp 2) (.tmp 6) rfl b2 (.string S) (.int .i64 (h : Int)) (.int .i64 N) (.slice av L.length cv) rfl rfl (by simp [Value.oneCell']) _ _ _ _ HR4.out ?_
 intro W9 ha9 hp9
 refine ⟨hp9.arr (by have := h12.out; omega) HA4.out, ?_⟩
 simp only [Act.put, aP]
 refine NoPanic.normal ?_
 have HB9 := hidp (hp9.below' HB4.out h2w.out)
 have HV9 := hidp (hp9.ownH HV4.out HR4.out (by decide))
 obtain ⟨y0, y1, y2, y3, -⟩ := arr4k ha9
 go_wp2_with fail
 refine bodyPost_ret (v := .agg #[.string S, .int .i64 (h : Int), .int .i64 N, .slice av L.length cv]) (by simp [results, Tryz.results18, go_sem, y0, y1, y2, y3]) rfl ⟨_, rfl, HV9.out, HB9.out⟩
end
section
open Go.RowKit
theorem wp_cutV {P : Program} {c : Code} {Q : Exit → Act → World → Prop} {a : Act} {w : World} (f : Act → Value → Act) (G : Value → World → Prop)
 (h1 : c.wp P (fun e a' W => e = .normal ∧ ∃ v, a' = f a v ∧ G v W) a w) (h2 : ∀ v W, G v W → Q .normal (f a v) W) : c.wp P Q a w :=
 wp_mono h1 fun e a' W h => by
  obtain ⟨rfl, v, rfl, hg⟩ := h
  exact h2 v W hg
theorem rrsign_any (w : World) (S : ByteArray) (h m : Nat) (hok : kyOk S h m = true) (t : ByteArray) (ht : t.size ≤ 281474976710656 / 4) (v : Value) (hv : HsAt w v (leafL S.data.toList h)) :
 Calls Tryz.prog 64 #[.agg #[.string S, .int .i64 (h : Int), .int .i64 (m : Int), v], .string t] w fun e w' => e = .returned (.tuple #[.agg (rgA S h m ++ [v]).toArray, .string (sgS S h m t.data.toList), .int .i64 (sgE S h m)]) ∧ Below w.heap.size w w' := by
 have HV := hidp hv; clear hv
 obtain ⟨av, cv, rfl⟩ := HV.out.form
 obtain ⟨⟨s1, s2⟩, ⟨q1, q2⟩, q3, q4⟩ := kyOk_parts hok
 have hh7 : h ≤ 7 := by omega
 have ci := hidp (fun W => rplaces_any W h hh7)
 have hm0 : m ≤ 2 ^ h := by rw [Int.toNat_natCast] at q4; exact_mod_cast q4
 have hLl := leafL_len S.data.toList h
 obtain ⟨nl, hnl⟩ : ∃ n, (leafL S.data.toList h).length = n := ⟨_, rfl⟩
 rw [hnl] at HV ⊢
 clear hnl
 clear q1 q2 q3 q4
 by_cases hn : m = 2 ^ h
 · obtain ⟨g1, g2, g3⟩ := sg_over t.data.toList hok (by rw [Int.toNat_natCast, hn])
   have G1 := hidp (show rgA S h m = [.string S, .int .i64 (h : Int), .int .i64 (m : Int)] from by unfold rgA; rw [g3]; rfl); have G2 := hidp g2; have G3 := hidp g3
   rw [← hn] at ci
   have e0 : ((m : Int) == (m : Int)) = true := by simp
   clear g1 g2 g3 hok hn hm0 hLl
   go_enter Tryz.func64, Tryz.ntmps64
   go_wp2_with (first | (refine wpL_boxT 39 rfl _ rfl [.string S, .int .i64 (h : Int), .int .i64 (m : Int), .slice av nl cv] rfl ?_; intro b2 w1 n1) | (refine wpL_newDr rfl rfl ?_; intro b4 w2 n2; have HA3 := hidp (n2.old n1.arr); have HR3 := hidp n2.arr; have HB3 := hidp (n1.below.trans (n2.below.mono n1.below.size)); have h2w := hidp n1.le; have h24 := hidp (show b2 < b4 from by have := n2.at_; have := n1.lt; omega); clear n1 n2))
   obtain ⟨w3, hw3⟩ : ∃ w3, w2 = w3 := ⟨_, rfl⟩
   rw [hw3] at HA3 HR3 HB3 ⊢
   clear hw3
   go_wp2_with fail
   obtain ⟨U, hU⟩ : ∃ U, ({ w3 with drawn := w3.drawn + 1 } : World) = U := ⟨_, rfl⟩
   have bU : Below w3.heap.size w3 U := by rw [← hU]; exact (Below.refl _ _).drew
   have HA6 := hidp (HA3.out.below bU HA3.out.lt); have HR6 := hidp (HR3.out.below bU HR3.out.lt); have HB6 := hidp (HB3.out.trans (bU.mono HB3.out.size))
   clear bU HA3 HR3 HB3
   refine wp_region_noPanic ?_
   refine wp_region_scr (S := fun W => Arr W b2 39 [.string S, .int .i64 (h : Int), .int .i64 (m : Int), .slice av nl cv]) (.take 0 (.take 1 (.take 2 (.take 3 (.take 4 (.take 5 (.one 6 (.take 7 .done)))))))) (by kernel_rfl) (by kernel_rfl) (fun _ _ _ _ _ h => h) (by simp [Scr.depth]) (by kernel_rfl) (by rw [hU]; exact HA6.out) ?_
   simp only [hU]
   clear hU
   iterate 6
    apply s_val
    case ho => rfl
    case hw => rfl
    case hv => intro w hw; obtain ⟨x0, x1, x2, x3, -⟩ := arr4k hw; go_simp; first | done | with_reducible rfl | rfl
    simp only [Act.put, aP]
   apply o_call (f := 55) (args := #[.int .i64 (h : Int)]) (v := .int .i64 ((m : Nat) : Int)) (hc := ci.out _)
   case ho => rfl
   case hw => rfl
   case hop => go_simp; first | done | rfl
   rintro W' rfl
   refine ⟨HA6.out, ?_⟩
   simp only [Act.put, aP]
   apply s_val
   case ho => rfl
   case hw => rfl
   case hv => intro w hw; go_simp; first | done | with_reducible rfl | rfl
   simp only [Act.put, aP]
   refine NoPanic.normal ?_
   obtain ⟨y0, y1, y2, y3, yf⟩ := arr4k HR6.out
   have f0 := yf 0; have f1 := yf 1; have f2 := yf 2; have f3 := yf 3
   clear yf
   obtain ⟨x0, x1, x2, x3, -⟩ := arr4k HA6.out
   go_wp2_with fail
   clear y0 y1 y2 y3 f0 f1 f2 f3
   clear x0 x1 x2 x3
   obtain ⟨w9, hw9, ha9, hp9⟩ := set4 HR6.out (.string S) (.int .i64 (h : Int)) (.int .i64 (m : Int)) (.slice av nl cv)
   rw [hw9]
   have HB9 := hidp (hp9.below' HB6.out (by have := h2w.out; have := h24.out; omega))
   obtain ⟨y0, y1, y2, y3, -⟩ := arr4k ha9
   refine bodyPost_ret (v := .tuple #[.agg #[.string S, .int .i64 (h : Int), .int .i64 (m : Int), .slice av nl cv], .string ⟨#[]⟩, .int .i64 10]) (by simp [results, Tryz.results64, go_sem, y0, y1, y2, y3]) rfl ⟨by rw [G1.out, G2.out, G3.out]; rfl, HB9.out⟩
 · have hm1 : m < 2 ^ h := by omega
   have hne : (m : Int) ≠ ((2 ^ h : Nat) : Int) := by exact_mod_cast hn
   obtain ⟨g1, g2, g3⟩ := sg_yes t.data.toList hok (by rw [Int.toNat_natCast]; exact hne)
   have G1 := hidp (show rgA S h m = [.string S, .int .i64 (h : Int), .int .i64 ((m : Int) + 1)] from by unfold rgA; rw [g3, if_pos rfl, g1]); have G3 := hidp g3
   have hP := pow_le7 hh7
   have hm128 : m < 128 := by omega
   have hmS : S.size ≤ 64 := s2
   have hpE := pathE_leaf S.data.toList hh7 hm1
   obtain ⟨L, hL⟩ : ∃ L, leafL S.data.toList h = L := ⟨_, rfl⟩
   rw [hL] at HV hpE hLl
   obtain ⟨p, hp⟩ : ∃ p, pathV L m = p := ⟨_, rfl⟩
   have hpn : p.length ≤ 7 := by rw [← hp]; exact pathV_le
   have ct := hidp (show ∀ W v, HsAt W v L → Calls Tryz.prog 119 #[v, .int .i64 (m : Int)] W fun e w' => ∃ v', e = .returned (.tuple #[v', .int .i64 0]) ∧ OwnH w' W.heap.size v' p ∧ Below W.heap.size W w' from fun W v hv => by
    have := rpath_any W v L m (by simp [Lit.wf, IntKind.min, IntKind.max, IntKind.signed, IntKind.bits]; omega) hv (by rw [hLl]; omega)
    rw [hpE, hp] at this; exact this)
   obtain ⟨P, hPP⟩ : ∃ P, 2 ^ h = P := ⟨_, rfl⟩
   rw [hPP] at ci hne
   have e0 : ((m : Int) == (P : Int)) = false := by rw [beq_eq_false_iff_ne]; exact hne
   obtain ⟨n, hn7⟩ : ∃ n, p.length = n := ⟨_, rfl⟩
   have HN := hidp hn7
   obtain ⟨sd, hsd⟩ : ∃ s, mkS (seedL S.data.toList m) = s := ⟨_, rfl⟩
   have hsds : sd.size = 16 := by rw [← hsd, mkS_size, seedL_len]
   have cs := hidp (show ∀ W, Calls Tryz.prog 118 #[.agg #[.string S, .int .i64 (h : Int), .int .i64 (m : Int)], .int .i64 (m : Int)] W fun e w' => e = .returned (.string sd) ∧ Below W.heap.size W w' from fun W => by
    have := rkseed_any W S h m hmS m (by omega)
    rw [hsd] at this; exact this)
   obtain ⟨G, hG⟩ : ∃ s, mkS (signL (seedL S.data.toList m) t.data.toList) = s := ⟨_, rfl⟩
   have hGs := hidp (show G.size = 1088 from by rw [← hG, mkS_size, signL_len])
   have cg := hidp (show ∀ W, Calls Tryz.prog 117 #[.string sd, .string t] W fun e w' => e = .returned (.string G) ∧ Below W.heap.size W w' from fun W => by
    have := rsign_any W sd t (by omega) ht
    rw [show sd.data.toList = seedL S.data.toList m from by rw [← hsd, mkS_data], hG] at this; exact this)
   have hGd : G.data.toList = signL (seedL S.data.toList m) t.data.toList := by rw [← hG, mkS_data]
   have G2' := hidp (show sgS S (h : Int) (m : Int) t.data.toList = mkS (([UInt8.ofNat m] ++ G.data.toList) ++ flat p) from by
    rw [g2, Int.toNat_natCast, Int.toNat_natCast, hGd]; unfold sigL sigH; rw [hL, hp]; rfl)
   obtain ⟨C1, hC1⟩ : ∃ C, mkS [UInt8.ofNat m] = C := ⟨_, rfl⟩
   have CAT := hidp (show C1 ++ G = mkS ([UInt8.ofNat m] ++ G.data.toList) from by rw [← hC1, ← mkS_append]; rfl)
   have hnc : ¬ 9223372036854775807 < C1.size + G.size := by rw [← hC1, hGs.out, mkS_size]; simp
   rw [hn7] at hpn
   have hw1 : IntKind.u8.wrap (m : Int) = (m : Int) := by unfold IntKind.wrap; simp [IntKind.bits, IntKind.signed]; omega
   have hw2 : IntKind.i64.wrap ((m : Int) + 1) = (m : Int) + 1 := by rw [IntKind.wrap_i64]; omega
   clear hn7 hsd hG hGd hp hL g1 g2 g3 hok hn hm0 hm1 hP hpE hLl hPP
   go_enter Tryz.func64, Tryz.ntmps64
   go_wp2_with (first | (refine wpL_boxT 39 rfl _ rfl [.string S, .int .i64 (h : Int), .int .i64 (m : Int), .slice av nl cv] rfl ?_; intro b2 w1 n1) | (refine wpL_newDr rfl rfl ?_; intro b4 w2 n2; have HA3 := hidp (n2.old n1.arr); have HR3 := hidp n2.arr; have HB3 := hidp (n1.below.trans (n2.below.mono n1.below.size)); have h2w := hidp n1.le; have h24 := hidp (show b2 < b4 from by have := n2.at_; have := n1.lt; omega); clear n1 n2))
   obtain ⟨w3, hw3⟩ : ∃ w3, w2 = w3 := ⟨_, rfl⟩
   rw [hw3] at HA3 HR3 HB3 ⊢
   clear hw3
   go_wp2_with fail
   obtain ⟨U, hU⟩ : ∃ U, ({ w3 with drawn := w3.drawn + 1 } : World) = U := ⟨_, rfl⟩
   have bU : Below w3.heap.size w3 U := by rw [← hU]; exact (Below.refl _ _).drew
   have HA6 := hidp (HA3.out.below bU HA3.out.lt); have HR6 := hidp (HR3.out.below bU HR3.out.lt); have HB6 := hidp (HB3.out.trans (bU.mono HB3.out.size))
   clear bU HA3 HR3 HB3
   refine wp_region_noPanic ?_
   refine wp_region_scr (S := fun W => Arr W b2 39 [.string S, .int .i64 (h : Int), .int .i64 (m : Int), .slice av nl cv]) (.take 0 (.take 1 (.take 2 (.take 3 (.take 4 (.take 5 (.one 6 (.take 7 .done)))))))) (by kernel_rfl) (by kernel_rfl) (fun _ _ _ _ _ h => h) (by simp [Scr.depth]) (by kernel_rfl) (by rw [hU]; exact HA6.out) ?_
   simp only [hU]
   clear hU
   iterate 6
    apply s_val
    case ho => rfl
    case hw => rfl
    case hv => intro w hw; obtain ⟨x0, x1, x2, x3, -⟩ := arr4k hw; go_simp; first | done | with_reducible rfl | rfl
    simp only [Act.put, aP]
   apply o_call (f := 55) (args := #[.int .i64 (h : Int)]) (v := .int .i64 ((P : Nat) : Int)) (hc := ci.out _)
   case ho => rfl
   case hw => rfl
   case hop => go_simp; first | done | rfl
   rintro W' rfl
   refine ⟨HA6.out, ?_⟩
   simp only [Act.put, aP]
   apply s_val
   case ho => rfl
   case hw => rfl
   case hv => intro w hw; go_simp; first | done | with_reducible rfl | rfl
   simp only [Act.put, aP]
   refine NoPanic.normal ?_
   go_wp2_with fail
   obtain ⟨U, hU⟩ : ∃ U, ({ W' with drawn := W'.drawn + 1 } : World) = U := ⟨_, rfl⟩
   have bU : Below W'.heap.size W' U := by rw [← hU]; exact (Below.refl _ _).drew
   have HA := hidp (HA6.out.below bU HA6.out.lt); have HR := hidp (HR6.out.below bU HR6.out.lt); have HB := hidp (HB6.out.trans (bU.mono HB6.out.size))
   clear bU HA6 HR6 HB6
   obtain ⟨B0, hB0⟩ : ∃ B0, U.heap.size = B0 := ⟨_, rfl⟩
   have HB0 := hidp hB0
   have h2B := hidp (show b2 < B0 from by rw [← hB0]; exact HA.out.lt); have h4B := hidp (show b4 < B0 from by rw [← hB0]; exact HR.out.lt); have hwB := hidp (show w.heap.size ≤ B0 from by rw [← hB0]; exact HB.out.size)
   clear hB0
   refine wp_cutV (fun a vb => ((((((((((((((((a.put (some 21) (.pointer (some ⟨b2, 0, none⟩))).put (some 22) (.pointer (some ⟨b2, 2, none⟩))).put (some 23) (.int .i64 (m : Int))).put (some 24) (.int .u8 (m : Int))).put (some 25) vb).put (some 26) (.string C1)).put (some 27) (.pointer (some ⟨b2, 0, none⟩))).put (some 28) (.agg #[.string S, .int .i64 (h : Int), .int .i64 (m : Int)])).put (some 29) (.pointer (some ⟨b2, 0, none⟩))).put (some 30) (.pointer (some ⟨b2, 2, none⟩))).put (some 31) (.int .i64 (m : Int))).put (some 32) (.string sd)).put (some 33) (.string t)).put (some 34) (.string G)).put (some 35) (.string (C1 ++ G))).put (some 7) (.string (C1 ++ G)))) (fun _ W => Below B0 U W) ?_ ?_
   · refine wp_region_noPanic ?_
     refine wp_region_scr (S := fun W => Arr W b2 39 [.string S, .int .i64 (h : Int), .int .i64 (m : Int), .slice av nl cv]) (.take 0 (.take 1 (.take 2 (.take 3 (.take 6 (.take 7 (.take 8 (.take 9 (.take 10 (.take 12 (.two 4 (.two 5 (.one 11 (.one 13 (.take 14 (.take 15 .done)))) 11 (.two 5 (.one 13 (.take 14 (.take 15 .done))) 13 (.one 5 (.take 14 (.take 15 .done))))) 11 (.two 4 (.two 5 (.one 13 (.take 14 (.take 15 .done))) 13 (.one 5 (.take 14 (.take 15 .done)))) 13 (.one 4 (.one 5 (.take 14 (.take 15 .done)))))))))))))))) (by kernel_rfl) (by kernel_rfl) (fun _ _ _ _ _ h => h) (by simp [Scr.depth]) (by kernel_rfl) (by rw [hU]; exact HA.out) ?_
     simp only [hU]
     clear hU
     iterate 10
      apply s_val
      case ho => rfl
      case hw => rfl
      case hv => intro w hw; obtain ⟨x0, x1, x2, x3, -⟩ := arr4k hw; go_simp; first | done | with_reducible rfl | rfl
      simp only [Act.put, aP]
     have HQ0 := hidp (Below.refl B0 U)
     refine ⟨?_, ?_⟩
     · refine o_make (v := .slice (some ⟨U.heap.size, 0, none⟩) 1 1) (W := U.alloc (.cells #[.int .u8 (m : Int)] 5)) rfl rfl (by go_simp; first | done | rfl) ?_ ?_
       · exact (HA.out.below HQ0.out h2B.out).alloc _
       obtain ⟨X1, hX⟩ : ∃ X, U.alloc (.cells #[.int .u8 (m : Int)] 5) = X := ⟨_, rfl⟩
       have HC1 := hidp (show Arr X1 U.heap.size 5 [.int .u8 (m : Int)] from by rw [← hX]; exact Arr.new _ _ _)
       have HQ1 := hidp (show Below B0 U X1 from by rw [← hX]; exact HQ0.out.alloc (by have := HQ0.out.size; have := HB0.out; omega) _)
       rw [hX]
       clear hX
       simp only [Act.put, aP]
       refine ⟨?_, ?_⟩
       · refine o_make (v := .string C1) (W := X1) rfl rfl ?_ (HA.out.below HQ1.out h2B.out) ?_
         · have hc := conv1 X1 _ m (by omega) (HC1.out.cell 0 (by simp))
           rw [hC1] at hc
           go_simp
         simp only [Act.put, aP]
         apply o_call (f := 118) (args := #[.agg #[.string S, .int .i64 (h : Int), .int .i64 (m : Int)], .int .i64 (m : Int)]) (v := .string sd) (hc := cs.out _)
         case ho => rfl
         case hw => rfl
         case hop => go_simp; first | done | rfl
         rintro X2 hb
         have HQ2 := hidp (HQ1.out.trans (hb.mono (by have := HQ1.out.size; have := HB0.out; omega)))
         refine ⟨HA.out.below HQ2.out h2B.out, ?_⟩
         have HC2 := hidp (HC1.out.below hb HC1.out.lt)
         clear hb
         simp only [Act.put, aP]
         apply o_call (f := 117) (args := #[.string sd, .string t]) (v := .string G) (hc := cg.out _)
         case ho => rfl
         case hw => rfl
         case hop => go_simp; first | done | rfl
         rintro X3 hb
         have HQ3 := hidp (HQ2.out.trans (hb.mono (by have := HQ2.out.size; have := HB0.out; omega)))
         refine ⟨HA.out.below HQ3.out h2B.out, ?_⟩
         have HC3 := hidp (HC2.out.below hb HC2.out.lt)
         clear hb
         iterate 2
          simp only [Act.put, aP]
          apply s_val
          case ho => rfl
          case hw => rfl
          case hv => intro w hw; go_simp; first | done | with_reducible rfl | rfl
         simp only [Act.put, aP]
         refine NoPanic.normal ?_
         exact ⟨rfl, .slice (some ⟨U.heap.size, 0, none⟩) 1 1, rfl, HQ3.out⟩
       · apply o_call (f := 118) (args := #[.agg #[.string S, .int .i64 (h : Int), .int .i64 (m : Int)], .int .i64 (m : Int)]) (v := .string sd) (hc := cs.out _)
         case ho => rfl
         case hw => rfl
         case hop => go_simp; first | done | rfl
         rintro X4 hb
         have HQ4 := hidp (HQ1.out.trans (hb.mono (by have := HQ1.out.size; have := HB0.out; omega)))
         refine ⟨HA.out.below HQ4.out h2B.out, ?_⟩
         have HC4 := hidp (HC1.out.below hb HC1.out.lt)
         clear hb
         simp only [Act.put, aP]
         refine ⟨?_, ?_⟩
         · refine o_make (v := .string C1) (W := X4) rfl rfl ?_ (HA.out.below HQ4.out h2B.out) ?_
           · have hc := conv1 X4 _ m (by omega) (HC4.out.cell 0 (by simp))
             rw [hC1] at hc
             go_simp
           simp only [Act.put, aP]
           apply o_call (f := 117) (args := #[.string sd, .string t]) (v := .string G) (hc := cg.out _)
           case ho => rfl
           case hw => rfl
           case hop => go_simp; first | done | rfl
           rintro X5 hb
           have HQ5 := hidp (HQ4.out.trans (hb.mono (by have := HQ4.out.size; have := HB0.out; omega)))
           refine ⟨HA.out.below HQ5.out h2B.out, ?_⟩
           have HC5 := hidp (HC4.out.below hb HC4.out.lt)
           clear hb
           iterate 2
            simp only [Act.put, aP]
            apply s_val
            case ho => rfl
            case hw => rfl
            case hv => intro w hw; go_simp; first | done | with_reducible rfl | rfl
           simp only [Act.put, aP]
           refine NoPanic.normal ?_
           exact ⟨rfl, .slice (some ⟨U.heap.size, 0, none⟩) 1 1, rfl, HQ5.out⟩
         · apply o_call (f := 117) (args := #[.string sd, .string t]) (v := .string G) (hc := cg.out _)
           case ho => rfl
           case hw => rfl
           case hop => go_simp; first | done | rfl
           rintro X6 hb
           have HQ6 := hidp (HQ4.out.trans (hb.mono (by have := HQ4.out.size; have := HB0.out; omega)))
           refine ⟨HA.out.below HQ6.out h2B.out, ?_⟩
           have HC6 := hidp (HC4.out.below hb HC4.out.lt)
           clear hb
           simp only [Act.put, aP]
           refine o_make (v := .string C1) (W := X6) rfl rfl ?_ (HA.out.below HQ6.out h2B.out) ?_
           · have hc := conv1 X6 _ m (by omega) (HC6.out.cell 0 (by simp))
             rw [hC1] at hc
             go_simp
           iterate 2
            simp only [Act.put, aP]
            apply s_val
            case ho => rfl
            case hw => rfl
            case hv => intro w hw; go_simp; first | done | with_reducible rfl | rfl
           simp only [Act.put, aP]
           refine NoPanic.normal ?_
           exact ⟨rfl, .slice (some ⟨U.heap.size, 0, none⟩) 1 1, rfl, HQ6.out⟩
     · apply o_call (f := 118) (args := #[.agg #[.string S, .int .i64 (h : Int), .int .i64 (m : Int)], .int .i64 (m : Int)]) (v := .string sd) (hc := cs.out _)
       case ho => rfl
       case hw => rfl
       case hop => go_simp; first | done | rfl
       rintro X7 hb
       have HQ7 := hidp (HQ0.out.trans (hb.mono (by have := HQ0.out.size; have := HB0.out; omega)))
       refine ⟨HA.out.below HQ7.out h2B.out, ?_⟩
       clear hb
       simp only [Act.put, aP]
       refine ⟨?_, ?_⟩
       · refine o_make (v := .slice (some ⟨X7.heap.size, 0, none⟩) 1 1) (W := X7.alloc (.cells #[.int .u8 (m : Int)] 5)) rfl rfl (by go_simp; first | done | rfl) ?_ ?_
         · exact (HA.out.below HQ7.out h2B.out).alloc _
         obtain ⟨X8, hX⟩ : ∃ X, X7.alloc (.cells #[.int .u8 (m : Int)] 5) = X := ⟨_, rfl⟩
         have HC8 := hidp (show Arr X8 X7.heap.size 5 [.int .u8 (m : Int)] from by rw [← hX]; exact Arr.new _ _ _)
         have HQ8 := hidp (show Below B0 U X8 from by rw [← hX]; exact HQ7.out.alloc (by have := HQ7.out.size; have := HB0.out; omega) _)
         rw [hX]
         clear hX
         simp only [Act.put, aP]
         refine ⟨?_, ?_⟩
         · refine o_make (v := .string C1) (W := X8) rfl rfl ?_ (HA.out.below HQ8.out h2B.out) ?_
           · have hc := conv1 X8 _ m (by omega) (HC8.out.cell 0 (by simp))
             rw [hC1] at hc
             go_simp
           simp only [Act.put, aP]
           apply o_call (f := 117) (args := #[.string sd, .string t]) (v := .string G) (hc := cg.out _)
           case ho => rfl
           case hw => rfl
           case hop => go_simp; first | done | rfl
           rintro X9 hb
           have HQ9 := hidp (HQ8.out.trans (hb.mono (by have := HQ8.out.size; have := HB0.out; omega)))
           refine ⟨HA.out.below HQ9.out h2B.out, ?_⟩
           have HC9 := hidp (HC8.out.below hb HC8.out.lt)
           clear hb
           iterate 2
            simp only [Act.put, aP]
            apply s_val
            case ho => rfl
            case hw => rfl
            case hv => intro w hw; go_simp; first | done | with_reducible rfl | rfl
           simp only [Act.put, aP]
           refine NoPanic.normal ?_
           exact ⟨rfl, .slice (some ⟨X7.heap.size, 0, none⟩) 1 1, rfl, HQ9.out⟩
         · apply o_call (f := 117) (args := #[.string sd, .string t]) (v := .string G) (hc := cg.out _)
           case ho => rfl
           case hw => rfl
           case hop => go_simp; first | done | rfl
           rintro X10 hb
           have HQ10 := hidp (HQ8.out.trans (hb.mono (by have := HQ8.out.size; have := HB0.out; omega)))
           refine ⟨HA.out.below HQ10.out h2B.out, ?_⟩
           have HC10 := hidp (HC8.out.below hb HC8.out.lt)
           clear hb
           simp only [Act.put, aP]
           refine o_make (v := .string C1) (W := X10) rfl rfl ?_ (HA.out.below HQ10.out h2B.out) ?_
           · have hc := conv1 X10 _ m (by omega) (HC10.out.cell 0 (by simp))
             rw [hC1] at hc
             go_simp
           iterate 2
            simp only [Act.put, aP]
            apply s_val
            case ho => rfl
            case hw => rfl
            case hv => intro w hw; go_simp; first | done | with_reducible rfl | rfl
           simp only [Act.put, aP]
           refine NoPanic.normal ?_
           exact ⟨rfl, .slice (some ⟨X7.heap.size, 0, none⟩) 1 1, rfl, HQ10.out⟩
       · apply o_call (f := 117) (args := #[.string sd, .string t]) (v := .string G) (hc := cg.out _)
         case ho => rfl
         case hw => rfl
         case hop => go_simp; first | done | rfl
         rintro X11 hb
         have HQ11 := hidp (HQ7.out.trans (hb.mono (by have := HQ7.out.size; have := HB0.out; omega)))
         refine ⟨HA.out.below HQ11.out h2B.out, ?_⟩
         clear hb
         simp only [Act.put, aP]
         refine o_make (v := .slice (some ⟨X11.heap.size, 0, none⟩) 1 1) (W := X11.alloc (.cells #[.int .u8 (m : Int)] 5)) rfl rfl (by go_simp; first | done | rfl) ?_ ?_
         · exact (HA.out.below HQ11.out h2B.out).alloc _
         obtain ⟨X12, hX⟩ : ∃ X, X11.alloc (.cells #[.int .u8 (m : Int)] 5) = X := ⟨_, rfl⟩
         have HC12 := hidp (show Arr X12 X11.heap.size 5 [.int .u8 (m : Int)] from by rw [← hX]; exact Arr.new _ _ _)
         have HQ12 := hidp (show Below B0 U X12 from by rw [← hX]; exact HQ11.out.alloc (by have := HQ11.out.size; have := HB0.out; omega) _)
         rw [hX]
         clear hX
         simp only [Act.put, aP]
         refine o_make (v := .string C1) (W := X12) rfl rfl ?_ (HA.out.below HQ12.out h2B.out) ?_
         · have hc := conv1 X12 _ m (by omega) (HC12.out.cell 0 (by simp))
           rw [hC1] at hc
           go_simp
         iterate 2
          simp only [Act.put, aP]
          apply s_val
          case ho => rfl
          case hw => rfl
          case hv => intro w hw; go_simp; first | done | with_reducible rfl | rfl
         simp only [Act.put, aP]
         refine NoPanic.normal ?_
         exact ⟨rfl, .slice (some ⟨X11.heap.size, 0, none⟩) 1 1, rfl, HQ12.out⟩
   · intro vb X3 hq3
     have HQ3 := hidp hq3
     clear hq3
     simp only [Act.put, aP]
     have HA6 := hidp (HA.out.below HQ3.out h2B.out); have HR6 := hidp (HR.out.below HQ3.out h4B.out); have HB6 := hidp (HB.out.trans (HQ3.out.mono hwB.out))
     clear HA HR HB
     have HVQ := hidp (HV.out.to HB6.out)
     obtain ⟨x0, x1, x2, x3, -⟩ := arr4k HA6.out
     go_wp2_with fail
     clear x0 x1 x2 x3
     refine (ct.out _ _ HVQ.out).mono ?_
     rintro e W9 ⟨vp, rfl, hv, hb⟩
     have HA9 := hidp (HA6.out.below hb HA6.out.lt); have HR9 := hidp (HR6.out.below hb HR6.out.lt); have HB9 := hidp (HB6.out.trans (hb.mono HB6.out.size)); have HP9 := hidp hv.hs
     clear hb hv HA6 HR6 HB6 HVQ
     obtain ⟨ap, cp', rfl⟩ := HP9.out.form
     rw [HN.out] at HP9 ⊢
     have hcat := CAT.out
     go_wp2_with fail
     clear hcat
     go_loopw [7, 47] (fun t7 t47 wr => ∃ k : Nat, t47 = .int .i64 (k : Int) ∧ k ≤ n ∧ t7 = .string (mkS (([UInt8.ofNat m] ++ G.data.toList) ++ flat (p.take k))) ∧ Below W9.heap.size W9 wr) (fun _ t47 _ => n - (intOf t47).toNat)
     case atStart => exact ⟨0, rfl, by omega, by first | (rw [CAT.out]; simp [flat]) | simp [flat], Below.refl _ _⟩
     case round =>
      obtain ⟨k, rfl, hk, rfl, hq⟩ := hrel
      have HQ1 := hidp hq
      have hsz := hidp hq.size
      clear hq
      by_cases hlt : k < n
      · obtain ⟨B, off, c', e1, _, hB, hrr⟩ := HP9.out.get (by rw [HN.out]; omega)
        simp only [Value.slice.injEq] at e1
        obtain ⟨rfl, -, -⟩ := e1
        have hkp' : k < p.length := by rw [HN.out]; exact hlt
        have hxl := hidp (HP9.out.1.get k hkp')
        have hrx := hidp (show wr.rangeAt B (off + 32 * k) (u8s p[k]) from rangeAt_below (range_nth hrr HP9.out.1 k hkp') HQ1.out hB)
        have htk := hidp (show flat (p.take k) ++ p[k] = flat (p.take (k + 1)) from by rw [List.take_succ_eq_append_getElem hkp', flat_snoc])
        obtain ⟨x, hx⟩ : ∃ x, p[k] = x := ⟨_, rfl⟩
        rw [hx] at hxl hrx htk
        have e1 : decide ((k : Int) < (n : Int)) = true := by simp; omega
        clear hx hkp' hrr
        obtain ⟨M1, hM1⟩ : ∃ M, mkS (([UInt8.ofNat m] ++ G.data.toList) ++ flat (p.take k)) = M := ⟨_, rfl⟩
        obtain ⟨M2, hM2⟩ : ∃ M, mkS x = M := ⟨_, rfl⟩
        have hM3 := hidp (show M1 ++ M2 = mkS (([UInt8.ofNat m] ++ G.data.toList) ++ flat (p.take (k + 1))) from by rw [← hM1, ← hM2, mkS_append, List.append_assoc, htk.out])
        have hns : ¬ 9223372036854775807 < M1.size + M2.size := by
         rw [← hM1, ← hM2, mkS_size, mkS_size, hxl.out, List.length_append, flat_len (HP9.out.1.take k), List.length_append, List.length_take, size_toList, hGs.out]; simp; omega
        rw [hM1]
        have HM2 := hidp hM2
        clear hM1 hM2
        go_wp2_with (first | (refine wpL_idx rfl (.tmp 45) (.tmp 47) rfl B off _ _ k rfl rfl hlt ?_) | (refine wpL_at rfl (.tmp 49) rfl B (off + 32 * k) x rfl hxl.out hrx.out ?_) | (refine wpL_new rfl rfl ?_; intro b12 w12 n12) | (refine wpL_put rfl (.tmp 11) (.tmp 50) rfl b12 x rfl rfl hxl.out (u8s z32) rfl n12.arr ?_; intro w13 ha13 hp13; have hcv := str_conv w13 b12 x hxl.out ha13.range; rw [HM2.out] at hcv) | (refine wpL_slc rfl (.tmp 11) rfl b12 0 rfl ?_))
        exact ⟨⟨k + 1, by go_num, by omega, by rw [hM3.out], HQ1.out.trans ((n12.put hp13).mono hsz.out)⟩, by simp [intOf]; omega⟩
      · have e1 : decide ((k : Int) < (n : Int)) = false := by simp; omega
        have hkn : k = n := by omega
        have htk : p.take k = p := by rw [hkn, List.take_of_length_le (by rw [HN.out]; exact Nat.le_refl _)]
        rw [htk]
        have HG2 := hidp G2'.out
        obtain ⟨MS, hMS⟩ : ∃ s, mkS (([UInt8.ofNat m] ++ G.data.toList) ++ flat p) = s := ⟨_, rfl⟩
        rw [hMS] at HG2 ⊢
        clear htk hMS
        have HA1 := hidp (HA9.out.below HQ1.out HA9.out.lt); have HR1 := hidp (HR9.out.below HQ1.out HR9.out.lt); have HB1 := hidp (HB9.out.trans (HQ1.out.mono HB9.out.size))
        clear HA9 HR9 HB9
        obtain ⟨x0, x1, x2, x3, xf⟩ := arr4k HA1.out
        have g0 := xf 0; have g1 := xf 1; have g2 := xf 2; have g3 := xf 3
        clear xf
        obtain ⟨y0, y1, y2, y3, yf⟩ := arr4k HR1.out
        have f0 := yf 0; have f1 := yf 1; have f2 := yf 2; have f3 := yf 3
        clear yf
        have hne : b2 ≠ b4 := by have := h24.out; omega
        have hne' : b4 ≠ b2 := Ne.symm hne
        go_wp2_with fail
        clear x0 x1 x2 x3 g0 g1 g2 g3
        clear y0 y1 y2 y3 f0 f1 f2 f3
        obtain ⟨w15, hw15, ha15, hp15⟩ := set1 HA1.out 2 (.int .i64 ((m : Int) + 1))
        rw [hw15]
        have HRa := hidp (hp15.arr (by have := h24.out; omega) HR1.out)
        obtain ⟨w16, hw16, ha16, hp16⟩ := set4 HRa.out (.string S) (.int .i64 (h : Int)) (.int .i64 ((m : Int) + 1)) (.slice av nl cv)
        rw [hw16]
        have HBZ := hidp (hp16.below' (hp15.below' HB1.out h2w.out) (by have := h2w.out; have := h24.out; omega))
        obtain ⟨y0, y1, y2, y3, -⟩ := arr4k ha16
        refine bodyPost_ret (v := .tuple #[.agg #[.string S, .int .i64 (h : Int), .int .i64 ((m : Int) + 1), .slice av nl cv], .string MS, .int .i64 0]) (by simp [results, Tryz.results64, go_sem, y0, y1, y2, y3]) rfl ⟨by rw [G1.out, HG2.out, G3.out]; rfl, HBZ.out⟩
end
end Go.Proofs.YtokakgjcegmabaaGreatDoor
