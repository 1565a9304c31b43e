
/-
  Rings of keys, the program's and the document's.
-/
import Derived.Test.YtgfdhgnkanekhaaDoorKyI

namespace Go.Proofs.YtgfdhgnkanekhaaDoor
set_option maxRecDepth 100000
set_option linter.unusedVariables false
set_option linter.unusedSimpArgs false
open Go.RowKit

theorem arr4k {w : World} {b T : Nat} {x0 x1 x2 x3 : Value} (h : Arr w b T [x0, x1, x2, x3]) : w.cell? ⟨b, 0, none⟩ = some x0 ∧ w.cell? ⟨b, 1, none⟩ = some x1 ∧ w.cell? ⟨b, 2, none⟩ = some x2 ∧ w.cell? ⟨b, 3, none⟩ = some x3 ∧ ∀ i, w.frozen? ⟨b, i, none⟩ = false :=
  ⟨h.cell 0 (by simp), h.cell 1 (by simp), h.cell 2 (by simp), h.cell 3 (by simp), h.frozen⟩
theorem Stp.trans {w W X : World} {b : Nat} (h : Stp b w W) (k : Stp b W X) : Stp b w X :=
  ⟨k.size.trans h.size, fun c hc => (k.other c hc).trans (h.other c hc), fun N hN => (h.below N hN).trans (k.below N hN)⟩
theorem set4 {w : World} {b T : Nat} {a0 a1 a2 a3 : Value} (h : Arr w b T [a0, a1, a2, a3]) (x0 x1 x2 x3 : Value) : ∃ W, (((w.setCell ⟨b, 0, none⟩ x0).setCell ⟨b, 1, none⟩ x1).setCell ⟨b, 2, none⟩ x2).setCell ⟨b, 3, none⟩ x3 = W ∧ Arr W b T [x0, x1, x2, x3] ∧ Stp b w W := by
  have s1 : ∀ (w : World) (i : Nat) (v : Value), Stp b w (w.setCell ⟨b, i, none⟩ v) := fun w i v => ⟨by simp, fun c hc => Below.heap_setCell w ⟨b, i, none⟩ v c hc, fun N hN => (Below.refl N w).setCell (p := ⟨b, i, none⟩) hN v⟩
  exact ⟨_, rfl, (((h.set 0 x0).set 1 x1).set 2 x2).set 3 x3, (((s1 w 0 x0).trans (s1 _ 1 x1)).trans (s1 _ 2 x2)).trans (s1 _ 3 x3)⟩
theorem infoDRing : (Tryd.prog.info? 45).map (fun i => (i.zero, i.size)) = some (some (.agg #[.string ⟨#[]⟩, .int .i64 0, .int .i64 0, .slice none 0 0]), 4) := by kernel_rfl
theorem dring_size (x y z u : Value) : (Tryd.prog.info? 45).map (·.size) = some #[x, y, z, u].size := by
  rw [show (Tryd.prog.info? 45).map (·.size) = some 4 from by kernel_rfl]; rfl
theorem dring_row : ∃ fs, Tryd.prog.underlying 45 = some (.struct fs) := ⟨_, Tryd.underlying45⟩
theorem zero_dring (w : World) : (zeroValue 45).run Tryd.prog w = .ok (.agg #[.string ⟨#[]⟩, .int .i64 0, .int .i64 0, .slice none 0 0]) w := by
  have hi0 := infoDRing
  cases hi : Tryd.prog.info? 45 with
  | none => rw [hi] at hi0; cases hi0
  | some i0 =>
    rw [hi] at hi0
    simp only [Option.map_some, Option.some.injEq, Prod.mk.injEq] at hi0
    obtain ⟨hz0, -⟩ := hi0
    simp [zeroValue, typeInfo, hi, hz0]
section
variable {ops : Array Oper} {rest : List Oper} {o : Oper} {a : Act} {w : World} {Q : Exit → Act → World → Prop}
theorem wpL_newDr (hgd : o.guard = none) (ho : o.op = .alloc 45)
    (h : ∀ b W, NewAt w W b 45 [.string ⟨#[]⟩, .int .i64 0, .int .i64 0, .slice none 0 0] → wpList Tryd.prog ops Q rest (a.put o.dst (.pointer (some ⟨b, 0, none⟩))) W) :
    wpList Tryd.prog ops Q (o :: rest) a w := by
  refine wpList_plain hgd fun K hK => ?_
  have := hK _ _ (h w.heap.size (w.alloc (.cells #[.string ⟨#[]⟩, .int .i64 0, .int .i64 0, .slice none 0 0] 45)) (NewAt.mk' _ _ _))
  unfold Oper.wp execOp
  simp only [ho, Instr.alloc, Sem.run_bind, Result.andThen_ok, zero_dring w]
  simp [newVar, newRow, Value.cells]
  exact this
theorem wpL_boxT (T : TypeId) (hgd : o.guard = none) (x : Operand) (ho : o.op = .box T x) (xs : List Value) (hx : a.eval x = .agg xs.toArray)
    (h : ∀ b W, NewAt w W b T xs → wpList Tryd.prog ops Q rest (a.put o.dst (.pointer (some ⟨b, 0, none⟩))) W) :
    wpList Tryd.prog ops Q (o :: rest) a w := by
  refine wpList_plain hgd fun K hK => ?_
  have := hK _ _ (h w.heap.size (w.alloc (.cells xs.toArray T)) (NewAt.mk' _ _ _))
  unfold Oper.wp execOp
  simp only [ho, Instr.box, Sem.run_bind, Result.andThen_ok, hx]
  simp [newVar, newRow, Value.cells]
  exact this
theorem wpL_putD (hgd : o.guard = none) (x y : Operand) (ho : o.op = .store 45 x y) (b : Nat) (x0 x1 x2 x3 : Value) (hx : a.eval x = .pointer (some ⟨b, 0, none⟩)) (hy : a.eval y = .agg #[x0, x1, x2, x3])
    (h1 : #[x0, x1, x2, x3].all (·.oneCell') = true) (y0 y1 y2 y3 : Value) (hg : Arr w b 45 [y0, y1, y2, y3])
    (h : ∀ W, Arr W b 45 [x0, x1, x2, x3] → Stp b w W → wpList Tryd.prog ops Q rest (a.put o.dst undef) W) : wpList Tryd.prog ops Q (o :: rest) a w :=
  wpList_store_row hgd 45 x y ho b #[x0, x1, x2, x3] hx hy 45 _ hg (dring_size _ _ _ _) rfl h1 (h _ (Arr.row hg _) (Stp.setRow _ _ _))
theorem wpL_getD (hgd : o.guard = none) (x : Operand) (ho : o.op = .load 45 x) (b : Nat) (x0 x1 x2 x3 : Value) (hx : a.eval x = .pointer (some ⟨b, 0, none⟩)) (hg : Arr w b 45 [x0, x1, x2, x3])
    (h : wpList Tryd.prog ops Q rest (a.put o.dst (.agg #[x0, x1, x2, x3])) w) : wpList Tryd.prog ops Q (o :: rest) a w := by
  obtain ⟨fs, hu⟩ := dring_row
  exact wpList_load_row hgd 45 x ho b hx 45 _ (0, 0) _ hg hu rfl (dring_size _ _ _ _) h
end
theorem o_putD {ops : Array Oper} {Q : Exit → Act → World → Prop} {S : World → Prop} {k : Nat} {o : Oper} {a : Act} {w : World} {K : Act → World → Prop} (ho : ops[k]? = some o) (hw : Region.wanted o (yielded ops a.tmps) = true) (x y : Operand) (hop : o.op = .store 45 x y) (b : Nat) (x0 x1 x2 x3 : Value) (hx : a.eval x = .pointer (some ⟨b, 0, none⟩)) (hy : a.eval y = .agg #[x0, x1, x2, x3])
    (h1 : #[x0, x1, x2, x3].all (·.oneCell') = true) (y0 y1 y2 y3 : Value) (hg : Arr w b 45 [y0, y1, y2, y3])
    (h : ∀ W, Arr W b 45 [x0, x1, x2, x3] → Stp b w W → S W ∧ K (a.put o.dst undef) W) : opW Tryd.prog ops Q S k K a w :=
  ⟨o, ho, hw, wp_store_row (P := Tryd.prog) 45 x y hop b #[x0, x1, x2, x3] hx hy 45 _ hg (dring_size _ _ _ _) rfl h1 (h _ (Arr.row hg _) (Stp.setRow _ _ _))⟩
theorem conv1 (W : World) (b m : Nat) (hm : m < 256) (hc : W.cell? ⟨b, 0, none⟩ = some (.int .u8 (m : Int))) : (convert 76 9 (.slice (some ⟨b, 0, none⟩) 1 1)).run Tryd.prog W = .ok (.string (mkS [UInt8.ofNat m])) W := by
  refine run_str_at (P := Tryd.prog) (src := 76) (e := 5) (dst := 9) Tryd.underlying76 Tryd.underlying5 Tryd.underlying9 b 0 1 [UInt8.ofNat m] (w := W) fun i hi => ?_
  obtain rfl : i = 0 := by simpa using hi
  simp only [Nat.add_zero]
  rw [hc]
  simp [u8n m hm]

set_option maxHeartbeats 8000000 in
theorem krKey_any (w : World) (b : Nat) (S : ByteArray) (H N : Int) (hA : Arr w b 84 [.string S, .int .i64 H, .int .i64 N]) :
    Calls Tryd.prog 28 #[.pointer (some ⟨b, 0, none⟩)] w fun e w' => e = .returned (.agg #[.string S, .int .i64 H, .int .i64 N]) ∧ Below w.heap.size w w' := by
  have HA := hidp hA; have hlt := hidp hA.lt; clear hA
  go_enter Tryd.func28, Tryd.ntmps28
  go_wp2_with (refine wpL_newK rfl rfl ?_; intro b2 w2 n2; have HX := hidp (n2.old HA.out); have HR := hidp n2.arr; have HB := hidp n2.below; have h2w := hidp n2.le; have hne : b ≠ b2 := (by have := n2.at_; have := hlt.out; omega); clear n2; obtain ⟨x0, x1, x2, -⟩ := arr3k HX.out; obtain ⟨y0, y1, y2, yf⟩ := arr3k HR.out; have f0 := yf 0; have f1 := yf 1; have f2 := yf 2; clear yf; have hne' : b2 ≠ b := Ne.symm hne)
  clear y0 y1 y2 f0 f1 f2
  clear x0 x1 x2
  obtain ⟨w9, hw9, ha9, hp9⟩ := set3 HR.out (.string S) (.int .i64 H) (.int .i64 N)
  rw [hw9]
  have HB9 := hidp (hp9.below' HB.out h2w.out)
  obtain ⟨y0, y1, y2, -⟩ := arr3k ha9
  refine bodyPost_ret (v := .agg #[.string S, .int .i64 H, .int .i64 N]) (by simp [results, Tryd.results28, go_sem, y0, y1, y2]) rfl ⟨rfl, HB9.out⟩

set_option maxHeartbeats 8000000 in
theorem krRoot_any (w : World) (b : Nat) (S : ByteArray) (H N : Int) (hA : Arr w b 84 [.string S, .int .i64 H, .int .i64 N]) (hK : KT w) :
    Calls Tryd.prog 24 #[.pointer (some ⟨b, 0, none⟩)] w fun e w' => e = .returned (.agg (u8s (keyR S H N)).toArray) ∧ Below w.heap.size w w' := by
  have HK := hidp hK; have hkp := hK.pos; clear hK
  have HA := hidp hA; have hlt := hidp hA.lt; clear hA
  have hRl := hidp (keyR_len S H N)
  have cr := hidp (fun W (k : KT W) => kroot_any W S H N k)
  obtain ⟨R, hR⟩ : ∃ R, keyR S H N = R := ⟨_, rfl⟩
  rw [hR] at hRl cr ⊢
  clear hR
  go_enter Tryd.func24, Tryd.ntmps24
  go_wp2_with (refine wpL_new rfl rfl ?_; intro b2 w2 n2; have HA2 := hidp (n2.old HA.out); have HR2 := hidp n2.arr; have HB2 := hidp n2.below; have h2w := hidp n2.le; clear n2)
  refine (krKey_any _ b S H N HA2.out).mono ?_
  rintro e w3 ⟨rfl, hb3⟩
  have HB3 := hidp (HB2.out.trans (hb3.mono HB2.out.size)); have HR3 := hidp (HR2.out.below hb3 HR2.out.lt)
  clear hb3
  go_wp2_with fail
  refine (cr.out _ (HK.out.below HB3.out hkp)).mono ?_
  rintro e w4 ⟨rfl, hb4⟩
  have HB4 := hidp (HB3.out.trans (hb4.mono HB3.out.size)); have HR4 := hidp (HR3.out.below hb4 HR3.out.lt)
  clear hb4
  go_wp2_with (first
    | (refine wpL_new rfl rfl ?_; intro b3 w5 n5)
    | (refine wpL_put rfl (.tmp 3) (.tmp 9) rfl b3 R rfl rfl hRl.out (u8s z32) rfl n5.arr ?_; intro w6 ha hp; have HR6 := hidp (hp.old (n5.old HR4.out) (by have := n5.at_; have := HR4.out.lt; omega)); have HB6 := hidp (HB4.out.trans ((n5.put hp).mono HB4.out.size)); clear n5 hp; have HC6 := hidp ha; clear ha)
    | (refine wpL_get rfl (.tmp 3) rfl b3 R rfl hRl.out HC6.out ?_)
    | (refine wpL_put rfl (.tmp 2) (.tmp 11) rfl b2 R rfl rfl hRl.out (u8s z32) rfl HR6.out ?_; intro w9 ha9 hp9))
  have HB9 := hidp (hp9.below' HB6.out h2w.out)
  refine bodyPost_ret (results_cell_row (P := Tryd.prog) (p := 2) (ty := 26) Tryd.results24 _ _ b2 26 (u8s R).toArray (0, 0) _ rfl ha9 hash_row rfl (hash_size hRl.out)) rfl ⟨rfl, HB9.out⟩

/-- The ring's key behind a signature. -/
def rgA (S : ByteArray) (H N : Int) : List Value := if sgE S H N = 0 then sgA S H N else [.string S, .int .i64 H, .int .i64 N]
set_option maxHeartbeats 8000000 in
theorem krSign_any (w : World) (b : Nat) (S : ByteArray) (h m : Nat) (hok : kyOk S h m = true) (t : ByteArray) (ht : t.size ≤ 281474976710656 / 4) (hA : Arr w b 84 [.string S, .int .i64 (h : Int), .int .i64 (m : Int)]) (hK : KT w) :
    Calls Tryd.prog 27 #[.pointer (some ⟨b, 0, none⟩), .string t] w fun e w' => e = .returned (.tuple #[.string (sgS S h m t.data.toList), .int .i64 (sgE S h m)]) ∧ ∃ W, Below w.heap.size w W ∧ Stp b W w' ∧ Arr w' b 84 (rgA S h m) := by
  have HK := hidp hK; have hkp := hK.pos; clear hK
  have HA := hidp hA; have hlt := hidp hA.lt; clear hA
  have hS := (kyOk_parts hok).1.2
  have cs := hidp (fun W (k : KT W) => ksign_any W S (h : Int) (m : Int) t ht k)
  by_cases hn : m = 2 ^ h
  · obtain ⟨g1, g2, g3⟩ := sg_over t.data.toList hok (by rw [Int.toNat_natCast, hn])
    have G4 := hidp (show rgA S h m = [.string S, .int .i64 (h : Int), .int .i64 (m : Int)] from by unfold rgA; rw [g3]; rfl)
    rw [g1, g2, g3] at cs
    rw [g2, g3, G4.out]
    clear g1 g2 g3 hn hok
    go_enter Tryd.func27, Tryd.ntmps27
    go_wp2_with fail
    refine (krKey_any _ b S h m HA.out).mono ?_
    rintro e w1 ⟨rfl, hb1⟩
    have HA1 := hidp (HA.out.below hb1 hlt.out); have HB1 := hidp hb1
    clear hb1
    go_wp2_with fail
    refine (cs.out _ (HK.out.below HB1.out hkp)).mono ?_
    rintro e w2 ⟨rfl, hb2⟩
    have HA2 := hidp (HA1.out.below hb2 HA1.out.lt); have HB2 := hidp (HB1.out.trans (hb2.mono HB1.out.size))
    clear hb2 HA1
    go_wp2_with (first
      | (refine wpL_newK rfl rfl ?_; intro b6 w3 n3; have HA3 := hidp (n3.old HA2.out); have HR3 := hidp n3.arr; have HB3 := hidp (HB2.out.trans (n3.below.mono HB2.out.size)); have h3w := hidp (Nat.le_trans HB2.out.size n3.le); have hbb := hidp (show b < b6 from by have := n3.at_; have := HA2.out.lt; omega); clear n3)
      | (refine wpL_putK rfl (.tmp 6) (.tmp 14) rfl b6 (.string S) (.int .i64 (h : Int)) (.int .i64 (m : Int)) rfl rfl (by simp [Value.oneCell']) _ _ _ HR3.out ?_; intro w4 ha hp; have HA4 := hidp (hp.old HA3.out hbb.out); have HC4 := hidp ha; have HB4 := hidp (hp.below' HB3.out h3w.out); clear ha hp HA3 HR3 HB3; obtain ⟨x0, x1, x2, -⟩ := arr3k HC4.out; obtain ⟨y0, y1, y2, yf⟩ := arr3k HA4.out; have f0 := yf 0; have f1 := yf 1; have f2 := yf 2; clear yf; have hne : b ≠ b6 := (by have := hbb.out; omega); have hne' : b6 ≠ b := Ne.symm hne))
    clear x0 x1 x2 y0 y1 y2 f0 f1 f2
    go_ret2
    exact ⟨rfl, _, HB4.out, ⟨rfl, fun _ _ => rfl, fun N _ => Below.refl N _⟩, HA4.out⟩
  · obtain ⟨g1, g2, g3⟩ := sg_yes t.data.toList hok (by rw [Int.toNat_natCast]; exact_mod_cast hn)
    have G4 := hidp (show rgA S h m = [.string S, .int .i64 (h : Int), .int .i64 ((m : Int) + 1)] from by unfold rgA; rw [g3, if_pos rfl, g1])
    rw [g1, g3] at cs
    rw [g3, G4.out]
    obtain ⟨G, hG⟩ : ∃ G, sgS S h m t.data.toList = G := ⟨_, rfl⟩
    rw [hG] at cs ⊢
    clear g1 g2 g3 hn hok hG
    go_enter Tryd.func27, Tryd.ntmps27
    go_wp2_with fail
    refine (krKey_any _ b S h m HA.out).mono ?_
    rintro e w1 ⟨rfl, hb1⟩
    have HA1 := hidp (HA.out.below hb1 hlt.out); have HB1 := hidp hb1
    clear hb1
    go_wp2_with fail
    refine (cs.out _ (HK.out.below HB1.out hkp)).mono ?_
    rintro e w2 ⟨rfl, hb2⟩
    have HA2 := hidp (HA1.out.below hb2 HA1.out.lt); have HB2 := hidp (HB1.out.trans (hb2.mono HB1.out.size))
    clear hb2 HA1
    go_wp2_with (first
      | (refine wpL_newK rfl rfl ?_; intro b6 w3 n3; have HA3 := hidp (n3.old HA2.out); have HR3 := hidp n3.arr; have HB3 := hidp (HB2.out.trans (n3.below.mono HB2.out.size)); have h3w := hidp (Nat.le_trans HB2.out.size n3.le); have hbb := hidp (show b < b6 from by have := n3.at_; have := HA2.out.lt; omega); clear n3)
      | (refine wpL_putK rfl (.tmp 6) (.tmp 14) rfl b6 (.string S) (.int .i64 (h : Int)) (.int .i64 ((m : Int) + 1)) rfl rfl (by simp [Value.oneCell']) _ _ _ HR3.out ?_; intro w4 ha hp; have HA4 := hidp (hp.old HA3.out hbb.out); have HC4 := hidp ha; have HB4 := hidp (hp.below' HB3.out h3w.out); clear ha hp HA3 HR3 HB3; obtain ⟨x0, x1, x2, -⟩ := arr3k HC4.out; obtain ⟨y0, y1, y2, yf⟩ := arr3k HA4.out; have f0 := yf 0; have f1 := yf 1; have f2 := yf 2; clear yf; have hne : b ≠ b6 := (by have := hbb.out; omega); have hne' : b6 ≠ b := Ne.symm hne))
    clear x0 x1 x2 y0 y1 y2 f0 f1 f2
    obtain ⟨w9, hw9, ha9, hp9⟩ := set3 HA4.out (.string S) (.int .i64 (h : Int)) (.int .i64 ((m : Int) + 1))
    rw [hw9]
    go_ret2
    exact ⟨rfl, _, HB4.out, hp9, ha9⟩

set_option maxHeartbeats 8000000 in
theorem kmake_no (w : World) (S : ByteArray) (H N : Int) (hok : kyOk S H N = false) :
    Calls Tryd.prog 22 #[.agg #[.string S, .int .i64 H, .int .i64 N]] w fun e w' => e = .returned (.tuple #[.pointer none, .int .i64 2]) ∧ Below w.heap.size w w' := by
  have c1 := hidp (fun W => kyCheck_any W S H N)
  have hE : kyE S H N = 2 := by unfold kyE; rw [hok]; rfl
  rw [hE] at c1
  clear hE hok
  go_enter Tryd.func22, Tryd.ntmps22
  go_wp2_with (refine wpL_boxK rfl _ rfl [.string S, .int .i64 H, .int .i64 N] rfl ?_; intro b1 w1 n1; have HA := hidp n1.arr; have HB := hidp n1.below; clear n1; obtain ⟨x0, x1, x2, -⟩ := arr3k HA.out)
  clear x0 x1 x2
  refine (c1.out _).mono ?_
  rintro e w2 ⟨rfl, hb2⟩
  have HA2 := hidp (HA.out.below hb2 HA.out.lt); have HB2 := hidp (HB.out.trans (hb2.mono HB.out.size))
  clear hb2 HA HB
  obtain ⟨x0, x1, x2, -⟩ := arr3k HA2.out
  go_wp2_with fail
  go_ret2
  exact ⟨rfl, HB2.out⟩
set_option maxHeartbeats 8000000 in
theorem kmake_yes (w : World) (S : ByteArray) (H N : Int) (hS : S.size ≤ 281474976710656) (hok : kyOk S H N = true) :
    Calls Tryd.prog 22 #[.agg #[.string S, .int .i64 H, .int .i64 N]] w fun e w' => ∃ b, e = .returned (.tuple #[.pointer (some ⟨b, 0, none⟩), .int .i64 0]) ∧ Arr w' b 84 [.string S, .int .i64 H, .int .i64 N] ∧ w.heap.size ≤ b ∧ Below w.heap.size w w' := by
  have c1 := hidp (fun W => kyCheck_any W S H N)
  have co := hidp (fun W => owned_any W S H N hS)
  have hE : kyE S H N = 0 := by unfold kyE; rw [hok]; rfl
  rw [hE] at c1
  clear hE hok
  go_enter Tryd.func22, Tryd.ntmps22
  go_wp2_with (refine wpL_boxK rfl _ rfl [.string S, .int .i64 H, .int .i64 N] rfl ?_; intro b1 w1 n1; have HA := hidp n1.arr; have HB := hidp n1.below; clear n1; obtain ⟨x0, x1, x2, -⟩ := arr3k HA.out)
  clear x0 x1 x2
  refine (c1.out _).mono ?_
  rintro e w2 ⟨rfl, hb2⟩
  have HA2 := hidp (HA.out.below hb2 HA.out.lt); have HB2 := hidp (HB.out.trans (hb2.mono HB.out.size))
  clear hb2 HA HB
  obtain ⟨x0, x1, x2, -⟩ := arr3k HA2.out
  go_wp2_with fail
  clear x0 x1 x2
  refine (co.out _).mono ?_
  rintro e w3 ⟨rfl, hb3⟩
  have HB3 := hidp (HB2.out.trans (hb3.mono HB2.out.size))
  clear hb3
  go_wp2_with (refine wpL_boxT 84 rfl (.tmp 12) rfl [.string S, .int .i64 H, .int .i64 N] rfl ?_; intro b5 w5 n5)
  go_ret2
  exact ⟨b5, rfl, n5.arr, Nat.le_trans HB3.out.size n5.le, HB3.out.trans (n5.below.mono HB3.out.size)⟩

set_option maxHeartbeats 8000000 in
theorem rmake_any (w : World) (S : ByteArray) (h : Nat) (N : Int) (hS : S.size ≤ 64) (hh : h ≤ 7) :
    Calls Tryd.prog 23 #[.agg #[.string S, .int .i64 (h : Int), .int .i64 N]] w fun e w' => ∃ v, e = .returned (.agg #[.string S, .int .i64 (h : Int), .int .i64 N, v]) ∧ OwnH w' w.heap.size v (leafL S.data.toList h) ∧ Below w.heap.size w w' := by
  have cl := hidp (fun W => leaves_any W S h N hS hh)
  obtain ⟨L, hL⟩ : ∃ L, leafL S.data.toList h = L := ⟨_, rfl⟩
  rw [hL] at cl ⊢
  clear hL
  go_enter Tryd.func23, Tryd.ntmps23
  go_wp2_with (first | (refine wpL_boxK rfl _ rfl [.string S, .int .i64 (h : Int), .int .i64 N] rfl ?_; intro b1 w1 n1) | (refine wpL_newDr rfl rfl ?_; intro b2 w2 n2; have HA := hidp (n2.old n1.arr); have HR := hidp n2.arr; have HB := hidp (n1.below.trans (n2.below.mono n1.below.size)); have h2w := hidp (Nat.le_trans n1.below.size n2.le); have h12 := hidp (show b1 < b2 from by have := n2.at_; have := n1.lt; omega); clear n1 n2))
  obtain ⟨U, hU⟩ : ∃ U, ({ w2 with drawn := w2.drawn + 1 } : World) = U := ⟨_, rfl⟩
  have bU : Below w2.heap.size w2 U := by rw [← hU]; exact (Below.refl _ _).drew
  have HA3 := hidp (HA.out.below bU HA.out.lt); have HR3 := hidp (HR.out.below bU HR.out.lt); have HB3 := hidp (HB.out.trans (bU.mono HB.out.size))
  clear bU HA HR HB
  refine wp_region_noPanic ?_
  refine wp_region_scr (S := fun W => Arr W b1 23 [.string S, .int .i64 (h : Int), .int .i64 N]) (.take 0 (.take 1 (.one 2 (.take 3 (.one 4 .done))))) (by kernel_rfl) (by kernel_rfl) (fun _ _ _ _ _ h => h) (by simp [Scr.depth]) (by kernel_rfl) (by rw [hU]; exact HA3.out) ?_
  simp only [hU]
  clear hU
  apply s_val
  case ho => rfl
  case hw => rfl
  case hv => intro w hw; obtain ⟨x0, x1, x2, -⟩ := arr3k hw; go_simp; first | done | with_reducible rfl | rfl
  simp only [Act.put, List.getElem_toArray, List.getElem_cons_zero, List.getElem_cons_succ, List.setIfInBounds_toArray, List.set_cons_zero, List.set_cons_succ]
  apply s_val
  case ho => rfl
  case hw => rfl
  case hv => intro w hw; obtain ⟨x0, x1, x2, -⟩ := arr3k hw; go_simp; first | done | with_reducible rfl | rfl
  simp only [Act.put, List.getElem_toArray, List.getElem_cons_zero, List.getElem_cons_succ, List.setIfInBounds_toArray, List.set_cons_zero, List.set_cons_succ]
  apply o_callE (f := 46) (args := #[.agg #[.string S, .int .i64 (h : Int), .int .i64 N]]) (hc := cl.out _)
  case ho => rfl
  case hw => rfl
  case hop => go_simp; first | done | rfl
  rintro v W4 ⟨hv, hb⟩
  refine ⟨HA3.out.below hb HA3.out.lt, ?_⟩
  have HA4 := hidp (HA3.out.below hb HA3.out.lt); have HR4 := hidp (HR3.out.below hb HR3.out.lt); have HB4 := hidp (HB3.out.trans (hb.mono HB3.out.size)); have HV4 := hidp (hv.base (C := w.heap.size) HB3.out.size)
  clear hb hv HA3 HR3 HB3
  obtain ⟨av, cv, rfl⟩ := HV4.out.hs.form
  simp only [Act.put, List.getElem_toArray, List.getElem_cons_zero, List.getElem_cons_succ, List.setIfInBounds_toArray, List.set_cons_zero, List.set_cons_succ]
  apply s_val
  case ho => rfl
  case hw => rfl
  case hv => intro w hw; go_simp; first | done | with_reducible rfl | rfl
  simp only [Act.put, List.getElem_toArray, List.getElem_cons_zero, List.getElem_cons_succ, List.setIfInBounds_toArray, List.set_cons_zero, List.set_cons_succ]
  refine o_putD rfl rfl (.tmp 2) (.tmp 6) rfl b2 (.string S) (.int .i64 (h : Int)) (.int .i64 N) (.slice av L.length cv) rfl rfl (by simp [Value.oneCell']) _ _ _ _ HR4.out ?_
  intro W9 ha9 hp9
  refine ⟨hp9.arr (by have := h12.out; omega) HA4.out, ?_⟩
  simp only [Act.put, List.getElem_toArray, List.getElem_cons_zero, List.getElem_cons_succ, List.setIfInBounds_toArray, List.set_cons_zero, List.set_cons_succ]
  refine NoPanic.normal ?_
  have HB9 := hidp (hp9.below' HB4.out h2w.out)
  have HV9 := hidp (hp9.ownH HV4.out HR4.out (by decide))
  obtain ⟨y0, y1, y2, y3, -⟩ := arr4k ha9
  go_wp2_with fail
  refine bodyPost_ret (v := .agg #[.string S, .int .i64 (h : Int), .int .i64 N, .slice av L.length cv]) (by simp [results, Tryd.results23, go_sem, y0, y1, y2, y3]) rfl ⟨_, rfl, HV9.out, HB9.out⟩

set_option maxHeartbeats 8000000 in
theorem rrRoot_any (w : World) (S : ByteArray) (H N : Int) (v : Value) (L : List (List UInt8)) (hv : HsAt w v L) (hLl : L.length ≤ 4611686018427387904) (hrE : rootE L.length = 0) :
    Calls Tryd.prog 25 #[.agg #[.string S, .int .i64 H, .int .i64 N, v]] w fun e w' => e = .returned (.agg (u8s (rootV L)).toArray) ∧ Below w.heap.size w w' := by
  have HV := hidp hv; clear hv
  obtain ⟨av, cv, rfl⟩ := HV.out.form
  have hRl := hidp (rootV_len _ HV.out.1)
  have c3 := hidp (show ∀ W v, HsAt W v L → Calls Tryd.prog 45 #[v] W fun e w' => e = .returned (.tuple #[.agg (u8s (rootV L)).toArray, .int .i64 0]) ∧ Below W.heap.size W w' from fun W v hv => by
    have := rroot_any W v L hv hLl
    rw [hrE] at this; exact this)
  obtain ⟨R, hR⟩ : ∃ R, rootV L = R := ⟨_, rfl⟩
  rw [hR] at c3 hRl ⊢
  clear hR hrE hLl
  go_enter Tryd.func25, Tryd.ntmps25
  go_wp2_with (first | (refine wpL_boxT 45 rfl _ rfl [.string S, .int .i64 H, .int .i64 N, .slice av L.length cv] rfl ?_; intro b1 w1 n1) | (refine wpL_new rfl rfl ?_; intro b2 w2 n2; have HA := hidp (n2.old n1.arr); have HR := hidp n2.arr; have HB := hidp (n1.below.trans (n2.below.mono n1.below.size)); have h2w := hidp (Nat.le_trans n1.below.size n2.le); clear n1 n2; obtain ⟨x0, x1, x2, x3, -⟩ := arr4k HA.out))
  clear x0 x1 x2 x3
  refine (c3.out _ _ (HV.out.to HB.out)).mono ?_
  rintro e w4 ⟨rfl, hb4⟩
  have HB4 := hidp (HB.out.trans (hb4.mono HB.out.size)); have HR4 := hidp (HR.out.below hb4 HR.out.lt)
  clear hb4
  go_wp2_with (first
    | (refine wpL_new rfl rfl ?_; intro b3 w5 n5)
    | (refine wpL_put rfl (.tmp 3) (.tmp 9) rfl b3 R rfl rfl hRl.out (u8s z32) rfl n5.arr ?_; intro w6 ha hp; have HR6 := hidp (hp.old (n5.old HR4.out) (by have := n5.at_; have := HR4.out.lt; omega)); have HB6 := hidp (HB4.out.trans ((n5.put hp).mono HB4.out.size)); clear n5 hp; have HC6 := hidp ha; clear ha)
    | (refine wpL_get rfl (.tmp 3) rfl b3 R rfl hRl.out HC6.out ?_)
    | (refine wpL_put rfl (.tmp 2) (.tmp 11) rfl b2 R rfl rfl hRl.out (u8s z32) rfl HR6.out ?_; intro w9 ha9 hp9))
  have HB9 := hidp (hp9.below' HB6.out h2w.out)
  refine bodyPost_ret (results_cell_row (P := Tryd.prog) (p := 2) (ty := 26) Tryd.results25 _ _ b2 26 (u8s R).toArray (0, 0) _ rfl ha9 hash_row rfl (hash_size hRl.out)) rfl ⟨rfl, HB9.out⟩
end Go.Proofs.YtgfdhgnkanekhaaDoor

namespace Go.Proofs.YtgfdhgnkanekhaaDoor
set_option maxRecDepth 100000
set_option linter.unusedVariables false
set_option linter.unusedSimpArgs false
open Go.RowKit
theorem mk_cat2 (a : ByteArray) (l m : List UInt8) (h : a.data.toList = l) : a ++ mkS m = mkS (l ++ m) := by rw [← mkS_append, ← h]; rfl

set_option maxHeartbeats 16000000 in
theorem rrsign_any (w : World) (S : ByteArray) (h m : Nat) (hok : kyOk S h m = true) (t : ByteArray) (ht : t.size ≤ 281474976710656 / 4) (v : Value) (hv : HsAt w v (leafL S.data.toList h)) :
    Calls Tryd.prog 26 #[.agg #[.string S, .int .i64 (h : Int), .int .i64 (m : Int), v], .string t] w fun e w' => e = .returned (.tuple #[.agg (rgA S h m ++ [v]).toArray, .string (sgS S h m t.data.toList), .int .i64 (sgE S h m)]) ∧ Below w.heap.size w w' := by
  have HV := hidp hv; clear hv
  obtain ⟨av, cv, rfl⟩ := HV.out.form
  obtain ⟨⟨s1, s2⟩, ⟨q1, q2⟩, q3, q4⟩ := kyOk_parts hok
  have hh7 : h ≤ 7 := by omega
  have ci := hidp (fun W => rplaces_any W h hh7)
  have hm0 : m ≤ 2 ^ h := by rw [Int.toNat_natCast] at q4; exact_mod_cast q4
  have hLl := leafL_len S.data.toList h
  obtain ⟨nl, hnl⟩ : ∃ n, (leafL S.data.toList h).length = n := ⟨_, rfl⟩
  rw [hnl] at HV ⊢
  clear hnl
  clear q1 q2 q3 q4
  by_cases hn : m = 2 ^ h
  · obtain ⟨g1, g2, g3⟩ := sg_over t.data.toList hok (by rw [Int.toNat_natCast, hn])
    have G1 := hidp (show rgA S h m = [.string S, .int .i64 (h : Int), .int .i64 (m : Int)] from by unfold rgA; rw [g3]; rfl); have G2 := hidp g2; have G3 := hidp g3
    rw [← hn] at ci
    have e0 : ((m : Int) == (m : Int)) = true := by simp
    clear g1 g2 g3 hok hn hm0 hLl
    go_enter Tryd.func26, Tryd.ntmps26
    go_wp2_with (first | (refine wpL_boxT 45 rfl _ rfl [.string S, .int .i64 (h : Int), .int .i64 (m : Int), .slice av nl cv] rfl ?_; intro b2 w1 n1) | (refine wpL_newDr rfl rfl ?_; intro b4 w2 n2; have HA3 := hidp (n2.old n1.arr); have HR3 := hidp n2.arr; have HB3 := hidp (n1.below.trans (n2.below.mono n1.below.size)); have h2w := hidp n1.le; have h24 := hidp (show b2 < b4 from by have := n2.at_; have := n1.lt; omega); clear n1 n2))
    obtain ⟨w3, hw3⟩ : ∃ w3, w2 = w3 := ⟨_, rfl⟩
    rw [hw3] at HA3 HR3 HB3 ⊢
    clear hw3
    go_wp2_with fail
    obtain ⟨U, hU⟩ : ∃ U, ({ w3 with drawn := w3.drawn + 1 } : World) = U := ⟨_, rfl⟩
    have bU : Below w3.heap.size w3 U := by rw [← hU]; exact (Below.refl _ _).drew
    have HA6 := hidp (HA3.out.below bU HA3.out.lt); have HR6 := hidp (HR3.out.below bU HR3.out.lt); have HB6 := hidp (HB3.out.trans (bU.mono HB3.out.size))
    clear bU HA3 HR3 HB3
    refine wp_region_noPanic ?_
    refine wp_region_scr (S := fun W => Arr W b2 45 [.string S, .int .i64 (h : Int), .int .i64 (m : Int), .slice av nl cv]) (.take 0 (.take 1 (.take 2 (.take 3 (.take 4 (.take 5 (.one 6 (.take 7 .done)))))))) (by kernel_rfl) (by kernel_rfl) (fun _ _ _ _ _ h => h) (by simp [Scr.depth]) (by kernel_rfl) (by rw [hU]; exact HA6.out) ?_
    simp only [hU]
    clear hU
    apply s_val
    case ho => rfl
    case hw => rfl
    case hv => intro w hw; obtain ⟨x0, x1, x2, x3, -⟩ := arr4k hw; go_simp; first | done | with_reducible rfl | rfl
    simp only [Act.put, List.getElem_toArray, List.getElem_cons_zero, List.getElem_cons_succ, List.setIfInBounds_toArray, List.set_cons_zero, List.set_cons_succ]
    apply s_val
    case ho => rfl
    case hw => rfl
    case hv => intro w hw; obtain ⟨x0, x1, x2, x3, -⟩ := arr4k hw; go_simp; first | done | with_reducible rfl | rfl
    simp only [Act.put, List.getElem_toArray, List.getElem_cons_zero, List.getElem_cons_succ, List.setIfInBounds_toArray, List.set_cons_zero, List.set_cons_succ]
    apply s_val
    case ho => rfl
    case hw => rfl
    case hv => intro w hw; obtain ⟨x0, x1, x2, x3, -⟩ := arr4k hw; go_simp; first | done | with_reducible rfl | rfl
    simp only [Act.put, List.getElem_toArray, List.getElem_cons_zero, List.getElem_cons_succ, List.setIfInBounds_toArray, List.set_cons_zero, List.set_cons_succ]
    apply s_val
    case ho => rfl
    case hw => rfl
    case hv => intro w hw; obtain ⟨x0, x1, x2, x3, -⟩ := arr4k hw; go_simp; first | done | with_reducible rfl | rfl
    simp only [Act.put, List.getElem_toArray, List.getElem_cons_zero, List.getElem_cons_succ, List.setIfInBounds_toArray, List.set_cons_zero, List.set_cons_succ]
    apply s_val
    case ho => rfl
    case hw => rfl
    case hv => intro w hw; obtain ⟨x0, x1, x2, x3, -⟩ := arr4k hw; go_simp; first | done | with_reducible rfl | rfl
    simp only [Act.put, List.getElem_toArray, List.getElem_cons_zero, List.getElem_cons_succ, List.setIfInBounds_toArray, List.set_cons_zero, List.set_cons_succ]
    apply s_val
    case ho => rfl
    case hw => rfl
    case hv => intro w hw; obtain ⟨x0, x1, x2, x3, -⟩ := arr4k hw; go_simp; first | done | with_reducible rfl | rfl
    simp only [Act.put, List.getElem_toArray, List.getElem_cons_zero, List.getElem_cons_succ, List.setIfInBounds_toArray, List.set_cons_zero, List.set_cons_succ]
    apply o_call (f := 52) (args := #[.int .i64 (h : Int)]) (v := .int .i64 ((m : Nat) : Int)) (hc := ci.out _)
    case ho => rfl
    case hw => rfl
    case hop => go_simp; first | done | rfl
    rintro W' rfl
    refine ⟨HA6.out, ?_⟩
    simp only [Act.put, List.getElem_toArray, List.getElem_cons_zero, List.getElem_cons_succ, List.setIfInBounds_toArray, List.set_cons_zero, List.set_cons_succ]
    apply s_val
    case ho => rfl
    case hw => rfl
    case hv => intro w hw; go_simp; first | done | with_reducible rfl | rfl
    simp only [Act.put, List.getElem_toArray, List.getElem_cons_zero, List.getElem_cons_succ, List.setIfInBounds_toArray, List.set_cons_zero, List.set_cons_succ]
    refine NoPanic.normal ?_
    obtain ⟨y0, y1, y2, y3, yf⟩ := arr4k HR6.out
    have f0 := yf 0; have f1 := yf 1; have f2 := yf 2; have f3 := yf 3
    clear yf
    obtain ⟨x0, x1, x2, x3, -⟩ := arr4k HA6.out
    go_wp2_with fail
    clear y0 y1 y2 y3 f0 f1 f2 f3
    clear x0 x1 x2 x3
    obtain ⟨w9, hw9, ha9, hp9⟩ := set4 HR6.out (.string S) (.int .i64 (h : Int)) (.int .i64 (m : Int)) (.slice av nl cv)
    rw [hw9]
    have HB9 := hidp (hp9.below' HB6.out (by have := h2w.out; have := h24.out; omega))
    obtain ⟨y0, y1, y2, y3, -⟩ := arr4k ha9
    refine bodyPost_ret (v := .tuple #[.agg #[.string S, .int .i64 (h : Int), .int .i64 (m : Int), .slice av nl cv], .string ⟨#[]⟩, .int .i64 10]) (by simp [results, Tryd.results26, go_sem, y0, y1, y2, y3]) rfl ⟨by rw [G1.out, G2.out, G3.out]; rfl, HB9.out⟩
  · have hm1 : m < 2 ^ h := by omega
    have hne : (m : Int) ≠ ((2 ^ h : Nat) : Int) := by exact_mod_cast hn
    obtain ⟨g1, g2, g3⟩ := sg_yes t.data.toList hok (by rw [Int.toNat_natCast]; exact hne)
    have G1 := hidp (show rgA S h m = [.string S, .int .i64 (h : Int), .int .i64 ((m : Int) + 1)] from by unfold rgA; rw [g3, if_pos rfl, g1]); have G3 := hidp g3
    have hP := pow_le7 hh7
    have hm128 : m < 128 := by omega
    have hmS : S.size ≤ 64 := s2
    have hpE := pathE_leaf S.data.toList hh7 hm1
    obtain ⟨L, hL⟩ : ∃ L, leafL S.data.toList h = L := ⟨_, rfl⟩
    rw [hL] at HV hpE hLl
    obtain ⟨p, hp⟩ : ∃ p, pathV L m = p := ⟨_, rfl⟩
    have hpn : p.length ≤ 7 := by rw [← hp]; exact pathV_le
    have ct := hidp (show ∀ W v, HsAt W v L → Calls Tryd.prog 55 #[v, .int .i64 (m : Int)] W fun e w' => ∃ v', e = .returned (.tuple #[v', .int .i64 0]) ∧ OwnH w' W.heap.size v' p ∧ Below W.heap.size W w' from fun W v hv => by
      have := rpath_any W v L m (by simp [Lit.wf, IntKind.min, IntKind.max, IntKind.signed, IntKind.bits]; omega) hv (by rw [hLl]; omega)
      rw [hpE, hp] at this; exact this)
    obtain ⟨P, hPP⟩ : ∃ P, 2 ^ h = P := ⟨_, rfl⟩
    rw [hPP] at ci hne
    have e0 : ((m : Int) == (P : Int)) = false := by rw [beq_eq_false_iff_ne]; exact hne
    obtain ⟨n, hn7⟩ : ∃ n, p.length = n := ⟨_, rfl⟩
    have HN := hidp hn7
    obtain ⟨sd, hsd⟩ : ∃ s, mkS (seedL S.data.toList m) = s := ⟨_, rfl⟩
    have hsds : sd.size = 16 := by rw [← hsd, mkS_size, seedL_len]
    have cs := hidp (show ∀ W, Calls Tryd.prog 54 #[.agg #[.string S, .int .i64 (h : Int), .int .i64 (m : Int)], .int .i64 (m : Int)] W fun e w' => e = .returned (.string sd) ∧ Below W.heap.size W w' from fun W => by
      have := rkseed_any W S h m hmS m (by omega)
      rw [hsd] at this; exact this)
    obtain ⟨G, hG⟩ : ∃ s, mkS (signL (seedL S.data.toList m) t.data.toList) = s := ⟨_, rfl⟩
    have hGs := hidp (show G.size = 1088 from by rw [← hG, mkS_size, signL_len])
    have cg := hidp (show ∀ W, Calls Tryd.prog 53 #[.string sd, .string t] W fun e w' => e = .returned (.string G) ∧ Below W.heap.size W w' from fun W => by
      have := rsign_any W sd t (by omega) ht
      rw [show sd.data.toList = seedL S.data.toList m from by rw [← hsd, mkS_data], hG] at this; exact this)
    have hGd : G.data.toList = signL (seedL S.data.toList m) t.data.toList := by rw [← hG, mkS_data]
    have G2' := hidp (show sgS S (h : Int) (m : Int) t.data.toList = mkS (([UInt8.ofNat m] ++ G.data.toList) ++ flat p) from by
      rw [g2, Int.toNat_natCast, Int.toNat_natCast, hGd]; unfold sigL sigH; rw [hL, hp]; rfl)
    obtain ⟨C1, hC1⟩ : ∃ C, mkS [UInt8.ofNat m] = C := ⟨_, rfl⟩
    have CAT := hidp (show C1 ++ G = mkS ([UInt8.ofNat m] ++ G.data.toList) from by rw [← hC1, ← mkS_append]; rfl)
    have hnc : ¬ 9223372036854775807 < C1.size + G.size := by rw [← hC1, hGs.out, mkS_size]; simp
    rw [hn7] at hpn
    have hw1 : IntKind.u8.wrap (m : Int) = (m : Int) := by unfold IntKind.wrap; simp [IntKind.bits, IntKind.signed]; omega
    have hw2 : IntKind.i64.wrap ((m : Int) + 1) = (m : Int) + 1 := by rw [IntKind.wrap_i64]; omega
    clear hn7 hsd hG hGd hp hL g1 g2 g3 hok hn hm0 hm1 hP hpE hLl hPP
    go_enter Tryd.func26, Tryd.ntmps26
    go_wp2_with (first | (refine wpL_boxT 45 rfl _ rfl [.string S, .int .i64 (h : Int), .int .i64 (m : Int), .slice av nl cv] rfl ?_; intro b2 w1 n1) | (refine wpL_newDr rfl rfl ?_; intro b4 w2 n2; have HA3 := hidp (n2.old n1.arr); have HR3 := hidp n2.arr; have HB3 := hidp (n1.below.trans (n2.below.mono n1.below.size)); have h2w := hidp n1.le; have h24 := hidp (show b2 < b4 from by have := n2.at_; have := n1.lt; omega); clear n1 n2))
    obtain ⟨w3, hw3⟩ : ∃ w3, w2 = w3 := ⟨_, rfl⟩
    rw [hw3] at HA3 HR3 HB3 ⊢
    clear hw3
    go_wp2_with fail
    obtain ⟨U, hU⟩ : ∃ U, ({ w3 with drawn := w3.drawn + 1 } : World) = U := ⟨_, rfl⟩
    have bU : Below w3.heap.size w3 U := by rw [← hU]; exact (Below.refl _ _).drew
    have HA6 := hidp (HA3.out.below bU HA3.out.lt); have HR6 := hidp (HR3.out.below bU HR3.out.lt); have HB6 := hidp (HB3.out.trans (bU.mono HB3.out.size))
    clear bU HA3 HR3 HB3
    refine wp_region_noPanic ?_
    refine wp_region_scr (S := fun W => Arr W b2 45 [.string S, .int .i64 (h : Int), .int .i64 (m : Int), .slice av nl cv]) (.take 0 (.take 1 (.take 2 (.take 3 (.take 4 (.take 5 (.one 6 (.take 7 .done)))))))) (by kernel_rfl) (by kernel_rfl) (fun _ _ _ _ _ h => h) (by simp [Scr.depth]) (by kernel_rfl) (by rw [hU]; exact HA6.out) ?_
    simp only [hU]
    clear hU
    apply s_val
    case ho => rfl
    case hw => rfl
    case hv => intro w hw; obtain ⟨x0, x1, x2, x3, -⟩ := arr4k hw; go_simp; first | done | with_reducible rfl | rfl
    simp only [Act.put, List.getElem_toArray, List.getElem_cons_zero, List.getElem_cons_succ, List.setIfInBounds_toArray, List.set_cons_zero, List.set_cons_succ]
    apply s_val
    case ho => rfl
    case hw => rfl
    case hv => intro w hw; obtain ⟨x0, x1, x2, x3, -⟩ := arr4k hw; go_simp; first | done | with_reducible rfl | rfl
    simp only [Act.put, List.getElem_toArray, List.getElem_cons_zero, List.getElem_cons_succ, List.setIfInBounds_toArray, List.set_cons_zero, List.set_cons_succ]
    apply s_val
    case ho => rfl
    case hw => rfl
    case hv => intro w hw; obtain ⟨x0, x1, x2, x3, -⟩ := arr4k hw; go_simp; first | done | with_reducible rfl | rfl
    simp only [Act.put, List.getElem_toArray, List.getElem_cons_zero, List.getElem_cons_succ, List.setIfInBounds_toArray, List.set_cons_zero, List.set_cons_succ]
    apply s_val
    case ho => rfl
    case hw => rfl
    case hv => intro w hw; obtain ⟨x0, x1, x2, x3, -⟩ := arr4k hw; go_simp; first | done | with_reducible rfl | rfl
    simp only [Act.put, List.getElem_toArray, List.getElem_cons_zero, List.getElem_cons_succ, List.setIfInBounds_toArray, List.set_cons_zero, List.set_cons_succ]
    apply s_val
    case ho => rfl
    case hw => rfl
    case hv => intro w hw; obtain ⟨x0, x1, x2, x3, -⟩ := arr4k hw; go_simp; first | done | with_reducible rfl | rfl
    simp only [Act.put, List.getElem_toArray, List.getElem_cons_zero, List.getElem_cons_succ, List.setIfInBounds_toArray, List.set_cons_zero, List.set_cons_succ]
    apply s_val
    case ho => rfl
    case hw => rfl
    case hv => intro w hw; obtain ⟨x0, x1, x2, x3, -⟩ := arr4k hw; go_simp; first | done | with_reducible rfl | rfl
    simp only [Act.put, List.getElem_toArray, List.getElem_cons_zero, List.getElem_cons_succ, List.setIfInBounds_toArray, List.set_cons_zero, List.set_cons_succ]
    apply o_call (f := 52) (args := #[.int .i64 (h : Int)]) (v := .int .i64 ((P : Nat) : Int)) (hc := ci.out _)
    case ho => rfl
    case hw => rfl
    case hop => go_simp; first | done | rfl
    rintro W' rfl
    refine ⟨HA6.out, ?_⟩
    simp only [Act.put, List.getElem_toArray, List.getElem_cons_zero, List.getElem_cons_succ, List.setIfInBounds_toArray, List.set_cons_zero, List.set_cons_succ]
    apply s_val
    case ho => rfl
    case hw => rfl
    case hv => intro w hw; go_simp; first | done | with_reducible rfl | rfl
    simp only [Act.put, List.getElem_toArray, List.getElem_cons_zero, List.getElem_cons_succ, List.setIfInBounds_toArray, List.set_cons_zero, List.set_cons_succ]
    refine NoPanic.normal ?_
    go_wp2_with fail
    obtain ⟨U, hU⟩ : ∃ U, ({ W' with drawn := W'.drawn + 1 } : World) = U := ⟨_, rfl⟩
    have bU : Below W'.heap.size W' U := by rw [← hU]; exact (Below.refl _ _).drew
    have HA := hidp (HA6.out.below bU HA6.out.lt); have HR := hidp (HR6.out.below bU HR6.out.lt); have HB := hidp (HB6.out.trans (bU.mono HB6.out.size))
    clear bU HA6 HR6 HB6
    obtain ⟨B0, hB0⟩ : ∃ B0, U.heap.size = B0 := ⟨_, rfl⟩
    have HB0 := hidp hB0
    have h2B := hidp (show b2 < B0 from by rw [← hB0]; exact HA.out.lt); have h4B := hidp (show b4 < B0 from by rw [← hB0]; exact HR.out.lt); have hwB := hidp (show w.heap.size ≤ B0 from by rw [← hB0]; exact HB.out.size)
    clear hB0
    refine wp_region_noPanic ?_
    refine wp_region_scr (S := fun W => Arr W b2 45 [.string S, .int .i64 (h : Int), .int .i64 (m : Int), .slice av nl cv]) (.take 0 (.take 1 (.take 2 (.take 3 (.take 6 (.take 7 (.take 8 (.take 9 (.take 10 (.take 12 (.two 4 (.two 5 (.one 11 (.one 13 (.take 14 (.take 15 .done)))) 11 (.two 5 (.one 13 (.take 14 (.take 15 .done))) 13 (.one 5 (.take 14 (.take 15 .done))))) 11 (.two 4 (.two 5 (.one 13 (.take 14 (.take 15 .done))) 13 (.one 5 (.take 14 (.take 15 .done)))) 13 (.one 4 (.one 5 (.take 14 (.take 15 .done)))))))))))))))) (by kernel_rfl) (by kernel_rfl) (fun _ _ _ _ _ h => h) (by simp [Scr.depth]) (by kernel_rfl) (by rw [hU]; exact HA.out) ?_
    simp only [hU]
    clear hU
    apply s_val
    case ho => rfl
    case hw => rfl
    case hv => intro w hw; obtain ⟨x0, x1, x2, x3, -⟩ := arr4k hw; go_simp; first | done | with_reducible rfl | rfl
    simp only [Act.put, List.getElem_toArray, List.getElem_cons_zero, List.getElem_cons_succ, List.setIfInBounds_toArray, List.set_cons_zero, List.set_cons_succ]
    apply s_val
    case ho => rfl
    case hw => rfl
    case hv => intro w hw; obtain ⟨x0, x1, x2, x3, -⟩ := arr4k hw; go_simp; first | done | with_reducible rfl | rfl
    simp only [Act.put, List.getElem_toArray, List.getElem_cons_zero, List.getElem_cons_succ, List.setIfInBounds_toArray, List.set_cons_zero, List.set_cons_succ]
    apply s_val
    case ho => rfl
    case hw => rfl
    case hv => intro w hw; obtain ⟨x0, x1, x2, x3, -⟩ := arr4k hw; go_simp; first | done | with_reducible rfl | rfl
    simp only [Act.put, List.getElem_toArray, List.getElem_cons_zero, List.getElem_cons_succ, List.setIfInBounds_toArray, List.set_cons_zero, List.set_cons_succ]
    apply s_val
    case ho => rfl
    case hw => rfl
    case hv => intro w hw; obtain ⟨x0, x1, x2, x3, -⟩ := arr4k hw; go_simp; first | done | with_reducible rfl | rfl
    simp only [Act.put, List.getElem_toArray, List.getElem_cons_zero, List.getElem_cons_succ, List.setIfInBounds_toArray, List.set_cons_zero, List.set_cons_succ]
    apply s_val
    case ho => rfl
    case hw => rfl
    case hv => intro w hw; obtain ⟨x0, x1, x2, x3, -⟩ := arr4k hw; go_simp; first | done | with_reducible rfl | rfl
    simp only [Act.put, List.getElem_toArray, List.getElem_cons_zero, List.getElem_cons_succ, List.setIfInBounds_toArray, List.set_cons_zero, List.set_cons_succ]
    apply s_val
    case ho => rfl
    case hw => rfl
    case hv => intro w hw; obtain ⟨x0, x1, x2, x3, -⟩ := arr4k hw; go_simp; first | done | with_reducible rfl | rfl
    simp only [Act.put, List.getElem_toArray, List.getElem_cons_zero, List.getElem_cons_succ, List.setIfInBounds_toArray, List.set_cons_zero, List.set_cons_succ]
    apply s_val
    case ho => rfl
    case hw => rfl
    case hv => intro w hw; obtain ⟨x0, x1, x2, x3, -⟩ := arr4k hw; go_simp; first | done | with_reducible rfl | rfl
    simp only [Act.put, List.getElem_toArray, List.getElem_cons_zero, List.getElem_cons_succ, List.setIfInBounds_toArray, List.set_cons_zero, List.set_cons_succ]
    apply s_val
    case ho => rfl
    case hw => rfl
    case hv => intro w hw; obtain ⟨x0, x1, x2, x3, -⟩ := arr4k hw; go_simp; first | done | with_reducible rfl | rfl
    simp only [Act.put, List.getElem_toArray, List.getElem_cons_zero, List.getElem_cons_succ, List.setIfInBounds_toArray, List.set_cons_zero, List.set_cons_succ]
    apply s_val
    case ho => rfl
    case hw => rfl
    case hv => intro w hw; obtain ⟨x0, x1, x2, x3, -⟩ := arr4k hw; go_simp; first | done | with_reducible rfl | rfl
    simp only [Act.put, List.getElem_toArray, List.getElem_cons_zero, List.getElem_cons_succ, List.setIfInBounds_toArray, List.set_cons_zero, List.set_cons_succ]
    apply s_val
    case ho => rfl
    case hw => rfl
    case hv => intro w hw; obtain ⟨x0, x1, x2, x3, -⟩ := arr4k hw; go_simp; first | done | with_reducible rfl | rfl
    simp only [Act.put, List.getElem_toArray, List.getElem_cons_zero, List.getElem_cons_succ, List.setIfInBounds_toArray, List.set_cons_zero, List.set_cons_succ]
    have HQ0 := hidp (Below.refl B0 U)
    refine ⟨?_, ?_⟩
    · refine o_make (v := .slice (some ⟨U.heap.size, 0, none⟩) 1 1) (W := U.alloc (.cells #[.int .u8 (m : Int)] 5)) rfl rfl (by go_simp; first | done | rfl) ?_ ?_
      · exact (HA.out.below HQ0.out h2B.out).alloc _
      obtain ⟨X1, hX⟩ : ∃ X, U.alloc (.cells #[.int .u8 (m : Int)] 5) = X := ⟨_, rfl⟩
      have HC1 := hidp (show Arr X1 U.heap.size 5 [.int .u8 (m : Int)] from by rw [← hX]; exact Arr.new _ _ _)
      have HQ1 := hidp (show Below B0 U X1 from by rw [← hX]; exact HQ0.out.alloc (by have := HQ0.out.size; have := HB0.out; omega) _)
      rw [hX]
      clear hX
      simp only [Act.put, List.getElem_toArray, List.getElem_cons_zero, List.getElem_cons_succ, List.setIfInBounds_toArray, List.set_cons_zero, List.set_cons_succ]
      refine ⟨?_, ?_⟩
      · refine o_make (v := .string C1) (W := X1) rfl rfl ?_ (HA.out.below HQ1.out h2B.out) ?_
        · have hc := conv1 X1 _ m (by omega) (HC1.out.cell 0 (by simp))
          rw [hC1] at hc
          go_simp
        simp only [Act.put, List.getElem_toArray, List.getElem_cons_zero, List.getElem_cons_succ, List.setIfInBounds_toArray, List.set_cons_zero, List.set_cons_succ]
        apply o_call (f := 54) (args := #[.agg #[.string S, .int .i64 (h : Int), .int .i64 (m : Int)], .int .i64 (m : Int)]) (v := .string sd) (hc := cs.out _)
        case ho => rfl
        case hw => rfl
        case hop => go_simp; first | done | rfl
        rintro X2 hb
        have HQ2 := hidp (HQ1.out.trans (hb.mono (by have := HQ1.out.size; have := HB0.out; omega)))
        refine ⟨HA.out.below HQ2.out h2B.out, ?_⟩
        have HC2 := hidp (HC1.out.below hb HC1.out.lt)
        clear hb
        simp only [Act.put, List.getElem_toArray, List.getElem_cons_zero, List.getElem_cons_succ, List.setIfInBounds_toArray, List.set_cons_zero, List.set_cons_succ]
        apply o_call (f := 53) (args := #[.string sd, .string t]) (v := .string G) (hc := cg.out _)
        case ho => rfl
        case hw => rfl
        case hop => go_simp; first | done | rfl
        rintro X3 hb
        have HQ3 := hidp (HQ2.out.trans (hb.mono (by have := HQ2.out.size; have := HB0.out; omega)))
        refine ⟨HA.out.below HQ3.out h2B.out, ?_⟩
        have HC3 := hidp (HC2.out.below hb HC2.out.lt)
        clear hb
        simp only [Act.put, List.getElem_toArray, List.getElem_cons_zero, List.getElem_cons_succ, List.setIfInBounds_toArray, List.set_cons_zero, List.set_cons_succ]
        apply s_val
        case ho => rfl
        case hw => rfl
        case hv => intro w hw; go_simp; first | done | with_reducible rfl | rfl
        simp only [Act.put, List.getElem_toArray, List.getElem_cons_zero, List.getElem_cons_succ, List.setIfInBounds_toArray, List.set_cons_zero, List.set_cons_succ]
        apply s_val
        case ho => rfl
        case hw => rfl
        case hv => intro w hw; go_simp; first | done | with_reducible rfl | rfl
        simp only [Act.put, List.getElem_toArray, List.getElem_cons_zero, List.getElem_cons_succ, List.setIfInBounds_toArray, List.set_cons_zero, List.set_cons_succ]
        refine NoPanic.normal ?_
        have HA6 := hidp (HA.out.below HQ3.out h2B.out); have HR6 := hidp (HR.out.below HQ3.out h4B.out); have HB6 := hidp (HB.out.trans (HQ3.out.mono hwB.out))
        clear HA HR HB HQ0
        have HVQ := hidp (HV.out.to HB6.out)
        obtain ⟨x0, x1, x2, x3, -⟩ := arr4k HA6.out
        go_wp2_with fail
        clear x0 x1 x2 x3
        refine (ct.out _ _ HVQ.out).mono ?_
        rintro e W9 ⟨vp, rfl, hv, hb⟩
        have HA9 := hidp (HA6.out.below hb HA6.out.lt); have HR9 := hidp (HR6.out.below hb HR6.out.lt); have HB9 := hidp (HB6.out.trans (hb.mono HB6.out.size)); have HP9 := hidp hv.hs
        clear hb hv HA6 HR6 HB6 HVQ
        obtain ⟨ap, cp', rfl⟩ := HP9.out.form
        rw [HN.out] at HP9 ⊢
        have hcat := CAT.out
        go_wp2_with fail
        clear hcat
        go_loopw [7, 47] (fun t7 t47 wr => ∃ k : Nat, t47 = .int .i64 (k : Int) ∧ k ≤ n ∧ t7 = .string (mkS (([UInt8.ofNat m] ++ G.data.toList) ++ flat (p.take k))) ∧ Below W9.heap.size W9 wr) (fun _ t47 _ => n - (intOf t47).toNat)
        case atStart => exact ⟨0, rfl, by omega, by first | (rw [CAT.out]; simp [flat]) | simp [flat], Below.refl _ _⟩
        case round =>
          obtain ⟨k, rfl, hk, rfl, hq⟩ := hrel
          have HQ1 := hidp hq
          have hsz := hidp hq.size
          clear hq
          by_cases hlt : k < n
          · obtain ⟨B, off, c', e1, _, hB, hrr⟩ := HP9.out.get (by rw [HN.out]; omega)
            simp only [Value.slice.injEq] at e1
            obtain ⟨rfl, -, -⟩ := e1
            have hkp' : k < p.length := by rw [HN.out]; exact hlt
            have hxl := hidp (HP9.out.1.get k hkp')
            have hrx := hidp (show wr.rangeAt B (off + 32 * k) (u8s p[k]) from rangeAt_below (range_nth hrr HP9.out.1 k hkp') HQ1.out hB)
            have htk := hidp (show flat (p.take k) ++ p[k] = flat (p.take (k + 1)) from by rw [List.take_succ_eq_append_getElem hkp', flat_snoc])
            obtain ⟨x, hx⟩ : ∃ x, p[k] = x := ⟨_, rfl⟩
            rw [hx] at hxl hrx htk
            have e1 : decide ((k : Int) < (n : Int)) = true := by simp; omega
            clear hx hkp' hrr
            obtain ⟨M1, hM1⟩ : ∃ M, mkS (([UInt8.ofNat m] ++ G.data.toList) ++ flat (p.take k)) = M := ⟨_, rfl⟩
            obtain ⟨M2, hM2⟩ : ∃ M, mkS x = M := ⟨_, rfl⟩
            have hM3 := hidp (show M1 ++ M2 = mkS (([UInt8.ofNat m] ++ G.data.toList) ++ flat (p.take (k + 1))) from by rw [← hM1, ← hM2, mkS_append, List.append_assoc, htk.out])
            have hns : ¬ 9223372036854775807 < M1.size + M2.size := by
              rw [← hM1, ← hM2, mkS_size, mkS_size, hxl.out, List.length_append, flat_len (HP9.out.1.take k), List.length_append, List.length_take, size_toList, hGs.out]; simp; omega
            rw [hM1]
            have HM2 := hidp hM2
            clear hM1 hM2
            go_wp2_with (first | (refine wpL_idx rfl (.tmp 45) (.tmp 47) rfl B off _ _ k rfl rfl hlt ?_) | (refine wpL_at rfl (.tmp 49) rfl B (off + 32 * k) x rfl hxl.out hrx.out ?_) | (refine wpL_new rfl rfl ?_; intro b12 w12 n12) | (refine wpL_put rfl (.tmp 11) (.tmp 50) rfl b12 x rfl rfl hxl.out (u8s z32) rfl n12.arr ?_; intro w13 ha13 hp13; have hcv := str_conv w13 b12 x hxl.out ha13.range; rw [HM2.out] at hcv) | (refine wpL_slc rfl (.tmp 11) rfl b12 0 rfl ?_))
            exact ⟨⟨k + 1, by go_num, by omega, by rw [hM3.out], HQ1.out.trans ((n12.put hp13).mono hsz.out)⟩, by simp [intOf]; omega⟩
          · have e1 : decide ((k : Int) < (n : Int)) = false := by simp; omega
            have hkn : k = n := by omega
            have htk : p.take k = p := by rw [hkn, List.take_of_length_le (by rw [HN.out]; exact Nat.le_refl _)]
            rw [htk]
            have HG2 := hidp G2'.out
            obtain ⟨MS, hMS⟩ : ∃ s, mkS (([UInt8.ofNat m] ++ G.data.toList) ++ flat p) = s := ⟨_, rfl⟩
            rw [hMS] at HG2 ⊢
            clear htk hMS
            have HA1 := hidp (HA9.out.below HQ1.out HA9.out.lt); have HR1 := hidp (HR9.out.below HQ1.out HR9.out.lt); have HB1 := hidp (HB9.out.trans (HQ1.out.mono HB9.out.size))
            clear HA9 HR9 HB9
            obtain ⟨x0, x1, x2, x3, xf⟩ := arr4k HA1.out
            have g0 := xf 0; have g1 := xf 1; have g2 := xf 2; have g3 := xf 3
            clear xf
            obtain ⟨y0, y1, y2, y3, yf⟩ := arr4k HR1.out
            have f0 := yf 0; have f1 := yf 1; have f2 := yf 2; have f3 := yf 3
            clear yf
            have hne : b2 ≠ b4 := by have := h24.out; omega
            have hne' : b4 ≠ b2 := Ne.symm hne
            go_wp2_with fail
            clear x0 x1 x2 x3 g0 g1 g2 g3
            clear y0 y1 y2 y3 f0 f1 f2 f3
            obtain ⟨w15, hw15, ha15, hp15⟩ := set1 HA1.out 2 (.int .i64 ((m : Int) + 1))
            rw [hw15]
            have HRa := hidp (hp15.arr (by have := h24.out; omega) HR1.out)
            obtain ⟨w16, hw16, ha16, hp16⟩ := set4 HRa.out (.string S) (.int .i64 (h : Int)) (.int .i64 ((m : Int) + 1)) (.slice av nl cv)
            rw [hw16]
            have HBZ := hidp (hp16.below' (hp15.below' HB1.out h2w.out) (by have := h2w.out; have := h24.out; omega))
            obtain ⟨y0, y1, y2, y3, -⟩ := arr4k ha16
            refine bodyPost_ret (v := .tuple #[.agg #[.string S, .int .i64 (h : Int), .int .i64 ((m : Int) + 1), .slice av nl cv], .string MS, .int .i64 0]) (by simp [results, Tryd.results26, go_sem, y0, y1, y2, y3]) rfl ⟨by rw [G1.out, HG2.out, G3.out]; rfl, HBZ.out⟩
      · apply o_call (f := 54) (args := #[.agg #[.string S, .int .i64 (h : Int), .int .i64 (m : Int)], .int .i64 (m : Int)]) (v := .string sd) (hc := cs.out _)
        case ho => rfl
        case hw => rfl
        case hop => go_simp; first | done | rfl
        rintro X4 hb
        have HQ4 := hidp (HQ1.out.trans (hb.mono (by have := HQ1.out.size; have := HB0.out; omega)))
        refine ⟨HA.out.below HQ4.out h2B.out, ?_⟩
        have HC4 := hidp (HC1.out.below hb HC1.out.lt)
        clear hb
        simp only [Act.put, List.getElem_toArray, List.getElem_cons_zero, List.getElem_cons_succ, List.setIfInBounds_toArray, List.set_cons_zero, List.set_cons_succ]
        refine ⟨?_, ?_⟩
        · refine o_make (v := .string C1) (W := X4) rfl rfl ?_ (HA.out.below HQ4.out h2B.out) ?_
          · have hc := conv1 X4 _ m (by omega) (HC4.out.cell 0 (by simp))
            rw [hC1] at hc
            go_simp
          simp only [Act.put, List.getElem_toArray, List.getElem_cons_zero, List.getElem_cons_succ, List.setIfInBounds_toArray, List.set_cons_zero, List.set_cons_succ]
          apply o_call (f := 53) (args := #[.string sd, .string t]) (v := .string G) (hc := cg.out _)
          case ho => rfl
          case hw => rfl
          case hop => go_simp; first | done | rfl
          rintro X5 hb
          have HQ5 := hidp (HQ4.out.trans (hb.mono (by have := HQ4.out.size; have := HB0.out; omega)))
          refine ⟨HA.out.below HQ5.out h2B.out, ?_⟩
          have HC5 := hidp (HC4.out.below hb HC4.out.lt)
          clear hb
          simp only [Act.put, List.getElem_toArray, List.getElem_cons_zero, List.getElem_cons_succ, List.setIfInBounds_toArray, List.set_cons_zero, List.set_cons_succ]
          apply s_val
          case ho => rfl
          case hw => rfl
          case hv => intro w hw; go_simp; first | done | with_reducible rfl | rfl
          simp only [Act.put, List.getElem_toArray, List.getElem_cons_zero, List.getElem_cons_succ, List.setIfInBounds_toArray, List.set_cons_zero, List.set_cons_succ]
          apply s_val
          case ho => rfl
          case hw => rfl
          case hv => intro w hw; go_simp; first | done | with_reducible rfl | rfl
          simp only [Act.put, List.getElem_toArray, List.getElem_cons_zero, List.getElem_cons_succ, List.setIfInBounds_toArray, List.set_cons_zero, List.set_cons_succ]
          refine NoPanic.normal ?_
          have HA6 := hidp (HA.out.below HQ5.out h2B.out); have HR6 := hidp (HR.out.below HQ5.out h4B.out); have HB6 := hidp (HB.out.trans (HQ5.out.mono hwB.out))
          clear HA HR HB HQ0
          have HVQ := hidp (HV.out.to HB6.out)
          obtain ⟨x0, x1, x2, x3, -⟩ := arr4k HA6.out
          go_wp2_with fail
          clear x0 x1 x2 x3
          refine (ct.out _ _ HVQ.out).mono ?_
          rintro e W9 ⟨vp, rfl, hv, hb⟩
          have HA9 := hidp (HA6.out.below hb HA6.out.lt); have HR9 := hidp (HR6.out.below hb HR6.out.lt); have HB9 := hidp (HB6.out.trans (hb.mono HB6.out.size)); have HP9 := hidp hv.hs
          clear hb hv HA6 HR6 HB6 HVQ
          obtain ⟨ap, cp', rfl⟩ := HP9.out.form
          rw [HN.out] at HP9 ⊢
          have hcat := CAT.out
          go_wp2_with fail
          clear hcat
          go_loopw [7, 47] (fun t7 t47 wr => ∃ k : Nat, t47 = .int .i64 (k : Int) ∧ k ≤ n ∧ t7 = .string (mkS (([UInt8.ofNat m] ++ G.data.toList) ++ flat (p.take k))) ∧ Below W9.heap.size W9 wr) (fun _ t47 _ => n - (intOf t47).toNat)
          case atStart => exact ⟨0, rfl, by omega, by first | (rw [CAT.out]; simp [flat]) | simp [flat], Below.refl _ _⟩
          case round =>
            obtain ⟨k, rfl, hk, rfl, hq⟩ := hrel
            have HQ1 := hidp hq
            have hsz := hidp hq.size
            clear hq
            by_cases hlt : k < n
            · obtain ⟨B, off, c', e1, _, hB, hrr⟩ := HP9.out.get (by rw [HN.out]; omega)
              simp only [Value.slice.injEq] at e1
              obtain ⟨rfl, -, -⟩ := e1
              have hkp' : k < p.length := by rw [HN.out]; exact hlt
              have hxl := hidp (HP9.out.1.get k hkp')
              have hrx := hidp (show wr.rangeAt B (off + 32 * k) (u8s p[k]) from rangeAt_below (range_nth hrr HP9.out.1 k hkp') HQ1.out hB)
              have htk := hidp (show flat (p.take k) ++ p[k] = flat (p.take (k + 1)) from by rw [List.take_succ_eq_append_getElem hkp', flat_snoc])
              obtain ⟨x, hx⟩ : ∃ x, p[k] = x := ⟨_, rfl⟩
              rw [hx] at hxl hrx htk
              have e1 : decide ((k : Int) < (n : Int)) = true := by simp; omega
              clear hx hkp' hrr
              obtain ⟨M1, hM1⟩ : ∃ M, mkS (([UInt8.ofNat m] ++ G.data.toList) ++ flat (p.take k)) = M := ⟨_, rfl⟩
              obtain ⟨M2, hM2⟩ : ∃ M, mkS x = M := ⟨_, rfl⟩
              have hM3 := hidp (show M1 ++ M2 = mkS (([UInt8.ofNat m] ++ G.data.toList) ++ flat (p.take (k + 1))) from by rw [← hM1, ← hM2, mkS_append, List.append_assoc, htk.out])
              have hns : ¬ 9223372036854775807 < M1.size + M2.size := by
                rw [← hM1, ← hM2, mkS_size, mkS_size, hxl.out, List.length_append, flat_len (HP9.out.1.take k), List.length_append, List.length_take, size_toList, hGs.out]; simp; omega
              rw [hM1]
              have HM2 := hidp hM2
              clear hM1 hM2
              go_wp2_with (first | (refine wpL_idx rfl (.tmp 45) (.tmp 47) rfl B off _ _ k rfl rfl hlt ?_) | (refine wpL_at rfl (.tmp 49) rfl B (off + 32 * k) x rfl hxl.out hrx.out ?_) | (refine wpL_new rfl rfl ?_; intro b12 w12 n12) | (refine wpL_put rfl (.tmp 11) (.tmp 50) rfl b12 x rfl rfl hxl.out (u8s z32) rfl n12.arr ?_; intro w13 ha13 hp13; have hcv := str_conv w13 b12 x hxl.out ha13.range; rw [HM2.out] at hcv) | (refine wpL_slc rfl (.tmp 11) rfl b12 0 rfl ?_))
              exact ⟨⟨k + 1, by go_num, by omega, by rw [hM3.out], HQ1.out.trans ((n12.put hp13).mono hsz.out)⟩, by simp [intOf]; omega⟩
            · have e1 : decide ((k : Int) < (n : Int)) = false := by simp; omega
              have hkn : k = n := by omega
              have htk : p.take k = p := by rw [hkn, List.take_of_length_le (by rw [HN.out]; exact Nat.le_refl _)]
              rw [htk]
              have HG2 := hidp G2'.out
              obtain ⟨MS, hMS⟩ : ∃ s, mkS (([UInt8.ofNat m] ++ G.data.toList) ++ flat p) = s := ⟨_, rfl⟩
              rw [hMS] at HG2 ⊢
              clear htk hMS
              have HA1 := hidp (HA9.out.below HQ1.out HA9.out.lt); have HR1 := hidp (HR9.out.below HQ1.out HR9.out.lt); have HB1 := hidp (HB9.out.trans (HQ1.out.mono HB9.out.size))
              clear HA9 HR9 HB9
              obtain ⟨x0, x1, x2, x3, xf⟩ := arr4k HA1.out
              have g0 := xf 0; have g1 := xf 1; have g2 := xf 2; have g3 := xf 3
              clear xf
              obtain ⟨y0, y1, y2, y3, yf⟩ := arr4k HR1.out
              have f0 := yf 0; have f1 := yf 1; have f2 := yf 2; have f3 := yf 3
              clear yf
              have hne : b2 ≠ b4 := by have := h24.out; omega
              have hne' : b4 ≠ b2 := Ne.symm hne
              go_wp2_with fail
              clear x0 x1 x2 x3 g0 g1 g2 g3
              clear y0 y1 y2 y3 f0 f1 f2 f3
              obtain ⟨w15, hw15, ha15, hp15⟩ := set1 HA1.out 2 (.int .i64 ((m : Int) + 1))
              rw [hw15]
              have HRa := hidp (hp15.arr (by have := h24.out; omega) HR1.out)
              obtain ⟨w16, hw16, ha16, hp16⟩ := set4 HRa.out (.string S) (.int .i64 (h : Int)) (.int .i64 ((m : Int) + 1)) (.slice av nl cv)
              rw [hw16]
              have HBZ := hidp (hp16.below' (hp15.below' HB1.out h2w.out) (by have := h2w.out; have := h24.out; omega))
              obtain ⟨y0, y1, y2, y3, -⟩ := arr4k ha16
              refine bodyPost_ret (v := .tuple #[.agg #[.string S, .int .i64 (h : Int), .int .i64 ((m : Int) + 1), .slice av nl cv], .string MS, .int .i64 0]) (by simp [results, Tryd.results26, go_sem, y0, y1, y2, y3]) rfl ⟨by rw [G1.out, HG2.out, G3.out]; rfl, HBZ.out⟩
        · apply o_call (f := 53) (args := #[.string sd, .string t]) (v := .string G) (hc := cg.out _)
          case ho => rfl
          case hw => rfl
          case hop => go_simp; first | done | rfl
          rintro X6 hb
          have HQ6 := hidp (HQ4.out.trans (hb.mono (by have := HQ4.out.size; have := HB0.out; omega)))
          refine ⟨HA.out.below HQ6.out h2B.out, ?_⟩
          have HC6 := hidp (HC4.out.below hb HC4.out.lt)
          clear hb
          simp only [Act.put, List.getElem_toArray, List.getElem_cons_zero, List.getElem_cons_succ, List.setIfInBounds_toArray, List.set_cons_zero, List.set_cons_succ]
          refine o_make (v := .string C1) (W := X6) rfl rfl ?_ (HA.out.below HQ6.out h2B.out) ?_
          · have hc := conv1 X6 _ m (by omega) (HC6.out.cell 0 (by simp))
            rw [hC1] at hc
            go_simp
          simp only [Act.put, List.getElem_toArray, List.getElem_cons_zero, List.getElem_cons_succ, List.setIfInBounds_toArray, List.set_cons_zero, List.set_cons_succ]
          apply s_val
          case ho => rfl
          case hw => rfl
          case hv => intro w hw; go_simp; first | done | with_reducible rfl | rfl
          simp only [Act.put, List.getElem_toArray, List.getElem_cons_zero, List.getElem_cons_succ, List.setIfInBounds_toArray, List.set_cons_zero, List.set_cons_succ]
          apply s_val
          case ho => rfl
          case hw => rfl
          case hv => intro w hw; go_simp; first | done | with_reducible rfl | rfl
          simp only [Act.put, List.getElem_toArray, List.getElem_cons_zero, List.getElem_cons_succ, List.setIfInBounds_toArray, List.set_cons_zero, List.set_cons_succ]
          refine NoPanic.normal ?_
          have HA6 := hidp (HA.out.below HQ6.out h2B.out); have HR6 := hidp (HR.out.below HQ6.out h4B.out); have HB6 := hidp (HB.out.trans (HQ6.out.mono hwB.out))
          clear HA HR HB HQ0
          have HVQ := hidp (HV.out.to HB6.out)
          obtain ⟨x0, x1, x2, x3, -⟩ := arr4k HA6.out
          go_wp2_with fail
          clear x0 x1 x2 x3
          refine (ct.out _ _ HVQ.out).mono ?_
          rintro e W9 ⟨vp, rfl, hv, hb⟩
          have HA9 := hidp (HA6.out.below hb HA6.out.lt); have HR9 := hidp (HR6.out.below hb HR6.out.lt); have HB9 := hidp (HB6.out.trans (hb.mono HB6.out.size)); have HP9 := hidp hv.hs
          clear hb hv HA6 HR6 HB6 HVQ
          obtain ⟨ap, cp', rfl⟩ := HP9.out.form
          rw [HN.out] at HP9 ⊢
          have hcat := CAT.out
          go_wp2_with fail
          clear hcat
          go_loopw [7, 47] (fun t7 t47 wr => ∃ k : Nat, t47 = .int .i64 (k : Int) ∧ k ≤ n ∧ t7 = .string (mkS (([UInt8.ofNat m] ++ G.data.toList) ++ flat (p.take k))) ∧ Below W9.heap.size W9 wr) (fun _ t47 _ => n - (intOf t47).toNat)
          case atStart => exact ⟨0, rfl, by omega, by first | (rw [CAT.out]; simp [flat]) | simp [flat], Below.refl _ _⟩
          case round =>
            obtain ⟨k, rfl, hk, rfl, hq⟩ := hrel
            have HQ1 := hidp hq
            have hsz := hidp hq.size
            clear hq
            by_cases hlt : k < n
            · obtain ⟨B, off, c', e1, _, hB, hrr⟩ := HP9.out.get (by rw [HN.out]; omega)
              simp only [Value.slice.injEq] at e1
              obtain ⟨rfl, -, -⟩ := e1
              have hkp' : k < p.length := by rw [HN.out]; exact hlt
              have hxl := hidp (HP9.out.1.get k hkp')
              have hrx := hidp (show wr.rangeAt B (off + 32 * k) (u8s p[k]) from rangeAt_below (range_nth hrr HP9.out.1 k hkp') HQ1.out hB)
              have htk := hidp (show flat (p.take k) ++ p[k] = flat (p.take (k + 1)) from by rw [List.take_succ_eq_append_getElem hkp', flat_snoc])
              obtain ⟨x, hx⟩ : ∃ x, p[k] = x := ⟨_, rfl⟩
              rw [hx] at hxl hrx htk
              have e1 : decide ((k : Int) < (n : Int)) = true := by simp; omega
              clear hx hkp' hrr
              obtain ⟨M1, hM1⟩ : ∃ M, mkS (([UInt8.ofNat m] ++ G.data.toList) ++ flat (p.take k)) = M := ⟨_, rfl⟩
              obtain ⟨M2, hM2⟩ : ∃ M, mkS x = M := ⟨_, rfl⟩
              have hM3 := hidp (show M1 ++ M2 = mkS (([UInt8.ofNat m] ++ G.data.toList) ++ flat (p.take (k + 1))) from by rw [← hM1, ← hM2, mkS_append, List.append_assoc, htk.out])
              have hns : ¬ 9223372036854775807 < M1.size + M2.size := by
                rw [← hM1, ← hM2, mkS_size, mkS_size, hxl.out, List.length_append, flat_len (HP9.out.1.take k), List.length_append, List.length_take, size_toList, hGs.out]; simp; omega
              rw [hM1]
              have HM2 := hidp hM2
              clear hM1 hM2
              go_wp2_with (first | (refine wpL_idx rfl (.tmp 45) (.tmp 47) rfl B off _ _ k rfl rfl hlt ?_) | (refine wpL_at rfl (.tmp 49) rfl B (off + 32 * k) x rfl hxl.out hrx.out ?_) | (refine wpL_new rfl rfl ?_; intro b12 w12 n12) | (refine wpL_put rfl (.tmp 11) (.tmp 50) rfl b12 x rfl rfl hxl.out (u8s z32) rfl n12.arr ?_; intro w13 ha13 hp13; have hcv := str_conv w13 b12 x hxl.out ha13.range; rw [HM2.out] at hcv) | (refine wpL_slc rfl (.tmp 11) rfl b12 0 rfl ?_))
              exact ⟨⟨k + 1, by go_num, by omega, by rw [hM3.out], HQ1.out.trans ((n12.put hp13).mono hsz.out)⟩, by simp [intOf]; omega⟩
            · have e1 : decide ((k : Int) < (n : Int)) = false := by simp; omega
              have hkn : k = n := by omega
              have htk : p.take k = p := by rw [hkn, List.take_of_length_le (by rw [HN.out]; exact Nat.le_refl _)]
              rw [htk]
              have HG2 := hidp G2'.out
              obtain ⟨MS, hMS⟩ : ∃ s, mkS (([UInt8.ofNat m] ++ G.data.toList) ++ flat p) = s := ⟨_, rfl⟩
              rw [hMS] at HG2 ⊢
              clear htk hMS
              have HA1 := hidp (HA9.out.below HQ1.out HA9.out.lt); have HR1 := hidp (HR9.out.below HQ1.out HR9.out.lt); have HB1 := hidp (HB9.out.trans (HQ1.out.mono HB9.out.size))
              clear HA9 HR9 HB9
              obtain ⟨x0, x1, x2, x3, xf⟩ := arr4k HA1.out
              have g0 := xf 0; have g1 := xf 1; have g2 := xf 2; have g3 := xf 3
              clear xf
              obtain ⟨y0, y1, y2, y3, yf⟩ := arr4k HR1.out
              have f0 := yf 0; have f1 := yf 1; have f2 := yf 2; have f3 := yf 3
              clear yf
              have hne : b2 ≠ b4 := by have := h24.out; omega
              have hne' : b4 ≠ b2 := Ne.symm hne
              go_wp2_with fail
              clear x0 x1 x2 x3 g0 g1 g2 g3
              clear y0 y1 y2 y3 f0 f1 f2 f3
              obtain ⟨w15, hw15, ha15, hp15⟩ := set1 HA1.out 2 (.int .i64 ((m : Int) + 1))
              rw [hw15]
              have HRa := hidp (hp15.arr (by have := h24.out; omega) HR1.out)
              obtain ⟨w16, hw16, ha16, hp16⟩ := set4 HRa.out (.string S) (.int .i64 (h : Int)) (.int .i64 ((m : Int) + 1)) (.slice av nl cv)
              rw [hw16]
              have HBZ := hidp (hp16.below' (hp15.below' HB1.out h2w.out) (by have := h2w.out; have := h24.out; omega))
              obtain ⟨y0, y1, y2, y3, -⟩ := arr4k ha16
              refine bodyPost_ret (v := .tuple #[.agg #[.string S, .int .i64 (h : Int), .int .i64 ((m : Int) + 1), .slice av nl cv], .string MS, .int .i64 0]) (by simp [results, Tryd.results26, go_sem, y0, y1, y2, y3]) rfl ⟨by rw [G1.out, HG2.out, G3.out]; rfl, HBZ.out⟩
    · apply o_call (f := 54) (args := #[.agg #[.string S, .int .i64 (h : Int), .int .i64 (m : Int)], .int .i64 (m : Int)]) (v := .string sd) (hc := cs.out _)
      case ho => rfl
      case hw => rfl
      case hop => go_simp; first | done | rfl
      rintro X7 hb
      have HQ7 := hidp (HQ0.out.trans (hb.mono (by have := HQ0.out.size; have := HB0.out; omega)))
      refine ⟨HA.out.below HQ7.out h2B.out, ?_⟩
      clear hb
      simp only [Act.put, List.getElem_toArray, List.getElem_cons_zero, List.getElem_cons_succ, List.setIfInBounds_toArray, List.set_cons_zero, List.set_cons_succ]
      refine ⟨?_, ?_⟩
      · refine o_make (v := .slice (some ⟨X7.heap.size, 0, none⟩) 1 1) (W := X7.alloc (.cells #[.int .u8 (m : Int)] 5)) rfl rfl (by go_simp; first | done | rfl) ?_ ?_
        · exact (HA.out.below HQ7.out h2B.out).alloc _
        obtain ⟨X8, hX⟩ : ∃ X, X7.alloc (.cells #[.int .u8 (m : Int)] 5) = X := ⟨_, rfl⟩
        have HC8 := hidp (show Arr X8 X7.heap.size 5 [.int .u8 (m : Int)] from by rw [← hX]; exact Arr.new _ _ _)
        have HQ8 := hidp (show Below B0 U X8 from by rw [← hX]; exact HQ7.out.alloc (by have := HQ7.out.size; have := HB0.out; omega) _)
        rw [hX]
        clear hX
        simp only [Act.put, List.getElem_toArray, List.getElem_cons_zero, List.getElem_cons_succ, List.setIfInBounds_toArray, List.set_cons_zero, List.set_cons_succ]
        refine ⟨?_, ?_⟩
        · refine o_make (v := .string C1) (W := X8) rfl rfl ?_ (HA.out.below HQ8.out h2B.out) ?_
          · have hc := conv1 X8 _ m (by omega) (HC8.out.cell 0 (by simp))
            rw [hC1] at hc
            go_simp
          simp only [Act.put, List.getElem_toArray, List.getElem_cons_zero, List.getElem_cons_succ, List.setIfInBounds_toArray, List.set_cons_zero, List.set_cons_succ]
          apply o_call (f := 53) (args := #[.string sd, .string t]) (v := .string G) (hc := cg.out _)
          case ho => rfl
          case hw => rfl
          case hop => go_simp; first | done | rfl
          rintro X9 hb
          have HQ9 := hidp (HQ8.out.trans (hb.mono (by have := HQ8.out.size; have := HB0.out; omega)))
          refine ⟨HA.out.below HQ9.out h2B.out, ?_⟩
          have HC9 := hidp (HC8.out.below hb HC8.out.lt)
          clear hb
          simp only [Act.put, List.getElem_toArray, List.getElem_cons_zero, List.getElem_cons_succ, List.setIfInBounds_toArray, List.set_cons_zero, List.set_cons_succ]
          apply s_val
          case ho => rfl
          case hw => rfl
          case hv => intro w hw; go_simp; first | done | with_reducible rfl | rfl
          simp only [Act.put, List.getElem_toArray, List.getElem_cons_zero, List.getElem_cons_succ, List.setIfInBounds_toArray, List.set_cons_zero, List.set_cons_succ]
          apply s_val
          case ho => rfl
          case hw => rfl
          case hv => intro w hw; go_simp; first | done | with_reducible rfl | rfl
          simp only [Act.put, List.getElem_toArray, List.getElem_cons_zero, List.getElem_cons_succ, List.setIfInBounds_toArray, List.set_cons_zero, List.set_cons_succ]
          refine NoPanic.normal ?_
          have HA6 := hidp (HA.out.below HQ9.out h2B.out); have HR6 := hidp (HR.out.below HQ9.out h4B.out); have HB6 := hidp (HB.out.trans (HQ9.out.mono hwB.out))
          clear HA HR HB HQ0
          have HVQ := hidp (HV.out.to HB6.out)
          obtain ⟨x0, x1, x2, x3, -⟩ := arr4k HA6.out
          go_wp2_with fail
          clear x0 x1 x2 x3
          refine (ct.out _ _ HVQ.out).mono ?_
          rintro e W9 ⟨vp, rfl, hv, hb⟩
          have HA9 := hidp (HA6.out.below hb HA6.out.lt); have HR9 := hidp (HR6.out.below hb HR6.out.lt); have HB9 := hidp (HB6.out.trans (hb.mono HB6.out.size)); have HP9 := hidp hv.hs
          clear hb hv HA6 HR6 HB6 HVQ
          obtain ⟨ap, cp', rfl⟩ := HP9.out.form
          rw [HN.out] at HP9 ⊢
          have hcat := CAT.out
          go_wp2_with fail
          clear hcat
          go_loopw [7, 47] (fun t7 t47 wr => ∃ k : Nat, t47 = .int .i64 (k : Int) ∧ k ≤ n ∧ t7 = .string (mkS (([UInt8.ofNat m] ++ G.data.toList) ++ flat (p.take k))) ∧ Below W9.heap.size W9 wr) (fun _ t47 _ => n - (intOf t47).toNat)
          case atStart => exact ⟨0, rfl, by omega, by first | (rw [CAT.out]; simp [flat]) | simp [flat], Below.refl _ _⟩
          case round =>
            obtain ⟨k, rfl, hk, rfl, hq⟩ := hrel
            have HQ1 := hidp hq
            have hsz := hidp hq.size
            clear hq
            by_cases hlt : k < n
            · obtain ⟨B, off, c', e1, _, hB, hrr⟩ := HP9.out.get (by rw [HN.out]; omega)
              simp only [Value.slice.injEq] at e1
              obtain ⟨rfl, -, -⟩ := e1
              have hkp' : k < p.length := by rw [HN.out]; exact hlt
              have hxl := hidp (HP9.out.1.get k hkp')
              have hrx := hidp (show wr.rangeAt B (off + 32 * k) (u8s p[k]) from rangeAt_below (range_nth hrr HP9.out.1 k hkp') HQ1.out hB)
              have htk := hidp (show flat (p.take k) ++ p[k] = flat (p.take (k + 1)) from by rw [List.take_succ_eq_append_getElem hkp', flat_snoc])
              obtain ⟨x, hx⟩ : ∃ x, p[k] = x := ⟨_, rfl⟩
              rw [hx] at hxl hrx htk
              have e1 : decide ((k : Int) < (n : Int)) = true := by simp; omega
              clear hx hkp' hrr
              obtain ⟨M1, hM1⟩ : ∃ M, mkS (([UInt8.ofNat m] ++ G.data.toList) ++ flat (p.take k)) = M := ⟨_, rfl⟩
              obtain ⟨M2, hM2⟩ : ∃ M, mkS x = M := ⟨_, rfl⟩
              have hM3 := hidp (show M1 ++ M2 = mkS (([UInt8.ofNat m] ++ G.data.toList) ++ flat (p.take (k + 1))) from by rw [← hM1, ← hM2, mkS_append, List.append_assoc, htk.out])
              have hns : ¬ 9223372036854775807 < M1.size + M2.size := by
                rw [← hM1, ← hM2, mkS_size, mkS_size, hxl.out, List.length_append, flat_len (HP9.out.1.take k), List.length_append, List.length_take, size_toList, hGs.out]; simp; omega
              rw [hM1]
              have HM2 := hidp hM2
              clear hM1 hM2
              go_wp2_with (first | (refine wpL_idx rfl (.tmp 45) (.tmp 47) rfl B off _ _ k rfl rfl hlt ?_) | (refine wpL_at rfl (.tmp 49) rfl B (off + 32 * k) x rfl hxl.out hrx.out ?_) | (refine wpL_new rfl rfl ?_; intro b12 w12 n12) | (refine wpL_put rfl (.tmp 11) (.tmp 50) rfl b12 x rfl rfl hxl.out (u8s z32) rfl n12.arr ?_; intro w13 ha13 hp13; have hcv := str_conv w13 b12 x hxl.out ha13.range; rw [HM2.out] at hcv) | (refine wpL_slc rfl (.tmp 11) rfl b12 0 rfl ?_))
              exact ⟨⟨k + 1, by go_num, by omega, by rw [hM3.out], HQ1.out.trans ((n12.put hp13).mono hsz.out)⟩, by simp [intOf]; omega⟩
            · have e1 : decide ((k : Int) < (n : Int)) = false := by simp; omega
              have hkn : k = n := by omega
              have htk : p.take k = p := by rw [hkn, List.take_of_length_le (by rw [HN.out]; exact Nat.le_refl _)]
              rw [htk]
              have HG2 := hidp G2'.out
              obtain ⟨MS, hMS⟩ : ∃ s, mkS (([UInt8.ofNat m] ++ G.data.toList) ++ flat p) = s := ⟨_, rfl⟩
              rw [hMS] at HG2 ⊢
              clear htk hMS
              have HA1 := hidp (HA9.out.below HQ1.out HA9.out.lt); have HR1 := hidp (HR9.out.below HQ1.out HR9.out.lt); have HB1 := hidp (HB9.out.trans (HQ1.out.mono HB9.out.size))
              clear HA9 HR9 HB9
              obtain ⟨x0, x1, x2, x3, xf⟩ := arr4k HA1.out
              have g0 := xf 0; have g1 := xf 1; have g2 := xf 2; have g3 := xf 3
              clear xf
              obtain ⟨y0, y1, y2, y3, yf⟩ := arr4k HR1.out
              have f0 := yf 0; have f1 := yf 1; have f2 := yf 2; have f3 := yf 3
              clear yf
              have hne : b2 ≠ b4 := by have := h24.out; omega
              have hne' : b4 ≠ b2 := Ne.symm hne
              go_wp2_with fail
              clear x0 x1 x2 x3 g0 g1 g2 g3
              clear y0 y1 y2 y3 f0 f1 f2 f3
              obtain ⟨w15, hw15, ha15, hp15⟩ := set1 HA1.out 2 (.int .i64 ((m : Int) + 1))
              rw [hw15]
              have HRa := hidp (hp15.arr (by have := h24.out; omega) HR1.out)
              obtain ⟨w16, hw16, ha16, hp16⟩ := set4 HRa.out (.string S) (.int .i64 (h : Int)) (.int .i64 ((m : Int) + 1)) (.slice av nl cv)
              rw [hw16]
              have HBZ := hidp (hp16.below' (hp15.below' HB1.out h2w.out) (by have := h2w.out; have := h24.out; omega))
              obtain ⟨y0, y1, y2, y3, -⟩ := arr4k ha16
              refine bodyPost_ret (v := .tuple #[.agg #[.string S, .int .i64 (h : Int), .int .i64 ((m : Int) + 1), .slice av nl cv], .string MS, .int .i64 0]) (by simp [results, Tryd.results26, go_sem, y0, y1, y2, y3]) rfl ⟨by rw [G1.out, HG2.out, G3.out]; rfl, HBZ.out⟩
        · apply o_call (f := 53) (args := #[.string sd, .string t]) (v := .string G) (hc := cg.out _)
          case ho => rfl
          case hw => rfl
          case hop => go_simp; first | done | rfl
          rintro X10 hb
          have HQ10 := hidp (HQ8.out.trans (hb.mono (by have := HQ8.out.size; have := HB0.out; omega)))
          refine ⟨HA.out.below HQ10.out h2B.out, ?_⟩
          have HC10 := hidp (HC8.out.below hb HC8.out.lt)
          clear hb
          simp only [Act.put, List.getElem_toArray, List.getElem_cons_zero, List.getElem_cons_succ, List.setIfInBounds_toArray, List.set_cons_zero, List.set_cons_succ]
          refine o_make (v := .string C1) (W := X10) rfl rfl ?_ (HA.out.below HQ10.out h2B.out) ?_
          · have hc := conv1 X10 _ m (by omega) (HC10.out.cell 0 (by simp))
            rw [hC1] at hc
            go_simp
          simp only [Act.put, List.getElem_toArray, List.getElem_cons_zero, List.getElem_cons_succ, List.setIfInBounds_toArray, List.set_cons_zero, List.set_cons_succ]
          apply s_val
          case ho => rfl
          case hw => rfl
          case hv => intro w hw; go_simp; first | done | with_reducible rfl | rfl
          simp only [Act.put, List.getElem_toArray, List.getElem_cons_zero, List.getElem_cons_succ, List.setIfInBounds_toArray, List.set_cons_zero, List.set_cons_succ]
          apply s_val
          case ho => rfl
          case hw => rfl
          case hv => intro w hw; go_simp; first | done | with_reducible rfl | rfl
          simp only [Act.put, List.getElem_toArray, List.getElem_cons_zero, List.getElem_cons_succ, List.setIfInBounds_toArray, List.set_cons_zero, List.set_cons_succ]
          refine NoPanic.normal ?_
          have HA6 := hidp (HA.out.below HQ10.out h2B.out); have HR6 := hidp (HR.out.below HQ10.out h4B.out); have HB6 := hidp (HB.out.trans (HQ10.out.mono hwB.out))
          clear HA HR HB HQ0
          have HVQ := hidp (HV.out.to HB6.out)
          obtain ⟨x0, x1, x2, x3, -⟩ := arr4k HA6.out
          go_wp2_with fail
          clear x0 x1 x2 x3
          refine (ct.out _ _ HVQ.out).mono ?_
          rintro e W9 ⟨vp, rfl, hv, hb⟩
          have HA9 := hidp (HA6.out.below hb HA6.out.lt); have HR9 := hidp (HR6.out.below hb HR6.out.lt); have HB9 := hidp (HB6.out.trans (hb.mono HB6.out.size)); have HP9 := hidp hv.hs
          clear hb hv HA6 HR6 HB6 HVQ
          obtain ⟨ap, cp', rfl⟩ := HP9.out.form
          rw [HN.out] at HP9 ⊢
          have hcat := CAT.out
          go_wp2_with fail
          clear hcat
          go_loopw [7, 47] (fun t7 t47 wr => ∃ k : Nat, t47 = .int .i64 (k : Int) ∧ k ≤ n ∧ t7 = .string (mkS (([UInt8.ofNat m] ++ G.data.toList) ++ flat (p.take k))) ∧ Below W9.heap.size W9 wr) (fun _ t47 _ => n - (intOf t47).toNat)
          case atStart => exact ⟨0, rfl, by omega, by first | (rw [CAT.out]; simp [flat]) | simp [flat], Below.refl _ _⟩
          case round =>
            obtain ⟨k, rfl, hk, rfl, hq⟩ := hrel
            have HQ1 := hidp hq
            have hsz := hidp hq.size
            clear hq
            by_cases hlt : k < n
            · obtain ⟨B, off, c', e1, _, hB, hrr⟩ := HP9.out.get (by rw [HN.out]; omega)
              simp only [Value.slice.injEq] at e1
              obtain ⟨rfl, -, -⟩ := e1
              have hkp' : k < p.length := by rw [HN.out]; exact hlt
              have hxl := hidp (HP9.out.1.get k hkp')
              have hrx := hidp (show wr.rangeAt B (off + 32 * k) (u8s p[k]) from rangeAt_below (range_nth hrr HP9.out.1 k hkp') HQ1.out hB)
              have htk := hidp (show flat (p.take k) ++ p[k] = flat (p.take (k + 1)) from by rw [List.take_succ_eq_append_getElem hkp', flat_snoc])
              obtain ⟨x, hx⟩ : ∃ x, p[k] = x := ⟨_, rfl⟩
              rw [hx] at hxl hrx htk
              have e1 : decide ((k : Int) < (n : Int)) = true := by simp; omega
              clear hx hkp' hrr
              obtain ⟨M1, hM1⟩ : ∃ M, mkS (([UInt8.ofNat m] ++ G.data.toList) ++ flat (p.take k)) = M := ⟨_, rfl⟩
              obtain ⟨M2, hM2⟩ : ∃ M, mkS x = M := ⟨_, rfl⟩
              have hM3 := hidp (show M1 ++ M2 = mkS (([UInt8.ofNat m] ++ G.data.toList) ++ flat (p.take (k + 1))) from by rw [← hM1, ← hM2, mkS_append, List.append_assoc, htk.out])
              have hns : ¬ 9223372036854775807 < M1.size + M2.size := by
                rw [← hM1, ← hM2, mkS_size, mkS_size, hxl.out, List.length_append, flat_len (HP9.out.1.take k), List.length_append, List.length_take, size_toList, hGs.out]; simp; omega
              rw [hM1]
              have HM2 := hidp hM2
              clear hM1 hM2
              go_wp2_with (first | (refine wpL_idx rfl (.tmp 45) (.tmp 47) rfl B off _ _ k rfl rfl hlt ?_) | (refine wpL_at rfl (.tmp 49) rfl B (off + 32 * k) x rfl hxl.out hrx.out ?_) | (refine wpL_new rfl rfl ?_; intro b12 w12 n12) | (refine wpL_put rfl (.tmp 11) (.tmp 50) rfl b12 x rfl rfl hxl.out (u8s z32) rfl n12.arr ?_; intro w13 ha13 hp13; have hcv := str_conv w13 b12 x hxl.out ha13.range; rw [HM2.out] at hcv) | (refine wpL_slc rfl (.tmp 11) rfl b12 0 rfl ?_))
              exact ⟨⟨k + 1, by go_num, by omega, by rw [hM3.out], HQ1.out.trans ((n12.put hp13).mono hsz.out)⟩, by simp [intOf]; omega⟩
            · have e1 : decide ((k : Int) < (n : Int)) = false := by simp; omega
              have hkn : k = n := by omega
              have htk : p.take k = p := by rw [hkn, List.take_of_length_le (by rw [HN.out]; exact Nat.le_refl _)]
              rw [htk]
              have HG2 := hidp G2'.out
              obtain ⟨MS, hMS⟩ : ∃ s, mkS (([UInt8.ofNat m] ++ G.data.toList) ++ flat p) = s := ⟨_, rfl⟩
              rw [hMS] at HG2 ⊢
              clear htk hMS
              have HA1 := hidp (HA9.out.below HQ1.out HA9.out.lt); have HR1 := hidp (HR9.out.below HQ1.out HR9.out.lt); have HB1 := hidp (HB9.out.trans (HQ1.out.mono HB9.out.size))
              clear HA9 HR9 HB9
              obtain ⟨x0, x1, x2, x3, xf⟩ := arr4k HA1.out
              have g0 := xf 0; have g1 := xf 1; have g2 := xf 2; have g3 := xf 3
              clear xf
              obtain ⟨y0, y1, y2, y3, yf⟩ := arr4k HR1.out
              have f0 := yf 0; have f1 := yf 1; have f2 := yf 2; have f3 := yf 3
              clear yf
              have hne : b2 ≠ b4 := by have := h24.out; omega
              have hne' : b4 ≠ b2 := Ne.symm hne
              go_wp2_with fail
              clear x0 x1 x2 x3 g0 g1 g2 g3
              clear y0 y1 y2 y3 f0 f1 f2 f3
              obtain ⟨w15, hw15, ha15, hp15⟩ := set1 HA1.out 2 (.int .i64 ((m : Int) + 1))
              rw [hw15]
              have HRa := hidp (hp15.arr (by have := h24.out; omega) HR1.out)
              obtain ⟨w16, hw16, ha16, hp16⟩ := set4 HRa.out (.string S) (.int .i64 (h : Int)) (.int .i64 ((m : Int) + 1)) (.slice av nl cv)
              rw [hw16]
              have HBZ := hidp (hp16.below' (hp15.below' HB1.out h2w.out) (by have := h2w.out; have := h24.out; omega))
              obtain ⟨y0, y1, y2, y3, -⟩ := arr4k ha16
              refine bodyPost_ret (v := .tuple #[.agg #[.string S, .int .i64 (h : Int), .int .i64 ((m : Int) + 1), .slice av nl cv], .string MS, .int .i64 0]) (by simp [results, Tryd.results26, go_sem, y0, y1, y2, y3]) rfl ⟨by rw [G1.out, HG2.out, G3.out]; rfl, HBZ.out⟩
      · apply o_call (f := 53) (args := #[.string sd, .string t]) (v := .string G) (hc := cg.out _)
        case ho => rfl
        case hw => rfl
        case hop => go_simp; first | done | rfl
        rintro X11 hb
        have HQ11 := hidp (HQ7.out.trans (hb.mono (by have := HQ7.out.size; have := HB0.out; omega)))
        refine ⟨HA.out.below HQ11.out h2B.out, ?_⟩
        clear hb
        simp only [Act.put, List.getElem_toArray, List.getElem_cons_zero, List.getElem_cons_succ, List.setIfInBounds_toArray, List.set_cons_zero, List.set_cons_succ]
        refine o_make (v := .slice (some ⟨X11.heap.size, 0, none⟩) 1 1) (W := X11.alloc (.cells #[.int .u8 (m : Int)] 5)) rfl rfl (by go_simp; first | done | rfl) ?_ ?_
        · exact (HA.out.below HQ11.out h2B.out).alloc _
        obtain ⟨X12, hX⟩ : ∃ X, X11.alloc (.cells #[.int .u8 (m : Int)] 5) = X := ⟨_, rfl⟩
        have HC12 := hidp (show Arr X12 X11.heap.size 5 [.int .u8 (m : Int)] from by rw [← hX]; exact Arr.new _ _ _)
        have HQ12 := hidp (show Below B0 U X12 from by rw [← hX]; exact HQ11.out.alloc (by have := HQ11.out.size; have := HB0.out; omega) _)
        rw [hX]
        clear hX
        simp only [Act.put, List.getElem_toArray, List.getElem_cons_zero, List.getElem_cons_succ, List.setIfInBounds_toArray, List.set_cons_zero, List.set_cons_succ]
        refine o_make (v := .string C1) (W := X12) rfl rfl ?_ (HA.out.below HQ12.out h2B.out) ?_
        · have hc := conv1 X12 _ m (by omega) (HC12.out.cell 0 (by simp))
          rw [hC1] at hc
          go_simp
        simp only [Act.put, List.getElem_toArray, List.getElem_cons_zero, List.getElem_cons_succ, List.setIfInBounds_toArray, List.set_cons_zero, List.set_cons_succ]
        apply s_val
        case ho => rfl
        case hw => rfl
        case hv => intro w hw; go_simp; first | done | with_reducible rfl | rfl
        simp only [Act.put, List.getElem_toArray, List.getElem_cons_zero, List.getElem_cons_succ, List.setIfInBounds_toArray, List.set_cons_zero, List.set_cons_succ]
        apply s_val
        case ho => rfl
        case hw => rfl
        case hv => intro w hw; go_simp; first | done | with_reducible rfl | rfl
        simp only [Act.put, List.getElem_toArray, List.getElem_cons_zero, List.getElem_cons_succ, List.setIfInBounds_toArray, List.set_cons_zero, List.set_cons_succ]
        refine NoPanic.normal ?_
        have HA6 := hidp (HA.out.below HQ12.out h2B.out); have HR6 := hidp (HR.out.below HQ12.out h4B.out); have HB6 := hidp (HB.out.trans (HQ12.out.mono hwB.out))
        clear HA HR HB HQ0
        have HVQ := hidp (HV.out.to HB6.out)
        obtain ⟨x0, x1, x2, x3, -⟩ := arr4k HA6.out
        go_wp2_with fail
        clear x0 x1 x2 x3
        refine (ct.out _ _ HVQ.out).mono ?_
        rintro e W9 ⟨vp, rfl, hv, hb⟩
        have HA9 := hidp (HA6.out.below hb HA6.out.lt); have HR9 := hidp (HR6.out.below hb HR6.out.lt); have HB9 := hidp (HB6.out.trans (hb.mono HB6.out.size)); have HP9 := hidp hv.hs
        clear hb hv HA6 HR6 HB6 HVQ
        obtain ⟨ap, cp', rfl⟩ := HP9.out.form
        rw [HN.out] at HP9 ⊢
        have hcat := CAT.out
        go_wp2_with fail
        clear hcat
        go_loopw [7, 47] (fun t7 t47 wr => ∃ k : Nat, t47 = .int .i64 (k : Int) ∧ k ≤ n ∧ t7 = .string (mkS (([UInt8.ofNat m] ++ G.data.toList) ++ flat (p.take k))) ∧ Below W9.heap.size W9 wr) (fun _ t47 _ => n - (intOf t47).toNat)
        case atStart => exact ⟨0, rfl, by omega, by first | (rw [CAT.out]; simp [flat]) | simp [flat], Below.refl _ _⟩
        case round =>
          obtain ⟨k, rfl, hk, rfl, hq⟩ := hrel
          have HQ1 := hidp hq
          have hsz := hidp hq.size
          clear hq
          by_cases hlt : k < n
          · obtain ⟨B, off, c', e1, _, hB, hrr⟩ := HP9.out.get (by rw [HN.out]; omega)
            simp only [Value.slice.injEq] at e1
            obtain ⟨rfl, -, -⟩ := e1
            have hkp' : k < p.length := by rw [HN.out]; exact hlt
            have hxl := hidp (HP9.out.1.get k hkp')
            have hrx := hidp (show wr.rangeAt B (off + 32 * k) (u8s p[k]) from rangeAt_below (range_nth hrr HP9.out.1 k hkp') HQ1.out hB)
            have htk := hidp (show flat (p.take k) ++ p[k] = flat (p.take (k + 1)) from by rw [List.take_succ_eq_append_getElem hkp', flat_snoc])
            obtain ⟨x, hx⟩ : ∃ x, p[k] = x := ⟨_, rfl⟩
            rw [hx] at hxl hrx htk
            have e1 : decide ((k : Int) < (n : Int)) = true := by simp; omega
            clear hx hkp' hrr
            obtain ⟨M1, hM1⟩ : ∃ M, mkS (([UInt8.ofNat m] ++ G.data.toList) ++ flat (p.take k)) = M := ⟨_, rfl⟩
            obtain ⟨M2, hM2⟩ : ∃ M, mkS x = M := ⟨_, rfl⟩
            have hM3 := hidp (show M1 ++ M2 = mkS (([UInt8.ofNat m] ++ G.data.toList) ++ flat (p.take (k + 1))) from by rw [← hM1, ← hM2, mkS_append, List.append_assoc, htk.out])
            have hns : ¬ 9223372036854775807 < M1.size + M2.size := by
              rw [← hM1, ← hM2, mkS_size, mkS_size, hxl.out, List.length_append, flat_len (HP9.out.1.take k), List.length_append, List.length_take, size_toList, hGs.out]; simp; omega
            rw [hM1]
            have HM2 := hidp hM2
            clear hM1 hM2
            go_wp2_with (first | (refine wpL_idx rfl (.tmp 45) (.tmp 47) rfl B off _ _ k rfl rfl hlt ?_) | (refine wpL_at rfl (.tmp 49) rfl B (off + 32 * k) x rfl hxl.out hrx.out ?_) | (refine wpL_new rfl rfl ?_; intro b12 w12 n12) | (refine wpL_put rfl (.tmp 11) (.tmp 50) rfl b12 x rfl rfl hxl.out (u8s z32) rfl n12.arr ?_; intro w13 ha13 hp13; have hcv := str_conv w13 b12 x hxl.out ha13.range; rw [HM2.out] at hcv) | (refine wpL_slc rfl (.tmp 11) rfl b12 0 rfl ?_))
            exact ⟨⟨k + 1, by go_num, by omega, by rw [hM3.out], HQ1.out.trans ((n12.put hp13).mono hsz.out)⟩, by simp [intOf]; omega⟩
          · have e1 : decide ((k : Int) < (n : Int)) = false := by simp; omega
            have hkn : k = n := by omega
            have htk : p.take k = p := by rw [hkn, List.take_of_length_le (by rw [HN.out]; exact Nat.le_refl _)]
            rw [htk]
            have HG2 := hidp G2'.out
            obtain ⟨MS, hMS⟩ : ∃ s, mkS (([UInt8.ofNat m] ++ G.data.toList) ++ flat p) = s := ⟨_, rfl⟩
            rw [hMS] at HG2 ⊢
            clear htk hMS
            have HA1 := hidp (HA9.out.below HQ1.out HA9.out.lt); have HR1 := hidp (HR9.out.below HQ1.out HR9.out.lt); have HB1 := hidp (HB9.out.trans (HQ1.out.mono HB9.out.size))
            clear HA9 HR9 HB9
            obtain ⟨x0, x1, x2, x3, xf⟩ := arr4k HA1.out
            have g0 := xf 0; have g1 := xf 1; have g2 := xf 2; have g3 := xf 3
            clear xf
            obtain ⟨y0, y1, y2, y3, yf⟩ := arr4k HR1.out
            have f0 := yf 0; have f1 := yf 1; have f2 := yf 2; have f3 := yf 3
            clear yf
            have hne : b2 ≠ b4 := by have := h24.out; omega
            have hne' : b4 ≠ b2 := Ne.symm hne
            go_wp2_with fail
            clear x0 x1 x2 x3 g0 g1 g2 g3
            clear y0 y1 y2 y3 f0 f1 f2 f3
            obtain ⟨w15, hw15, ha15, hp15⟩ := set1 HA1.out 2 (.int .i64 ((m : Int) + 1))
            rw [hw15]
            have HRa := hidp (hp15.arr (by have := h24.out; omega) HR1.out)
            obtain ⟨w16, hw16, ha16, hp16⟩ := set4 HRa.out (.string S) (.int .i64 (h : Int)) (.int .i64 ((m : Int) + 1)) (.slice av nl cv)
            rw [hw16]
            have HBZ := hidp (hp16.below' (hp15.below' HB1.out h2w.out) (by have := h2w.out; have := h24.out; omega))
            obtain ⟨y0, y1, y2, y3, -⟩ := arr4k ha16
            refine bodyPost_ret (v := .tuple #[.agg #[.string S, .int .i64 (h : Int), .int .i64 ((m : Int) + 1), .slice av nl cv], .string MS, .int .i64 0]) (by simp [results, Tryd.results26, go_sem, y0, y1, y2, y3]) rfl ⟨by rw [G1.out, HG2.out, G3.out]; rfl, HBZ.out⟩
end Go.Proofs.YtgfdhgnkanekhaaDoor
