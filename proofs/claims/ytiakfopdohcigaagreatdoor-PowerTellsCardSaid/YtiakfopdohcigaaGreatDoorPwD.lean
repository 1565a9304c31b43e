
/-
  power: number, First; the row of words that Text fills.
-/
import Derived.Test.YtiakfopdohcigaaGreatDoorPwC
import Derived.Test.YtiakfopdohcigaaGreatDoorOctAll
import Derived.Deep.DeepAppendRoom
namespace Go.Proofs.YtiakfopdohcigaaGreatDoor
set_option maxRecDepth 100000
set_option linter.unusedVariables false
set_option linter.unusedSimpArgs false
open Go.RowKit Rw


/-- The number that a word tells. -/
def numW (t : ByteArray) : Int := match Lib.atoiAll t.data.toList with | .ok v => v | _ => -1
set_option maxHeartbeats 4000000 in
theorem number_any (w : World) (t : ByteArray) (hs : t.size ≤ 281474976710656) (hI : IT w) :
    Calls Tryz.prog 66 #[.string t] w fun e w' => e = .returned (.int .i64 (numW t)) ∧ Below w.heap.size w w' := by
  by_cases hat : ∃ v, Lib.atoiAll t.data.toList = .ok v
  · obtain ⟨v, hat⟩ := hat
    have c := hidp (Tryz.strconv_Atoi_ok t (by omega) v hat w)
    have HF := hidp (show numW t = v from by unfold numW; rw [hat])
    clear hat hI
    go_enter Tryz.func66, Tryz.ntmps66
    go_wp2_with fail
    refine c.out.mono ?_
    rintro e w3 ⟨rfl, hw3⟩
    have hb3 : Below w.heap.size w w3 := by
      rcases hw3 with rfl | ⟨t, rfl⟩
      · exact Below.refl _ _
      · exact bytesW_below _ _
    have HB := hidp hb3
    clear hw3 hb3
    go_wp2_with fail
    go_ret
    exact ⟨by rw [HF.out]; rfl, HB.out⟩
  · have hno : ∀ v, Lib.atoiAll t.data.toList ≠ .ok v := fun v h => hat ⟨v, h⟩
    have c := hidp (atoi_fails t hs hno w hI)
    have HF := hidp (show numW t = -1 from by
      unfold numW
      rcases h : Lib.atoiAll t.data.toList with v | _ | _
      · exact absurd h (hno v)
      · rfl
      · rfl)
    clear hat hno hI
    go_enter Tryz.func66, Tryz.ntmps66
    go_wp2_with fail
    refine c.out.mono ?_
    rintro e w3 ⟨N, z, rfl, hb3⟩
    have HB := hidp hb3
    clear hb3
    go_wp2_with fail
    go_ret
    exact ⟨by rw [HF.out]; rfl, HB.out⟩

def fsL (u : ByteArray) : Lv := ⟨0, 50, 0, 50, 50, 50, if usr u = true then [(u, 100)] else []⟩
set_option maxHeartbeats 8000000 in
theorem first_any (w : World) (u : ByteArray) (hs : u.size ≤ 140737488351232) (hP : PT w) :
    Calls Tryz.prog 25 #[.string u] w fun e w' => ∃ v, e = .returned (.agg #[.int .i64 (fsL u).a, .int .i64 (fsL u).s, .int .i64 (fsL u).i, .int .i64 (fsL u).k, .int .i64 (fsL u).b, .int .i64 (fsL u).r, v]) ∧ UsAt w' v (fsL u).us ∧ Below w.heap.size w w' := by
  have HP := hidp hP; clear hP
  have cu := hidp (fun W h => isUser_any W u (by omega) h)
  have cc := hidp (fun W => strClone_any u W (by omega))
  cases hu : usr u with
  | true =>
    rw [hu] at cu
    have HF := hidp (show fsL u = ⟨0, 50, 0, 50, 50, 50, [(u, 100)]⟩ from by unfold fsL; rw [hu]; rfl)
    clear hu
    go_enter Tryz.func25, Tryz.ntmps25
    go_wp2_with (first | (refine Rt.wpL_new tyL (some 2) rfl rfl rfl ?_; intro b2 w1 n1; have HB1 := hidp n1.below; have hg_b2 := hidp n1.le; have HR1 := hidp n1.arr; clear n1) | (refine Rt.wpL_new tyL (some 3) rfl rfl rfl ?_; intro b3 w2 n2; have HB2 := hidp (HB1.out.trans (n2.below.mono HB1.out.size)); have hg_b3 := hidp (Nat.le_trans HB1.out.size n2.le); have HR2 := hidp (n2.old HR1.out); have hl_HR_b3 := hidp (show b2 < b3 from by have := n2.at_; have := HR1.out.lt; omega); have HA2 := hidp n2.arr; clear n2 HR1 HB1) | (refine Rt.wpL_put tyL rfl (.tmp 3) (.tmp 4) rfl b3 [.int .i64 0, .int .i64 50, .int .i64 0, .int .i64 50, .int .i64 50, .int .i64 50, .slice none 0 0] rfl rfl rfl (by simp [Value.oneCell']) zL rfl HA2.out ?_; intro w3 ha hp; have HB3 := hidp (hp.below' HB2.out hg_b3.out); have HR3 := hidp (hp.arr (by have := hl_HR_b3.out; omega) HR2.out); have HA3 := hidp ha; clear ha hp HB2 HR2 HA2) | (go_at_call 72; refine (cu.out _ (HP.out.1.below HB3.out (Nat.le_refl _))).mono ?_; rintro e w4 ⟨rfl, hb⟩; have HB4 := hidp (HB3.out.trans (hb.mono HB3.out.size)); have HR4 := hidp (HR3.out.below hb HR3.out.lt); have HA4 := hidp (HA3.out.below hb HA3.out.lt); clear hb HB3 HR3 HA3) | (go_at_call 59; refine (cc.out _).mono ?_; rintro e w5 ⟨rfl, hb⟩; have HB5 := hidp (HB4.out.trans (hb.mono HB4.out.size)); have HR5 := hidp (HR4.out.below hb HR4.out.lt); have HA5 := hidp (HA4.out.below hb HA4.out.lt); clear hb HB4 HR4 HA4) | (refine wpL_bs1R tyU rfl (.tmp 9) rfl (uR (u, 100)) rfl rfl ?_; intro b5 w6 n6; have HB6 := hidp (HB5.out.trans (n6.below.mono HB5.out.size)); have hg_b5 := hidp (Nat.le_trans HB5.out.size n6.le); have HR6 := hidp (n6.old HR5.out); have hl_HR_b5 := hidp (show b2 < b5 from by have := n6.at_; have := HR5.out.lt; omega); have HA6 := hidp (n6.old HA5.out); have hl_HA_b5 := hidp (show b3 < b5 from by have := n6.at_; have := HA5.out.lt; omega); have HU6 := hidp n6.arr; clear n6 HR5 HA5 HB5) | (refine Rt.wpL_putF rfl 35 (.tmp 11) _ rfl b3 6 (.slice (some ⟨b5, 0, none⟩) 1 1) rfl rfl (by kernel_rfl) rfl [.int .i64 0, .int .i64 50, .int .i64 0, .int .i64 50, .int .i64 50, .int .i64 50, .slice none 0 0] HA6.out (by simp) ?_; intro w7 ha hp; have HB7 := hidp (hp.below' HB6.out hg_b3.out); have HA7 := hidp (show Arr w7 b3 37 [.int .i64 0, .int .i64 50, .int .i64 0, .int .i64 50, .int .i64 50, .int .i64 50, .slice (some ⟨b5, 0, none⟩) 1 1] from ha); have HR7 := hidp (hp.arr (by have := hl_HR_b3.out; omega) HR6.out); have HU7 := hidp (hp.arr (by have := hl_HA_b5.out; omega) HU6.out); clear ha hp HB6 HA6 HR6 HU6) | (refine Rt.wpL_get tyL rfl (.tmp 3) rfl b3 [.int .i64 0, .int .i64 50, .int .i64 0, .int .i64 50, .int .i64 50, .int .i64 50, .slice (some ⟨b5, 0, none⟩) 1 1] rfl rfl HA7.out ?_) | (refine Rt.wpL_put tyL rfl (.tmp 2) (.tmp 12) rfl b2 [.int .i64 0, .int .i64 50, .int .i64 0, .int .i64 50, .int .i64 50, .int .i64 50, .slice (some ⟨b5, 0, none⟩) 1 1] rfl rfl rfl (by simp [Value.oneCell']) zL rfl HR7.out ?_; intro w8 ha hp; have HB8 := hidp (hp.below' HB7.out hg_b2.out); have HR8 := hidp ha; have HA8 := hidp (hp.arr (by have := hl_HR_b3.out; omega) HA7.out); have HU8 := hidp (hp.arr (by have := hl_HR_b5.out; omega) HU7.out); clear ha hp HB7 HR7 HA7 HU7))
    refine bodyPost_ret (results_cell_row (P := Tryz.prog) (p := 2) (ty := 37) Tryz.results25 _ _ b2 37 ([.int .i64 0, .int .i64 50, .int .i64 0, .int .i64 50, .int .i64 50, .int .i64 50, .slice (some ⟨b5, 0, none⟩) 1 1] : List Value).toArray (0, 0) _ rfl HR8.out Tryz.underlying37 rfl (tyL.size rfl)) rfl ?_
    rw [HF.out]
    exact ⟨.slice (some ⟨b5, 0, none⟩) 1 1, rfl, ⟨⟨uRs_all _, .inr ⟨b5, 0, 1, rfl, by simp [uRs], HU8.out.lt, by have := HU8.out.range; simpa [uRs] using this⟩⟩, by simp, by simp; omega⟩, HB8.out⟩
  | false =>
    rw [hu] at cu
    have HF := hidp (show fsL u = ⟨0, 50, 0, 50, 50, 50, []⟩ from by unfold fsL; rw [hu]; rfl)
    clear hu
    go_enter Tryz.func25, Tryz.ntmps25
    go_wp2_with (first | (refine Rt.wpL_new tyL (some 2) rfl rfl rfl ?_; intro b2 w1 n1; have HB1 := hidp n1.below; have hg_b2 := hidp n1.le; have HR1 := hidp n1.arr; clear n1) | (refine Rt.wpL_new tyL (some 3) rfl rfl rfl ?_; intro b3 w2 n2; have HB2 := hidp (HB1.out.trans (n2.below.mono HB1.out.size)); have hg_b3 := hidp (Nat.le_trans HB1.out.size n2.le); have HR2 := hidp (n2.old HR1.out); have hl_HR_b3 := hidp (show b2 < b3 from by have := n2.at_; have := HR1.out.lt; omega); have HA2 := hidp n2.arr; clear n2 HR1 HB1) | (refine Rt.wpL_put tyL rfl (.tmp 3) (.tmp 4) rfl b3 [.int .i64 0, .int .i64 50, .int .i64 0, .int .i64 50, .int .i64 50, .int .i64 50, .slice none 0 0] rfl rfl rfl (by simp [Value.oneCell']) zL rfl HA2.out ?_; intro w3 ha hp; have HB3 := hidp (hp.below' HB2.out hg_b3.out); have HR3 := hidp (hp.arr (by have := hl_HR_b3.out; omega) HR2.out); have HA3 := hidp ha; clear ha hp HB2 HR2 HA2) | (go_at_call 72; refine (cu.out _ (HP.out.1.below HB3.out (Nat.le_refl _))).mono ?_; rintro e w4 ⟨rfl, hb⟩; have HB4 := hidp (HB3.out.trans (hb.mono HB3.out.size)); have HR4 := hidp (HR3.out.below hb HR3.out.lt); have HA4 := hidp (HA3.out.below hb HA3.out.lt); clear hb HB3 HR3 HA3) | (refine Rt.wpL_get tyL rfl (.tmp 3) rfl b3 [.int .i64 0, .int .i64 50, .int .i64 0, .int .i64 50, .int .i64 50, .int .i64 50, .slice none 0 0] rfl rfl HA4.out ?_) | (refine Rt.wpL_put tyL rfl (.tmp 2) (.tmp 12) rfl b2 [.int .i64 0, .int .i64 50, .int .i64 0, .int .i64 50, .int .i64 50, .int .i64 50, .slice none 0 0] rfl rfl rfl (by simp [Value.oneCell']) zL rfl HR4.out ?_; intro w5 ha hp; have HB5 := hidp (hp.below' HB4.out hg_b2.out); have HR5 := hidp ha; have HA5 := hidp (hp.arr (by have := hl_HR_b3.out; omega) HA4.out); clear ha hp HB4 HR4 HA4))
    refine bodyPost_ret (results_cell_row (P := Tryz.prog) (p := 2) (ty := 37) Tryz.results25 _ _ b2 37 ([.int .i64 0, .int .i64 50, .int .i64 0, .int .i64 50, .int .i64 50, .int .i64 50, .slice none 0 0] : List Value).toArray (0, 0) _ rfl HR5.out Tryz.underlying37 rfl (tyL.size rfl)) rfl ?_
    rw [HF.out]
    exact ⟨.slice none 0 0, rfl, UsAt.nil _, HB5.out⟩

theorem info_str : (Tryz.prog.info? 9).map (fun i => (i.zero, i.size, i.bytes)) = some (some (.string ByteArray.empty), 1, 16) := by kernel_rfl
/-- The row of words: of the call's own, with room for 38. -/
def WAt (w : World) (g : Nat) (ws : List ByteArray) : Prop := w.ownsRow g 9 1 (.slice (some ⟨g, 0, none⟩) ws.length 38) ws.length (strV ws)
/-- What an append to it leaves. -/
structure Gro (g : Nat) (w W : World) : Prop where
  size : w.heap.size ≤ W.heap.size
  other : ∀ c, c < w.heap.size → c ≠ g → W.heap[c]? = w.heap[c]?
  below : ∀ N, N ≤ g → N ≤ w.heap.size → Below N w W
theorem Gro.arr {g : Nat} {w W : World} {c t : Nat} {xs : List Value} (h : Gro g w W) (hc : c ≠ g) (ha : Arr w c t xs) : Arr W c t xs := (h.other c ha.lt hc).trans ha
theorem WAt.lt {w : World} {g : Nat} {ws : List ByteArray} (h : WAt w g ws) : g < w.heap.size := (World.ownsRow.lt h g rfl).2
theorem WAt.to {w W : World} {g : Nat} {ws : List ByteArray} (h : WAt w g ws) (hb : Below w.heap.size w W) : WAt W g ws := by
  have hl := h.lt
  refine ⟨h.1, ?_⟩
  rcases h.2 with h0 | ⟨q, cap, cur, e, hB, hg, r⟩
  · exact .inl h0
  · refine .inr ⟨q, cap, cur, e, hB, ?_, r⟩
    have := (Array.getElem?_eq_some_iff.1 hg).1
    exact (hb.block q this).trans hg
theorem WAt.alloc {w : World} {g : Nat} {ws : List ByteArray} (h : WAt w g ws) (o : Obj) : WAt (w.alloc o) g ws := h.to ((Below.refl _ w).alloc (Nat.le_refl _) o)
theorem mk38 (w : World) : ∃ C : Array Value, (Instr.makeSlice 31 (.int .i64 0) (.int .i64 38)).run Tryz.prog w = .ok (.slice (some ⟨w.heap.size, 0, none⟩) 0 38) (w.alloc (.cells C 9)) ∧
    WAt (w.alloc (.cells C 9)) w.heap.size [] := by
  obtain ⟨i0, hi, hz0, hz1, hz2⟩ := info_parts info_str
  refine ⟨madeCells (Value.string ByteArray.empty).cells (38 * i0.size), ?_, ?_⟩
  · have h := run_make (P := Tryz.prog) w 31 9 i0 (.string ByteArray.empty) Tryz.underlying31 hi hz0 .i64 .i64 0 38 (by omega) (by omega) (by rw [hz2]; omega) (by omega)
    rw [show ((38 : Int).toNat) = 38 from rfl] at h
    simpa using h
  · refine ⟨rfl, .inr ⟨w.heap.size, 38, _, rfl, Nat.le_refl _, heap_alloc_new w _, by simp, by unfold maxLen; omega, ?_, by simp [strV]⟩⟩
    rw [size_madeCells, hz1]
theorem run_app38 (w : World) (ty : TypeId) (g : Nat) (ws news : List ByteArray) (hown : WAt w g ws) (nb : Nat) (hn : Arr w nb 9 (strV news)) (hroom : ws.length + news.length ≤ 38) :
    ∃ w', (Builtin.append_ #[31, 31] ty #[.slice (some ⟨g, 0, none⟩) ws.length 38, .slice (some ⟨nb, 0, none⟩) news.length news.length]).run Tryz.prog w = .ok (.slice (some ⟨g, 0, none⟩) (ws.length + news.length) 38) w' ∧
      WAt w' g (ws ++ news) ∧ Gro g w w' := by
  obtain ⟨i0, hi, hz0, hz1, hz2⟩ := info_parts info_str
  obtain ⟨w', h1, h2, h3⟩ := run_append_own_spare (P := Tryz.prog) (w := w) g 31 ty 9 i0 1 Tryz.underlying31 hi hz1 g ws.length 38 (strV ws) hown ⟨nb, 0, none⟩ news.length news.length (strV news) (by rw [strV_length]; omega)
    (fun j u hu => by
      have hj : j < (strV news).length := (List.getElem?_eq_some_iff.1 hu).1
      have hc := hn.cell j hj
      rw [addr_addR, Nat.zero_add]
      rw [List.getElem?_eq_getElem hj] at hu
      rw [hc]; exact hu)
    (fun u hu => by simp [strV] at hu; obtain ⟨a, _, rfl⟩ := hu; rfl) hroom
  refine ⟨w', h1, ?_, ⟨h3.size, fun c hc hne => h3.block c hc (fun e => hne (by simpa using e)), fun N hN hw => (Below.refl N w).grown h3 hw fun k hk => by simp at hk; omega⟩⟩
  unfold WAt
  rw [List.length_append, show strV (ws ++ news) = strV ws ++ strV news from by simp [strV]]
  exact h2
section
variable {ops : Array Oper} {rest : List Oper} {o : Oper} {a : Act} {w : World} {Q : Exit → Act → World → Prop}
theorem wpL_app38 (hgd : o.guard = none) (s x : Operand) (ho : o.op = .call { callee := .builtin .append, args := #[s, x], argTypes := #[31, 31] }) (g n : Nat) (ws news : List ByteArray) (nb : Nat)
    (hv : a.eval s = .slice (some ⟨g, 0, none⟩) n 38) (hx : a.eval x = .slice (some ⟨nb, 0, none⟩) news.length news.length) (hl : ws.length = n) (hown : WAt w g ws) (hn : Arr w nb 9 (strV news)) (hroom : n + news.length ≤ 38)
    (h : ∀ W, WAt W g (ws ++ news) → Gro g w W → wpList Tryz.prog ops Q rest (a.put o.dst (.slice (some ⟨g, 0, none⟩) (n + news.length) 38)) W) : wpList Tryz.prog ops Q (o :: rest) a w := by
  subst hl
  obtain ⟨w', h1, h2, h3⟩ := run_app38 w o.type g ws news hown nb hn hroom
  exact wpL_appRun hgd s x 31 31 ho _ _ hv hx h1 (h w' h2 h3)
variable {S : World → Prop} {j : Nat} {s : Scr} {K : Act → World → Prop}
theorem o_app38 (ho : ops[j]? = some o) (hw : Region.wanted o (yielded ops a.tmps) = true) (s x : Operand) (hop : o.op = .call { callee := .builtin .append, args := #[s, x], argTypes := #[31, 31] }) (g n : Nat) (ws news : List ByteArray) (nb : Nat)
    (hv : a.eval s = .slice (some ⟨g, 0, none⟩) n 38) (hx : a.eval x = .slice (some ⟨nb, 0, none⟩) news.length news.length) (hl : ws.length = n) (hown : WAt w g ws) (hn : Arr w nb 9 (strV news)) (hroom : n + news.length ≤ 38)
    (h : ∀ W, WAt W g (ws ++ news) → Gro g w W → S W ∧ K (a.put o.dst (.slice (some ⟨g, 0, none⟩) (n + news.length) 38)) W) : opW Tryz.prog ops Q S j K a w := by
  subst hl
  obtain ⟨w', h1, h2, h3⟩ := run_app38 w o.type g ws news hown nb hn hroom
  refine ⟨o, ho, hw, ?_⟩
  unfold Oper.wp
  simp [execOp, hop, resolve, invoke, builtin, hv, hx, h1, Result.andThen]
  exact h w' h2 h3
end
end Go.Proofs.YtiakfopdohcigaaGreatDoor
