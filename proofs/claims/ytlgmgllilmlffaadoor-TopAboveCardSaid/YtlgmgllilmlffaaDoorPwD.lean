
/-
  power: number, First; the row of words that Text fills.
-/
import Derived.Test.YtlgmgllilmlffaaDoorPwC
import Derived.Test.YtlgmgllilmlffaaDoorOctH
import Derived.Deep.DeepAppendRoom
namespace Go.Proofs.YtlgmgllilmlffaaDoor
set_option maxRecDepth 100000
set_option linter.unusedVariables false
set_option linter.unusedSimpArgs false
open Go.RowKit Rw


/-- The number that a word tells. -/
def numW (t : ByteArray) : Int := match Lib.atoiAll t.data.toList with | .ok v => v | _ => -1
set_option maxHeartbeats 4000000 in
theorem number_any (w : World) (t : ByteArray) (hs : t.size ≤ 281474976710656) (hI : IT w) :
    Calls Tryd.prog 34 #[.string t] w fun e w' => e = .returned (.int .i64 (numW t)) ∧ Below w.heap.size w w' := by
  by_cases hat : ∃ v, Lib.atoiAll t.data.toList = .ok v
  · obtain ⟨v, hat⟩ := hat
    have c := hidp (Tryd.strconv_Atoi_ok t (by omega) v hat w)
    have HF := hidp (show numW t = v from by unfold numW; rw [hat])
    clear hat hI
    go_enter Tryd.func34, Tryd.ntmps34
    go_wp2_with fail
    refine c.out.mono ?_
    rintro e w3 ⟨rfl, hw3⟩
    have hb3 : Below w.heap.size w w3 := by
      rcases hw3 with rfl | ⟨t, rfl⟩
      · exact Below.refl _ _
      · exact bytesW_below _ _
    have HB := hidp hb3
    clear hw3 hb3
    go_wp2_with fail
    go_ret
    exact ⟨by rw [HF.out]; rfl, HB.out⟩
  · have hno : ∀ v, Lib.atoiAll t.data.toList ≠ .ok v := fun v h => hat ⟨v, h⟩
    have c := hidp (atoi_fails t hs hno w hI)
    have HF := hidp (show numW t = -1 from by
      unfold numW
      rcases h : Lib.atoiAll t.data.toList with v | _ | _
      · exact absurd h (hno v)
      · rfl
      · rfl)
    clear hat hno hI
    go_enter Tryd.func34, Tryd.ntmps34
    go_wp2_with fail
    refine c.out.mono ?_
    rintro e w3 ⟨N, z, rfl, hb3⟩
    have HB := hidp hb3
    clear hb3
    go_wp2_with fail
    go_ret
    exact ⟨by rw [HF.out]; rfl, HB.out⟩

def fsL (u : ByteArray) : Lv := ⟨0, 50, 0, 50, 50, 50, if usr u = true then [(u, 100)] else []⟩
theorem info_str : (Tryd.prog.info? 9).map (fun i => (i.zero, i.size, i.bytes)) = some (some (.string ByteArray.empty), 1, 16) := by kernel_rfl
/-- The row of words: of the call's own, with room for 38. -/
def WAt (w : World) (g : Nat) (ws : List ByteArray) : Prop := w.ownsRow g 9 1 (.slice (some ⟨g, 0, none⟩) ws.length 38) ws.length (strV ws)
/-- What an append to it leaves. -/
structure Gro (g : Nat) (w W : World) : Prop where
  size : w.heap.size ≤ W.heap.size
  other : ∀ c, c < w.heap.size → c ≠ g → W.heap[c]? = w.heap[c]?
  below : ∀ N, N ≤ g → N ≤ w.heap.size → Below N w W
theorem Gro.arr {g : Nat} {w W : World} {c t : Nat} {xs : List Value} (h : Gro g w W) (hc : c ≠ g) (ha : Arr w c t xs) : Arr W c t xs := (h.other c ha.lt hc).trans ha
theorem WAt.lt {w : World} {g : Nat} {ws : List ByteArray} (h : WAt w g ws) : g < w.heap.size := (World.ownsRow.lt h g rfl).2
theorem WAt.to {w W : World} {g : Nat} {ws : List ByteArray} (h : WAt w g ws) (hb : Below w.heap.size w W) : WAt W g ws := by
  have hl := h.lt
  refine ⟨h.1, ?_⟩
  rcases h.2 with h0 | ⟨q, cap, cur, e, hB, hg, r⟩
  · exact .inl h0
  · refine .inr ⟨q, cap, cur, e, hB, ?_, r⟩
    have := (Array.getElem?_eq_some_iff.1 hg).1
    exact (hb.block q this).trans hg
theorem WAt.alloc {w : World} {g : Nat} {ws : List ByteArray} (h : WAt w g ws) (o : Obj) : WAt (w.alloc o) g ws := h.to ((Below.refl _ w).alloc (Nat.le_refl _) o)
theorem mk38 (w : World) : ∃ C : Array Value, (Instr.makeSlice 37 (.int .i64 0) (.int .i64 38)).run Tryd.prog w = .ok (.slice (some ⟨w.heap.size, 0, none⟩) 0 38) (w.alloc (.cells C 9)) ∧
    WAt (w.alloc (.cells C 9)) w.heap.size [] := by
  obtain ⟨i0, hi, hz0, hz1, hz2⟩ := info_parts info_str
  refine ⟨madeCells (Value.string ByteArray.empty).cells (38 * i0.size), ?_, ?_⟩
  · have h := run_make (P := Tryd.prog) w 37 9 i0 (.string ByteArray.empty) Tryd.underlying37 hi hz0 .i64 .i64 0 38 (by omega) (by omega) (by rw [hz2]; omega) (by omega)
    rw [show ((38 : Int).toNat) = 38 from rfl] at h
    simpa using h
  · refine ⟨rfl, .inr ⟨w.heap.size, 38, _, rfl, Nat.le_refl _, heap_alloc_new w _, by simp, by unfold maxLen; omega, ?_, by simp [strV]⟩⟩
    rw [size_madeCells, hz1]
theorem run_app38 (w : World) (ty : TypeId) (g : Nat) (ws news : List ByteArray) (hown : WAt w g ws) (nb : Nat) (hn : Arr w nb 9 (strV news)) (hroom : ws.length + news.length ≤ 38) :
    ∃ w', (Builtin.append_ #[37, 37] ty #[.slice (some ⟨g, 0, none⟩) ws.length 38, .slice (some ⟨nb, 0, none⟩) news.length news.length]).run Tryd.prog w = .ok (.slice (some ⟨g, 0, none⟩) (ws.length + news.length) 38) w' ∧
      WAt w' g (ws ++ news) ∧ Gro g w w' := by
  obtain ⟨i0, hi, hz0, hz1, hz2⟩ := info_parts info_str
  obtain ⟨w', h1, h2, h3⟩ := run_append_own_spare (P := Tryd.prog) (w := w) g 37 ty 9 i0 1 Tryd.underlying37 hi hz1 g ws.length 38 (strV ws) hown ⟨nb, 0, none⟩ news.length news.length (strV news) (by rw [strV_length]; omega)
    (fun j u hu => by
      have hj : j < (strV news).length := (List.getElem?_eq_some_iff.1 hu).1
      have hc := hn.cell j hj
      rw [addr_addR, Nat.zero_add]
      rw [List.getElem?_eq_getElem hj] at hu
      rw [hc]; exact hu)
    (fun u hu => by simp [strV] at hu; obtain ⟨a, _, rfl⟩ := hu; rfl) hroom
  refine ⟨w', h1, ?_, ⟨h3.size, fun c hc hne => h3.block c hc (fun e => hne (by simpa using e)), fun N hN hw => (Below.refl N w).grown h3 hw fun k hk => by simp at hk; omega⟩⟩
  unfold WAt
  rw [List.length_append, show strV (ws ++ news) = strV ws ++ strV news from by simp [strV]]
  exact h2
section
variable {ops : Array Oper} {rest : List Oper} {o : Oper} {a : Act} {w : World} {Q : Exit → Act → World → Prop}
theorem wpL_app38 (hgd : o.guard = none) (s x : Operand) (ho : o.op = .call { callee := .builtin .append, args := #[s, x], argTypes := #[37, 37] }) (g n : Nat) (ws news : List ByteArray) (nb : Nat)
    (hv : a.eval s = .slice (some ⟨g, 0, none⟩) n 38) (hx : a.eval x = .slice (some ⟨nb, 0, none⟩) news.length news.length) (hl : ws.length = n) (hown : WAt w g ws) (hn : Arr w nb 9 (strV news)) (hroom : n + news.length ≤ 38)
    (h : ∀ W, WAt W g (ws ++ news) → Gro g w W → wpList Tryd.prog ops Q rest (a.put o.dst (.slice (some ⟨g, 0, none⟩) (n + news.length) 38)) W) : wpList Tryd.prog ops Q (o :: rest) a w := by
  subst hl
  obtain ⟨w', h1, h2, h3⟩ := run_app38 w o.type g ws news hown nb hn hroom
  exact wpL_appRun hgd s x 37 37 ho _ _ hv hx h1 (h w' h2 h3)
variable {S : World → Prop} {j : Nat} {s : Scr} {K : Act → World → Prop}
theorem o_app38 (ho : ops[j]? = some o) (hw : Region.wanted o (yielded ops a.tmps) = true) (s x : Operand) (hop : o.op = .call { callee := .builtin .append, args := #[s, x], argTypes := #[37, 37] }) (g n : Nat) (ws news : List ByteArray) (nb : Nat)
    (hv : a.eval s = .slice (some ⟨g, 0, none⟩) n 38) (hx : a.eval x = .slice (some ⟨nb, 0, none⟩) news.length news.length) (hl : ws.length = n) (hown : WAt w g ws) (hn : Arr w nb 9 (strV news)) (hroom : n + news.length ≤ 38)
    (h : ∀ W, WAt W g (ws ++ news) → Gro g w W → S W ∧ K (a.put o.dst (.slice (some ⟨g, 0, none⟩) (n + news.length) 38)) W) : opW Tryd.prog ops Q S j K a w := by
  subst hl
  obtain ⟨w', h1, h2, h3⟩ := run_app38 w o.type g ws news hown nb hn hroom
  refine ⟨o, ho, hw, ?_⟩
  unfold Oper.wp
  simp [execOp, hop, resolve, invoke, builtin, hv, hx, h1, Result.andThen]
  exact h w' h2 h3
end
end Go.Proofs.YtlgmgllilmlffaaDoor
