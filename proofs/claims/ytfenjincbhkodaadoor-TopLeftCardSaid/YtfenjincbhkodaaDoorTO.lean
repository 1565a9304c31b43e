/-
  Joined: IdK EvK StV.
-/
import Derived.Test.YtfenjincbhkodaaDoorTC
import Derived.Test.YtfenjincbhkodaaDoorCards
import Derived.Test.YtfenjincbhkodaaDoorTie
import Derived.ProofKit
import Derived.OpenShut
import Derived.ShutString
import Derived.SliceStrings
import Derived.SizedLaws
import Derived.Lib.SmallJoins
import Derived.Stop.LaidErr
import Derived.Deep.DeepHandedRow
import Derived.Test.YtfenjincbhkodaaDoorTE
import Derived.Test.YtfenjincbhkodaaDoorTJ
import Derived.Deep.Slices
namespace Go.Proofs.YtfenjincbhkodaaDoor
set_option maxRecDepth 100000
set_option linter.unusedVariables false
set_option linter.unusedSimpArgs false
open Go.RowKit Go.ChangeShapes Go.WideShapes Go.ChangeAt

theorem gERange : Tryd.prog.globalNamed "strconv.ErrRange" = some 8 := by kernel_rfl
theorem gERangeT : (Tryd.prog.globals[8]?).map (·.type) = some 197 := by kernel_rfl
theorem gESyn : Tryd.prog.globalNamed "strconv.ErrSyntax" = some 7 := by kernel_rfl
theorem gESynT : (Tryd.prog.globals[7]?).map (·.type) = some 197 := by kernel_rfl
theorem gMarks : Tryd.prog.globalNamed "palaver/ident.marks" = some 5 := by kernel_rfl
theorem gMarksT : (Tryd.prog.globals[5]?).map (·.type) = some 206 := by kernel_rfl
theorem starEs : "*" ++ "errors.errorString" = "*errors.errorString" := by decide
theorem rowEs (u : TypeId) (h : Tryd.prog.typeName? 3 u = some "*errors.errorString") : u = 233 :=
  typeName_ptr_named (nm := "errors.errorString") (by rw [starEs]; kernel_rfl) (by kernel_rfl) (by decide) u (by rw [starEs]; exact h)
theorem cellsEs : Tryd.prog.cellsOf 235 = 1 := by kernel_rfl
theorem cellsStr : Tryd.prog.cellsOf 9 = 1 := by kernel_rfl

/-- A table of texts at the head of a row's list. -/
theorem strTab_of_head {W : World} {nm : String} {g : Nat} {t : TypeId} {n : Nat} {texts : List (List UInt8)} {rest : List (String × DataW Unit)}
    (h : laidMet Tryd.prog ((nm, .agg (texts.map fun l => .lit (.string l))) :: rest) W) (hg : Tryd.prog.globalNamed nm = some g) (ht : (Tryd.prog.globals[g]?).map (·.type) = some t)
    (hu : Tryd.prog.underlying t = some (.array n 9)) (hn : texts.length = n) (i : Nat) (hi : i < n) : W.cell? ⟨g, i, none⟩ = some (.string (mkS (texts.getD i []))) := by
  obtain ⟨ps, ⟨g0, t0, cs0, f0, p0, q0, hg0, ht0, hv0, hd0, _, _⟩, _, _⟩ := h
  obtain rfl := Option.some.inj (hg.symm.trans hg0)
  obtain rfl := Option.some.inj (ht.symm.trans ht0)
  obtain ⟨xs, m, rfl, hx, hl, hxl, hel⟩ := DataW.trod_array hu hd0
  rw [cellsStr] at hel
  have h1 := hel i hi
  have hxi : i < xs.length := by omega
  rw [List.getElem?_eq_getElem hxi] at h1
  obtain ⟨s, hs, hx1, _⟩ := DataW.trod_string Tryd.underlying9 h1
  have hcell := World.var?_cell hg hv0 i
  simp only [Nat.mul_one] at hs
  have hc : cs0[i]? = some (.string s) := by
    have := congrArg (·[0]?) hs
    simp only [List.getElem?_take, List.getElem?_drop] at this
    simpa using this
  have hd : DataW.lit (H := Unit) (.string (texts.getD i [])) = .lit (.string s.data.toList) := by
    have e := congrArg Prod.fst hx
    simp only [DataW.agg.injEq] at e
    have e1 := congrArg (·[i]?) e
    simp only [List.getElem?_map, List.getElem?_eq_getElem hxi, List.getElem?_eq_getElem (show i < texts.length from by omega), Option.map_some, Option.some.injEq] at e1
    rw [hx1] at e1
    rw [List.getD_eq_getElem?_getD, List.getElem?_eq_getElem (show i < texts.length from by omega)]
    exact e1
  simp only [DataW.lit.injEq, Lit.string.injEq] at hd
  rw [hc] at hcell
  rw [hcell, hd, mkS_of]

theorem it_of_laid {W : World} {x0 x1 x2 : String × DataW Unit} {rest : List (String × DataW Unit)}
    (h : laidMet Tryd.prog (x0 :: x1 :: x2 :: ("strconv.ErrRange", Rows.laid_strconv_ErrRange) :: ("strconv.ErrSyntax", Rows.laid_strconv_ErrSyntax) :: ("palaver/ident.marks", Rows.laid_palaver_ident_marks) :: rest) W) : IT W := by
  have h3 := h.tail.tail.tail
  have h4 := h3.tail
  have h5 := h4.tail
  obtain ⟨a0, s0, hv0, -, -, -⟩ := laid_sentinel h3 gERange gERangeT Tryd.underlying197 rowEs Tryd.underlying233 Tryd.underlying235 rfl rfl Tryd.underlying9 cellsEs cellsStr
  obtain ⟨a1, s1, hv1, -, -, -⟩ := laid_sentinel h4 gESyn gESynT Tryd.underlying197 rowEs Tryd.underlying233 Tryd.underlying235 rfl rfl Tryd.underlying9 cellsEs cellsStr
  have h5' : laidMet Tryd.prog (("palaver/ident.marks", .agg (([[], [64], [33]] : List (List UInt8)).map fun l => .lit (.string l))) :: rest) W := h5
  have e1 : W.cell? ⟨7, 0, none⟩ = some (.iface 233 (.pointer (some a1))) := by have h0 := World.var?_cell gESyn hv1 0; simpa using h0
  have e2 : W.cell? ⟨8, 0, none⟩ = some (.iface 233 (.pointer (some a0))) := by have h0 := World.var?_cell gERange hv0 0; simpa using h0
  exact ⟨⟨strTab_of_head h5' gMarks gMarksT Tryd.underlying206 rfl 1 (by omega), strTab_of_head h5' gMarks gMarksT Tryd.underlying206 rfl 2 (by omega)⟩, ⟨_, _, e1⟩, ⟨_, _, e2⟩⟩

section
variable {H : Type} {enc : TypeId × Value → H} {w : World} {base : Nat} {spare : Nat → Bool} {held : Bool}
theorem u8_nat {a : Int} (h : (Lit.int .u8 a).wf = true) : ∃ n : Nat, a = n ∧ n < 256 := by
  have hx : 0 ≤ a ∧ a ≤ 255 := by simpa [Lit.wf, IntKind.min, IntKind.max, IntKind.signed, IntKind.bits] using h
  exact ⟨a.toNat, by omega, by omega⟩
end
end Go.Proofs.YtfenjincbhkodaaDoor

namespace Go.Proofs.YtfenjincbhkodaaDoor
set_option maxRecDepth 100000
set_option linter.unusedVariables false
set_option linter.unusedSimpArgs false
open Go.RowKit Go.ChangeShapes Go.WideShapes Go.ChangeAt

theorem gWords : Tryd.prog.globalNamed "palaver/event.words" = some 1 := by kernel_rfl
theorem gWordsT : (Tryd.prog.globals[1]?).map (·.type) = some 184 := by kernel_rfl
theorem wt_of_laid {W : World} {x0 x1 x2 x3 x4 x5 : String × DataW Unit} {rest : List (String × DataW Unit)}
    (h : laidMet Tryd.prog (x0 :: x1 :: x2 :: x3 :: x4 :: x5 :: ("palaver/event.words", Rows.laid_palaver_event_words) :: rest) W) : WT W := by
  have h6 := h.tail.tail.tail.tail.tail.tail
  have h6' : laidMet Tryd.prog (("palaver/event.words", .agg (evWords.map fun l => .lit (.string l))) :: rest) W := h6
  intro i hi
  exact strTab_of_head h6' gWords gWordsT Tryd.underlying184 rfl i hi

section
variable {H : Type} {enc : TypeId × Value → H} {w : World} {base : Nat} {spare : Nat → Bool} {held : Bool}
end
end Go.Proofs.YtfenjincbhkodaaDoor

namespace Go.Proofs.YtfenjincbhkodaaDoor
set_option maxRecDepth 100000
set_option linter.unusedVariables false
set_option linter.unusedSimpArgs false
open Go.RowKit Rw Go.ChangeShapes Go.WideShapes Go.ChangeAt
theorem addr_pl (b o i : Nat) : (⟨b, o, none⟩ : Addr).add i = ⟨b, o + i, none⟩ := by unfold Addr.add; split <;> simp_all
theorem weights_all {H : Type} {P : Program} {e : TypeId} : ∀ {l : List (DataW H)} {d : DataW H} {n : Nat}, d ∈ l → n ∈ d.weights P e → n ∈ DataW.weightsAll P e l
  | [], _, _, h, _ => by cases h
  | a :: r, d, n, h, hn => by
    rw [DataW.weightsAll, List.mem_append]
    rcases List.mem_cons.1 h with rfl | h
    · exact .inl hn
    · exact .inr (weights_all h hn)
theorem choose_ls {α : Type} {p : Nat → α → Prop} : ∀ (n : Nat), (∀ i, i < n → ∃ x, p i x) → ∃ l : List α, l.length = n ∧ ∀ i (h : i < l.length), p i l[i]
  | 0, _ => ⟨[], rfl, fun i h => by simp at h⟩
  | n + 1, h => by
    obtain ⟨l, h1, h2⟩ := choose_ls n (fun i hi => h i (by omega))
    obtain ⟨x, hx⟩ := h n (by omega)
    refine ⟨l ++ [x], by simp [h1], fun i hi => ?_⟩
    by_cases hi2 : i < l.length
    · rw [List.getElem_append_left hi2]; exact h2 i hi2
    · have e : i = l.length := by simp at hi; omega
      subst e
      rw [List.getElem_append_right (by omega)]
      simp only [Nat.sub_self, List.getElem_cons_zero]
      rw [h1]; exact hx
section
variable {H : Type} {enc : TypeId × Value → H} {w : World} {base : Nat} {spare : Nat → Bool} {held : Bool} {r : Reach} {b0 : Nat}
theorem trod_ev {fuel : Nat} {l : List Value} (hl : l.length = 6) {x : DataW H × List MemPlace} (hf : DataW.trod enc Tryd.prog w base spare held fuel 59 l = some x) :
    ∃ e : Ev, l = e.row ∧ e.kind < 256 ∧ (Lit.int .i64 e.nonce).wf = true ∧
      x.1 = .agg [.lit (.string e.room.data.toList), .lit (.string e.sender.data.toList), .lit (.int .u8 (e.kind : Int)), .lit (.string e.key.data.toList), .lit (.string e.body.data.toList), .lit (.int .i64 e.nonce)] := by
  have he := Tryd.underlying59
  have hce : Tryd.prog.cellsOf 59 = 6 := by kernel_rfl
  have hci : Tryd.prog.cellsOf 2 = 1 := by kernel_rfl
  have hck : Tryd.prog.cellsOf 57 = 1 := by kernel_rfl
  obtain ⟨ys, n', hn', hy, hlen, hyl, hfl⟩ := DataW.trod_struct he hf
  have hyl6 : ys.length = 6 := hyl
  match l, hl, ys, hyl6, hfl, hy with
  | [v0, v1, v2, v3, v4, v5], _, [y0, y1, y2, y3, y4, y5], _, hfl, hy =>
    have g0 := hfl 0 _ rfl
    have g1 := hfl 1 _ rfl
    have g2 := hfl 2 _ rfl
    have g3 := hfl 3 _ rfl
    have g4 := hfl 4 _ rfl
    have g5 := hfl 5 _ rfl
    simp only [List.getElem?_cons_zero, List.getElem?_cons_succ, List.drop_zero, List.drop_succ_cons, List.take_zero, List.take_succ_cons, cellsStr, hci, hck] at g0 g1 g2 g3 g4 g5
    obtain ⟨a0, c0, z0, _⟩ := DataW.trod_string Tryd.underlying9 g0
    obtain ⟨a1, c1, z1, _⟩ := DataW.trod_string Tryd.underlying9 g1
    obtain ⟨a2, c2, z2, w2⟩ := DataW.trod_int Tryd.underlying57 g2
    obtain ⟨a3, c3, z3, _⟩ := DataW.trod_string Tryd.underlying9 g3
    obtain ⟨a4, c4, z4, _⟩ := DataW.trod_string Tryd.underlying9 g4
    obtain ⟨a5, c5, z5, w5⟩ := DataW.trod_int Tryd.underlying2 g5
    have d0 : [v0] = [Value.string a0] := by
      have h : List.take (Tryd.prog.cellsOf 9) (List.drop 0 [v0, v1, v2, v3, v4, v5]) = _ := c0
      rw [cellsStr] at h; exact h
    have d1 : [v1] = [Value.string a1] := by
      have h : List.take (Tryd.prog.cellsOf 9) (List.drop 1 [v0, v1, v2, v3, v4, v5]) = _ := c1
      rw [cellsStr] at h; exact h
    have d2 : [v2] = [Value.int .u8 a2] := by
      have h : List.take (Tryd.prog.cellsOf 57) (List.drop 2 [v0, v1, v2, v3, v4, v5]) = _ := c2
      rw [hck] at h; exact h
    have d3 : [v3] = [Value.string a3] := by
      have h : List.take (Tryd.prog.cellsOf 9) (List.drop 3 [v0, v1, v2, v3, v4, v5]) = _ := c3
      rw [cellsStr] at h; exact h
    have d4 : [v4] = [Value.string a4] := by
      have h : List.take (Tryd.prog.cellsOf 9) (List.drop 4 [v0, v1, v2, v3, v4, v5]) = _ := c4
      rw [cellsStr] at h; exact h
    have d5 : [v5] = [Value.int .i64 a5] := by
      have h : List.take (Tryd.prog.cellsOf 2) (List.drop 5 [v0, v1, v2, v3, v4, v5]) = _ := c5
      rw [hci] at h; exact h
    clear c0 c1 c2 c3 c4 c5 g0 g1 g2 g3 g4 g5 hfl
    simp only [List.cons.injEq, and_true] at d0 d1 d2 d3 d4 d5
    subst d0 d1 d2 d3 d4 d5 z0 z1 z2 z3 z4 z5
    obtain ⟨k, rfl, hk⟩ := u8_nat w2
    refine ⟨⟨a0, a1, k, a3, a4, a5⟩, rfl, hk, w5, ?_⟩
    have e := congrArg Prod.fst hy
    simpa using e

end
section
variable {H : Type} {enc : TypeId × Value → H} {w : World} {base : Nat} {held : Bool} {r : Reach} {b0 : Nat}
end
def Ev.fit (e : Ev) : Prop := e.ok ∧ e.body.size ≤ 140737488351232 ∧ e.sender.size ≤ 140737488351232
def rowsE (es : List Ev) : List (List Value) := es.map Ev.row
theorem rowsE_len (es : List Ev) : (rowsE es).length = es.length := by simp [rowsE]
theorem rowsE_all (es : List Ev) : AllK 6 (rowsE es) := by
  intro e he
  simp only [rowsE, List.mem_map] at he
  obtain ⟨g, hg, rfl⟩ := he
  rfl
theorem tyE : RowTy Tryd.prog 55 59 6 80 zE := by
  refine ⟨by decide, by decide, by decide, rfl, by kernel_rfl, by kernel_rfl, ⟨_, Tryd.underlying59⟩, by kernel_rfl⟩
/-- Events in memory. -/
structure EsAt (w : World) (v : Value) (es : List Ev) : Prop where
  rs : RsAt 6 w v (rowsE es)
  fit : ∀ e ∈ es, e.fit
  len : es.length ≤ 140737488351232
theorem EsAt.to {w w' : World} {v : Value} {es : List Ev} (h : EsAt w v es) (hb : Below w.heap.size w w') : EsAt w' v es := ⟨h.rs.to hb, h.fit, h.len⟩
theorem EsAt.form {w : World} {v : Value} {es : List Ev} (h : EsAt w v es) : ∃ a c, v = .slice a es.length c := by
  have := h.rs.form; rw [rowsE_len] at this; exact this
theorem EsAt.get {w : World} {v : Value} {es : List Ev} (h : EsAt w v es) (hp : 0 < es.length) : ∃ B o c, v = .slice (some ⟨B, o, none⟩) es.length c ∧ es.length ≤ c ∧ B < w.heap.size ∧ ∀ i, (hi : i < es.length) → w.rangeAt B (o + 6 * i) (es[i]).row := by
  obtain ⟨B, o, c, e, h1, h2, h3⟩ := h.rs.get (by rw [rowsE_len]; exact hp)
  rw [rowsE_len] at e h1
  refine ⟨B, o, c, e, h1, h2, fun i hi => ?_⟩
  have := rAt_nth h3 h.rs.1 i (by rw [rowsE_len]; exact hi)
  simpa [rowsE] using this
theorem EsAt.take {w : World} {B o n c : Nat} {es : List Ev} (h : EsAt w (.slice (some ⟨B, o, none⟩) n c) es) (k : Nat) (hk : k ≤ es.length) : EsAt w (.slice (some ⟨B, o, none⟩) k c) (es.take k) := by
  refine ⟨⟨rowsE_all _, ?_⟩, fun e he => h.fit e (List.mem_of_mem_take he), by have := h.len; simp; omega⟩
  rcases h.rs.2 with ⟨h0, _⟩ | ⟨B', o', c', e, hc, hB, hr⟩
  · cases h0
  · simp only [Value.slice.injEq, Option.some.injEq, Addr.mk.injEq] at e
    obtain ⟨⟨rfl, rfl, -⟩, rfl, rfl⟩ := e
    have hl : (rowsE (es.take k)).length = k := by rw [rowsE_len]; simp; omega
    refine .inr ⟨B, o, c, by rw [hl], by rw [hl]; rw [rowsE_len] at hc; omega, hB, ?_⟩
    have := rAt_take hr k
    rw [show rowsE (es.take k) = (rowsE es).take k from by simp [rowsE, List.map_take]]
    exact this
theorem flat6 : ∀ (es : List Ev) {q : Nat} {u : Value}, (rowsE es).flatten[q]? = some u → ∃ h : q / 6 < es.length, (es[q / 6]).row[q % 6]? = some u
  | [], q, u, h => by simp [rowsE] at h
  | c :: r, q, u, h => by
    simp only [rowsE, List.map_cons, List.flatten_cons] at h
    by_cases hq : q < 6
    · rw [List.getElem?_append_left (show q < c.row.length from hq)] at h
      have e1 : q / 6 = 0 := by omega
      have e2 : q % 6 = q := by omega
      refine ⟨by rw [e1]; simp, ?_⟩
      simp only [e1, e2, List.getElem_cons_zero]; exact h
    · rw [List.getElem?_append_right (show c.row.length ≤ q from (by omega : 6 ≤ q))] at h
      obtain ⟨h1, h2⟩ := flat6 r (q := q - 6) (u := u) h
      have e1 : q / 6 = (q - 6) / 6 + 1 := by omega
      have e2 : q % 6 = (q - 6) % 6 := by omega
      refine ⟨by rw [e1]; simpa using h1, ?_⟩
      simp only [e1, e2, List.getElem_cons_succ]; exact h2
section
variable {H : Type} {enc : TypeId × Value → H} {w : World} {base : Nat} {held : Bool} {r : Reach} {b0 : Nat}
theorem open_events {ts : List TypeId} {ds : List (DataW H)} (hsz : (DataW.weightsEach Tryd.prog ts ds).all (· ≤ reachBytes) = true) {j : Nat} (htj : ts[j]? = some 55) {v : Value} {fuel : Nat} {x : DataW H × List MemPlace} (hdj : ds[j]? = some x.1)
    (hval : Cell.okWide Tryd.prog w r b0 55 v) (hf : DataW.trod enc Tryd.prog w base (fun _ => true) held fuel 55 [v] = some x) : ∃ es, EsAt w v es := by
  have hu : Tryd.prog.underlying 55 = some (.slice 59) := Tryd.underlying55
  have heE := Tryd.underlying59
  have hcE : Tryd.prog.cellsOf 59 = 6 := by kernel_rfl
  have hby : Tryd.prog.bytesOf 59 = 80 := by kernel_rfl
  rcases Go.Deep.open_slice hu hf with ⟨hcs, _⟩ | ⟨a', len', cap', m, n, D, Pl, hcs, _, hl, hm, hmm, hx, hel⟩
  · simp only [List.cons.injEq, and_true] at hcs
    subst hcs
    exact ⟨[], RsAt.nil _, by simp, by simp⟩
  simp only [List.cons.injEq, and_true] at hcs
  subst hcs
  have hmc : m = cap' := by simpa using hmm
  subst hmc
  subst hx
  have hs1 := sized_slice hsz htj hdj hu
  rw [hby] at hs1
  simp only [List.length_map, List.length_range, reachBytes] at hs1
  have hlive : a'.spot = none ∧ a'.block < w.heap.size := by
    simp only [hu, Cell.okWide, Cell.ok] at hval
    obtain ⟨_, _, _, hsp, row, cells, hsh, _⟩ := hval
    refine ⟨hsp, ?_⟩
    unfold World.shape? at hsh
    split at hsh
    · rename_i h; exact (Array.getElem?_eq_some_iff.1 h).1
    · cases hsh
  obtain ⟨b, o, sp⟩ := a'
  obtain ⟨rfl, hb⟩ := hlive
  obtain ⟨us, hul, hus⟩ := choose_ls (p := fun i (c : Ev) => w.rangeAt b (o + 6 * i) c.row ∧ c.kind < 256 ∧ c.room.size ≤ 140737488351232 ∧ c.sender.size ≤ 140737488351232 ∧ c.key.size ≤ 140737488351232 ∧ c.body.size ≤ 140737488351232) len' fun i hi => by
    obtain ⟨cs', hc, ht⟩ := hel i (by omega)
    rw [hcE] at hc
    obtain ⟨_, hcl, hcg⟩ := World.cells?_some hc
    obtain ⟨e, d2, hke, -, z2⟩ := trod_ev hcl ht
    have hw : ∀ n, n ∈ DataW.weights Tryd.prog 59 (D i) → n ≤ 140737488351232 := fun n hn => by
      have h1 := List.all_eq_true.1 hsz _ (DataW.weights_mem_each htj hdj n (by
        simp only [DataW.weights, hu, List.mem_cons, List.mem_append]
        right; left
        exact weights_all (List.mem_map.2 ⟨i, List.mem_range.2 hi, rfl⟩) hn))
      have := of_decide_eq_true h1
      simpa [reachBytes] using this
    rw [show D i = _ from z2] at hw
    refine ⟨e, fun q u hq => ?_, hke, ?_, ?_, ?_, ?_⟩
    · have hq6 : q < 6 := (List.getElem?_eq_some_iff.1 hq).1
      have cq := hcg q (by omega)
      rw [addr_pl, addr_pl] at cq
      rw [Nat.mul_comm 6 i, cq, d2]; exact hq
    · have := hw e.room.data.toList.length (by simp [DataW.weights, heE, DataW.weightsEach]); simpa using this
    · have := hw e.sender.data.toList.length (by simp [DataW.weights, heE, DataW.weightsEach]); simpa using this
    · have := hw e.key.data.toList.length (by simp [DataW.weights, heE, DataW.weightsEach]); simpa using this
    · have := hw e.body.data.toList.length (by simp [DataW.weights, heE, DataW.weightsEach]); simpa using this
  refine ⟨us, ⟨rowsE_all _, .inr ⟨b, o, m, by rw [rowsE_len, hul], by rw [rowsE_len, hul]; exact hl, hb, fun q u hq => ?_⟩⟩, fun c hc => ?_, by omega⟩
  · obtain ⟨h1, h2⟩ := flat6 us hq
    have h3 := (hus (q / 6) h1).1 (q % 6) u h2
    rw [show o + q = o + 6 * (q / 6) + q % 6 from by omega]; exact h3
  · obtain ⟨i, hi, rfl⟩ := List.getElem_of_mem hc
    obtain ⟨-, h1, h2, h3, h4, h5⟩ := hus i hi
    exact ⟨⟨h1, by omega, by omega, by omega, by omega⟩, h5, h3⟩
theorem open_eventsV {ts : List TypeId} {ds : List (DataW H)} (hsz : (DataW.weightsEach Tryd.prog ts ds).all (· ≤ reachBytes) = true) {j : Nat} (htj : ts[j]? = some 55) {v : Value} {d : DataW H} {ps : List MemPlace}
    (hval : Value.okWide Tryd.prog w r b0 55 v) (hd : DataW.Trod enc Tryd.prog w base (fun _ => true) held 55 v d ps) (hdj : ds[j]? = some d) : ∃ es, EsAt w v es := by
  have hu : Tryd.prog.underlying 55 = some (.slice 59) := Tryd.underlying55
  obtain ⟨a, len, cap, rfl⟩ := okWide_slice hu hval
  have hc : Cell.okWide Tryd.prog w r b0 55 (.slice a len cap) := by
    simp only [Value.okWide, hu] at hval; exact hval
  obtain ⟨fuel, hf⟩ := hd
  exact open_events hsz htj (x := (d, ps)) hdj hc hf
end
end Go.Proofs.YtfenjincbhkodaaDoor
