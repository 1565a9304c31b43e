
/-
  Cells, an event, events among a law's arguments.
-/
import Derived.Test.YtiakfopdohcigaaGreatDoorStG
import Derived.Test.YtiakfopdohcigaaGreatDoorIdK
import Derived.Test.YtiakfopdohcigaaGreatDoorEvK
import Derived.Deep.Slices
namespace Go.Proofs.YtiakfopdohcigaaGreatDoor
set_option maxRecDepth 100000
set_option linter.unusedVariables false
set_option linter.unusedSimpArgs false
open Go.RowKit Rw Go.ChangeShapes Go.WideShapes Go.ChangeAt
theorem addr_pl (b o i : Nat) : (⟨b, o, none⟩ : Addr).add i = ⟨b, o + i, none⟩ := by unfold Addr.add; split <;> simp_all
theorem weights_all {H : Type} {P : Program} {e : TypeId} : ∀ {l : List (DataW H)} {d : DataW H} {n : Nat}, d ∈ l → n ∈ d.weights P e → n ∈ DataW.weightsAll P e l
  | [], _, _, h, _ => by cases h
  | a :: r, d, n, h, hn => by
    rw [DataW.weightsAll, List.mem_append]
    rcases List.mem_cons.1 h with rfl | h
    · exact .inl hn
    · exact .inr (weights_all h hn)
theorem choose_ls {α : Type} {p : Nat → α → Prop} : ∀ (n : Nat), (∀ i, i < n → ∃ x, p i x) → ∃ l : List α, l.length = n ∧ ∀ i (h : i < l.length), p i l[i]
  | 0, _ => ⟨[], rfl, fun i h => by simp at h⟩
  | n + 1, h => by
    obtain ⟨l, h1, h2⟩ := choose_ls n (fun i hi => h i (by omega))
    obtain ⟨x, hx⟩ := h n (by omega)
    refine ⟨l ++ [x], by simp [h1], fun i hi => ?_⟩
    by_cases hi2 : i < l.length
    · rw [List.getElem_append_left hi2]; exact h2 i hi2
    · have e : i = l.length := by simp at hi; omega
      subst e
      rw [List.getElem_append_right (by omega)]
      simp only [Nat.sub_self, List.getElem_cons_zero]
      rw [h1]; exact hx
theorem flat8 : ∀ (cs : List Ce) {q : Nat} {u : Value}, (rowsC cs).flatten[q]? = some u → ∃ h : q / 8 < cs.length, (cs[q / 8]).row[q % 8]? = some u
  | [], q, u, h => by simp [rowsC] at h
  | c :: r, q, u, h => by
    simp only [rowsC, List.map_cons, List.flatten_cons] at h
    by_cases hq : q < 8
    · rw [List.getElem?_append_left (show q < c.row.length from hq)] at h
      have e1 : q / 8 = 0 := by omega
      have e2 : q % 8 = q := by omega
      refine ⟨by rw [e1]; simp, ?_⟩
      simp only [e1, e2, List.getElem_cons_zero]; exact h
    · rw [List.getElem?_append_right (show c.row.length ≤ q from (by omega : 8 ≤ q))] at h
      obtain ⟨h1, h2⟩ := flat8 r (q := q - 8) (u := u) h
      have e1 : q / 8 = (q - 8) / 8 + 1 := by omega
      have e2 : q % 8 = (q - 8) % 8 := by omega
      refine ⟨by rw [e1]; simpa using h1, ?_⟩
      simp only [e1, e2, List.getElem_cons_succ]; exact h2
theorem list8 {l : List Value} (h : l.length = 8) : ∃ a b c d e f g i, l = [a, b, c, d, e, f, g, i] :=
  match l, h with
  | [a, b, c, d, e, f, g, i], _ => ⟨a, b, c, d, e, f, g, i, rfl⟩
theorem list3 {α : Type} {l : List α} (h : l.length = 3) : ∃ a b c, l = [a, b, c] :=
  match l, h with
  | [a, b, c], _ => ⟨a, b, c, rfl⟩
section
variable {H : Type} {enc : TypeId × Value → H} {w : World} {base : Nat} {spare : Nat → Bool} {held : Bool} {r : Reach} {b0 : Nat}
theorem trod_ev {fuel : Nat} {l : List Value} (hl : l.length = 6) {x : DataW H × List MemPlace} (hf : DataW.trod enc Tryz.prog w base spare held fuel 25 l = some x) :
    ∃ e : Ev, l = e.row ∧ e.kind < 256 ∧ (Lit.int .i64 e.nonce).wf = true ∧
      x.1 = .agg [.lit (.string e.room.data.toList), .lit (.string e.sender.data.toList), .lit (.int .u8 (e.kind : Int)), .lit (.string e.key.data.toList), .lit (.string e.body.data.toList), .lit (.int .i64 e.nonce)] := by
  have he := Tryz.underlying25
  have hce : Tryz.prog.cellsOf 25 = 6 := by kernel_rfl
  have hci : Tryz.prog.cellsOf 2 = 1 := by kernel_rfl
  have hck : Tryz.prog.cellsOf 23 = 1 := by kernel_rfl
  obtain ⟨ys, n', hn', hy, hlen, hyl, hfl⟩ := DataW.trod_struct he hf
  have hyl6 : ys.length = 6 := hyl
  match l, hl, ys, hyl6, hfl, hy with
  | [v0, v1, v2, v3, v4, v5], _, [y0, y1, y2, y3, y4, y5], _, hfl, hy =>
    have g0 := hfl 0 _ rfl
    have g1 := hfl 1 _ rfl
    have g2 := hfl 2 _ rfl
    have g3 := hfl 3 _ rfl
    have g4 := hfl 4 _ rfl
    have g5 := hfl 5 _ rfl
    simp only [List.getElem?_cons_zero, List.getElem?_cons_succ, List.drop_zero, List.drop_succ_cons, List.take_zero, List.take_succ_cons, cellsStr, hci, hck] at g0 g1 g2 g3 g4 g5
    obtain ⟨a0, c0, z0, _⟩ := DataW.trod_string Tryz.underlying9 g0
    obtain ⟨a1, c1, z1, _⟩ := DataW.trod_string Tryz.underlying9 g1
    obtain ⟨a2, c2, z2, w2⟩ := DataW.trod_int Tryz.underlying23 g2
    obtain ⟨a3, c3, z3, _⟩ := DataW.trod_string Tryz.underlying9 g3
    obtain ⟨a4, c4, z4, _⟩ := DataW.trod_string Tryz.underlying9 g4
    obtain ⟨a5, c5, z5, w5⟩ := DataW.trod_int Tryz.underlying2 g5
    have d0 : [v0] = [Value.string a0] := by
      have h : List.take (Tryz.prog.cellsOf 9) (List.drop 0 [v0, v1, v2, v3, v4, v5]) = _ := c0
      rw [cellsStr] at h; exact h
    have d1 : [v1] = [Value.string a1] := by
      have h : List.take (Tryz.prog.cellsOf 9) (List.drop 1 [v0, v1, v2, v3, v4, v5]) = _ := c1
      rw [cellsStr] at h; exact h
    have d2 : [v2] = [Value.int .u8 a2] := by
      have h : List.take (Tryz.prog.cellsOf 23) (List.drop 2 [v0, v1, v2, v3, v4, v5]) = _ := c2
      rw [hck] at h; exact h
    have d3 : [v3] = [Value.string a3] := by
      have h : List.take (Tryz.prog.cellsOf 9) (List.drop 3 [v0, v1, v2, v3, v4, v5]) = _ := c3
      rw [cellsStr] at h; exact h
    have d4 : [v4] = [Value.string a4] := by
      have h : List.take (Tryz.prog.cellsOf 9) (List.drop 4 [v0, v1, v2, v3, v4, v5]) = _ := c4
      rw [cellsStr] at h; exact h
    have d5 : [v5] = [Value.int .i64 a5] := by
      have h : List.take (Tryz.prog.cellsOf 2) (List.drop 5 [v0, v1, v2, v3, v4, v5]) = _ := c5
      rw [hci] at h; exact h
    clear c0 c1 c2 c3 c4 c5 g0 g1 g2 g3 g4 g5 hfl
    simp only [List.cons.injEq, and_true] at d0 d1 d2 d3 d4 d5
    subst d0 d1 d2 d3 d4 d5 z0 z1 z2 z3 z4 z5
    obtain ⟨k, rfl, hk⟩ := u8_nat w2
    refine ⟨⟨a0, a1, k, a3, a4, a5⟩, rfl, hk, w5, ?_⟩
    have e := congrArg Prod.fst hy
    simpa using e

theorem open_cells {ts : List TypeId} {ds : List (DataW H)} (hsz : (DataW.weightsEach Tryz.prog ts ds).all (· ≤ reachBytes) = true) {j : Nat} (htj : ts[j]? = some 22) {v : Value} {fuel : Nat} {x : DataW H × List MemPlace} (hdj : ds[j]? = some x.1)
    (hval : Cell.okWide Tryz.prog w r b0 22 v) (hf : DataW.trod enc Tryz.prog w base (fun _ => true) held fuel 22 [v] = some x) : ∃ cs, CsAt w v cs ∧ cs.length ≤ 1400000000000 ∧ ∀ c ∈ cs, c.e.body.size ≤ 140737488351232 ∧ c.e.sender.size ≤ 140737488351232 := by
  have hu : Tryz.prog.underlying 22 = some (.slice 75) := Tryz.underlying22
  have he := Tryz.underlying75
  have heE := Tryz.underlying25
  have hce : Tryz.prog.cellsOf 75 = 8 := by kernel_rfl
  have hcE : Tryz.prog.cellsOf 25 = 6 := by kernel_rfl
  have hck : Tryz.prog.cellsOf 23 = 1 := by kernel_rfl
  have hcs1 : Tryz.prog.cellsOf 9 = 1 := by kernel_rfl
  have hby : Tryz.prog.bytesOf 75 = 104 := by kernel_rfl
  rcases Go.Deep.open_slice hu hf with ⟨hcs, _⟩ | ⟨a', len', cap', m, n, D, Pl, hcs, _, hl, hm, hmm, hx, hel⟩
  · simp only [List.cons.injEq, and_true] at hcs
    subst hcs
    exact ⟨[], CsAt.nil _, by simp, by simp⟩
  simp only [List.cons.injEq, and_true] at hcs
  subst hcs
  have hmc : m = cap' := by simpa using hmm
  subst hmc
  subst hx
  have hs1 := sized_slice hsz htj hdj hu
  rw [hby] at hs1
  simp only [List.length_map, List.length_range, reachBytes] at hs1
  have hlive : a'.spot = none ∧ a'.block < w.heap.size := by
    simp only [hu, Cell.okWide, Cell.ok] at hval
    obtain ⟨_, _, _, hsp, row, cells, hsh, _⟩ := hval
    refine ⟨hsp, ?_⟩
    unfold World.shape? at hsh
    split at hsh
    · rename_i h; exact (Array.getElem?_eq_some_iff.1 h).1
    · cases hsh
  obtain ⟨b, o, sp⟩ := a'
  obtain ⟨rfl, hb⟩ := hlive
  obtain ⟨us, hul, hus⟩ := choose_ls (p := fun i (c : Ce) => w.rangeAt b (o + 8 * i) c.row ∧ c.k < 256 ∧ c.e.kind < 256 ∧ c.y.size ≤ 140737488351232 ∧ c.e.room.size ≤ 140737488351232 ∧ c.e.sender.size ≤ 140737488351232 ∧ c.e.key.size ≤ 140737488351232 ∧ c.e.body.size ≤ 140737488351232) len' fun i hi => by
    obtain ⟨cs', hc, ht⟩ := hel i (by omega)
    rw [hce] at hc
    obtain ⟨_, hcl, hcg⟩ := World.cells?_some hc
    obtain ⟨ys, n', hn', hy, hlen, hyl, hfl⟩ := DataW.trod_struct he ht
    obtain ⟨v0, v1, v2, v3, v4, v5, v6, v7, rfl⟩ := list8 hcl
    obtain ⟨y0, y1, y2, rfl⟩ := list3 (l := ys) hyl
    have g0 := hfl 0 _ rfl
    have g1 := hfl 1 _ rfl
    have g2 := hfl 2 _ rfl
    obtain ⟨k, c0, z0, w0⟩ := DataW.trod_int Tryz.underlying23 g0
    obtain ⟨y, c1, z1, _⟩ := DataW.trod_string Tryz.underlying9 g1
    have d0 : [v0] = [Value.int .u8 k] := by
      have h : List.take (Tryz.prog.cellsOf 23) (List.drop 0 [v0, v1, v2, v3, v4, v5, v6, v7]) = _ := c0
      rw [hck] at h; exact h
    have d1 : [v1] = [Value.string y] := by
      have h : List.take (Tryz.prog.cellsOf 9) (List.drop 1 [v0, v1, v2, v3, v4, v5, v6, v7]) = _ := c1
      rw [hcs1] at h; exact h
    have g3 : DataW.trod enc Tryz.prog w base (fun _ => true) held n' 25 [v2, v3, v4, v5, v6, v7] = some y2 := by
      have h : DataW.trod enc Tryz.prog w base (fun _ => true) held n' 25 (List.take (Tryz.prog.cellsOf 25) (List.drop 2 [v0, v1, v2, v3, v4, v5, v6, v7])) = some y2 := g2
      rw [hcE] at h; exact h
    obtain ⟨e, d2, hke, -, z2⟩ := trod_ev rfl g3
    obtain ⟨kn, rfl, hk⟩ := u8_nat w0
    simp only [List.cons.injEq, and_true] at d0 d1
    subst d0 d1
    have hrow : [Value.int .u8 (kn : Int), Value.string y, v2, v3, v4, v5, v6, v7] = Ce.row ⟨kn, y, e⟩ := by
      rw [show [Value.int .u8 (kn : Int), Value.string y, v2, v3, v4, v5, v6, v7] = [Value.int .u8 (kn : Int), Value.string y] ++ [v2, v3, v4, v5, v6, v7] from rfl, d2]; rfl
    have hDi : D i = .agg [y0.1, y1.1, y2.1] := congrArg Prod.fst hy
    have hw : ∀ n, n ∈ DataW.weights Tryz.prog 75 (D i) → n ≤ 140737488351232 := fun n hn => by
      have h1 := List.all_eq_true.1 hsz _ (DataW.weights_mem_each htj hdj n (by
        simp only [DataW.weights, hu, List.mem_cons, List.mem_append]
        right; left
        exact weights_all (List.mem_map.2 ⟨i, List.mem_range.2 hi, rfl⟩) hn))
      have := of_decide_eq_true h1
      simpa [reachBytes] using this
    rw [hDi, z2, show y1.1 = .lit (.string y.data.toList) from by rw [z1]] at hw
    refine ⟨⟨kn, y, e⟩, fun q u hq => ?_, hk, hke, ?_, ?_, ?_, ?_, ?_⟩
    · have hq8 : q < 8 := (List.getElem?_eq_some_iff.1 hq).1
      have cq := hcg q (by omega)
      rw [addr_pl, addr_pl] at cq
      rw [Nat.mul_comm 8 i, cq, hrow]; exact hq
    · have := hw y.data.toList.length (by simp [DataW.weights, he, DataW.weightsEach]); simpa using this
    · have := hw e.room.data.toList.length (by simp [DataW.weights, he, heE, DataW.weightsEach]); simpa using this
    · have := hw e.sender.data.toList.length (by simp [DataW.weights, he, heE, DataW.weightsEach]); simpa using this
    · have := hw e.key.data.toList.length (by simp [DataW.weights, he, heE, DataW.weightsEach]); simpa using this
    · have := hw e.body.data.toList.length (by simp [DataW.weights, he, heE, DataW.weightsEach]); simpa using this
  refine ⟨us, ⟨⟨rowsC_all _, .inr ⟨b, o, m, by rw [rowsC_len, hul], by rw [rowsC_len, hul]; exact hl, hb, fun q u hq => ?_⟩⟩, fun c hc => ?_, by omega⟩, by rw [hul]; omega, fun c hc => ?_⟩
  · obtain ⟨h1, h2⟩ := flat8 us hq
    have h3 := (hus (q / 8) h1).1 (q % 8) u h2
    rw [show o + q = o + 8 * (q / 8) + q % 8 from by omega]; exact h3
  · obtain ⟨i, hi, rfl⟩ := List.getElem_of_mem hc
    obtain ⟨-, h1, h2, h3, h4, h5, h6, h7⟩ := hus i hi
    exact ⟨h1, by omega, ⟨h2, by omega, by omega, by omega, by omega⟩⟩
  · obtain ⟨i, hi, rfl⟩ := List.getElem_of_mem hc
    obtain ⟨-, h1, h2, h3, h4, h5, h6, h7⟩ := hus i hi
    exact ⟨h7, h5⟩
end
section
variable {H : Type} {enc : TypeId × Value → H} {w : World} {base : Nat} {held : Bool} {r : Reach} {b0 : Nat}
theorem open_cellsV {H : Type} {enc : TypeId × Value → H} {w : World} {base : Nat} {held : Bool} {r : Reach} {b0 : Nat} {ts : List TypeId} {ds : List (DataW H)} (hsz : (DataW.weightsEach Tryz.prog ts ds).all (· ≤ reachBytes) = true) {j : Nat} (htj : ts[j]? = some 22) {v : Value} {d : DataW H} {ps : List MemPlace}
    (hval : Value.okWide Tryz.prog w r b0 22 v) (hd : DataW.Trod enc Tryz.prog w base (fun _ => true) held 22 v d ps) (hdj : ds[j]? = some d) : ∃ cs, CsAt w v cs ∧ cs.length ≤ 1400000000000 ∧ ∀ c ∈ cs, c.e.body.size ≤ 140737488351232 ∧ c.e.sender.size ≤ 140737488351232 := by
  have hu : Tryz.prog.underlying 22 = some (.slice 75) := Tryz.underlying22
  obtain ⟨a, len, cap, rfl⟩ := okWide_slice hu hval
  have hc : Cell.okWide Tryz.prog w r b0 22 (.slice a len cap) := by
    simp only [Value.okWide, hu] at hval; exact hval
  obtain ⟨fuel, hf⟩ := hd
  exact open_cells hsz htj (x := (d, ps)) hdj hc hf
end
def Ev.fit (e : Ev) : Prop := e.ok ∧ e.body.size ≤ 140737488351232 ∧ e.sender.size ≤ 140737488351232
def rowsE (es : List Ev) : List (List Value) := es.map Ev.row
theorem rowsE_len (es : List Ev) : (rowsE es).length = es.length := by simp [rowsE]
theorem rowsE_all (es : List Ev) : AllK 6 (rowsE es) := by
  intro e he
  simp only [rowsE, List.mem_map] at he
  obtain ⟨g, hg, rfl⟩ := he
  rfl
theorem tyE : RowTy Tryz.prog 66 25 6 80 zE := by
  refine ⟨by decide, by decide, by decide, rfl, by kernel_rfl, by kernel_rfl, ⟨_, Tryz.underlying25⟩, by kernel_rfl⟩
/-- Events in memory. -/
structure EsAt (w : World) (v : Value) (es : List Ev) : Prop where
  rs : RsAt 6 w v (rowsE es)
  fit : ∀ e ∈ es, e.fit
  len : es.length ≤ 140737488351232
theorem EsAt.to {w w' : World} {v : Value} {es : List Ev} (h : EsAt w v es) (hb : Below w.heap.size w w') : EsAt w' v es := ⟨h.rs.to hb, h.fit, h.len⟩
theorem EsAt.form {w : World} {v : Value} {es : List Ev} (h : EsAt w v es) : ∃ a c, v = .slice a es.length c := by
  have := h.rs.form; rw [rowsE_len] at this; exact this
theorem EsAt.get {w : World} {v : Value} {es : List Ev} (h : EsAt w v es) (hp : 0 < es.length) : ∃ B o c, v = .slice (some ⟨B, o, none⟩) es.length c ∧ es.length ≤ c ∧ B < w.heap.size ∧ ∀ i, (hi : i < es.length) → w.rangeAt B (o + 6 * i) (es[i]).row := by
  obtain ⟨B, o, c, e, h1, h2, h3⟩ := h.rs.get (by rw [rowsE_len]; exact hp)
  rw [rowsE_len] at e h1
  refine ⟨B, o, c, e, h1, h2, fun i hi => ?_⟩
  have := rAt_nth h3 h.rs.1 i (by rw [rowsE_len]; exact hi)
  simpa [rowsE] using this
theorem EsAt.take {w : World} {B o n c : Nat} {es : List Ev} (h : EsAt w (.slice (some ⟨B, o, none⟩) n c) es) (k : Nat) (hk : k ≤ es.length) : EsAt w (.slice (some ⟨B, o, none⟩) k c) (es.take k) := by
  refine ⟨⟨rowsE_all _, ?_⟩, fun e he => h.fit e (List.mem_of_mem_take he), by have := h.len; simp; omega⟩
  rcases h.rs.2 with ⟨h0, _⟩ | ⟨B', o', c', e, hc, hB, hr⟩
  · cases h0
  · simp only [Value.slice.injEq, Option.some.injEq, Addr.mk.injEq] at e
    obtain ⟨⟨rfl, rfl, -⟩, rfl, rfl⟩ := e
    have hl : (rowsE (es.take k)).length = k := by rw [rowsE_len]; simp; omega
    refine .inr ⟨B, o, c, by rw [hl], by rw [hl]; rw [rowsE_len] at hc; omega, hB, ?_⟩
    have := rAt_take hr k
    rw [show rowsE (es.take k) = (rowsE es).take k from by simp [rowsE, List.map_take]]
    exact this
theorem flat6 : ∀ (es : List Ev) {q : Nat} {u : Value}, (rowsE es).flatten[q]? = some u → ∃ h : q / 6 < es.length, (es[q / 6]).row[q % 6]? = some u
  | [], q, u, h => by simp [rowsE] at h
  | c :: r, q, u, h => by
    simp only [rowsE, List.map_cons, List.flatten_cons] at h
    by_cases hq : q < 6
    · rw [List.getElem?_append_left (show q < c.row.length from hq)] at h
      have e1 : q / 6 = 0 := by omega
      have e2 : q % 6 = q := by omega
      refine ⟨by rw [e1]; simp, ?_⟩
      simp only [e1, e2, List.getElem_cons_zero]; exact h
    · rw [List.getElem?_append_right (show c.row.length ≤ q from (by omega : 6 ≤ q))] at h
      obtain ⟨h1, h2⟩ := flat6 r (q := q - 6) (u := u) h
      have e1 : q / 6 = (q - 6) / 6 + 1 := by omega
      have e2 : q % 6 = (q - 6) % 6 := by omega
      refine ⟨by rw [e1]; simpa using h1, ?_⟩
      simp only [e1, e2, List.getElem_cons_succ]; exact h2
section
variable {H : Type} {enc : TypeId × Value → H} {w : World} {base : Nat} {held : Bool} {r : Reach} {b0 : Nat}
theorem open_events {ts : List TypeId} {ds : List (DataW H)} (hsz : (DataW.weightsEach Tryz.prog ts ds).all (· ≤ reachBytes) = true) {j : Nat} (htj : ts[j]? = some 66) {v : Value} {fuel : Nat} {x : DataW H × List MemPlace} (hdj : ds[j]? = some x.1)
    (hval : Cell.okWide Tryz.prog w r b0 66 v) (hf : DataW.trod enc Tryz.prog w base (fun _ => true) held fuel 66 [v] = some x) : ∃ es, EsAt w v es := by
  have hu : Tryz.prog.underlying 66 = some (.slice 25) := Tryz.underlying66
  have heE := Tryz.underlying25
  have hcE : Tryz.prog.cellsOf 25 = 6 := by kernel_rfl
  have hby : Tryz.prog.bytesOf 25 = 80 := by kernel_rfl
  rcases Go.Deep.open_slice hu hf with ⟨hcs, _⟩ | ⟨a', len', cap', m, n, D, Pl, hcs, _, hl, hm, hmm, hx, hel⟩
  · simp only [List.cons.injEq, and_true] at hcs
    subst hcs
    exact ⟨[], RsAt.nil _, by simp, by simp⟩
  simp only [List.cons.injEq, and_true] at hcs
  subst hcs
  have hmc : m = cap' := by simpa using hmm
  subst hmc
  subst hx
  have hs1 := sized_slice hsz htj hdj hu
  rw [hby] at hs1
  simp only [List.length_map, List.length_range, reachBytes] at hs1
  have hlive : a'.spot = none ∧ a'.block < w.heap.size := by
    simp only [hu, Cell.okWide, Cell.ok] at hval
    obtain ⟨_, _, _, hsp, row, cells, hsh, _⟩ := hval
    refine ⟨hsp, ?_⟩
    unfold World.shape? at hsh
    split at hsh
    · rename_i h; exact (Array.getElem?_eq_some_iff.1 h).1
    · cases hsh
  obtain ⟨b, o, sp⟩ := a'
  obtain ⟨rfl, hb⟩ := hlive
  obtain ⟨us, hul, hus⟩ := choose_ls (p := fun i (c : Ev) => w.rangeAt b (o + 6 * i) c.row ∧ c.kind < 256 ∧ c.room.size ≤ 140737488351232 ∧ c.sender.size ≤ 140737488351232 ∧ c.key.size ≤ 140737488351232 ∧ c.body.size ≤ 140737488351232) len' fun i hi => by
    obtain ⟨cs', hc, ht⟩ := hel i (by omega)
    rw [hcE] at hc
    obtain ⟨_, hcl, hcg⟩ := World.cells?_some hc
    obtain ⟨e, d2, hke, -, z2⟩ := trod_ev hcl ht
    have hw : ∀ n, n ∈ DataW.weights Tryz.prog 25 (D i) → n ≤ 140737488351232 := fun n hn => by
      have h1 := List.all_eq_true.1 hsz _ (DataW.weights_mem_each htj hdj n (by
        simp only [DataW.weights, hu, List.mem_cons, List.mem_append]
        right; left
        exact weights_all (List.mem_map.2 ⟨i, List.mem_range.2 hi, rfl⟩) hn))
      have := of_decide_eq_true h1
      simpa [reachBytes] using this
    rw [show D i = _ from z2] at hw
    refine ⟨e, fun q u hq => ?_, hke, ?_, ?_, ?_, ?_⟩
    · have hq6 : q < 6 := (List.getElem?_eq_some_iff.1 hq).1
      have cq := hcg q (by omega)
      rw [addr_pl, addr_pl] at cq
      rw [Nat.mul_comm 6 i, cq, d2]; exact hq
    · have := hw e.room.data.toList.length (by simp [DataW.weights, heE, DataW.weightsEach]); simpa using this
    · have := hw e.sender.data.toList.length (by simp [DataW.weights, heE, DataW.weightsEach]); simpa using this
    · have := hw e.key.data.toList.length (by simp [DataW.weights, heE, DataW.weightsEach]); simpa using this
    · have := hw e.body.data.toList.length (by simp [DataW.weights, heE, DataW.weightsEach]); simpa using this
  refine ⟨us, ⟨rowsE_all _, .inr ⟨b, o, m, by rw [rowsE_len, hul], by rw [rowsE_len, hul]; exact hl, hb, fun q u hq => ?_⟩⟩, fun c hc => ?_, by omega⟩
  · obtain ⟨h1, h2⟩ := flat6 us hq
    have h3 := (hus (q / 6) h1).1 (q % 6) u h2
    rw [show o + q = o + 6 * (q / 6) + q % 6 from by omega]; exact h3
  · obtain ⟨i, hi, rfl⟩ := List.getElem_of_mem hc
    obtain ⟨-, h1, h2, h3, h4, h5⟩ := hus i hi
    exact ⟨⟨h1, by omega, by omega, by omega, by omega⟩, h5, h3⟩
theorem open_eventsV {ts : List TypeId} {ds : List (DataW H)} (hsz : (DataW.weightsEach Tryz.prog ts ds).all (· ≤ reachBytes) = true) {j : Nat} (htj : ts[j]? = some 66) {v : Value} {d : DataW H} {ps : List MemPlace}
    (hval : Value.okWide Tryz.prog w r b0 66 v) (hd : DataW.Trod enc Tryz.prog w base (fun _ => true) held 66 v d ps) (hdj : ds[j]? = some d) : ∃ es, EsAt w v es := by
  have hu : Tryz.prog.underlying 66 = some (.slice 25) := Tryz.underlying66
  obtain ⟨a, len, cap, rfl⟩ := okWide_slice hu hval
  have hc : Cell.okWide Tryz.prog w r b0 66 (.slice a len cap) := by
    simp only [Value.okWide, hu] at hval; exact hval
  obtain ⟨fuel, hf⟩ := hd
  exact open_events hsz htj (x := (d, ps)) hdj hc hf
end
end Go.Proofs.YtiakfopdohcigaaGreatDoor
