
/-
  Events among a law's arguments.
-/
import Derived.Test.YtkcgmimcopoknaaGreatDoorAuJ
import Derived.Test.YtkcgmimcopoknaaGreatDoorFoA
namespace Go.Proofs.YtkcgmimcopoknaaGreatDoor
set_option maxRecDepth 100000
set_option linter.unusedVariables false
set_option linter.unusedSimpArgs false
open Go.RowKit Rw Go.ChangeShapes Go.WideShapes Go.ChangeAt
def rowsE (es : List Ev) : List (List Value) := es.map Ev.row
theorem rowsE_len (es : List Ev) : (rowsE es).length = es.length := by simp [rowsE]
theorem rowsE_all (es : List Ev) : AllK 6 (rowsE es) := by
  intro e he
  simp only [rowsE, List.mem_map] at he
  obtain ⟨g, hg, rfl⟩ := he
  rfl
theorem tyE : RowTy Tryz.prog 33 25 6 80 zE := by
  refine ⟨by decide, by decide, by decide, rfl, by kernel_rfl, by kernel_rfl, ⟨_, Tryz.underlying25⟩, by kernel_rfl⟩
/-- Events in memory. -/
structure EsAt (w : World) (v : Value) (es : List Ev) : Prop where
  rs : RsAt 6 w v (rowsE es)
  fit : ∀ e ∈ es, e.fit
  len : es.length ≤ 140737488351232
theorem EsAt.to {w w' : World} {v : Value} {es : List Ev} (h : EsAt w v es) (hb : Below w.heap.size w w') : EsAt w' v es := ⟨h.rs.to hb, h.fit, h.len⟩
theorem EsAt.form {w : World} {v : Value} {es : List Ev} (h : EsAt w v es) : ∃ a c, v = .slice a es.length c := by
  have := h.rs.form; rw [rowsE_len] at this; exact this
theorem EsAt.get {w : World} {v : Value} {es : List Ev} (h : EsAt w v es) (hp : 0 < es.length) : ∃ B o c, v = .slice (some ⟨B, o, none⟩) es.length c ∧ es.length ≤ c ∧ B < w.heap.size ∧ ∀ i, (hi : i < es.length) → w.rangeAt B (o + 6 * i) (es[i]).row := by
  obtain ⟨B, o, c, e, h1, h2, h3⟩ := h.rs.get (by rw [rowsE_len]; exact hp)
  rw [rowsE_len] at e h1
  refine ⟨B, o, c, e, h1, h2, fun i hi => ?_⟩
  have := rAt_nth h3 h.rs.1 i (by rw [rowsE_len]; exact hi)
  simpa [rowsE] using this
theorem EsAt.take {w : World} {B o n c : Nat} {es : List Ev} (h : EsAt w (.slice (some ⟨B, o, none⟩) n c) es) (k : Nat) (hk : k ≤ es.length) : EsAt w (.slice (some ⟨B, o, none⟩) k c) (es.take k) := by
  refine ⟨⟨rowsE_all _, ?_⟩, fun e he => h.fit e (List.mem_of_mem_take he), by have := h.len; simp; omega⟩
  rcases h.rs.2 with ⟨h0, _⟩ | ⟨B', o', c', e, hc, hB, hr⟩
  · cases h0
  · simp only [Value.slice.injEq, Option.some.injEq, Addr.mk.injEq] at e
    obtain ⟨⟨rfl, rfl, -⟩, rfl, rfl⟩ := e
    have hl : (rowsE (es.take k)).length = k := by rw [rowsE_len]; simp; omega
    refine .inr ⟨B, o, c, by rw [hl], by rw [hl]; rw [rowsE_len] at hc; omega, hB, ?_⟩
    have := rAt_take hr k
    rw [show rowsE (es.take k) = (rowsE es).take k from by simp [rowsE, List.map_take]]
    exact this
theorem flat6 : ∀ (es : List Ev) {q : Nat} {u : Value}, (rowsE es).flatten[q]? = some u → ∃ h : q / 6 < es.length, (es[q / 6]).row[q % 6]? = some u
  | [], q, u, h => by simp [rowsE] at h
  | c :: r, q, u, h => by
    simp only [rowsE, List.map_cons, List.flatten_cons] at h
    by_cases hq : q < 6
    · rw [List.getElem?_append_left (show q < c.row.length from hq)] at h
      have e1 : q / 6 = 0 := by omega
      have e2 : q % 6 = q := by omega
      refine ⟨by rw [e1]; simp, ?_⟩
      simp only [e1, e2, List.getElem_cons_zero]; exact h
    · rw [List.getElem?_append_right (show c.row.length ≤ q from (by omega : 6 ≤ q))] at h
      obtain ⟨h1, h2⟩ := flat6 r (q := q - 6) (u := u) h
      have e1 : q / 6 = (q - 6) / 6 + 1 := by omega
      have e2 : q % 6 = (q - 6) % 6 := by omega
      refine ⟨by rw [e1]; simpa using h1, ?_⟩
      simp only [e1, e2, List.getElem_cons_succ]; exact h2
section
variable {H : Type} {enc : TypeId × Value → H} {w : World} {base : Nat} {held : Bool} {r : Reach} {b0 : Nat}
theorem open_events {ts : List TypeId} {ds : List (DataW H)} (hsz : (DataW.weightsEach Tryz.prog ts ds).all (· ≤ reachBytes) = true) {j : Nat} (htj : ts[j]? = some 33) {v : Value} {fuel : Nat} {x : DataW H × List MemPlace} (hdj : ds[j]? = some x.1)
    (hval : Cell.okWide Tryz.prog w r b0 33 v) (hf : DataW.trod enc Tryz.prog w base (fun _ => true) held fuel 33 [v] = some x) : ∃ es, EsAt w v es := by
  have hu : Tryz.prog.underlying 33 = some (.slice 25) := Tryz.underlying33
  have heE := Tryz.underlying25
  have hcE : Tryz.prog.cellsOf 25 = 6 := by kernel_rfl
  have hby : Tryz.prog.bytesOf 25 = 80 := by kernel_rfl
  rcases Go.Deep.open_slice hu hf with ⟨hcs, _⟩ | ⟨a', len', cap', m, n, D, Pl, hcs, _, hl, hm, hmm, hx, hel⟩
  · simp only [List.cons.injEq, and_true] at hcs
    subst hcs
    exact ⟨[], RsAt.nil _, by simp, by simp⟩
  simp only [List.cons.injEq, and_true] at hcs
  subst hcs
  have hmc : m = cap' := by simpa using hmm
  subst hmc
  subst hx
  have hs1 := sized_slice hsz htj hdj hu
  rw [hby] at hs1
  simp only [List.length_map, List.length_range, reachBytes] at hs1
  have hlive : a'.spot = none ∧ a'.block < w.heap.size := by
    simp only [hu, Cell.okWide, Cell.ok] at hval
    obtain ⟨_, _, _, hsp, row, cells, hsh, _⟩ := hval
    refine ⟨hsp, ?_⟩
    unfold World.shape? at hsh
    split at hsh
    · rename_i h; exact (Array.getElem?_eq_some_iff.1 h).1
    · cases hsh
  obtain ⟨b, o, sp⟩ := a'
  obtain ⟨rfl, hb⟩ := hlive
  obtain ⟨us, hul, hus⟩ := choose_ls (p := fun i (c : Ev) => w.rangeAt b (o + 6 * i) c.row ∧ c.kind < 256 ∧ c.room.size ≤ 140737488351232 ∧ c.sender.size ≤ 140737488351232 ∧ c.key.size ≤ 140737488351232 ∧ c.body.size ≤ 140737488351232) len' fun i hi => by
    obtain ⟨cs', hc, ht⟩ := hel i (by omega)
    rw [hcE] at hc
    obtain ⟨_, hcl, hcg⟩ := World.cells?_some hc
    obtain ⟨e, d2, hke, -, z2⟩ := trod_ev hcl ht
    have hw : ∀ n, n ∈ DataW.weights Tryz.prog 25 (D i) → n ≤ 140737488351232 := fun n hn => by
      have h1 := List.all_eq_true.1 hsz _ (DataW.weights_mem_each htj hdj n (by
        simp only [DataW.weights, hu, List.mem_cons, List.mem_append]
        right; left
        exact weights_all (List.mem_map.2 ⟨i, List.mem_range.2 hi, rfl⟩) hn))
      have := of_decide_eq_true h1
      simpa [reachBytes] using this
    rw [show D i = _ from z2] at hw
    refine ⟨e, fun q u hq => ?_, hke, ?_, ?_, ?_, ?_⟩
    · have hq6 : q < 6 := (List.getElem?_eq_some_iff.1 hq).1
      have cq := hcg q (by omega)
      rw [addr_pl, addr_pl] at cq
      rw [Nat.mul_comm 6 i, cq, d2]; exact hq
    · have := hw e.room.data.toList.length (by simp [DataW.weights, heE, DataW.weightsEach]); simpa using this
    · have := hw e.sender.data.toList.length (by simp [DataW.weights, heE, DataW.weightsEach]); simpa using this
    · have := hw e.key.data.toList.length (by simp [DataW.weights, heE, DataW.weightsEach]); simpa using this
    · have := hw e.body.data.toList.length (by simp [DataW.weights, heE, DataW.weightsEach]); simpa using this
  refine ⟨us, ⟨rowsE_all _, .inr ⟨b, o, m, by rw [rowsE_len, hul], by rw [rowsE_len, hul]; exact hl, hb, fun q u hq => ?_⟩⟩, fun c hc => ?_, by omega⟩
  · obtain ⟨h1, h2⟩ := flat6 us hq
    have h3 := (hus (q / 6) h1).1 (q % 6) u h2
    rw [show o + q = o + 6 * (q / 6) + q % 6 from by omega]; exact h3
  · obtain ⟨i, hi, rfl⟩ := List.getElem_of_mem hc
    obtain ⟨-, h1, h2, h3, h4, h5⟩ := hus i hi
    exact ⟨⟨h1, by omega, by omega, by omega, by omega⟩, h5, h3⟩
theorem open_eventsV {ts : List TypeId} {ds : List (DataW H)} (hsz : (DataW.weightsEach Tryz.prog ts ds).all (· ≤ reachBytes) = true) {j : Nat} (htj : ts[j]? = some 33) {v : Value} {d : DataW H} {ps : List MemPlace}
    (hval : Value.okWide Tryz.prog w r b0 33 v) (hd : DataW.Trod enc Tryz.prog w base (fun _ => true) held 33 v d ps) (hdj : ds[j]? = some d) : ∃ es, EsAt w v es := by
  have hu : Tryz.prog.underlying 33 = some (.slice 25) := Tryz.underlying33
  obtain ⟨a, len, cap, rfl⟩ := okWide_slice hu hval
  have hc : Cell.okWide Tryz.prog w r b0 33 (.slice a len cap) := by
    simp only [Value.okWide, hu] at hval; exact hval
  obtain ⟨fuel, hf⟩ := hd
  exact open_events hsz htj (x := (d, ps)) hdj hc hf
end
end Go.Proofs.YtkcgmimcopoknaaGreatDoor
