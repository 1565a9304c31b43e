/-
  Calls among a law's arguments.
-/
import Derived.Test.YtokakgjcegmabaaPoW
import Derived.ProofKit
import Derived.OpenShut
import Derived.ShutString
import Derived.SliceStrings
import Derived.SizedLaws
import Derived.Deep.Slices
namespace Go.Proofs.Ytokakgjcegmabaa.Po
set_option maxRecDepth 100000
set_option linter.unusedVariables false
set_option linter.unusedSimpArgs false
open Go.RowKit
open List (getElem_toArray getElem_cons_zero getElem_cons_succ setIfInBounds_toArray set_cons_zero set_cons_succ)
open Go.ChangeShapes Go.WideShapes Go.ChangeAt
theorem weights_all {H : Type} {P : Program} {e : TypeId} : ∀ {l : List (DataW H)} {d : DataW H} {n : Nat}, d ∈ l → n ∈ d.weights P e → n ∈ DataW.weightsAll P e l
  | [], _, _, h, _ => by cases h
  | a :: r, d, n, h, hn => by
    rw [DataW.weightsAll, List.mem_append]
    rcases List.mem_cons.1 h with rfl | h
    · exact .inl hn
    · exact .inr (weights_all h hn)
theorem choose_ls {α : Type} {p : Nat → α → Prop} : ∀ (n : Nat), (∀ i, i < n → ∃ x, p i x) → ∃ l : List α, l.length = n ∧ ∀ i (h : i < l.length), p i l[i]
  | 0, _ => ⟨[], rfl, fun i h => by simp at h⟩
  | n + 1, h => by
    obtain ⟨l, h1, h2⟩ := choose_ls n (fun i hi => h i (by omega))
    obtain ⟨x, hx⟩ := h n (by omega)
    refine ⟨l ++ [x], by simp [h1], fun i hi => ?_⟩
    by_cases hi2 : i < l.length
    · rw [List.getElem_append_left hi2]; exact h2 i hi2
    · have e : i = l.length := by simp at hi; omega
      subst e
      rw [List.getElem_append_right (by omega)]
      simp only [Nat.sub_self, List.getElem_cons_zero]
      rw [h1]; exact hx
theorem rows_flat_at {α : Type} {w : World} {b o : Nat} {f : α → List Value} (k : Nat) : ∀ (us : List α), (∀ c, (f c).length = k) → (∀ i (h : i < us.length), w.rangeAt b (o + k * i) (f us[i])) → w.rangeAt b o (us.map f).flatten := by
  intro us hl h
  induction us generalizing o with
  | nil => intro j v hj; simp at hj
  | cons a r ih =>
    rw [List.map_cons, List.flatten_cons, Rw.rAt_app]
    refine ⟨by have := h 0 (by simp); simpa using this, ?_⟩
    rw [hl]
    refine ih fun i hi => ?_
    have := h (i + 1) (by simpa using hi)
    rw [show o + k + k * i = o + k * (i + 1) from by rw [Nat.mul_add]; omega]
    simpa using this
section
variable {H : Type} {enc : TypeId × Value → H} {w : World} {base : Nat} {held : Bool} {r : Reach} {b0 : Nat}
theorem open_acs_cells {ts : List TypeId} {ds : List (DataW H)} (hsz : (DataW.weightsEach Try.prog ts ds).all (· ≤ reachBytes) = true) {j : Nat} (htj : ts[j]? = some 48) {v : Value} {fuel : Nat} {x : DataW H × List MemPlace} (hdj : ds[j]? = some x.1)
    (hval : Cell.okWide Try.prog w r b0 48 v) (hf : DataW.trod enc Try.prog w base (fun _ => true) held fuel 48 [v] = some x) : ∃ xs, AsAt w v xs := by
  have hu : Try.prog.underlying 48 = some (.slice 58) := Try.underlying48
  have he := Try.underlying58
  have hce : Try.prog.cellsOf 58 = 4 := by kernel_rfl
  rcases Go.Deep.open_slice hu hf with ⟨hcs, _⟩ | ⟨a', len', cap', m, n, D, Pl, hcs, _, hl, hm, hmm, hx, hel⟩
  · simp only [List.cons.injEq, and_true] at hcs
    subst hcs
    exact ⟨[], Rw.RsAt.nil _, fun x h => by cases h⟩
  simp only [List.cons.injEq, and_true] at hcs
  subst hcs
  have hmc : m = cap' := by simpa using hmm
  subst hmc
  subst hx
  have hlive : a'.spot = none ∧ a'.block < w.heap.size := by
    simp only [hu, Cell.okWide, Cell.ok] at hval
    obtain ⟨_, _, _, hsp, row, cells, hsh, _⟩ := hval
    refine ⟨hsp, ?_⟩
    unfold World.shape? at hsh
    split at hsh
    · rename_i h; exact (Array.getElem?_eq_some_iff.1 h).1
    · cases hsh
  obtain ⟨b, o, sp⟩ := a'
  obtain ⟨rfl, hb⟩ := hlive
  obtain ⟨us, hul, hus⟩ := choose_ls (p := fun i (c : Ac) => w.rangeAt b (o + 4 * i) c.row ∧ c.t.size ≤ 140737488351232) len' fun i hi => by
    obtain ⟨cs', hc, ht⟩ := hel i (by omega)
    rw [hce] at hc
    obtain ⟨_, hcl, hcg⟩ := World.cells?_some hc
    obtain ⟨ys, n', hn', hy, hlen, hyl, hfl⟩ := DataW.trod_struct he ht
    obtain ⟨v0, v1, v2, v3, rfl⟩ : ∃ v0 v1 v2 v3, cs' = [v0, v1, v2, v3] := by
      match cs', hcl with
      | [a0, a1, a2, a3], _ => exact ⟨_, _, _, _, rfl⟩
    have hyl2 : ys.length = 4 := hyl
    obtain ⟨y0, y1, y2, y3, rfl⟩ : ∃ y0 y1 y2 y3, ys = [y0, y1, y2, y3] := by
      match ys, hyl2 with
      | [a0, a1, a2, a3], _ => exact ⟨_, _, _, _, rfl⟩
    have g0 := hfl 0 _ rfl
    obtain ⟨z0, c0, e0, w0⟩ := DataW.trod_int Try.underlying3 g0
    have d0 : [v0] = [Value.int .i64 z0] := by
      have h : List.take (Try.prog.cellsOf 3) (List.drop 0 [v0, v1, v2, v3]) = _ := c0
      rw [show Try.prog.cellsOf 3 = 1 from by kernel_rfl] at h; exact h
    have g1 := hfl 1 _ rfl
    obtain ⟨z1, c1, e1, w1⟩ := DataW.trod_int Try.underlying3 g1
    have d1 : [v1] = [Value.int .i64 z1] := by
      have h : List.take (Try.prog.cellsOf 3) (List.drop 1 [v0, v1, v2, v3]) = _ := c1
      rw [show Try.prog.cellsOf 3 = 1 from by kernel_rfl] at h; exact h
    have g2 := hfl 2 _ rfl
    obtain ⟨z2, c2, e2, w2⟩ := DataW.trod_string Try.underlying9 g2
    have d2 : [v2] = [Value.string z2] := by
      have h : List.take (Try.prog.cellsOf 9) (List.drop 2 [v0, v1, v2, v3]) = _ := c2
      rw [show Try.prog.cellsOf 9 = 1 from by kernel_rfl] at h; exact h
    have g3 := hfl 3 _ rfl
    obtain ⟨z3, c3, e3, w3⟩ := DataW.trod_int Try.underlying2 g3
    have d3 : [v3] = [Value.int .i64 z3] := by
      have h : List.take (Try.prog.cellsOf 2) (List.drop 3 [v0, v1, v2, v3]) = _ := c3
      rw [show Try.prog.cellsOf 2 = 1 from by kernel_rfl] at h; exact h
    simp only [List.cons.injEq, and_true] at d0 d1 d2 d3
    subst d0 d1 d2 d3
    have hDi : D i = .agg [y0.1, y1.1, y2.1, y3.1] := congrArg Prod.fst hy
    have hw : ∀ n, n ∈ DataW.weights Try.prog 58 (D i) → n ≤ 140737488351232 := fun n hn => by
      have h1 := List.all_eq_true.1 hsz _ (DataW.weights_mem_each htj hdj n (by
        simp only [DataW.weights, hu, List.mem_cons, List.mem_append]
        right; left
        exact weights_all (List.mem_map.2 ⟨i, List.mem_range.2 hi, rfl⟩) hn))
      have := of_decide_eq_true h1
      simpa [reachBytes] using this
    rw [hDi, show y2.1 = .lit (.string z2.data.toList) from by rw [e2]] at hw
    have s2 : z2.size ≤ 140737488351232 := by have := hw z2.data.toList.length (by simp [DataW.weights, he, DataW.weightsEach]); simpa using this
    refine ⟨⟨z0, z1, z2, z3⟩, fun q u hq => ?_, s2⟩
    have hq8 : q < 4 := (List.getElem?_eq_some_iff.1 hq).1
    have cq := hcg q (by omega)
    rw [Rw.addr_addR, Rw.addr_addR] at cq
    rw [Nat.mul_comm 4 i, cq]; exact hq
  have hrl : ∀ c : Ac, c.row.length = 4 := fun c => rfl
  have hk : Rw.AllK 4 (us.map Ac.row) := fun e he => by obtain ⟨c, -, rfl⟩ := List.mem_map.1 he; exact hrl c
  refine ⟨us, ⟨hk, .inr ⟨b, o, m, by rw [List.length_map, hul], by rw [List.length_map, hul]; exact hl, hb, ?_⟩⟩, fun c hc => ?_⟩
  · exact rows_flat_at 4 us hrl fun i hi => (hus i hi).1
  · obtain ⟨i, hi, rfl⟩ := List.getElem_of_mem hc
    exact (hus i hi).2
theorem open_acs {ts : List TypeId} {ds : List (DataW H)} (hsz : (DataW.weightsEach Try.prog ts ds).all (· ≤ reachBytes) = true) {j : Nat} (htj : ts[j]? = some 48) {v : Value} {d : DataW H} {ps : List MemPlace}
    (hval : Value.okWide Try.prog w r b0 48 v) (hd : DataW.Trod enc Try.prog w base (fun _ => true) held 48 v d ps) (hdj : ds[j]? = some d) : ∃ xs, AsAt w v xs := by
  obtain ⟨fuel, hf⟩ := hd
  obtain ⟨a, len, cap, rfl⟩ := okWide_slice Try.underlying48 hval
  have hval2 : Cell.okWide Try.prog w r b0 48 (.slice a len cap) := by
    simp only [Value.okWide, Try.underlying48] at hval
    exact hval
  exact open_acs_cells hsz htj (x := (d, ps)) hdj hval2 hf
end
end Go.Proofs.Ytokakgjcegmabaa.Po
