
/-
  Levels among a law's arguments; the pow10 table out of a row's list.
-/
import Derived.Test.YtiakfopdohcigaaGreatDoorPwO
import Derived.Test.YtiakfopdohcigaaGreatDoorIdK
import Derived.Deep.Slices
namespace Go.Proofs.YtiakfopdohcigaaGreatDoor
set_option maxRecDepth 100000
set_option linter.unusedVariables false
set_option linter.unusedSimpArgs false
open Go.RowKit Rw Go.ChangeShapes Go.WideShapes Go.ChangeAt

theorem addr_pl (b o i : Nat) : (⟨b, o, none⟩ : Addr).add i = ⟨b, o + i, none⟩ := by unfold Addr.add; split <;> simp_all
theorem weights_all {H : Type} {P : Program} {e : TypeId} : ∀ {l : List (DataW H)} {d : DataW H} {n : Nat}, d ∈ l → n ∈ d.weights P e → n ∈ DataW.weightsAll P e l
  | [], _, _, h, _ => by cases h
  | a :: r, d, n, h, hn => by
    rw [DataW.weightsAll, List.mem_append]
    rcases List.mem_cons.1 h with rfl | h
    · exact .inl hn
    · exact .inr (weights_all h hn)
theorem choose_ps {p : Nat → ByteArray × Int → Prop} : ∀ (n : Nat), (∀ i, i < n → ∃ x, p i x) → ∃ l : List (ByteArray × Int), l.length = n ∧ ∀ i (h : i < l.length), p i l[i]
  | 0, _ => ⟨[], rfl, fun i h => by simp at h⟩
  | n + 1, h => by
    obtain ⟨l, h1, h2⟩ := choose_ps n (fun i hi => h i (by omega))
    obtain ⟨x, hx⟩ := h n (by omega)
    refine ⟨l ++ [x], by simp [h1], fun i hi => ?_⟩
    by_cases hi2 : i < l.length
    · rw [List.getElem_append_left hi2]; exact h2 i hi2
    · have e : i = l.length := by simp at hi; omega
      subst e
      rw [List.getElem_append_right (by omega)]
      simp only [Nat.sub_self, List.getElem_cons_zero]
      rw [h1]; exact hx
theorem rAt_nth' : ∀ (us : List (ByteArray × Int)) {q : Nat} (hi : q / 2 < us.length) (q' : Nat) {u : Value}, (uRs us).flatten[q']? = some u → q' = q → (uR us[q / 2])[q % 2]? = some u
  | [], _, hi, _, _, _, _ => by simp at hi
  | p :: r, q, hi, q', u, h, he => by
    subst he
    simp only [uRs, List.map_cons, List.flatten_cons] at h
    match q', h with
    | 0, h => simpa [uR] using h
    | 1, h => simpa [uR] using h
    | q + 2, h =>
      have h' : (uRs r).flatten[q]? = some u := by simpa [uRs, uR] using h
      have hi2 : q / 2 < r.length := by simp at hi; omega
      have := rAt_nth' r hi2 q h' rfl
      rw [show (q + 2) % 2 = q % 2 from by omega]
      simpa [show (q + 2) / 2 = q / 2 + 1 from by omega] using this
section
variable {H : Type} {enc : TypeId × Value → H} {w : World} {base : Nat} {held : Bool} {r : Reach} {b0 : Nat}
theorem open_users {ts : List TypeId} {ds : List (DataW H)} (hsz : (DataW.weightsEach Tryz.prog ts ds).all (· ≤ reachBytes) = true) {j : Nat} (htj : ts[j]? = some 35) {v : Value} {fuel : Nat} {x : DataW H × List MemPlace} (hdj : ds[j]? = some x.1)
    (hval : Cell.okWide Tryz.prog w r b0 35 v) (hf : DataW.trod enc Tryz.prog w base (fun _ => true) held fuel 35 [v] = some x) : ∃ us, UsAt w v us := by
  have hu : Tryz.prog.underlying 35 = some (.slice 83) := Tryz.underlying35
  have he := Tryz.underlying83
  have hce : Tryz.prog.cellsOf 83 = 2 := by kernel_rfl
  have hci : Tryz.prog.cellsOf 3 = 1 := by kernel_rfl
  have hcs1 : Tryz.prog.cellsOf 9 = 1 := by kernel_rfl
  have hby : Tryz.prog.bytesOf 83 = 24 := by kernel_rfl
  rcases Go.Deep.open_slice hu hf with ⟨hcs, _⟩ | ⟨a', len', cap', m, n, D, Pl, hcs, _, hl, hm, hmm, hx, hel⟩
  · simp only [List.cons.injEq, and_true] at hcs
    subst hcs
    exact ⟨[], UsAt.nil _⟩
  simp only [List.cons.injEq, and_true] at hcs
  subst hcs
  have hmc : m = cap' := by simpa using hmm
  subst hmc
  subst hx
  have hs1 := sized_slice hsz htj hdj hu
  rw [hby] at hs1
  simp only [List.length_map, List.length_range, reachBytes] at hs1
  have hlive : a'.spot = none ∧ a'.block < w.heap.size := by
    simp only [hu, Cell.okWide, Cell.ok] at hval
    obtain ⟨_, _, _, hsp, row, cells, hsh, _⟩ := hval
    refine ⟨hsp, ?_⟩
    unfold World.shape? at hsh
    split at hsh
    · rename_i h; exact (Array.getElem?_eq_some_iff.1 h).1
    · cases hsh
  obtain ⟨b, o, sp⟩ := a'
  obtain ⟨rfl, hb⟩ := hlive
  obtain ⟨us, hul, hus⟩ := choose_ps (p := fun i p => w.rangeAt b (o + 2 * i) (uR p) ∧ p.1.size ≤ 140737488351232) len' fun i hi => by
    obtain ⟨cs', hc, ht⟩ := hel i (by omega)
    rw [hce] at hc
    obtain ⟨_, hcl, hcg⟩ := World.cells?_some hc
    obtain ⟨y0, y1, n', hD, _, g0, g1⟩ := trod_struct2 he ht
    obtain ⟨t, htx, hty, _⟩ := DataW.trod_string Tryz.underlying9 g0
    obtain ⟨k, hk, _, _⟩ := DataW.trod_int Tryz.underlying3 g1
    have c0 := hcg 0 (by omega)
    have c1 := hcg 1 (by omega)
    have e0 : cs'[0]? = some (.string t) := by have := congrArg (·[0]?) htx; simp [List.getElem?_take, List.getElem?_drop] at this; exact this.2
    have e1 : cs'[1]? = some (.int .i64 k) := by have := congrArg (·[0]?) hk; simp [List.getElem?_take, List.getElem?_drop] at this; exact this.2
    rw [addr_pl, addr_pl, e0] at c0
    rw [addr_pl, addr_pl, e1] at c1
    refine ⟨(t, k), fun q u hq => ?_, ?_⟩
    · match q, hq with
      | 0, hq => cases hq; rw [Nat.mul_comm 2 i]; exact c0
      | 1, hq => cases hq; rw [Nat.mul_comm 2 i]; exact c1
    · have hDi : D i = .agg [y0.1, y1.1] := congrArg Prod.fst hD
      have h1 := List.all_eq_true.1 hsz _ (DataW.weights_mem_each htj hdj t.data.toList.length (by
        simp only [DataW.weights, hu, List.mem_cons, List.mem_append]
        right; left
        refine weights_all (List.mem_map.2 ⟨i, List.mem_range.2 hi, rfl⟩) ?_
        rw [hDi, hty]
        simp [DataW.weights, he, DataW.weightsEach]))
      have := of_decide_eq_true h1
      simpa [reachBytes] using this
  refine ⟨us, ⟨uRs_all _, .inr ⟨b, o, m, by rw [uRs_len, hul], by rw [uRs_len, hul]; exact hl, hb, fun q u hq => ?_⟩⟩, by omega, fun p hp => ?_⟩
  · have hfl : (uRs us).flatten.length = 2 * us.length := by rw [flat_len (uRs_all us), uRs_len]
    have hq1 := (List.getElem?_eq_some_iff.1 hq).1
    have hi : q / 2 < us.length := by omega
    have := rAt_nth' us hi q hq rfl
    have h2 := (hus (q / 2) hi).1 (q % 2) u this
    rw [show o + q = o + 2 * (q / 2) + q % 2 from by omega]; exact h2
  · obtain ⟨i, hi, rfl⟩ := List.getElem_of_mem hp
    exact (hus i hi).2
end
end Go.Proofs.YtiakfopdohcigaaGreatDoor
