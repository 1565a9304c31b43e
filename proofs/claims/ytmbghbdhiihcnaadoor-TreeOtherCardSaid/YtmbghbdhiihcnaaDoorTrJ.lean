
/-
  Tree: a slice of checksums among a law's arguments, opened.
-/
import Derived.Test.YtmbghbdhiihcnaaDoorTreA
import Derived.Test.YtmbghbdhiihcnaaDoorFrmH
import Derived.Deep.Slices
namespace Go.Proofs.YtmbghbdhiihcnaaDoor
set_option linter.unusedVariables false
set_option linter.unusedSimpArgs false
open Go.RowKit Go.ChangeShapes Go.WideShapes Go.ChangeAt

section
variable {H : Type} {enc : TypeId × Value → H} {w : World} {base : Nat} {spare : Nat → Bool} {held : Bool}
set_option maxRecDepth 100000 in
theorem trod_hash {fuel : Nat} {cs : List Value} {x : DataW H × List MemPlace} (hlen : cs.length = 32) (hf : DataW.trod enc Tryd.prog w base spare held fuel 23 cs = some x) : ∃ l : List UInt8, cs = u8s l ∧ l.length = 32 := by
  have ht : Tryd.prog.underlying 23 = some (.array 32 5) := by kernel_rfl
  have he : Tryd.prog.underlying 5 = some (.int .u8) := Tryd.underlying5
  have hce : Tryd.prog.cellsOf 5 = 1 := by kernel_rfl
  obtain ⟨xs, m, rfl, hx, hl, hxl, hel⟩ := DataW.trod_array ht hf
  rw [hce] at hel
  have hone : ∀ i (hi : i < 32), ∃ b : UInt8, cs[i]? = some (.int .u8 (b.toNat : Int)) := by
    intro i hi
    have h := hel i hi
    have hxi : i < xs.length := by omega
    rw [List.getElem?_eq_getElem hxi] at h
    obtain ⟨z, hc, hz, hw⟩ := DataW.trod_int he h
    have hcz : cs[i]? = some (.int .u8 z) := by
      have := congrArg (·[0]?) hc
      simp [List.getElem?_take, List.getElem?_drop] at this
      exact this
    have hzr : 0 ≤ z ∧ z < 256 := by simp [Lit.wf, IntKind.min, IntKind.max, IntKind.signed, IntKind.bits] at hw; omega
    refine ⟨UInt8.ofNat z.toNat, ?_⟩
    rw [u8n _ (by omega), show ((z.toNat : Nat) : Int) = z from by omega]
    exact hcz
  have hall : ∀ n, n ≤ 32 → ∃ l : List UInt8, l.length = n ∧ ∀ i, i < n → ∃ b : UInt8, l[i]? = some b ∧ cs[i]? = some (.int .u8 (b.toNat : Int)) := by
    intro n
    induction n with
    | zero => intro _; exact ⟨[], rfl, fun i hi => by omega⟩
    | succ n ih =>
      intro hn
      obtain ⟨l, hl1, hl2⟩ := ih (by omega)
      obtain ⟨b, hb1⟩ := hone n (by omega)
      refine ⟨l ++ [b], by simp [hl1], fun i hi => ?_⟩
      rcases (by omega : i < n ∨ i = n) with h | rfl
      · obtain ⟨c, h1, h2⟩ := hl2 i h
        exact ⟨c, by rw [List.getElem?_append_left (by omega)]; exact h1, h2⟩
      · exact ⟨b, by rw [List.getElem?_append_right (by omega), hl1]; simp, hb1⟩
  obtain ⟨l, hll, hlg⟩ := hall 32 (Nat.le_refl _)
  refine ⟨l, ?_, hll⟩
  apply List.ext_getElem?
  intro i
  by_cases hi : i < 32
  · obtain ⟨c, h1, h2⟩ := hlg i hi
    rw [h2]
    simp [u8s, h1]
  · rw [List.getElem?_eq_none (by omega), List.getElem?_eq_none (by simp [u8s, hll]; omega)]
theorem hashes_up (b o : Nat) : ∀ n, (∀ i, i < n → ∃ l : List UInt8, l.length = 32 ∧ w.rangeAt b (o + 32 * i) (u8s l)) → ∃ hs : List (List UInt8), hs.length = n ∧ All32 hs ∧ w.rangeAt b o (cat32 hs)
  | 0, _ => ⟨[], rfl, All32.nil, fun j u hj => by simp [cat32] at hj⟩
  | n + 1, h => by
    obtain ⟨hs, h1, h2, h3⟩ := hashes_up b o n fun i hi => h i (by omega)
    obtain ⟨l, h4, h5⟩ := h n (by omega)
    refine ⟨hs ++ [l], by simp [h1], fun x hx => ?_, ?_⟩
    · rcases List.mem_append.1 hx with hx | hx
      · exact h2 x hx
      · rw [List.mem_singleton.1 hx]; exact h4
    · rw [cat32_app, rangeAt_app]
      refine ⟨h3, ?_⟩
      rw [cat32_len h2, h1, show cat32 [l] = u8s l from by simp [cat32]]
      exact h5
set_option maxRecDepth 100000 in
theorem open_hashes {ts : List TypeId} {ds : List (DataW H)} (hsz : (DataW.weightsEach Tryd.prog ts ds).all (· ≤ reachBytes) = true) {j : Nat} {t : TypeId} (htj : ts[j]? = some t) {r : Reach} {b0 : Nat} {v : Value} {d : DataW H} {ps : List MemPlace}
    (hval : Value.okWide Tryd.prog w r b0 t v) (hd : DataW.Trod enc Tryd.prog w base (fun _ => true) held t v d ps) (hdj : ds[j]? = some d) (hu : Tryd.prog.underlying t = some (.slice 23)) :
    ∃ hs, HsAt w v hs ∧ hs.length ≤ 4611686018427387904 := by
  obtain ⟨a, len, cap, rfl⟩ := okWide_slice hu hval
  obtain ⟨fuel, hf⟩ := hd
  have hce : Tryd.prog.cellsOf 23 = 32 := by kernel_rfl
  have hby : Tryd.prog.bytesOf 23 = 32 := by kernel_rfl
  rcases Go.Deep.open_slice hu hf with ⟨hcs, _⟩ | ⟨a', len', cap', m, n, D, Pl, hcs, _, hl, hm, hmm, hx, hel⟩
  · simp [Value.cells] at hcs
    obtain ⟨rfl, rfl, rfl⟩ := hcs
    exact ⟨[], HsAt.nil _, by simp⟩
  simp [Value.cells] at hcs
  obtain ⟨rfl, rfl, rfl⟩ := hcs
  have hmc : m = cap := by simpa using hmm
  subst hmc
  obtain ⟨hd1, -⟩ := Prod.mk.injEq .. ▸ hx
  have hs1 := sized_slice hsz htj (by rw [hdj, hd1]) hu
  rw [hby] at hs1
  simp only [List.length_map, List.length_range, reachBytes] at hs1
  have hlive : a'.spot = none ∧ a'.block < w.heap.size := by
    simp only [Value.okWide, hu, Cell.okWide, Cell.ok] at hval
    obtain ⟨_, _, _, hsp, row, cells, hsh, _⟩ := hval
    refine ⟨hsp, ?_⟩
    unfold World.shape? at hsh
    split at hsh
    · rename_i h; exact (Array.getElem?_eq_some_iff.1 h).1
    · cases hsh
  obtain ⟨b, o, sp⟩ := a'
  obtain ⟨rfl, hb⟩ := hlive
  obtain ⟨hs, h1, h2, h3⟩ := hashes_up (w := w) b o len fun i hi => by
    obtain ⟨cs', hc, ht⟩ := hel i (by omega)
    rw [hce] at hc
    obtain ⟨_, hcl, hcg⟩ := World.cells?_some hc
    obtain ⟨l, rfl, hl32⟩ := trod_hash hcl ht
    refine ⟨l, hl32, fun k u hk => ?_⟩
    have hk32 : k < 32 := by have := (List.getElem?_eq_some_iff.1 hk).1; rw [hcl] at this; exact this
    have := hcg k hk32
    rw [hk, addr_add, addr_add, Nat.mul_comm i 32] at this
    exact this
  exact ⟨hs, ⟨h2, .inr ⟨b, o, _, by rw [h1], by omega, hb, h3⟩⟩, by omega⟩
end
end Go.Proofs.YtmbghbdhiihcnaaDoor
