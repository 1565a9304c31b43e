/-
  Joined: BkK.
-/
import Derived.Test.YtbgooppmhgaicaaDoorUL
import Derived.Test.YtbgooppmhgaicaaDoorCards
import Derived.Test.YtbgooppmhgaicaaDoorTie
import Derived.ProofKit
import Derived.OpenShut
import Derived.ShutString
import Derived.SliceStrings
import Derived.SizedLaws
import Derived.Deep.DeepHandedRow
import Derived.Deep.Slices
namespace Go.Proofs.YtbgooppmhgaicaaDoor.Bk
set_option maxRecDepth 100000
set_option linter.unusedVariables false
set_option linter.unusedSimpArgs false
open Go.RowKit Go.ChangeShapes Go.WideShapes Go.ChangeAt

theorem rangeAt_app {w : World} {b o : Nat} {xs ys : List Value} : w.rangeAt b o (xs ++ ys) ↔ w.rangeAt b o xs ∧ w.rangeAt b (o + xs.length) ys := by
  constructor
  · intro h
    refine ⟨fun j v hv => h j v ?_, fun j v hv => ?_⟩
    · rw [List.getElem?_append_left (List.getElem?_eq_some_iff.1 hv).1]; exact hv
    · have := h (xs.length + j) v (by rw [List.getElem?_append_right (by omega)]; simpa using hv)
      rw [Nat.add_assoc]; exact this
  · rintro ⟨h1, h2⟩ j v hv
    by_cases hj : j < xs.length
    · rw [List.getElem?_append_left hj] at hv; exact h1 j v hv
    · rw [List.getElem?_append_right (by omega)] at hv
      have := h2 (j - xs.length) v hv
      rw [show o + xs.length + (j - xs.length) = o + j from by omega] at this; exact this
theorem split36 {l : List Value} (h : l.length = 36) : ∃ c0 c1 c2 c3 M, M.length = 32 ∧ l = c0 :: c1 :: c2 :: c3 :: M := by
  match l, h with
  | c0 :: c1 :: c2 :: c3 :: t, h => exact ⟨c0, c1, c2, c3, t, by simpa using h, rfl⟩
section
variable {H : Type} {enc : TypeId × Value → H} {w : World} {base : Nat} {spare : Nat → Bool} {held : Bool}
set_option maxRecDepth 100000 in
theorem trod_hash {fuel : Nat} {cs : List Value} {x : DataW H × List MemPlace} (hlen : cs.length = 32) (hf : DataW.trod enc Tryd.prog w base spare held fuel 25 cs = some x) : ∃ l : List UInt8, cs = u8s l ∧ l.length = 32 := by
  have ht : Tryd.prog.underlying 25 = some (.array 32 5) := by kernel_rfl
  have he : Tryd.prog.underlying 5 = some (.int .u8) := Tryd.underlying5
  have hce : Tryd.prog.cellsOf 5 = 1 := by kernel_rfl
  obtain ⟨xs, m, rfl, hx, hl, hxl, hel⟩ := DataW.trod_array ht hf
  rw [hce] at hel
  have hone : ∀ i (hi : i < 32), ∃ b : UInt8, cs[i]? = some (.int .u8 (b.toNat : Int)) := by
    intro i hi
    have h := hel i hi
    have hxi : i < xs.length := by omega
    rw [List.getElem?_eq_getElem hxi] at h
    obtain ⟨z, hc, hz, hw⟩ := DataW.trod_int he h
    have hcz : cs[i]? = some (.int .u8 z) := by
      have := congrArg (·[0]?) hc
      simp [List.getElem?_take, List.getElem?_drop] at this
      exact this
    have hzr : 0 ≤ z ∧ z < 256 := by simp [Lit.wf, IntKind.min, IntKind.max, IntKind.signed, IntKind.bits] at hw; omega
    refine ⟨UInt8.ofNat z.toNat, ?_⟩
    rw [u8n _ (by omega), show ((z.toNat : Nat) : Int) = z from by omega]
    exact hcz
  have hall : ∀ n, n ≤ 32 → ∃ l : List UInt8, l.length = n ∧ ∀ i, i < n → ∃ b : UInt8, l[i]? = some b ∧ cs[i]? = some (.int .u8 (b.toNat : Int)) := by
    intro n
    induction n with
    | zero => intro _; exact ⟨[], rfl, fun i hi => by omega⟩
    | succ n ih =>
      intro hn
      obtain ⟨l, hl1, hl2⟩ := ih (by omega)
      obtain ⟨b, hb1⟩ := hone n (by omega)
      refine ⟨l ++ [b], by simp [hl1], fun i hi => ?_⟩
      rcases (by omega : i < n ∨ i = n) with h | rfl
      · obtain ⟨c, h1, h2⟩ := hl2 i h
        exact ⟨c, by rw [List.getElem?_append_left (by omega)]; exact h1, h2⟩
      · exact ⟨b, by rw [List.getElem?_append_right (by omega), hl1]; simp, hb1⟩
  obtain ⟨l, hll, hlg⟩ := hall 32 (Nat.le_refl _)
  refine ⟨l, ?_, hll⟩
  apply List.ext_getElem?
  intro i
  by_cases hi : i < 32
  · obtain ⟨c, h1, h2⟩ := hlg i hi
    rw [h2]
    simp [u8s, h1]
  · rw [List.getElem?_eq_none (by omega), List.getElem?_eq_none (by simp [u8s, hll]; omega)]
theorem trod_gr {fuel : Nat} {cs : List Value} {x : DataW H × List MemPlace} (hlen : cs.length = 36) (hf : DataW.trod enc Tryd.prog w base spare held fuel 27 cs = some x) : ∃ g : Gr, g.ok ∧ cs = g.row := by
  have he := Tryd.underlying27
  have hci : Tryd.prog.cellsOf 3 = 1 := by kernel_rfl
  have hcj : Tryd.prog.cellsOf 2 = 1 := by kernel_rfl
  have hch : Tryd.prog.cellsOf 25 = 32 := by kernel_rfl
  obtain ⟨ys, n', hn', hy, hl', hyl, hfl⟩ := DataW.trod_struct he hf
  have hyl5 : ys.length = 5 := hyl
  obtain ⟨c0, c1, c2, c3, M, hM, rfl⟩ := split36 hlen
  match ys, hyl5, hfl, hy with
  | [y0, y1, y2, y3, y4], _, hfl, hy =>
    have g0 : DataW.trod enc Tryd.prog w base spare held n' 3 (List.take (Tryd.prog.cellsOf 3) (List.drop 0 (c0 :: c1 :: c2 :: c3 :: M))) = some y0 := hfl 0 _ rfl
    rw [show List.take (Tryd.prog.cellsOf 3) (List.drop 0 (c0 :: c1 :: c2 :: c3 :: M)) = [c0] from by rw [hci]; rfl] at g0
    obtain ⟨a0, e0, z0, w0⟩ := DataW.trod_int Tryd.underlying3 g0
    have g1 : DataW.trod enc Tryd.prog w base spare held n' 2 (List.take (Tryd.prog.cellsOf 2) (List.drop 1 (c0 :: c1 :: c2 :: c3 :: M))) = some y1 := hfl 1 _ rfl
    rw [show List.take (Tryd.prog.cellsOf 2) (List.drop 1 (c0 :: c1 :: c2 :: c3 :: M)) = [c1] from by rw [hcj]; rfl] at g1
    obtain ⟨a1, e1, z1, w1⟩ := DataW.trod_int Tryd.underlying2 g1
    have g2 : DataW.trod enc Tryd.prog w base spare held n' 2 (List.take (Tryd.prog.cellsOf 2) (List.drop 2 (c0 :: c1 :: c2 :: c3 :: M))) = some y2 := hfl 2 _ rfl
    rw [show List.take (Tryd.prog.cellsOf 2) (List.drop 2 (c0 :: c1 :: c2 :: c3 :: M)) = [c2] from by rw [hcj]; rfl] at g2
    obtain ⟨a2, e2, z2, w2⟩ := DataW.trod_int Tryd.underlying2 g2
    have g3 : DataW.trod enc Tryd.prog w base spare held n' 3 (List.take (Tryd.prog.cellsOf 3) (List.drop 3 (c0 :: c1 :: c2 :: c3 :: M))) = some y3 := hfl 3 _ rfl
    rw [show List.take (Tryd.prog.cellsOf 3) (List.drop 3 (c0 :: c1 :: c2 :: c3 :: M)) = [c3] from by rw [hci]; rfl] at g3
    obtain ⟨a3, e3, z3, w3⟩ := DataW.trod_int Tryd.underlying3 g3
    have g4 : DataW.trod enc Tryd.prog w base spare held n' 25 (List.take (Tryd.prog.cellsOf 25) (List.drop 4 (c0 :: c1 :: c2 :: c3 :: M))) = some y4 := hfl 4 _ rfl
    rw [show List.take (Tryd.prog.cellsOf 25) (List.drop 4 (c0 :: c1 :: c2 :: c3 :: M)) = M from by rw [hch]; show List.take 32 M = M; exact List.take_of_length_le (by omega)] at g4
    obtain ⟨p, e4, w4⟩ := trod_hash hM g4
    simp only [List.cons.injEq, and_true] at e0 e1 e2 e3
    subst e0 e1 e2 e3 e4
    exact ⟨⟨a0, a1, a2, a3, p⟩, w4, rfl⟩
theorem rows_flat : ∀ (gs : List Gr), (∀ g ∈ gs, g.ok) → (rows gs).flatten.length = 36 * gs.length
  | [], _ => rfl
  | a :: l, h => by
    have e1 := rows_flat l fun g hg => h g (List.mem_cons_of_mem _ hg)
    have e2 := Gr.len (h a (by simp))
    have e3 : (rows (a :: l)).flatten.length = a.row.length + (rows l).flatten.length := by simp [rows]
    rw [e3, e2, e1, List.length_cons]; omega
theorem grants_up (b o : Nat) : ∀ n, (∀ i, i < n → ∃ g : Gr, g.ok ∧ w.rangeAt b (o + 36 * i) g.row) → ∃ gs : List Gr, gs.length = n ∧ (∀ g ∈ gs, g.ok) ∧ w.rangeAt b o (rows gs).flatten
  | 0, _ => ⟨[], rfl, fun g hg => (by cases hg), fun j u hj => by simp [rows] at hj⟩
  | n + 1, h => by
    obtain ⟨hs, h1, h2, h3⟩ := grants_up b o n fun i hi => h i (by omega)
    obtain ⟨g, h4, h5⟩ := h n (by omega)
    have hlen : (rows hs).flatten.length = 36 * n := by rw [rows_flat hs h2, h1]
    refine ⟨hs ++ [g], by simp [h1], fun x hx => ?_, ?_⟩
    · rcases List.mem_append.1 hx with hx | hx
      · exact h2 x hx
      · rw [List.mem_singleton.1 hx]; exact h4
    · rw [show (rows (hs ++ [g])).flatten = (rows hs).flatten ++ g.row from by simp [rows], rangeAt_app]
      refine ⟨h3, ?_⟩
      rw [hlen]
      exact h5
set_option maxRecDepth 100000 in
theorem open_grants {ts : List TypeId} {ds : List (DataW H)} (hsz : (DataW.weightsEach Tryd.prog ts ds).all (· ≤ reachBytes) = true) {j : Nat} {t : TypeId} (htj : ts[j]? = some t) {r : Reach} {b0 : Nat} {v : Value} {d : DataW H} {ps : List MemPlace}
    (hval : Value.okWide Tryd.prog w r b0 t v) (hd : DataW.Trod enc Tryd.prog w base (fun _ => true) held t v d ps) (hdj : ds[j]? = some d) (hu : Tryd.prog.underlying t = some (.slice 27)) :
    ∃ gs, GsAt w v gs ∧ gs.length ≤ 2199023255552 := by
  obtain ⟨a, len, cap, rfl⟩ := okWide_slice hu hval
  obtain ⟨fuel, hf⟩ := hd
  have hce : Tryd.prog.cellsOf 27 = 36 := by kernel_rfl
  have hby : Tryd.prog.bytesOf 27 = 64 := by kernel_rfl
  rcases Go.Deep.open_slice hu hf with ⟨hcs, _⟩ | ⟨a', len', cap', m, n, D, Pl, hcs, _, hl, hm, hmm, hx, hel⟩
  · simp [Value.cells] at hcs
    obtain ⟨rfl, rfl, rfl⟩ := hcs
    exact ⟨[], ⟨Rw.RsAt.nil _, fun g hg => by cases hg⟩, by simp⟩
  simp [Value.cells] at hcs
  obtain ⟨rfl, rfl, rfl⟩ := hcs
  have hmc : m = cap := by simpa using hmm
  subst hmc
  obtain ⟨hd1, -⟩ := Prod.mk.injEq .. ▸ hx
  have hs1 := sized_slice hsz htj (by rw [hdj, hd1]) hu
  rw [hby] at hs1
  simp only [List.length_map, List.length_range, reachBytes] at hs1
  have hlive : a'.spot = none ∧ a'.block < w.heap.size := by
    simp only [Value.okWide, hu, Cell.okWide, Cell.ok] at hval
    obtain ⟨_, _, _, hsp, row, cells, hsh, _⟩ := hval
    refine ⟨hsp, ?_⟩
    unfold World.shape? at hsh
    split at hsh
    · rename_i h; exact (Array.getElem?_eq_some_iff.1 h).1
    · cases hsh
  obtain ⟨b, o, sp⟩ := a'
  obtain ⟨rfl, hb⟩ := hlive
  obtain ⟨hs, h1, h2, h3⟩ := grants_up (w := w) b o len fun i hi => by
    obtain ⟨cs', hc, ht⟩ := hel i (by omega)
    rw [hce] at hc
    obtain ⟨_, hcl, hcg⟩ := World.cells?_some hc
    obtain ⟨g, hg, rfl⟩ := trod_gr hcl ht
    refine ⟨g, hg, fun k u hk => ?_⟩
    have hk32 : k < 36 := by have := (List.getElem?_eq_some_iff.1 hk).1; rw [hcl] at this; exact this
    have := hcg k hk32
    rw [hk, addr_add, addr_add, Nat.mul_comm i 36] at this
    exact this
  exact ⟨hs, ⟨⟨rows_all h2, .inr ⟨b, o, _, by rw [rows_len, h1], by rw [rows_len]; omega, hb, h3⟩⟩, h2⟩, by omega⟩
end
end Go.Proofs.YtbgooppmhgaicaaDoor.Bk
