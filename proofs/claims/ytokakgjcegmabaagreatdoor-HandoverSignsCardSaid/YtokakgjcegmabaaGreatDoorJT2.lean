import Derived.Test.YtokakgjcegmabaaGreatDoorJT
import Derived.Test.YtokakgjcegmabaaGreatDoorJM
import Derived.Test.YtokakgjcegmabaaGreatDoorJK
import Derived.Lib.SmallJoins
import Derived.Test.YtokakgjcegmabaaGreatDoorJN
set_option linter.unusedVariables false
set_option linter.unusedSimpArgs false
set_option maxHeartbeats 64000000
set_option maxRecDepth 100000
namespace Go.Proofs.YtokakgjcegmabaaGreatDoor
open Go.RowKit Go.ChangeShapes Go.WideShapes Go.ChangeAt
section
variable {H : Type} {enc : TypeId × Value → H} {w : World} {base : Nat} {spare : Nat → Bool} {held : Bool}
theorem open_key {r : Reach} {b0 : Nat} {v : Value} {d : DataW H} {ps : List MemPlace} (hval : Value.okWide Tryz.prog w r b0 23 v) (hd : DataW.Trod enc Tryz.prog w base spare held 23 v d ps) :
 ∃ (s : ByteArray) (x y : Int), v = .agg #[.string s, .int .i64 x, .int .i64 y] ∧ (Lit.int .i64 x).wf = true ∧ (Lit.int .i64 y).wf = true ∧ d = .agg [.lit (.string s.data.toList), .lit (.int .i64 x), .lit (.int .i64 y)] := by
 obtain ⟨v0, v1, v2, y0, y1, y2, n, rfl, hd1, -, h0, h1, h2⟩ := Go.Joins.open_agg3 Tryz.underlying23 (by kernel_rfl) (by kernel_rfl) hval hd
 obtain ⟨s, hs, hy0, _⟩ := DataW.trod_string Tryz.underlying9 h0
 obtain ⟨x, hx, hy1, wx⟩ := DataW.trod_int Tryz.underlying3 h1
 obtain ⟨y, hy, hy2, wy⟩ := DataW.trod_int Tryz.underlying3 h2
 simp at hs hx hy
 subst hs hx hy
 exact ⟨s, x, y, rfl, wx, wy, by rw [hd1, hy0, hy1, hy2]⟩
end
end Go.Proofs.YtokakgjcegmabaaGreatDoor
namespace Go.Proofs.YtokakgjcegmabaaGreatDoor.En
open Go.RowKit Go.ChangeShapes Go.WideShapes Go.ChangeAt
theorem split36 {l : List Value} (h : l.length = 36) : ∃ c0 c1 c2 c3 M, M.length = 32 ∧ l = c0 :: c1 :: c2 :: c3 :: M := by
 match l, h with
 | c0 :: c1 :: c2 :: c3 :: t, h => exact ⟨c0, c1, c2, c3, t, by simpa using h, rfl⟩
section
variable {H : Type} {enc : TypeId × Value → H} {w : World} {base : Nat} {spare : Nat → Bool} {held : Bool}
theorem trod_gr {fuel : Nat} {cs : List Value} {x : DataW H × List MemPlace} (hlen : cs.length = 36) (hf : DataW.trod enc Tryz.prog w base spare held fuel 61 cs = some x) : ∃ g : Gr, g.ok ∧ cs = g.row := by
 have he := Tryz.underlying61
 have hci : Tryz.prog.cellsOf 3 = 1 := by kernel_rfl
 have hcj : Tryz.prog.cellsOf 2 = 1 := by kernel_rfl
 have hch : Tryz.prog.cellsOf 58 = 32 := by kernel_rfl
 obtain ⟨ys, n', hn', hy, hl', hyl, hfl⟩ := DataW.trod_struct he hf
 have hyl5 : ys.length = 5 := hyl
 obtain ⟨c0, c1, c2, c3, M, hM, rfl⟩ := split36 hlen
 match ys, hyl5, hfl, hy with
 | [y0, y1, y2, y3, y4], _, hfl, hy =>
   have g0 : DataW.trod enc Tryz.prog w base spare held n' 3 (List.take (Tryz.prog.cellsOf 3) (List.drop 0 (c0 :: c1 :: c2 :: c3 :: M))) = some y0 := hfl 0 _ rfl
   rw [show List.take (Tryz.prog.cellsOf 3) (List.drop 0 (c0 :: c1 :: c2 :: c3 :: M)) = [c0] from by rw [hci]; rfl] at g0
   obtain ⟨a0, e0, z0, w0⟩ := DataW.trod_int Tryz.underlying3 g0
   have g1 : DataW.trod enc Tryz.prog w base spare held n' 2 (List.take (Tryz.prog.cellsOf 2) (List.drop 1 (c0 :: c1 :: c2 :: c3 :: M))) = some y1 := hfl 1 _ rfl
   rw [show List.take (Tryz.prog.cellsOf 2) (List.drop 1 (c0 :: c1 :: c2 :: c3 :: M)) = [c1] from by rw [hcj]; rfl] at g1
   obtain ⟨a1, e1, z1, w1⟩ := DataW.trod_int Tryz.underlying2 g1
   have g2 : DataW.trod enc Tryz.prog w base spare held n' 2 (List.take (Tryz.prog.cellsOf 2) (List.drop 2 (c0 :: c1 :: c2 :: c3 :: M))) = some y2 := hfl 2 _ rfl
   rw [show List.take (Tryz.prog.cellsOf 2) (List.drop 2 (c0 :: c1 :: c2 :: c3 :: M)) = [c2] from by rw [hcj]; rfl] at g2
   obtain ⟨a2, e2, z2, w2⟩ := DataW.trod_int Tryz.underlying2 g2
   have g3 : DataW.trod enc Tryz.prog w base spare held n' 3 (List.take (Tryz.prog.cellsOf 3) (List.drop 3 (c0 :: c1 :: c2 :: c3 :: M))) = some y3 := hfl 3 _ rfl
   rw [show List.take (Tryz.prog.cellsOf 3) (List.drop 3 (c0 :: c1 :: c2 :: c3 :: M)) = [c3] from by rw [hci]; rfl] at g3
   obtain ⟨a3, e3, z3, w3⟩ := DataW.trod_int Tryz.underlying3 g3
   have g4 : DataW.trod enc Tryz.prog w base spare held n' 58 (List.take (Tryz.prog.cellsOf 58) (List.drop 4 (c0 :: c1 :: c2 :: c3 :: M))) = some y4 := hfl 4 _ rfl
   rw [show List.take (Tryz.prog.cellsOf 58) (List.drop 4 (c0 :: c1 :: c2 :: c3 :: M)) = M from by rw [hch]; show List.take 32 M = M; exact List.take_of_length_le (by omega)] at g4
   obtain ⟨p, e4, w4⟩ := trod_hash hM g4
   simp only [List.cons.injEq, and_true] at e0 e1 e2 e3
   subst e0 e1 e2 e3 e4
   exact ⟨⟨a0, a1, a2, a3, p⟩, w4, rfl⟩
theorem rows_flat : ∀ (gs : List Gr), (∀ g ∈ gs, g.ok) → (rows gs).flatten.length = 36 * gs.length
 | [], _ => rfl
 | a :: l, h => by
   have e1 := rows_flat l fun g hg => h g (List.mem_cons_of_mem _ hg)
   have e2 := Gr.len (h a (by simp))
   have e3 : (rows (a :: l)).flatten.length = a.row.length + (rows l).flatten.length := by simp [rows]
   rw [e3, e2, e1, List.length_cons]; omega
theorem grants_up (b o : Nat) : ∀ n, (∀ i, i < n → ∃ g : Gr, g.ok ∧ w.rangeAt b (o + 36 * i) g.row) → ∃ gs : List Gr, gs.length = n ∧ (∀ g ∈ gs, g.ok) ∧ w.rangeAt b o (rows gs).flatten
 | 0, _ => ⟨[], rfl, fun g hg => (by cases hg), fun j u hj => by simp [rows] at hj⟩
 | n + 1, h => by
   obtain ⟨hs, h1, h2, h3⟩ := grants_up b o n fun i hi => h i (by omega)
   obtain ⟨g, h4, h5⟩ := h n (by omega)
   have hlen : (rows hs).flatten.length = 36 * n := by rw [rows_flat hs h2, h1]
   refine ⟨hs ++ [g], by simp [h1], fun x hx => ?_, ?_⟩
   · rcases List.mem_append.1 hx with hx | hx
     · exact h2 x hx
     · rw [List.mem_singleton.1 hx]; exact h4
   · rw [show (rows (hs ++ [g])).flatten = (rows hs).flatten ++ g.row from by simp [rows], rangeAt_app]
     refine ⟨h3, ?_⟩
     rw [hlen]
     exact h5
set_option maxRecDepth 100000 in
theorem open_grants {ts : List TypeId} {ds : List (DataW H)} (hsz : (DataW.weightsEach Tryz.prog ts ds).all (· ≤ reachBytes) = true) {j : Nat} {t : TypeId} (htj : ts[j]? = some t) {r : Reach} {b0 : Nat} {v : Value} {d : DataW H} {ps : List MemPlace}
 (hval : Value.okWide Tryz.prog w r b0 t v) (hd : DataW.Trod enc Tryz.prog w base (fun _ => true) held t v d ps) (hdj : ds[j]? = some d) (hu : Tryz.prog.underlying t = some (.slice 61)) :
 ∃ gs, GsAt w v gs ∧ gs.length ≤ 4611686018427387904 := by
 obtain ⟨a, len, cap, rfl⟩ := okWide_slice hu hval
 obtain ⟨fuel, hf⟩ := hd
 have hce : Tryz.prog.cellsOf 61 = 36 := by kernel_rfl
 have hby : Tryz.prog.bytesOf 61 = 64 := by kernel_rfl
 rcases Go.Deep.open_slice hu hf with ⟨hcs, _⟩ | ⟨a', len', cap', m, n, D, Pl, hcs, _, hl, hm, hmm, hx, hel⟩
 · simp [Value.cells] at hcs
   obtain ⟨rfl, rfl, rfl⟩ := hcs
   exact ⟨[], ⟨RwK.RsAt.nil _, fun g hg => by cases hg⟩, by simp⟩
 simp [Value.cells] at hcs
 obtain ⟨rfl, rfl, rfl⟩ := hcs
 have hmc : m = cap := by simpa using hmm
 subst hmc
 obtain ⟨hd1, -⟩ := Prod.mk.injEq .. ▸ hx
 have hs1 := sized_slice hsz htj (by rw [hdj, hd1]) hu
 rw [hby] at hs1
 simp only [List.length_map, List.length_range, reachBytes] at hs1
 have hlive : a'.spot = none ∧ a'.block < w.heap.size := by
  simp only [Value.okWide, hu, Cell.okWide, Cell.ok] at hval
  obtain ⟨_, _, _, hsp, row, cells, hsh, _⟩ := hval
  refine ⟨hsp, ?_⟩
  unfold World.shape? at hsh
  split at hsh
  · rename_i h; exact (Array.getElem?_eq_some_iff.1 h).1
  · cases hsh
 obtain ⟨b, o, sp⟩ := a'
 obtain ⟨rfl, hb⟩ := hlive
 obtain ⟨hs, h1, h2, h3⟩ := grants_up (w := w) b o len fun i hi => by
  obtain ⟨cs', hc, ht⟩ := hel i (by omega)
  rw [hce] at hc
  obtain ⟨_, hcl, hcg⟩ := World.cells?_some hc
  obtain ⟨g, hg, rfl⟩ := trod_gr hcl ht
  refine ⟨g, hg, fun k u hk => ?_⟩
  have hk32 : k < 36 := by have := (List.getElem?_eq_some_iff.1 hk).1; rw [hcl] at this; exact this
  have := hcg k hk32
  rw [hk, addr_add, addr_add, Nat.mul_comm i 36] at this
  exact this
 exact ⟨hs, ⟨⟨rows_all h2, .inr ⟨b, o, _, by rw [rows_len, h1], by rw [rows_len]; omega, hb, h3⟩⟩, h2⟩, by omega⟩
end
end Go.Proofs.YtokakgjcegmabaaGreatDoor.En
