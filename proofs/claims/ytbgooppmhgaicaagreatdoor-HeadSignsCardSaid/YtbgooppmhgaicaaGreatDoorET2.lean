import Derived.Test.YtbgooppmhgaicaaGreatDoorET
import Derived.Test.YtbgooppmhgaicaaGreatDoorEU0
import Derived.Test.YtbgooppmhgaicaaGreatDoorEK
set_option linter.unusedVariables false
set_option linter.unusedSimpArgs false
set_option maxHeartbeats 64000000
set_option maxRecDepth 100000
namespace Go.Proofs.YtbgooppmhgaicaaGreatDoor.Hd
open Go.RowKit Go.ChangeShapes Go.WideShapes Go.ChangeAt
theorem split36 {l : List Value} (h : l.length = 36) : ∃ c0 c1 c2 M c35, M.length = 32 ∧ l = c0 :: c1 :: c2 :: (M ++ [c35]) := by
 match l, h with
 | c0 :: c1 :: c2 :: t, h =>
   have ht : t.length = 33 := by simpa using h
   have h2 : (t.drop 32).length = 1 := by simp [ht]
   match hd : t.drop 32, h2 with
   | [a], _ => exact ⟨c0, c1, c2, t.take 32, a, by simp [ht], by rw [← hd, List.take_append_drop]⟩
section
variable {H : Type} {enc : TypeId × Value → H} {w : World} {base : Nat} {spare : Nat → Bool} {held : Bool}
theorem open_head {r : Reach} {b0 : Nat} {v : Value} {d : DataW H} {ps : List MemPlace} (hval : Value.okWide Tryz.prog w r b0 53 v) (hd : DataW.Trod enc Tryz.prog w base spare held 53 v d ps) :
 ∃ (x : Hd) (dh : DataW H), v = .agg x.row.toArray ∧ x.p.length = 32 ∧
   d = .agg [.lit (.string x.r.data.toList), .lit (.int .i64 x.e), .lit (.int .i64 x.i), dh, .lit (.string x.g.data.toList)] := by
 have he := Tryz.underlying53
 have hce : Tryz.prog.cellsOf 53 = 36 := by kernel_rfl
 have hci : Tryz.prog.cellsOf 3 = 1 := by kernel_rfl
 have hch : Tryz.prog.cellsOf 25 = 32 := by kernel_rfl
 obtain ⟨cs, rfl, hsz⟩ := okWide_struct he hval
 rw [hce] at hsz
 obtain ⟨l⟩ := cs
 simp only [List.size_toArray] at hsz
 obtain ⟨fuel, hf⟩ := hd
 obtain ⟨ys, n', hn', hy, hlen, hyl, hfl⟩ := DataW.trod_struct he hf
 have hyl6 : ys.length = 5 := hyl
 obtain ⟨c0, c1, c2, M, c35, hM, rfl⟩ := split36 hsz
 match ys, hyl6, hfl, hy with
 | [y0, y1, y2, y3, y4], _, hfl, hy =>
   have g0 : DataW.trod enc Tryz.prog w base spare held n' 9 (List.take (Tryz.prog.cellsOf 9) (List.drop 0 (c0 :: c1 :: c2 :: (M ++ [c35])))) = some y0 := hfl 0 _ rfl
   rw [show List.take (Tryz.prog.cellsOf 9) (List.drop 0 (c0 :: c1 :: c2 :: (M ++ [c35]))) = [c0] from by rw [cellsStr]; rfl] at g0
   have g1 : DataW.trod enc Tryz.prog w base spare held n' 3 (List.take (Tryz.prog.cellsOf 3) (List.drop 1 (c0 :: c1 :: c2 :: (M ++ [c35])))) = some y1 := hfl 1 _ rfl
   rw [show List.take (Tryz.prog.cellsOf 3) (List.drop 1 (c0 :: c1 :: c2 :: (M ++ [c35]))) = [c1] from by rw [hci]; rfl] at g1
   have g2 : DataW.trod enc Tryz.prog w base spare held n' 3 (List.take (Tryz.prog.cellsOf 3) (List.drop 2 (c0 :: c1 :: c2 :: (M ++ [c35])))) = some y2 := hfl 2 _ rfl
   rw [show List.take (Tryz.prog.cellsOf 3) (List.drop 2 (c0 :: c1 :: c2 :: (M ++ [c35]))) = [c2] from by rw [hci]; rfl] at g2
   have g3 : DataW.trod enc Tryz.prog w base spare held n' 25 (List.take (Tryz.prog.cellsOf 25) (List.drop 3 (c0 :: c1 :: c2 :: (M ++ [c35])))) = some y3 := hfl 3 _ rfl
   rw [show List.take (Tryz.prog.cellsOf 25) (List.drop 3 (c0 :: c1 :: c2 :: (M ++ [c35]))) = M from by rw [hch]; show List.take 32 (M ++ [c35]) = M; rw [List.take_append_of_le_length (by omega), List.take_of_length_le (by omega)]] at g3
   have g4 : DataW.trod enc Tryz.prog w base spare held n' 9 (List.take (Tryz.prog.cellsOf 9) (List.drop 35 (c0 :: c1 :: c2 :: (M ++ [c35])))) = some y4 := hfl 4 _ rfl
   rw [show List.take (Tryz.prog.cellsOf 9) (List.drop 35 (c0 :: c1 :: c2 :: (M ++ [c35]))) = [c35] from by rw [cellsStr]; show List.take 1 (List.drop 32 (M ++ [c35])) = [c35]; rw [List.drop_left' hM]; rfl] at g4
   obtain ⟨a0, e0, z0, w0⟩ := DataW.trod_string Tryz.underlying9 g0
   obtain ⟨a1, e1, z1, w1⟩ := DataW.trod_int Tryz.underlying3 g1
   obtain ⟨a2, e2, z2, w2⟩ := DataW.trod_int Tryz.underlying3 g2
   obtain ⟨p, e3, w3⟩ := trod_hash hM g3
   obtain ⟨a4, e4, z4, w4⟩ := DataW.trod_string Tryz.underlying9 g4
   simp only [List.cons.injEq, and_true] at e0 e1 e2 e4
   subst e0 e1 e2 e3 e4 z0 z1 z2 z4
   refine ⟨⟨a0, a1, a2, p, a4⟩, y3.1, rfl, w3, ?_⟩
   have e := congrArg Prod.fst hy
   simpa using e
end
end Go.Proofs.YtbgooppmhgaicaaGreatDoor.Hd
