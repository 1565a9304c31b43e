import Derived.Test.YtbgooppmhgaicaaGreatDoorEV
import Derived.Test.YtbgooppmhgaicaaGreatDoorEP
set_option linter.unusedVariables false
set_option linter.unusedSimpArgs false
set_option maxHeartbeats 64000000
set_option maxRecDepth 100000
namespace Go.Proofs.YtbgooppmhgaicaaGreatDoor.En
open Go.RowKit
open List (getElem_toArray getElem_cons_zero getElem_cons_succ setIfInBounds_toArray set_cons_zero set_cons_succ)
open Ho (inE inV in_zero in_not al_sz allInt_any)
theorem infoE : (Tryz.prog.info? 30).map (fun i => (i.zero, i.size, i.bytes)) = some (some (.int .i64 0), 1, 8) := by kernel_rfl
theorem tyE : Tryz.prog.underlying 125 = some (.slice 30) := Tryz.underlying125
section
variable {ops : Array Oper} {rest : List Oper} {o : Oper} {a : Act} {w w0 : World} {N : Nat} {L : List Mm.Bx} {Q : Exit → Act → World → Prop} {S : World → Prop} {j : Nat} {s : Scr} {K : Act → World → Prop}
theorem run_bsE4 (z0 z1 z2 z3 : Int) (w : World) : (Instr.buildSlice 125 4 #[(0, .int .i64 z0), (1, .int .i64 z1), (2, .int .i64 z2), (3, .int .i64 z3)]).run Tryz.prog w = .ok (.slice (some ⟨w.heap.size, 0, none⟩) 4 4) (w.alloc (.cells #[.int .i64 z0, .int .i64 z1, .int .i64 z2, .int .i64 z3] 30)) := by
 obtain ⟨i0, hi, hz0, hz1, hz2⟩ := info_parts infoE
 refine run_buildSlice w 125 30 4 _ _ i0 _ tyE hi hz0 (by rw [hz1]; omega) (by rw [hz1]; omega) ?_
 have hr : Array.range 4 = #[0, 1, 2, 3] := by decide
 rw [hz1]; simp [Instr.fill, Value.cells, hr]
theorem wpL_bsE4 (H : Hid (Mm.M N w0 w L)) (hw : Region.wanted o (yielded ops a.tmps) = true) (x0 x1 x2 x3 : Operand) (z0 z1 z2 z3 : Int) (ho : o.op = .buildSlice 125 4 #[(0, x0), (1, x1), (2, x2), (3, x3)]) (hx0 : a.eval x0 = .int .i64 z0) (hx1 : a.eval x1 = .int .i64 z1) (hx2 : a.eval x2 = .int .i64 z2) (hx3 : a.eval x3 = .int .i64 z3)
 (h : ∀ b W, Hid (Mm.M N w0 W (⟨b, 30, [.int .i64 z0, .int .i64 z1, .int .i64 z2, .int .i64 z3]⟩ :: L)) → Rt.NewAt w W b 30 [.int .i64 z0, .int .i64 z1, .int .i64 z2, .int .i64 z3] → wpList Tryz.prog ops Q rest (a.put o.dst (.slice (some ⟨b, 0, none⟩) 4 4)) W) : wpList Tryz.prog ops Q (o :: rest) a w := by
 refine wpList_step fun K hK => ?_
 rw [if_pos hw]
 have n := Rt.NewAt.mk' w 30 [.int .i64 z0, .int .i64 z1, .int .i64 z2, .int .i64 z3]
 have := hK _ _ (h _ _ (hidp (H.out.new n)) n)
 unfold Oper.wp execOp
 simp only [ho, List.map_toArray, List.map_cons, List.map_nil, hx0, hx1, hx2, hx3, Sem.run_bind, run_bsE4 z0 z1 z2 z3 w, Result.andThen_ok]
 exact this
end
theorem s_bld {P : Program} {ops : Array Oper} {Q : Exit → Act → World → Prop} {S : World → Prop} {k : Nat} {o : Oper} {s : Scr} {a : Act} {w : World} (ho : ops[k]? = some o) (hw : Region.wanted o (yielded ops a.tmps) = true) (T : TypeId) (parts : Array (Nat × Operand)) (hop : o.op = .build T parts) (xs : List Value)
 (hb : P.built T (parts.map fun (i, x) => (i, a.eval x)).toList = some xs.toArray) (h : wpScr P ops Q s S (a.put o.dst (.agg xs.toArray)) w) : wpScr P ops Q (.take k s) S a w :=
 s_val ho hw (fun w _ => by
  unfold execOp
  simp only [hop, Sem.run_bind, run_build w T _ _ hb, Result.andThen_ok]
  rfl) h
def or4 (a b c d : Int) : Int := if a ≠ 0 then a else if b ≠ 0 then b else if c ≠ 0 then c else d
theorem or4_zero {a b c d : Int} : or4 a b c d = 0 ↔ a = 0 ∧ b = 0 ∧ c = 0 ∧ d = 0 := by
 unfold or4
 constructor
 · intro h
   split at h
   · contradiction
   · split at h
     · contradiction
     · split at h
       · contradiction
       · rename_i h1 h2 h3
         exact ⟨Decidable.not_not.1 h1, Decidable.not_not.1 h2, Decidable.not_not.1 h3, h⟩
 · rintro ⟨rfl, rfl, rfl, rfl⟩; rfl
def at4 (a b c d : Int) : Nat → Int := fun i => if i = 0 then a else if i = 1 then b else if i = 2 then c else d
theorem or4_at {a b c d : Int} (i : Nat) (hi : i < 4) (h : ∀ j, j < i → at4 a b c d j = 0) (hn : at4 a b c d i ≠ 0) : or4 a b c d = at4 a b c d i := by
 unfold or4
 have h0 := fun g => h 0 g; have h1 := fun g => h 1 g; have h2 := fun g => h 2 g
 simp only [at4] at h0 h1 h2 hn ⊢
 rcases (by omega : i = 0 ∨ i = 1 ∨ i = 2 ∨ i = 3) with rfl | rfl | rfl | rfl
 · simp at hn ⊢; simp [hn]
 · simp at h0 hn ⊢; simp [h0, hn]
 · simp at h0 h1 hn ⊢; simp [h0, h1, hn]
 · simp at h0 h1 h2 hn ⊢; simp [h0, h1, h2]
theorem or4_all {a b c d : Int} (h : ∀ j, j < 4 → at4 a b c d j = 0) : or4 a b c d = 0 :=
 or4_zero.2 ⟨h 0 (by omega), h 1 (by omega), h 2 (by omega), h 3 (by omega)⟩
theorem or4_any (w : World) (g : Nat) (a b c d : Int) (hc : ∀ i, i < 4 → w.cell? ⟨g, i, none⟩ = some (.int .i64 (at4 a b c d i))) :
 Calls Tryz.prog 68 #[.slice (some ⟨g, 0, none⟩) 4 4] w fun e w' => e = .returned (.int .i64 (or4 a b c d)) ∧ w' = w := by
 have HC := hidp hc; clear hc
 obtain ⟨K, hK⟩ : ∃ K, or4 a b c d = K := ⟨_, rfl⟩
 have HAT := hidp (fun i hi h hn => (or4_at (a := a) (b := b) (c := c) (d := d) i hi h hn).symm.trans hK)
 have HALL := hidp (fun h => (or4_all (a := a) (b := b) (c := c) (d := d) h).symm.trans hK)
 rw [hK]
 clear hK
 obtain ⟨F, hF⟩ : ∃ F, at4 a b c d = F := ⟨_, rfl⟩
 rw [hF] at HC HAT HALL
 clear hF
 go_enter Tryz.func68, Tryz.ntmps68
 go_wp2
 go_loop [5, 8] (fun t5 t8 => ∃ i : Nat, t8 = .int .i64 (i : Int) ∧ i ≤ 4 ∧ ∀ j, j < i → F j = 0) (fun t5 t8 => 4 - (intOf t8).toNat)
 case atStart => exact ⟨0, rfl, by omega, fun j h => by omega⟩
 case round =>
  obtain ⟨i, rfl, hi, hall⟩ := hrel
  have HP := hidp hall; clear hall
  by_cases hl : i < 4
  · have e0 : decide ((i : Int) < 4) = true := by simp; omega
    have c0 : (0 : Int) ≤ (i : Int) := by omega
    have c1 : (i : Int) < 4 := by omega
    have m1 := HC.out i hl
    obtain ⟨X, hX⟩ : ∃ X, F i = X := ⟨_, rfl⟩
    rw [hX] at m1
    by_cases hx : X = 0
    · subst hx
      have HX := hidp hX; clear hX
      go_wp2
      refine ⟨⟨i + 1, by go_num, by omega, fun j g => ?_⟩, by simp [intOf]; omega⟩
      by_cases hj : j = i
      · subst hj; exact HX.out
      · exact HP.out j (by omega)
    · have e1 : (X != 0) = true := by simpa using hx
      have HF := hidp (show X = K from hX ▸ HAT.out i hl HP.out (by rw [hX]; exact hx))
      clear hX
      go_wp2
      go_ret
      exact ⟨by first | rfl | (rw [HF.out]; first | done | rfl), rfl⟩
  · have e0 : decide ((i : Int) < 4) = false := by simp; omega
    have c1 : ¬ (i : Int) < 4 := by omega
    have HF := hidp (HALL.out fun j g => HP.out j (by omega))
    go_wp2
    go_ret
    exact ⟨by rw [← HF.out]; first | done | rfl, rfl⟩
theorem num4_in (s : ByteArray) : num4 s = if inE s 4096 = 0 then some (inV s 4096) else none := by
 unfold num4
 by_cases h : inE s 4096 = 0
 · rw [if_pos h, (in_zero h).1]; exact if_pos (in_zero h).2
 · rw [if_neg h]
   cases hn : numOf s with
   | none => rfl
   | some n => exact if_neg (by have := in_not h n hn; omega)
def x0 (b c d e f : ByteArray) : En := ⟨b, inV c 4096, inV d 4096, hsV e, f, ⟨#[]⟩⟩
theorem hsV_len (e : ByteArray) : (hsV e).length = 32 := by
 unfold hsV; split
 · rw [size_toList]; assumption
 · rfl
theorem toList_word {a : ByteArray} (h : a ≠ wEntry) : (a.toList == [101, 110, 116, 114, 121]) = false := by
 have := toList_no (b := wEntry) h
 rw [ByteArray.toList_eq wEntry] at this
 exact this
theorem four {W : World} {g T : Nat} {a b c d : Int} (h : Arr W g T [.int .i64 a, .int .i64 b, .int .i64 c, .int .i64 d]) : ∀ i, i < 4 → W.cell? ⟨g, i, none⟩ = some (.int .i64 (at4 a b c d i)) := by
 intro i hi
 rcases (by omega : i = 0 ∨ i = 1 ∨ i = 2 ∨ i = 3) with rfl | rfl | rfl | rfl
 · exact h.cell 0 (by simp)
 · exact h.cell 1 (by simp)
 · exact h.cell 2 (by simp)
 · exact h.cell 3 (by simp)
end Go.Proofs.YtbgooppmhgaicaaGreatDoor.En
