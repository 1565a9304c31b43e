
/-
  Rows of texts beside boxes; acts in memory.
-/
import Derived.Test.YtbgooppmhgaicabJrnF
namespace Go.Proofs.Ytbgooppmhgaicab
set_option maxRecDepth 100000
set_option linter.unusedVariables false
set_option linter.unusedSimpArgs false
open Go.RowKit

theorem OwnV.base {w : World} {B C e : Nat} {v : Value} {l : List Value} (h : OwnV w B e v l) (hB : C ≤ B) : OwnV w C e v l := by
  refine ⟨h.1, ?_⟩
  rcases h.2 with hn | ⟨g, cap, cur, rfl, hb', rest⟩
  · exact .inl hn
  · exact .inr ⟨g, cap, cur, rfl, Nat.le_trans hB hb', rest⟩
theorem OwnV.put {w : World} {B e : Nat} {v : Value} {l : List Value} (h : OwnV w B e v l) {b t : Nat} {xs : List Value} (ha : Arr w b t xs) (hte : t ≠ e) (i : Nat) (u : Value) : OwnV (w.setCell ⟨b, i, none⟩ u) B e v l := by
  refine ⟨h.1, ?_⟩
  rcases h.2 with hn | ⟨g, cap, cur, rfl, hb', hgg, rest⟩
  · exact .inl hn
  · refine .inr ⟨g, cap, cur, rfl, hb', ?_, rest⟩
    have hne : g ≠ b := fun hgb => by
      subst hgb
      rw [show w.heap[g]? = _ from ha] at hgg
      cases hgg; exact hte rfl
    exact (Below.heap_setCell w ⟨b, i, none⟩ u g hne).trans hgg
theorem OwnV.put3 {w : World} {B e : Nat} {v : Value} {l : List Value} (h : OwnV w B e v l) {b t : Nat} {x0 x1 x2 : Value} (ha : Arr w b t [x0, x1, x2]) (hte : t ≠ e) (y0 y1 y2 : Value) :
    OwnV (((w.setCell ⟨b, 0, none⟩ y0).setCell ⟨b, 1, none⟩ y1).setCell ⟨b, 2, none⟩ y2) B e v l :=
  ((h.put ha hte 0 y0).put (ha.set 0 y0) hte 1 y1).put ((ha.set 0 y0).set 1 y1) hte 2 y2
theorem Arr.grown {w w' : World} {b t B e : Nat} {xs l : List Value} {v : Value} (ha : Arr w b t xs) (hte : t ≠ e) (h : OwnV w B e v l) (hg : w.grownBy w' v.ownBlock) : Arr w' b t xs :=
  (hg.block b ha.lt (not_row_cells ha hte h)).trans ha
theorem Arr.put3 {w : World} {b t g : Nat} {xs : List Value} (ha : Arr w b t xs) (hne : b ≠ g) (y0 y1 y2 : Value) : Arr (((w.setCell ⟨g, 0, none⟩ y0).setCell ⟨g, 1, none⟩ y1).setCell ⟨g, 2, none⟩ y2) b t xs :=
  ((ha.other ⟨g, 0, none⟩ hne y0).other ⟨g, 1, none⟩ hne y1).other ⟨g, 2, none⟩ hne y2
theorem below_put3 {B : Nat} {a w : World} (h : Below B a w) {g : Nat} (hg : B ≤ g) (y0 y1 y2 : Value) : Below B a (((w.setCell ⟨g, 0, none⟩ y0).setCell ⟨g, 1, none⟩ y1).setCell ⟨g, 2, none⟩ y2) :=
  ((h.setCell (p := ⟨g, 0, none⟩) hg y0).setCell (p := ⟨g, 1, none⟩) hg y1).setCell (p := ⟨g, 2, none⟩) hg y2

/-- 'append(v, u)' onto a row of one's own, with what else stays. -/
theorem wpList_appW {P : Program} {w : World} {ops : Array Oper} {rest : List Oper} {o : Oper} {a : Act} {Q : Exit → Act → World → Prop} (hgd : o.guard = none) (s x : Operand) (t : TypeId)
    (ho : o.op = .call { callee := .builtin .append, args := #[s, x], argTypes := #[t, t] }) (B e : Nat) (i : TypeInfo) (z : Value) (bytes : Nat) (ht : P.underlying t = some (.slice e)) (hi : P.info? e = some i)
    (hz0 : i.zero = some z) (hz1 : i.size = 1) (hz2 : i.bytes = bytes) (hzs : z.cells.size = 1) (v : Value) (l : List Value) (hs : a.eval s = v) (hown : OwnV w B e v l) (ad : Addr) (c : Nat) (u : Value)
    (hx : a.eval x = .slice (some ad) 1 c) (hc : w.cell? ad = some u) (hu : u.oneCell' = true) (hlen : l.length + 1 ≤ maxLen) (hby : (l.length + 1) * bytes ≤ 140737488355328) (hB : B ≤ w.heap.size)
    (h : ∀ v' w', OwnV w' B e v' (l ++ [u]) → Below B w w' → w.grownBy w' v.ownBlock → wpList P ops Q rest (a.put o.dst v') w') : wpList P ops Q (o :: rest) a w := by
  refine wpList_append_own w hgd s x t ho B e i z 1 bytes ht hi hz0 hz1 hz2 hzs (by decide) v l.length l hs hown ad 1 c [u] hx rfl ?_ ?_ hlen hby hB ?_
  · intro j y hj
    match j, hj with
    | 0, hj => simp at hj; subst hj; simpa [Addr.add] using hc
  · intro y hy; simp at hy; subst hy; exact hu
  · intro v' w' h1 h2 _
    refine h v' w' ?_ ((Below.refl B w).grown h2 hB fun k hk => (World.ownsRow.lt hown k hk).1) h2
    unfold OwnV; rw [List.length_append]; exact h1

/-- A row of texts: its form, and what its cells hold, at the world and later. -/
theorem OwnV.formS {w : World} {B e : Nat} {v : Value} {ss : List ByteArray} (h : OwnV w B e v (strV ss)) : ∃ a c, v = .slice a ss.length c ∧ ss.length ≤ c := by
  rcases h.2 with ⟨rfl, hn⟩ | ⟨g, cap, cur, rfl, _, _, hc, _⟩
  · rw [strV_length] at hn
    exact ⟨none, 0, by rw [hn], by omega⟩
  · rw [strV_length] at hc ⊢
    exact ⟨_, cap, rfl, hc⟩
theorem StrsAt.take {w : World} {a : Option Addr} {n c : Nat} {ss : List ByteArray} (h : StrsAt w (.slice a n c) ss) (j : Nat) (hj : j ≤ ss.length) : StrsAt w (.slice a j c) (ss.take j) := by
  obtain ⟨a', c', e, hc⟩ := h
  simp only [Value.slice.injEq] at e
  obtain ⟨rfl, rfl, rfl⟩ := e
  refine ⟨a, c, by rw [List.length_take, Nat.min_eq_left hj], fun k hk => ?_⟩
  have hk' : k < ss.length := by rw [List.length_take] at hk; omega
  obtain ⟨b, off, ea, hcc⟩ := hc k hk'
  exact ⟨b, off, ea, by rw [hcc, List.getElem_take]⟩

theorem StrsAt.take' {w : World} {a : Option Addr} {n c : Nat} {ss : List ByteArray} (h : StrsAt w (.slice a n c) ss) (j : Nat) (hj : j ≤ ss.length) : StrsAt w (.slice a j c) (ss.take j) := h.take j hj
/-- octet.Text of a text that is too long, however long. -/
theorem text_long (w : World) (t : ByteArray) (h : ¬ t.size ≤ 8192) :
    Calls Try.prog 39 #[.string t] w fun e w' => e = .returned (.tuple #[.string ByteArray.empty, .int .i64 7]) ∧ Below w.heap.size w w' := by
  have hd : decide ((8192 : Int) < (t.size : Int)) = true := by simp; omega
  go_enter Try.func39, Try.ntmps39
  go_wp2
  go_ret2
  exact ⟨rfl, Below.refl _ _⟩
theorem jbytes_long (w : World) (t : ByteArray) (h : ¬ t.size ≤ 8192) :
    Calls Try.prog 30 #[.string t] w fun e w' => e = .returned (.tuple #[.string ByteArray.empty, .int .i64 7]) ∧ Below w.heap.size w w' := by
  have c1 := hidp (fun W => text_long W t h)
  go_enter Try.func30, Try.ntmps30
  go_wp2_with fail
  refine (c1.out _).mono ?_
  rintro e w1 ⟨rfl, hb1⟩
  have HB1 := hidp hb1; clear hb1
  go_wp2_with fail
  go_ret2
  exact ⟨rfl, HB1.out⟩
set_option maxHeartbeats 4000000 in
theorem add_longer (w : World) (s : ByteArray) (y r : Int) (t : ByteArray) (h : okD s y r) (ht : ¬ t.size ≤ 8192) :
    Calls Try.prog 17 #[.agg #[.string s, .int .i64 y, .int .i64 r], .string t] w fun e w' => e = .returned (.tuple #[.agg #[.string s, .int .i64 y, .int .i64 r], .int .i64 7]) ∧ Below w.heap.size w w' := by
  have hsz := okD_nat h
  have c1 := hidp (fun W => check_ok W s y r h)
  have c2 := hidp (fun W => jbytes_long W t ht)
  have c3 := hidp (fun W => clone_any s W (by omega))
  go_enter Try.func17, Try.ntmps17
  go_wp2_with fail
  refine (c1.out _).mono ?_
  rintro e w1 ⟨rfl, hb1⟩
  obtain ⟨hA, hR, hB⟩ := after2 [.string s, .int .i64 y, .int .i64 r] [.string ⟨#[]⟩, .int .i64 0, .int .i64 0] _ _ hb1
  have HA := hidp hA; have HR := hidp hR; have HB := hidp hB
  clear hb1 hA hR hB
  go_wp2_with fail
  refine (c2.out _).mono ?_
  rintro e w2 ⟨rfl, hb2⟩
  have HA2 := hidp (HA.out.below hb2 HA.out.lt); have HR2 := hidp (HR.out.below hb2 HR.out.lt); have HB2 := hidp (HB.out.trans (hb2.mono HB.out.size))
  clear hb2
  obtain ⟨a0, a1, a2, af⟩ := arr3 HA2.out
  clear af
  go_wp2_with fail
  refine (c3.out _).mono ?_
  rintro e w3 ⟨rfl, hb3⟩
  have HA3 := hidp (HA2.out.below hb3 HA2.out.lt); have HR3 := hidp (HR2.out.below hb3 HR2.out.lt); have HB3 := hidp (HB2.out.trans (hb3.mono HB2.out.size))
  clear hb3 a0 a1 a2
  obtain ⟨a0, a1, a2, af⟩ := arr3 HA3.out
  have f0 := af 0; have f1 := af 1; have f2 := af 2
  clear af
  obtain ⟨r0, r1, r2, rf⟩ := arr3 HR3.out
  have g0 := rf 0; have g1 := rf 1; have g2 := rf 2
  clear rf
  go_wp2_with fail
  refine bodyPost_ret (v := .tuple #[.agg #[.string s, .int .i64 y, .int .i64 r], .int .i64 7]) (by simp [results, Try.results17, go_sem, r0, r1, r2]) rfl ⟨rfl, ?_⟩
  repeat (refine Below.setCell ?_ (by simp) _)
  exact HB3.out

/-- Acts in memory, four cells each. -/
def ActAt (w : World) (B o : Nat) (k : Int) (t : ByteArray) (n : Int) (b : UInt8) : Prop :=
  w.cell? ⟨B, o, none⟩ = some (.int .i64 k) ∧ w.cell? ⟨B, o + 1, none⟩ = some (.string t) ∧ w.cell? ⟨B, o + 2, none⟩ = some (.int .i64 n) ∧ w.cell? ⟨B, o + 3, none⟩ = some (.int .u8 (b.toNat : Int))
def ActsAt (w : World) (v : Value) (len : Nat) : Prop :=
  (v = .slice none 0 0 ∧ len = 0) ∨ ∃ B o c, v = .slice (some ⟨B, o, none⟩) len c ∧ len ≤ c ∧ B < w.heap.size ∧ ∀ i, i < len → ∃ k t n b, ActAt w B (o + i * 4) k t n b
theorem ActAt.below {w w' : World} {B o C : Nat} {k : Int} {t : ByteArray} {n : Int} {b : UInt8} (h : ActAt w B o k t n b) (hb : Below C w w') (hB : B < C) : ActAt w' B o k t n b :=
  ⟨(hb.cell (p := ⟨B, o, none⟩) hB).trans h.1, (hb.cell (p := ⟨B, o + 1, none⟩) hB).trans h.2.1, (hb.cell (p := ⟨B, o + 2, none⟩) hB).trans h.2.2.1, (hb.cell (p := ⟨B, o + 3, none⟩) hB).trans h.2.2.2⟩
theorem arr4 {w : World} {b T : Nat} {x0 x1 x2 x3 : Value} (h : Arr w b T [x0, x1, x2, x3]) : w.cell? ⟨b, 0, none⟩ = some x0 ∧ w.cell? ⟨b, 1, none⟩ = some x1 ∧ w.cell? ⟨b, 2, none⟩ = some x2 ∧ w.cell? ⟨b, 3, none⟩ = some x3 :=
  ⟨h.cell 0 (by simp), h.cell 1 (by simp), h.cell 2 (by simp), h.cell 3 (by simp)⟩
end Go.Proofs.Ytbgooppmhgaicab
