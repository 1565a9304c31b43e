
/-
  The document's GetList, All and Same.
-/
import Derived.Test.YtglfdenlgglccaaDoorOctG
import Derived.BigQuiet
import Derived.Deep.QuietTactic
namespace Go.Proofs.YtglfdenlgglccaaDoor
set_option linter.unusedVariables false
set_option linter.unusedSimpArgs false
set_option maxRecDepth 100000
open Go.RowKit

/-- A row of values of one cell each that the call itself has made. -/
def OwnV (w : World) (B e : Nat) (v : Value) (l : List Value) : Prop := w.ownsRow B e 1 v l.length l
theorem OwnV.nil (w : World) (B e : Nat) : OwnV w B e (.slice none 0 0) [] := World.ownsRow_nil w B e 1
theorem OwnV.kept {w w' : World} {B C e : Nat} {v : Value} {l : List Value} (h : OwnV w B e v l) (hb : Below C w w') (hC : w.heap.size ≤ C) : OwnV w' B e v l := by
  refine ⟨h.1, ?_⟩
  rcases h.2 with hn | ⟨g, cap, cur, rfl, hb', hgg, rest⟩
  · exact .inl hn
  · refine .inr ⟨g, cap, cur, rfl, hb', ?_, rest⟩
    rw [hb.block g (by have := (Array.getElem?_eq_some_iff.1 hgg).1; omega)]
    exact hgg
theorem OwnV.alloc {w : World} {B e : Nat} {v : Value} {l : List Value} (h : OwnV w B e v l) (o : Obj) : OwnV (w.alloc o) B e v l := World.ownsRow.alloc h o

/-- 'append(v, u)' onto such a row: the operation, for the walk. -/
theorem wpList_appV {P : Program} {w : World} {ops : Array Oper} {rest : List Oper} {o : Oper} {a : Act} {Q : Exit → Act → World → Prop} (hgd : o.guard = none) (s x : Operand) (t : TypeId)
    (ho : o.op = .call { callee := .builtin .append, args := #[s, x], argTypes := #[t, t] }) (B e : Nat) (i : TypeInfo) (z : Value) (bytes : Nat) (ht : P.underlying t = some (.slice e)) (hi : P.info? e = some i)
    (hz0 : i.zero = some z) (hz1 : i.size = 1) (hz2 : i.bytes = bytes) (hzs : z.cells.size = 1) (v : Value) (l : List Value) (hs : a.eval s = v) (hown : OwnV w B e v l) (ad : Addr) (c : Nat) (u : Value)
    (hx : a.eval x = .slice (some ad) 1 c) (hc : w.cell? ad = some u) (hu : u.oneCell' = true) (hlen : l.length + 1 ≤ maxLen) (hby : (l.length + 1) * bytes ≤ 140737488355328) (hB : B ≤ w.heap.size)
    (h : ∀ v' w', OwnV w' B e v' (l ++ [u]) → Below B w w' → wpList P ops Q rest (a.put o.dst v') w') : wpList P ops Q (o :: rest) a w := by
  refine wpList_append_own w hgd s x t ho B e i z 1 bytes ht hi hz0 hz1 hz2 hzs (by decide) v l.length l hs hown ad 1 c [u] hx rfl ?_ ?_ hlen hby hB ?_
  · intro j y hj
    match j, hj with
    | 0, hj => simp at hj; subst hj; simpa [Addr.add] using hc
  · intro y hy; simp at hy; subst hy; exact hu
  · intro v' w' h1 h2 _
    refine h v' w' ?_ ((Below.refl B w).grown h2 hB fun k hk => (World.ownsRow.lt hown k hk).1)
    unfold OwnV; rw [List.length_append]; exact h1

/-- A row of texts. -/
def strV (ss : List ByteArray) : List Value := ss.map .string
theorem strV_snoc (ss : List ByteArray) (s : ByteArray) : strV ss ++ [.string s] = strV (ss ++ [s]) := by simp [strV]
theorem strV_length (ss : List ByteArray) : (strV ss).length = ss.length := by simp [strV]
theorem OwnV.strs {w : World} {B e : Nat} {v : Value} {ss : List ByteArray} (h : OwnV w B e v (strV ss)) : StrsAt w v ss := by
  have h' := h
  rcases h'.2 with ⟨rfl, hn⟩ | ⟨g, cap, cur, rfl, _⟩
  · have : ss = [] := List.eq_nil_of_length_eq_zero (by simpa [strV] using hn)
    subst this
    exact ⟨none, 0, rfl, fun k hk => by simp at hk⟩
  · refine ⟨some ⟨g, 0, none⟩, cap, by rw [strV_length], fun k hk => ⟨g, 0, rfl, ?_⟩⟩
    have := World.ownsRow.cells h (g := g) rfl k (.string ss[k]) (by simp [strV, hk])
    have e : (⟨g, 0, none⟩ : Addr).add k = ⟨g, 0 + k, none⟩ := by unfold Addr.add; split <;> simp_all
    rw [e] at this; exact this

/-- The texts of a list, one behind the other. -/
def glGo (s : ByteArray) : Nat → Nat → List ByteArray → List ByteArray × Nat × Nat
  | 0, p, xs => (xs, p, 0)
  | k + 1, p, xs =>
    if (gt (s.extract p s.size)).2.2 ≠ 0 then ([], 0, (gt (s.extract p s.size)).2.2)
    else glGo s k (p + (gt (s.extract p s.size)).2.1) (xs ++ [(gt (s.extract p s.size)).1])
def gl (s : ByteArray) : List ByteArray × Nat × Nat :=
  let r := gn s.data.toList
  if r.2.2 ≠ 0 then ([], 0, r.2.2) else if 256 < r.1 then ([], 0, 7) else glGo s r.1 r.2.1 []

theorem gt_bd (s : ByteArray) : (gt s).2.1 ≤ s.size ∧ (gt s).2.2 ≤ 7 ∧ (gt s).1.size ≤ 8192 := by
  unfold gt
  have hb := gn_bd s.data.toList
  simp only
  split
  · simp; omega
  · split
    · simp
    · split
      · simp
      · simp; omega

theorem info9 : (Tryd.prog.info? 9).map (fun i => (i.zero, i.size, i.bytes)) = some (some (.string ByteArray.empty), 1, 16) := by kernel_rfl

set_option maxHeartbeats 1000000 in
set_option maxRecDepth 20000 in
theorem refGetList_any (w : World) (s : ByteArray) (hs : s.size ≤ 281474976710656) :
    Calls Tryd.prog 47 #[.string s] w fun e w' => ∃ v, e = .returned (.tuple #[v, .int .i64 (gl s).2.1, .int .i64 (gl s).2.2]) ∧ StrsAt w' v (gl s).1 ∧ Below w.heap.size w w' := by
  obtain ⟨i0, hi, hz0, hz1, hz2⟩ := info_parts info9
  have hG := refGetNum_any w s hs
  have hbd := gn_bd s.data.toList
  obtain ⟨R, hR⟩ : ∃ R, R = gl s := ⟨_, rfl⟩
  rw [← hR]
  unfold gl at hR
  obtain ⟨⟨n, k, e⟩, hr⟩ : ∃ r, r = gn s.data.toList := ⟨_, rfl⟩
  rw [← hr] at hG hbd hR
  clear hr
  obtain ⟨h1, h2, h3, h4⟩ := hbd
  have h3 : k ≤ s.size := by simpa using h3
  simp only [tup3] at hG h1 h2 h4 hR
  have HG := hidp hG; clear hG
  by_cases he : e = 0
  · have heb := errB0 he
    rw [if_neg (by simpa using he)] at hR
    have H0 := hidp he; clear he
    by_cases h8 : 256 < n
    · rw [if_pos h8] at hR
      subst hR
      go_enter Tryd.func47, Tryd.ntmps47
      go_wp2_with (go_at_call 29; (refine HG.out.mono ?_); rintro e1 w1 ⟨rfl, hb1⟩)
      go_ret3
      exact ⟨_, rfl, ⟨none, 0, rfl, fun k hk => by simp at hk⟩, hb1⟩
    · rw [if_neg h8] at hR
      have HR := hidp hR; clear hR
      go_enter Tryd.func47, Tryd.ntmps47
      go_wp2_with (go_at_call 29; (refine HG.out.mono ?_); rintro e1 w1 ⟨rfl, hb1⟩)
      go_loopw [6, 8, 9] (fun t6 t8 t9 wr => ∃ (p i : Nat) (xs : List ByteArray), t6 = .int .i64 p ∧ p ≤ s.size ∧ t9 = .int .u64 i ∧ i ≤ n ∧ xs.length = i ∧ OwnV wr w.heap.size 9 t8 (strV xs) ∧ glGo s (n - i) p xs = R ∧ Below w.heap.size w wr)
        (fun _ _ t9 _ => n - (intOf t9).toNat)
      case atStart => exact ⟨k, 0, [], rfl, h3, rfl, by omega, rfl, OwnV.nil _ _ _, HR.out.symm, hb1⟩
      case round =>
        obtain ⟨p, i, xs, rfl, hp, rfl, hin, hxl, ho, hgo, hb⟩ := hrel
        have hbs := hb.size
        have HGO := hidp hgo; clear hgo
        have HXL := hidp hxl; clear hxl
        by_cases hlt : i < n
        · have hT := refGetText_any wr (s.extract p s.size) (by simp; omega)
          have hbd := gt_bd (s.extract p s.size)
          obtain ⟨j, hj⟩ : ∃ j, n - i = j + 1 := ⟨n - i - 1, by omega⟩
          have hstep := HGO.out
          rw [hj, glGo] at hstep
          obtain ⟨⟨t, q, e2⟩, hr⟩ : ∃ r, r = gt (s.extract p s.size) := ⟨_, rfl⟩
          rw [← hr] at hT hbd hstep
          clear hr
          simp only [tupT] at hT hbd hstep
          obtain ⟨hq, he2, hts⟩ := hbd
          have hq : p + q ≤ s.size := by simp at hq; omega
          have HT := hidp hT; clear hT
          have HJ := hidp hj; clear hj
          by_cases he0 : e2 = 0
          · have heb2 := errB0 he0
            rw [if_neg (by simpa using he0)] at hstep
            have HS := hidp hstep; clear hstep
            have H02 := hidp he0; clear he0
            go_wp2_with (first | (go_at_call 57; (refine HT.out.mono ?_); rintro e1 w2 ⟨rfl, hb2⟩; have ho2 := ho.kept hb2 (Nat.le_refl _); have hbs2 := hb2.size) | (at_builtin; (refine wpList_appV rfl (.tmp 40) (.tmp 42) 45 rfl w.heap.size 9 i0 _ 16 Tryd.underlying45 hi hz0 hz1 hz2 rfl _ (strV xs) rfl (ho2.alloc _) ⟨w2.heap.size, 0, none⟩ _ (.string t) rfl (cell_new1 _ _ _) rfl ?_ ?_ ?_ ?_)))
            · rw [strV_length, HXL.out]; unfold maxLen; omega
            · rw [strV_length, HXL.out]; omega
            · rw [heap_size_alloc]; omega
            · intro v' w3 ho3 hb3
              have hb4 := hb.trans ((hb2.mono hbs).trans (((Below.refl w.heap.size w2).alloc (by omega) _).trans hb3))
              rw [strV_snoc] at ho3
              clear hb3 hb2 ho2 ho
              go_wp2
              exact ⟨⟨p + q, i + 1, xs ++ [t], by go_num, hq, by go_num, by omega, by simp [HXL.out], ho3, by rw [show n - (i + 1) = j from by have := HJ.out; omega]; exact HS.out, hb4⟩, by simp [intOf]; omega⟩
          · have heb2 := errB he0
            rw [if_pos he0] at hstep
            subst hstep
            have H02 := hidp he0; clear he0
            go_wp2_with (go_at_call 57; (refine HT.out.mono ?_); rintro e1 w2 ⟨rfl, hb2⟩)
            go_ret3
            exact ⟨_, rfl, ⟨none, 0, rfl, fun k hk => by simp at hk⟩, hb.trans (hb2.mono hbs)⟩
        · have hgo := HGO.out
          rw [show n - i = 0 from by omega, glGo] at hgo
          subst hgo
          go_wp2
          go_ret3
          exact ⟨_, rfl, ho.strs, hb⟩
  · have heb := errB he
    rw [if_pos he] at hR
    have H0 := hidp he; clear he
    subst hR
    go_enter Tryd.func47, Tryd.ntmps47
    go_wp2_with (go_at_call 29; (refine HG.out.mono ?_); rintro e1 w1 ⟨rfl, hb1⟩)
    go_ret3
    exact ⟨_, rfl, ⟨none, 0, rfl, fun k hk => by simp at hk⟩, hb1⟩
end Go.Proofs.YtglfdenlgglccaaDoor
