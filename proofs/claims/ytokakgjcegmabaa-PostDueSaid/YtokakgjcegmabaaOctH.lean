
/-
  The document's GetList, All and Same.
-/
import Derived.Test.YtokakgjcegmabaaOctG
import Derived.BigQuiet
import Derived.Deep.QuietTactic
namespace Go.Proofs.Ytokakgjcegmabaa
set_option linter.unusedVariables false
set_option linter.unusedSimpArgs false
open Go.RowKit

/-- A row of values of one cell each that the call itself has made. -/
def OwnV (w : World) (B e : Nat) (v : Value) (l : List Value) : Prop := w.ownsRow B e 1 v l.length l
theorem OwnV.nil (w : World) (B e : Nat) : OwnV w B e (.slice none 0 0) [] := World.ownsRow_nil w B e 1
theorem OwnV.kept {w w' : World} {B C e : Nat} {v : Value} {l : List Value} (h : OwnV w B e v l) (hb : Below C w w') (hC : w.heap.size ≤ C) : OwnV w' B e v l := by
  refine ⟨h.1, ?_⟩
  rcases h.2 with hn | ⟨g, cap, cur, rfl, hb', hgg, rest⟩
  · exact .inl hn
  · refine .inr ⟨g, cap, cur, rfl, hb', ?_, rest⟩
    rw [hb.block g (by have := (Array.getElem?_eq_some_iff.1 hgg).1; omega)]
    exact hgg
theorem OwnV.alloc {w : World} {B e : Nat} {v : Value} {l : List Value} (h : OwnV w B e v l) (o : Obj) : OwnV (w.alloc o) B e v l := World.ownsRow.alloc h o

/-- 'append(v, u)' onto such a row: the operation, for the walk. -/
theorem wpList_appV {P : Program} {w : World} {ops : Array Oper} {rest : List Oper} {o : Oper} {a : Act} {Q : Exit → Act → World → Prop} (hgd : o.guard = none) (s x : Operand) (t : TypeId)
    (ho : o.op = .call { callee := .builtin .append, args := #[s, x], argTypes := #[t, t] }) (B e : Nat) (i : TypeInfo) (z : Value) (bytes : Nat) (ht : P.underlying t = some (.slice e)) (hi : P.info? e = some i)
    (hz0 : i.zero = some z) (hz1 : i.size = 1) (hz2 : i.bytes = bytes) (hzs : z.cells.size = 1) (v : Value) (l : List Value) (hs : a.eval s = v) (hown : OwnV w B e v l) (ad : Addr) (c : Nat) (u : Value)
    (hx : a.eval x = .slice (some ad) 1 c) (hc : w.cell? ad = some u) (hu : u.oneCell' = true) (hlen : l.length + 1 ≤ maxLen) (hby : (l.length + 1) * bytes ≤ 140737488355328) (hB : B ≤ w.heap.size)
    (h : ∀ v' w', OwnV w' B e v' (l ++ [u]) → Below B w w' → wpList P ops Q rest (a.put o.dst v') w') : wpList P ops Q (o :: rest) a w := by
  refine wpList_append_own w hgd s x t ho B e i z 1 bytes ht hi hz0 hz1 hz2 hzs (by decide) v l.length l hs hown ad 1 c [u] hx rfl ?_ ?_ hlen hby hB ?_
  · intro j y hj
    match j, hj with
    | 0, hj => simp at hj; subst hj; simpa [Addr.add] using hc
  · intro y hy; simp at hy; subst hy; exact hu
  · intro v' w' h1 h2 _
    refine h v' w' ?_ ((Below.refl B w).grown h2 hB fun k hk => (World.ownsRow.lt hown k hk).1)
    unfold OwnV; rw [List.length_append]; exact h1

/-- A row of texts. -/
def strV (ss : List ByteArray) : List Value := ss.map .string
theorem strV_snoc (ss : List ByteArray) (s : ByteArray) : strV ss ++ [.string s] = strV (ss ++ [s]) := by simp [strV]
theorem strV_length (ss : List ByteArray) : (strV ss).length = ss.length := by simp [strV]
theorem OwnV.strs {w : World} {B e : Nat} {v : Value} {ss : List ByteArray} (h : OwnV w B e v (strV ss)) : StrsAt w v ss := by
  have h' := h
  rcases h'.2 with ⟨rfl, hn⟩ | ⟨g, cap, cur, rfl, _⟩
  · have : ss = [] := List.eq_nil_of_length_eq_zero (by simpa [strV] using hn)
    subst this
    exact ⟨none, 0, rfl, fun k hk => by simp at hk⟩
  · refine ⟨some ⟨g, 0, none⟩, cap, by rw [strV_length], fun k hk => ⟨g, 0, rfl, ?_⟩⟩
    have := World.ownsRow.cells h (g := g) rfl k (.string ss[k]) (by simp [strV, hk])
    have e : (⟨g, 0, none⟩ : Addr).add k = ⟨g, 0 + k, none⟩ := by unfold Addr.add; split <;> simp_all
    rw [e] at this; exact this

/-- The texts of a list, one behind the other. -/
def glGo (s : ByteArray) : Nat → Nat → List ByteArray → List ByteArray × Nat × Nat
  | 0, p, xs => (xs, p, 0)
  | k + 1, p, xs =>
    if (gt (s.extract p s.size)).2.2 ≠ 0 then ([], 0, (gt (s.extract p s.size)).2.2)
    else glGo s k (p + (gt (s.extract p s.size)).2.1) (xs ++ [(gt (s.extract p s.size)).1])
def gl (s : ByteArray) : List ByteArray × Nat × Nat :=
  let r := gn s.data.toList
  if r.2.2 ≠ 0 then ([], 0, r.2.2) else if 256 < r.1 then ([], 0, 7) else glGo s r.1 r.2.1 []

theorem gt_bd (s : ByteArray) : (gt s).2.1 ≤ s.size ∧ (gt s).2.2 ≤ 7 ∧ (gt s).1.size ≤ 8192 := by
  unfold gt
  have hb := gn_bd s.data.toList
  simp only
  split
  · simp; omega
  · split
    · simp
    · split
      · simp
      · simp; omega

theorem info9 : (Try.prog.info? 9).map (fun i => (i.zero, i.size, i.bytes)) = some (some (.string ByteArray.empty), 1, 16) := by kernel_rfl

end Go.Proofs.Ytokakgjcegmabaa
