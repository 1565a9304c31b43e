/-
  Joined: BaA BaB BaC Rt Rw Mm.
-/
import Derived.Test.YtbgooppmhgaicaaDoorUA
import Derived.WalkKit
import Derived.WalkSpells
import Derived.WalkLawsBesides
import Derived.Handy
import Derived.BigQuiet
import Derived.Deep.QuietTactic
import Derived.RegionTactic
import Derived.StillTailTactics
import Derived.OrdersHeld
import Derived.Deep.Quiet
import Derived.Deep.MidRow
import Derived.Deep.RegionHeld3
import Derived.Test.YtbgooppmhgaicaaDoorRows
import Derived.Lib.ConvBytes
import Derived.IntWalk
import Derived.Laws.Rows
import Derived.Laws.Tables
import Derived.Laws.CopyRow
import Derived.Great.BuildSlice
import Derived.Maps.AppendAt
import Derived.Laws.IdiomCopy
import Derived.Lib.AppendZerosOnto
namespace Go.Proofs.YtbgooppmhgaicaaDoor
set_option linter.unusedVariables false
set_option linter.unusedSimpArgs false
open Go.RowKit

def Arr (w : World) (b t : Nat) (xs : List Value) : Prop := w.heap[b]? = some (.cells xs.toArray t (0, 0))
theorem Arr.lt {w : World} {b t : Nat} {xs : List Value} (h : Arr w b t xs) : b < w.heap.size := (Array.getElem?_eq_some_iff.1 h).1
theorem Arr.cell {w : World} {b t : Nat} {xs : List Value} (h : Arr w b t xs) (i : Nat) (hi : i < xs.length) : w.cell? ⟨b, i, none⟩ = some xs[i] := by
  unfold World.cell?; dsimp only; rw [show w.heap[b]? = _ from h]; simp [hi]
theorem Arr.frozen {w : World} {b t : Nat} {xs : List Value} (h : Arr w b t xs) (i : Nat) : w.frozen? ⟨b, i, none⟩ = false := by
  unfold World.frozen?; dsimp only; rw [show w.heap[b]? = _ from h]; simp
theorem Arr.set {w : World} {b t : Nat} {xs : List Value} (h : Arr w b t xs) (i : Nat) (v : Value) : Arr (w.setCell ⟨b, i, none⟩ v) b t (xs.set i v) := by
  unfold Arr World.setCell
  rw [Array.getElem?_modify, if_pos rfl, show w.heap[b]? = _ from h]
  simp [List.setIfInBounds_toArray]
theorem Arr.below {w w' : World} {b t B : Nat} {xs : List Value} (h : Arr w b t xs) (hb : Below B w w') (hB : b < B) : Arr w' b t xs := (hb.block b hB).trans h
theorem Arr.other {w : World} {b t : Nat} {xs : List Value} (h : Arr w b t xs) (a : Addr) (hne : b ≠ a.block) (v : Value) : Arr (w.setCell a v) b t xs := (Below.heap_setCell w a v b hne).trans h
theorem Arr.alloc {w : World} {b t : Nat} {xs : List Value} (h : Arr w b t xs) (o : Obj) : Arr (w.alloc o) b t xs := (Below.heap_alloc w o b h.lt).trans h
theorem Arr.new (w : World) (t : Nat) (xs : List Value) : Arr (w.alloc (.cells xs.toArray t)) w.heap.size t xs := heap_alloc_new w _
theorem Arr.row {w : World} {b t : Nat} {xs : List Value} (h : Arr w b t xs) (ys : List Value) : Arr (w.setRow b ys.toArray) b t ys := setRow_heap w b _ _ t (0, 0) h
theorem Arr.row_other {w : World} {b t : Nat} {xs : List Value} (h : Arr w b t xs) (g : Nat) (hne : b ≠ g) (ys : Array Value) : Arr (w.setRow g ys) b t xs := (setRow_other w g b ys hne).trans h
theorem below_setRow {B : Nat} {a w : World} (h : Below B a w) {g : Nat} (hg : B ≤ g) (ys : Array Value) : Below B a (w.setRow g ys) := h.trans ⟨rfl, rfl, rfl, by simp, fun k hk => setRow_other w g k ys (by omega)⟩
def u8s (l : List UInt8) : List Value := l.map fun b => .int .u8 b.toNat
theorem u8s_length (l : List UInt8) : (u8s l).length = l.length := by simp [u8s]
theorem u8s_get (l : List UInt8) (i : Nat) (h : i < (u8s l).length) : (u8s l)[i] = .int .u8 (((l.getD i 0).toNat : Nat) : Int) := by
  have h' : i < l.length := by simpa [u8s] using h
  simp [u8s, List.getD_eq_getElem?_getD, h']
theorem u8s_one (l : List UInt8) : (u8s l).toArray.all (·.oneCell') = true := by simp [u8s, Value.oneCell']
theorem results_row_tmp {P : Program} {fn : Func} {p u : Tmp} {ty : TypeId} (h : fn.results = #[.cell p ty, .tmp u]) (tmps : Array Value) (w : World) (g : Nat) (t : TypeId) (cs : Array Value) (fr : Nat × Nat) (d : TypeDesc)
    (hp : tmps.getD p undef = .pointer (some ⟨g, 0, none⟩)) (hg : w.heap[g]? = some (.cells cs t fr))
    (hu : P.underlying ty = some d) (hd : (match d with | .struct _ | .array _ _ => true | _ => false) = true) (hi : (P.info? ty).map (·.size) = some cs.size) (v : Value) (hv : tmps.getD u undef = v) :
    (results fn tmps).run P w = .ok (.tuple #[.agg cs, v]) w := by
  have hp' : tmps[p]?.getD undef = .pointer (some ⟨g, 0, none⟩) := by simpa using hp
  have hv' : tmps[u]?.getD undef = v := by simpa using hv
  simp [results, h, hp', hv', asAddr, run_loadVar_row w g t ty cs fr d hg hu hd hi]
theorem Arr.range {w : World} {b t : Nat} {xs : List Value} (h : Arr w b t xs) : w.rangeAt b 0 xs := by
  intro j v hv
  rw [Nat.zero_add, cell_of_row w b j _ t _ h]; simpa using hv
theorem rangeAt_below {w w' : World} {b o B : Nat} {cs : List Value} (h : w.rangeAt b o cs) (hb : Below B w w') (hB : b < B) : w'.rangeAt b o cs :=
  fun j v hv => (hb.cell (p := ⟨b, o + j, none⟩) hB).trans (h j v hv)
section
variable {P : Program} {ops : Array Oper} {C : World → Prop} {Q : Act → Prop} {a : Act} {o : Oper} {rest : List Oper}
theorem q_val {v : Value} (hw : Region.wanted o (yielded ops a.tmps) = true) (hv : ∀ w, C w → (execOp a.eval o).run P w = .ok (.value v) w) (h : wpQuiet P ops C Q rest (a.put o.dst v)) : wpQuiet P ops C Q (o :: rest) a :=
  wpQuiet_step fun K hK => by
    rw [if_pos hw]
    exact ⟨v, fun w hC => by unfold Oper.quietAt; rw [hv w hC]; exact ⟨rfl, rfl⟩, hK _ h⟩
theorem q_call {v : Value} (hw : Region.wanted o (yielded ops a.tmps) = true) (f : FuncId) (args : Array Value) (hop : ∀ w, (execOp a.eval o).run P w = .ok (.enter f args) w)
    (hc : ∀ w, C w → Calls P f args w fun e w' => e = .returned v ∧ C w') (h : wpQuiet P ops C Q rest (a.put o.dst v)) : wpQuiet P ops C Q (o :: rest) a :=
  wpQuiet_step fun K hK => by
    rw [if_pos hw]
    exact ⟨v, fun w hC => by unfold Oper.quietAt; rw [hop w]; exact ⟨rfl, hc w hC⟩, hK _ h⟩
end
/-- A row's load under a guard that is met. -/
theorem wpList_load_row_g {P : Program} {ops : Array Oper} {rest : List Oper} {o : Oper} {a : Act} {w : World} {Q : Exit → Act → World → Prop} (hw : Region.wanted o (yielded ops a.tmps) = true) (ty : TypeId) (x : Operand) (ho : o.op = .load ty x)
    (g : Nat) (hx : a.eval x = .pointer (some ⟨g, 0, none⟩)) (t : TypeId) (cs : Array Value) (fr : Nat × Nat) (d : TypeDesc) (hg : w.heap[g]? = some (.cells cs t fr))
    (hu : P.underlying ty = some d) (hd : (match d with | .struct _ | .array _ _ => true | _ => false) = true) (hi : (P.info? ty).map (·.size) = some cs.size)
    (h : wpList P ops Q rest (a.put o.dst (.agg cs)) w) : wpList P ops Q (o :: rest) a w :=
  wpList_step fun K hK => by rw [if_pos hw]; exact wp_load_row ty x ho g hx t cs fr d hg hu hd hi (hK _ _ h)
/-- The class: what stood is as it was. -/
def Cls (N : Nat) (W w : World) : Prop := Below N W w
theorem Cls.range {N : Nat} {W w : World} (h : Cls N W w) {b : Nat} {cs : List Value} (hr : W.rangeAt b 0 cs) (hb : b < N) : w.rangeAt b 0 cs := rangeAt_below hr h hb
theorem Cls.step {N : Nat} {W w w' : World} (h : Cls N W w) (hN : N ≤ W.heap.size) (hb : Below w.heap.size w w') : Cls N W w' := Below.trans h (hb.mono (Nat.le_trans hN (Below.size h)))
theorem Cls.start (W : World) (n : Nat) : Cls W.heap.size W { W with drawn := n } := ⟨rfl, rfl, rfl, Nat.le_refl _, fun _ _ => rfl⟩

section
variable {P : Program} {ops : Array Oper} {md : Region.Mode} {C : World → Prop} {Q : Exit → Act → World → Prop}

/-- Does operation j wait for operation i? -/
def waits (md : Region.Mode) (ops : Array Oper) : Nat → Nat → Nat → Bool
  | 0, _, _ => false
  | fuel + 1, j, i => match ops[j]? with
    | some o => o.after.any fun e => Region.binds md e && (e.on == i || waits md ops fuel e.on i)
    | none => false
/-- What is listed has all that it waits for listed. -/
def Closed (md : Region.Mode) (ops : Array Oper) (listed : Array Bool) : Prop :=
  ∀ j o, ops[j]? = some o → listed.getD j false = true → ∀ e ∈ o.after, Region.binds md e = true → listed.getD e.on false = true
theorem waits_listed {listed : Array Bool} (hc : Closed md ops listed) : ∀ (fuel j i : Nat), (∀ o, ops[j]? = some o → ∀ e ∈ o.after, Region.binds md e = true → listed.getD e.on false = true) → waits md ops fuel j i = true → listed.getD i false = true
  | 0, _, _, _, h => by cases h
  | fuel + 1, j, i, hj, h => by
    unfold waits at h
    cases ho : ops[j]? with
    | none => rw [ho] at h; cases h
    | some o =>
      rw [ho] at h
      obtain ⟨e, he, hb⟩ := Array.any_eq_true'.1 h
      simp only [Bool.and_eq_true, Bool.or_eq_true, beq_iff_eq] at hb
      have hl := hj o ho e he hb.1
      rcases hb.2 with rfl | hw
      · exact hl
      · exact waits_listed hc fuel e.on i (fun o' ho' e' he' hb' => hc e.on o' ho' hl e' he' hb') hw
theorem Closed.set {listed : Array Bool} (hc : Closed md ops listed) {i : Nat} (hi : i ∈ Region.ready md ops listed) : Closed md ops (listed.setIfInBounds i true) := by
  intro j o ho hl e he hb
  obtain ⟨_, oi, hoi, hall⟩ := mem_ready.1 hi
  by_cases hji : i = j
  · subst hji
    rw [hoi] at ho; cases ho
    exact getD_set_true (hall e he hb)
  · rw [getD_set_ne false hji] at hl
    exact getD_set_true (hc j o ho hl e he hb)
/-- The first m operations are listed, of n. -/
def first (m n : Nat) : Array Bool := ((List.range n).map fun i => decide (i < m)).toArray
theorem first_getD (m n i : Nat) (h : i < n) (d : Bool) : (first m n).getD i d = decide (i < m) := by simp [first, h]
theorem first_size (m n : Nat) : (first m n).size = n := by simp [first]
theorem first_set (m n : Nat) : (first m n).setIfInBounds m true = first (m + 1) n := by
  apply Array.ext (by simp [first])
  intro i h1 h2
  simp [first, Array.getElem_setIfInBounds] at h1 ⊢
  by_cases h : m = i
  · simp [h]
  · simp [h]; omega
theorem first_zero (n : Nat) : first 0 n = Array.replicate n false := by
  refine Array.ext (by simp [first]) fun i h1 h2 => ?_
  simp [first]
/-- The last ones are listed in thought, from k on. -/
def mark (k : Nat) (listed : Array Bool) : Array Bool := listed.mapIdx fun i b => b || decide (k ≤ i)
theorem mark_getD (k : Nat) (listed : Array Bool) (i : Nat) (d : Bool) (h : i < listed.size) : (mark k listed).getD i d = (listed.getD i d || decide (k ≤ i)) := by
  simp [mark, h]
theorem mark_set (k : Nat) (listed : Array Bool) (i : Nat) : mark k (listed.setIfInBounds i true) = (mark k listed).setIfInBounds i true := by
  refine Array.ext (by simp [mark]) fun j h1 h2 => ?_
  by_cases h : i = j <;> simp [mark, Array.getElem_setIfInBounds, h]
/-- The quiet ones, in the text's order. -/
def lexTo (md : Region.Mode) (ops : Array Oper) : Nat → Nat → Array Bool → Bool
  | 0, _, listed => (Region.ready md ops listed).isEmpty
  | m + 1, k, listed => (Region.ready md ops listed).contains k && Region.free md ops listed k && lexTo md ops m (k + 1) (listed.setIfInBounds k true)
theorem lexTo_any {Q : Act → Prop} (hs : Region.noSelect ops = true) : ∀ (l : List Oper) (k : Nat) (listed : Array Bool) (a : Act), (∀ j, j < l.length → l[j]? = ops[k + j]?) →
    lexTo md ops l.length k listed = true → wpQuiet P ops C Q l a → wpAnyQ P md ops C Q l.length listed a
  | [], _, _, _, _, hB, h => ⟨by simpa [lexTo] using hB, h⟩
  | o :: l, k, listed, a, hl, hB, h => by
    have h0 : ops[k]? = some o := by simpa using (hl 0 (by simp)).symm
    simp only [List.length_cons, lexTo, Bool.and_eq_true] at hB
    obtain ⟨⟨hr, hf⟩, hB'⟩ := hB
    have hst : qOp P ops C k (wpQuiet P ops C Q l) a := by unfold qOp; simp only [h0]; exact h
    obtain ⟨v, hy, hK⟩ := yieldsIn_of_qOp h0 hst
    exact wpAnyQ_first h0 (Region.noSelect_spec hs) l.length listed a (Region.free_spec h0 hf) (by simpa using hr) hy
      (lexTo_any hs l (k + 1) _ _ (fun j hj => by have := hl (j + 1) (by simpa using hj); simpa [Nat.add_assoc, Nat.add_comm 1 j] using this) hB' hK)
theorem wpAny_more : ∀ (fuel : Nat) (listed : Array Bool) (a : Act) (w : World), wpAny P md ops Q fuel listed a w → ∀ m, fuel ≤ m → wpAny P md ops Q m listed a w
  | 0, _, _, _, h, m, _ => wpAny_done h.1 h.2 m
  | fuel + 1, _, _, _, h, m, hm => by
    obtain ⟨m, rfl⟩ : ∃ k, m = k + 1 := ⟨m - 1, by omega⟩
    exact ⟨h.1, fun i hi => wpOp_mono (fun a w h => wpAny_more fuel _ a w h m (by omega)) (h.2 i hi)⟩
/-- The last ones, one behind the other. -/
def tailB (md : Region.Mode) (ops : Array Oper) : Nat → Nat → Bool
  | 0, j => (Region.ready md ops (first j ops.size)).isEmpty
  | m + 1, j => decide (Region.ready md ops (first j ops.size) = [j]) && tailB md ops m (j + 1)
theorem last_any : ∀ (r : List Oper) (j : Nat) (a : Act) (w : World), (∀ i, i < r.length → r[i]? = ops[j + i]?) → tailB md ops r.length j = true → wpList P ops Q r a w → wpAny P md ops Q r.length (first j ops.size) a w
  | [], j, a, w, _, hB, h => wpAny_done (by simpa [tailB] using hB) h 0
  | o :: r, j, a, w, hr, hB, h => by
    simp only [List.length_cons, tailB, Bool.and_eq_true, decide_eq_true_iff] at hB
    refine wpAny_all hB.1 (by simp) fun i hi => ?_
    obtain rfl : i = j := by simpa using hi
    have h0 : ops[i]? = some o := by simpa using (hr 0 (by simp)).symm
    unfold wpOp
    simp only [h0]
    have key := fun a w => last_any r (i + 1) a w (fun q hq => by have := hr (q + 1) (by simpa using hq); simpa [Nat.add_assoc, Nat.add_comm 1 q] using this) hB.2
    rw [first_set]
    unfold wpList at h
    split
    · rename_i hw
      rw [if_pos hw] at h
      exact h.imp (Oper.wp_mono key) id
    · rename_i hw
      rw [if_neg hw] at h
      exact key _ _ h
/-- Both. -/
theorem both_any {k : Nat} (hk : k ≤ ops.size) (hback : ∀ (j : Nat) o, ops[j]? = some o → ∀ e ∈ o.after, Region.binds md e = true → e.on < j)
    (hlate : ∀ j, k ≤ j → j < ops.size → ∀ i, i < k → waits md ops ops.size j i = true) {Qm : Act → Prop} {fuel2 : Nat}
    (hq : ∀ a w, C w → Qm a → wpAny P md ops Q fuel2 (first k ops.size) a w) :
    ∀ (fuel : Nat) (listed : Array Bool) (a : Act) (w : World), listed.size = ops.size → (∀ j, k ≤ j → listed.getD j false = false) → Closed md ops listed → C w → wpAnyQ P md ops C Qm fuel (mark k listed) a → wpAny P md ops Q (fuel + fuel2) listed a w := by
  -- nothing is ready in thought: the first k are listed
  have hall : ∀ listed : Array Bool, listed.size = ops.size → (∀ j, k ≤ j → listed.getD j false = false) → Region.ready md ops (mark k listed) = [] → listed = first k ops.size := by
    intro listed hs ht hr
    have hpre : ∀ i, i < k → listed.getD i false = true := by
      intro i
      induction i using Nat.strongRecOn with
      | ind i ih =>
        intro hi
        by_cases hl : listed.getD i false = true
        · exact hl
        · exfalso
          obtain ⟨o, ho⟩ : ∃ o, ops[i]? = some o := ⟨ops[i]'(by omega), by simp⟩
          have : i ∈ Region.ready md ops (mark k listed) := mem_ready.2 ⟨by
            rw [mark_getD _ _ _ _ (by omega)]
            have : listed.getD i true = false := by
              have h1 : i < listed.size := by omega
              simp [h1] at hl ⊢; exact hl
            rw [this]; simp; omega, o, ho, fun e he hb => by
            have hlt := hback i o ho e he hb
            rw [mark_getD _ _ _ _ (by omega), ih e.on hlt (by omega)]; rfl⟩
          rw [hr] at this; cases this
    apply Array.ext (by rw [hs, first_size])
    intro i h1 h2
    by_cases hik : i < k
    · have := hpre i hik
      simp [h1] at this
      simp [first, this, hik]
    · have := ht i (by omega)
      simp [h1] at this
      simp [first, this, hik]
  intro fuel
  induction fuel with
  | zero =>
    intro listed a w hs ht hc hw h
    obtain ⟨hr, hQ⟩ := h
    rw [hall listed hs ht hr, Nat.zero_add]
    exact hq a w hw hQ
  | succ fuel ih =>
    intro listed a w hs ht hc hw h
    by_cases hr : Region.ready md ops (mark k listed) = []
    · rw [hall listed hs ht hr]
      exact wpAny_more fuel2 _ _ _ (hq a w hw (h.1 hr)) _ (by omega)
    · rw [show fuel + 1 + fuel2 = (fuel + fuel2) + 1 from by omega]
      have hpick : ∀ i ∈ Region.ready md ops listed, i < k ∧ i ∈ Region.ready md ops (mark k listed) := by
        intro i hi
        obtain ⟨hun, o, ho, hal⟩ := mem_ready.1 hi
        have hio : i < ops.size := (Array.getElem?_eq_some_iff.1 ho).1
        by_cases hik : i < k
        · refine ⟨hik, mem_ready.2 ⟨?_, o, ho, fun e he hb => ?_⟩⟩
          · rw [mark_getD _ _ _ _ (by omega), hun]; simp; omega
          · have hlt := hback i o ho e he hb
            rw [mark_getD _ _ _ _ (by omega), hal e he hb]; rfl
        · exfalso
          apply hr
          have hfull : ∀ q, q < k → listed.getD q false = true := fun q hqk =>
            waits_listed hc ops.size i q (fun o' ho' e he hb => by rw [ho] at ho'; cases ho'; exact hal e he hb) (hlate i (by omega) hio q hqk)
          rw [List.eq_nil_iff_forall_not_mem]
          intro j hj
          obtain ⟨hun', oj, hoj, _⟩ := mem_ready.1 hj
          have hjs : j < ops.size := (Array.getElem?_eq_some_iff.1 hoj).1
          rw [mark_getD _ _ _ _ (by omega)] at hun'
          simp at hun'
          have := hfull j (by omega)
          have h1 : j < listed.size := by omega
          simp [h1] at this hun'
          rw [this] at hun'; simp at hun'
      refine ⟨fun h0 => ?_, fun i hi => ?_⟩
      · exfalso; apply hr
        rw [List.eq_nil_iff_forall_not_mem]
        intro j hj
        obtain ⟨hun', oj, hoj, hal⟩ := mem_ready.1 hj
        have hjs : j < ops.size := (Array.getElem?_eq_some_iff.1 hoj).1
        rw [mark_getD _ _ _ _ (by omega)] at hun'
        simp only [Bool.or_eq_false_iff, decide_eq_false_iff_not, Nat.not_le] at hun'
        have : j ∈ Region.ready md ops listed := mem_ready.2 ⟨hun'.1, oj, hoj, fun e he hb => by
          have hlt := hback j oj hoj e he hb
          have h2 := hal e he hb
          rw [mark_getD _ _ _ _ (by omega)] at h2
          simp only [Bool.or_eq_true, decide_eq_true_iff] at h2
          rcases h2 with h2 | h2
          · exact h2
          · omega⟩
        rw [h0] at this; cases this
      · obtain ⟨hik, him⟩ := hpick i hi
        refine wpOp_of_qOp hw (fun a' w' hw' hk' => ih (listed.setIfInBounds i true) a' w' (by simpa using hs) (fun j hj => by rw [getD_set_ne false (by omega)]; exact ht j hj) (hc.set hi) hw' ?_) (h.2 i him)
        rw [mark_set]; exact hk'
/-- What is asked of a region, for the first k to be taken in the text's order, and the others behind them. -/
def thenB (ops : Array Oper) (k : Nat) : Bool :=
  Region.noSelect ops && decide (k ≤ ops.size) && (List.range ops.size).all (fun j => match ops[j]? with | some o => o.after.all fun e => !Region.binds .any e || decide (e.on < j) | none => true)
  && (List.range ops.size).all (fun j => !decide (k ≤ j) || (List.range k).all fun i => waits .any ops ops.size j i)
  && lexTo .any ops k 0 (mark k (first 0 ops.size)) && tailB .any ops (ops.size - k) k
theorem wp_region_then {id : Nat} {a : Act} {w : World} (k : Nat) (hm : P.follows .mixedOrders = true) (hB : thenB ops k = true) (hC : C { w with drawn := w.drawn + 1 })
    (h : wpQuiet P ops C (fun a' => ∀ w', C w' → wpList P ops Q (ops.toList.drop k) a' w') (ops.toList.take k) a) : (Code.region id ops true).wp P Q a w := by
  simp only [thenB, Bool.and_eq_true, decide_eq_true_iff] at hB
  obtain ⟨⟨⟨⟨⟨hs, hk⟩, hback⟩, hlate⟩, hlex⟩, hlast⟩ := hB
  have hlt : (ops.toList.take k).length = k := by simp [hk]
  have hld : (ops.toList.drop k).length = ops.size - k := by simp
  refine wp_region_any hm ?_
  have h1 := lexTo_any (md := .any) hs (ops.toList.take k) 0 (mark k (first 0 ops.size)) a (fun j hj => by rw [hlt] at hj; simp [hj]) (by rw [hlt]; exact hlex) h
  have h2 := both_any (P := P) (Q := Q) (C := C) (md := .any) hk (fun j o ho e he hb => by
      have := (List.all_eq_true.1 hback) j (by simp; exact (Array.getElem?_eq_some_iff.1 ho).1)
      rw [ho] at this
      have := (Array.all_eq_true_iff_forall_mem.1 this) e he
      simpa [hb] using this) (fun j hkj hj i hi => by
      have := (List.all_eq_true.1 hlate) j (by simpa using hj)
      simp only [Bool.or_eq_true, Bool.not_eq_true', decide_eq_false_iff_not, List.all_eq_true] at this
      rcases this with h | h
      · omega
      · exact h i (by simpa using hi))
    (fuel2 := ops.size - k) (fun a' w' hw' hq => by
      have := last_any (P := P) (Q := Q) (md := .any) (ops.toList.drop k) k a' w' (fun i hi => by simp) (by rw [hld]; exact hlast) (hq w' hw')
      rwa [hld] at this)
    (ops.toList.take k).length (first 0 ops.size) a _ (first_size _ _) (fun j hj => by
      by_cases hjs : j < ops.size
      · rw [first_getD _ _ _ hjs]; simp
      · simp [first, hjs]) (fun j o ho hl => by
      have hjs : j < ops.size := (Array.getElem?_eq_some_iff.1 ho).1
      rw [first_getD _ _ _ hjs] at hl; simp at hl) hC h1
  rw [hlt, show k + (ops.size - k) = ops.size from by omega, first_zero] at h2
  exact h2
end
section
variable {P : Program} {ops : Array Oper} {md : Region.Mode} {S : World → Prop} {Q : Exit → Act → World → Prop} {sole : Nat → Bool}
variable {k : Nat} {o : Oper} {rest : List Oper} {a : Act} {w : World}
end
end Go.Proofs.YtbgooppmhgaicaaDoor

namespace Go.Proofs.YtbgooppmhgaicaaDoor
set_option maxRecDepth 100000
set_option linter.unusedVariables false
set_option linter.unusedSimpArgs false
open Go.RowKit

theorem info5 : (Tryd.prog.info? 5).map (fun i => (i.zero, i.size, i.bytes)) = some (some (.int .u8 0), 1, 1) := by kernel_rfl
/-- A row of bytes that may be written. -/
def MutB (w : World) (b : Nat) (l : List UInt8) : Prop := b < w.heap.size ∧ ∀ i, i < l.length → w.cell? ⟨b, i, none⟩ = some (.int .u8 (l.getD i 0).toNat) ∧ w.frozen? ⟨b, i, none⟩ = false
theorem MutB.set {w : World} {b : Nat} {l : List UInt8} (h : MutB w b l) (j : Nat) (c : UInt8) (hj : j < l.length) : MutB (w.setCell ⟨b, j, none⟩ (.int .u8 c.toNat)) b (l.set j c) := by
  refine ⟨by simp [World.setCell]; exact h.1, fun i hi => ?_⟩
  rw [List.length_set] at hi
  obtain ⟨h1, h2⟩ := h.2 i hi
  refine ⟨?_, by rw [World.frozen?_setCell]; exact h2⟩
  by_cases hij : j = i
  · subst hij
    rw [World.cell?_setCell_same _ _ _ h1]; simp [List.getD_eq_getElem?_getD, hi]
  · rw [World.cell?_setCell_other _ _ _ _ (by intro e; exact hij (congrArg Addr.off e)), h1]
    simp [List.getD_eq_getElem?_getD, List.getElem?_set_ne hij]
theorem bytes_below (w : World) (s : ByteArray) : Below w.heap.size w (Lib.bytesWorld w 5 s) :=
  ⟨rfl, rfl, rfl, by rw [Lib.bytesWorld_size]; exact Nat.le_succ _, fun k hk => Lib.bytesWorld_at_old w 5 s k hk⟩
end Go.Proofs.YtbgooppmhgaicaaDoor

namespace Go.Proofs.YtbgooppmhgaicaaDoor
set_option linter.unusedVariables false
set_option linter.unusedSimpArgs false
open Go.RowKit

inductive Scr where
  | done : Scr
  | take : Nat → Scr → Scr
  | one : Nat → Scr → Scr
  | two : Nat → Scr → Nat → Scr → Scr
  | three : Nat → Scr → Nat → Scr → Nat → Scr → Scr
  | to : (World → Prop) → Scr → Scr
def Scr.depth : Scr → Nat
  | .done => 0
  | .take _ s => s.depth + 1
  | .one _ s => s.depth + 1
  | .two _ s _ t => max s.depth t.depth + 1
  | .three _ s _ t _ u => max s.depth (max t.depth u.depth) + 1
  | .to _ s => s.depth
def Scr.chk (md : Region.Mode) (ops : Array Oper) : Scr → Array Bool → Bool
  | .done, L => (Region.ready md ops L).isEmpty
  | .take k s, L => (Region.ready md ops L).contains k && Region.free md ops L k && s.chk md ops (L.setIfInBounds k true)
  | .one k s, L => decide (Region.ready md ops L = [k]) && s.chk md ops (L.setIfInBounds k true)
  | .two k s j t, L => decide (Region.ready md ops L = [k, j]) && s.chk md ops (L.setIfInBounds k true) && t.chk md ops (L.setIfInBounds j true)
  | .three k s j t i u, L => decide (Region.ready md ops L = [k, j, i]) && s.chk md ops (L.setIfInBounds k true) && t.chk md ops (L.setIfInBounds j true) && u.chk md ops (L.setIfInBounds i true)
  | .to _ s, L => s.chk md ops L
section
variable {P : Program} {ops : Array Oper} {md : Region.Mode} {Q : Exit → Act → World → Prop}
def opW (P : Program) (ops : Array Oper) (Q : Exit → Act → World → Prop) (S : World → Prop) (k : Nat) (K : Act → World → Prop) (a : Act) (w : World) : Prop :=
  ∃ o, ops[k]? = some o ∧ Region.wanted o (yielded ops a.tmps) = true ∧ o.wp P a w (fun a' w' => S w' ∧ K a' w') Q
def wpScr (P : Program) (ops : Array Oper) (Q : Exit → Act → World → Prop) : Scr → (World → Prop) → Act → World → Prop
  | .done, _, a, w => Q .normal a w
  | .take k s, S, a, w => ∃ o v, ops[k]? = some o ∧ YieldsIf P ops S o v a ∧ wpScr P ops Q s S (a.put o.dst v) w
  | .one k s, S, a, w => opW P ops Q S k (wpScr P ops Q s S) a w
  | .two k s j t, S, a, w => opW P ops Q S k (wpScr P ops Q s S) a w ∧ opW P ops Q S j (wpScr P ops Q t S) a w
  | .three k s j t i u, S, a, w => opW P ops Q S k (wpScr P ops Q s S) a w ∧ opW P ops Q S j (wpScr P ops Q t S) a w ∧ opW P ops Q S i (wpScr P ops Q u S) a w
  | .to S' s, S, a, w => S' w ∧ (∀ w, S' w → S w) ∧ wpScr P ops Q s S' a w
theorem wpAnyH_wide {S S' : World → Prop} (h : ∀ w, S' w → S w) : ∀ (fuel : Nat) (L : Array Bool) (a : Act) (w : World), wpAnyH P md ops Q S' fuel L a w → wpAnyH P md ops Q S fuel L a w
  | 0, _, _, _, hh => hh
  | fuel + 1, _, _, _, hh => ⟨hh.1, fun i hi => wpOp_mono (fun a' w' h' => ⟨h _ h'.1, wpAnyH_wide h fuel _ a' w' h'.2⟩) (hh.2 i hi)⟩
theorem opW.op {S : World → Prop} {k : Nat} {K : Act → World → Prop} {a : Act} {w : World} (h : opW P ops Q S k K a w) : wpOp P ops Q k (fun a' w' => S w' ∧ K a' w') a w := by
  obtain ⟨o, ho, hw, hp⟩ := h
  unfold wpOp
  simp only [ho]
  rw [if_pos hw]
  exact .inl hp
theorem scrH (hs : Region.noSelect ops = true) (hQ : ∀ c (a : Act) (d : Option Tmp) (v : Value) (w : World), Q (.panic c) (a.put d v) w → Q (.panic c) a w) :
    ∀ (s : Scr) (S : World → Prop) (fuel : Nat) (L : Array Bool) (a : Act) (w : World), s.depth ≤ fuel → s.chk md ops L = true → S w → wpScr P ops Q s S a w → wpAnyH P md ops Q S fuel L a w
  | .done, S, fuel, L, a, w, _, hc, _, h => wpAnyH_done (by simpa [Scr.chk] using hc) h fuel
  | .take k s, S, fuel, L, a, w, hd, hc, hS, h => by
    obtain ⟨o, v, ho, hy, hK⟩ := h
    simp only [Scr.chk, Bool.and_eq_true] at hc
    obtain ⟨m, rfl⟩ : ∃ m, fuel = m + 1 := ⟨fuel - 1, by simp only [Scr.depth] at hd; omega⟩
    exact wpAnyH_take ho hs hc.1.2 hc.1.1 (fun c a w => hQ c a _ _ w) hy hS (scrH hs hQ s S m _ _ _ (by simp only [Scr.depth] at hd; omega) hc.2 hS hK)
  | .one k s, S, fuel, L, a, w, hd, hc, hS, h => by
    simp only [Scr.chk, Bool.and_eq_true, decide_eq_true_iff] at hc
    obtain ⟨m, rfl⟩ : ∃ m, fuel = m + 1 := ⟨fuel - 1, by simp only [Scr.depth] at hd; omega⟩
    refine wpAnyH_all hc.1 (by simp) fun i hi => ?_
    obtain rfl : i = k := by simpa using hi
    exact wpOp_mono (fun a' w' h' => ⟨h'.1, scrH hs hQ s S m _ _ _ (by simp only [Scr.depth] at hd; omega) hc.2 h'.1 h'.2⟩) (opW.op h)
  | .two k s j t, S, fuel, L, a, w, hd, hc, hS, h => by
    simp only [Scr.chk, Bool.and_eq_true, decide_eq_true_iff] at hc
    obtain ⟨m, rfl⟩ : ∃ m, fuel = m + 1 := ⟨fuel - 1, by simp only [Scr.depth] at hd; omega⟩
    refine wpAnyH_all hc.1.1 (by simp) fun i hi => ?_
    have hi' : i = k ∨ i = j := by simpa using hi
    rcases hi' with rfl | rfl
    · exact wpOp_mono (fun a' w' h' => ⟨h'.1, scrH hs hQ s S m _ _ _ (by simp only [Scr.depth] at hd; omega) hc.1.2 h'.1 h'.2⟩) (opW.op h.1)
    · exact wpOp_mono (fun a' w' h' => ⟨h'.1, scrH hs hQ t S m _ _ _ (by simp only [Scr.depth] at hd; omega) hc.2 h'.1 h'.2⟩) (opW.op h.2)
  | .three k s j t i u, S, fuel, L, a, w, hd, hc, hS, h => by
    simp only [Scr.chk, Bool.and_eq_true, decide_eq_true_iff] at hc
    obtain ⟨m, rfl⟩ : ∃ m, fuel = m + 1 := ⟨fuel - 1, by simp only [Scr.depth] at hd; omega⟩
    refine wpAnyH_all hc.1.1.1 (by simp) fun q hq => ?_
    have hq' : q = k ∨ q = j ∨ q = i := by simpa using hq
    rcases hq' with rfl | rfl | rfl
    · exact wpOp_mono (fun a' w' h' => ⟨h'.1, scrH hs hQ s S m _ _ _ (by simp only [Scr.depth] at hd; omega) hc.1.1.2 h'.1 h'.2⟩) (opW.op h.1)
    · exact wpOp_mono (fun a' w' h' => ⟨h'.1, scrH hs hQ t S m _ _ _ (by simp only [Scr.depth] at hd; omega) hc.1.2 h'.1 h'.2⟩) (opW.op h.2.1)
    · exact wpOp_mono (fun a' w' h' => ⟨h'.1, scrH hs hQ u S m _ _ _ (by simp only [Scr.depth] at hd; omega) hc.2 h'.1 h'.2⟩) (opW.op h.2.2)
  | .to S' s, S, fuel, L, a, w, hd, hc, hS, h => by
    obtain ⟨h1, h2, h3⟩ := h
    exact wpAnyH_wide h2 fuel L a w (scrH hs hQ s S' fuel L a w hd hc h1 h3)
theorem wp_region_scr {id : Nat} {a : Act} {w : World} (S : World → Prop) (s : Scr) (hm : P.follows .mixedOrders = true) (hs : Region.noSelect ops = true) (hQ : ∀ c (a : Act) (d : Option Tmp) (v : Value) (w : World), Q (.panic c) (a.put d v) w → Q (.panic c) a w)
    (hd : s.depth ≤ ops.size) (hc : s.chk .any ops (Array.replicate ops.size false) = true) (hS : S { w with drawn := w.drawn + 1 }) (h : wpScr P ops Q s S a { w with drawn := w.drawn + 1 }) : (Code.region id ops true).wp P Q a w :=
  wp_region_held (S := S) hm (scrH hs hQ s S _ _ _ _ hd hc hS h)
variable {S : World → Prop} {k : Nat} {o : Oper} {s : Scr} {a : Act} {w : World} {K : Act → World → Prop}
theorem s_val {v : Value} (ho : ops[k]? = some o) (hw : Region.wanted o (yielded ops a.tmps) = true) (hv : ∀ w, S w → (execOp a.eval o).run P w = .ok (.value v) w) (h : wpScr P ops Q s S (a.put o.dst v) w) : wpScr P ops Q (.take k s) S a w :=
  ⟨o, v, ho, .inl ⟨hw, hv⟩, h⟩
theorem o_call {v : Value} (ho : ops[k]? = some o) (hw : Region.wanted o (yielded ops a.tmps) = true) (f : FuncId) (args : Array Value) (hop : (execOp a.eval o).run P w = .ok (.enter f args) w) {R : World → Prop} (hc : Calls P f args w fun e w' => e = .returned v ∧ R w')
    (h : ∀ w', R w' → S w' ∧ K (a.put o.dst v) w') : opW P ops Q S k K a w := by
  refine ⟨o, ho, hw, ?_⟩
  unfold Oper.wp
  rw [hop]
  exact hc.mono fun e w' ⟨he, hr⟩ => by subst he; exact h w' hr
end
end Go.Proofs.YtbgooppmhgaicaaDoor

namespace Go.Proofs.YtbgooppmhgaicaaDoor.Rt
set_option maxRecDepth 100000
set_option linter.unusedVariables false
set_option linter.unusedSimpArgs false
open Go.RowKit

/-- A struct type T of k cells, each of one, and its zero value. -/
structure RT (P : Program) (T k : Nat) (z : List Value) : Prop where
  zl : z.length = k
  ut : (∃ fs, P.underlying T = some (.struct fs)) ∨ (∃ n e, P.underlying T = some (.array n e))
  info : (P.info? T).map (fun i => (i.zero, i.size)) = some (some (.agg z.toArray), k)
variable {P : Program} {T k : Nat} {z : List Value}
theorem RT.parts (R : RT P T k z) : ∃ i0, P.info? T = some i0 ∧ i0.zero = some (.agg z.toArray) ∧ i0.size = k := by
  have h := R.info
  cases hi : P.info? T with
  | none => rw [hi] at h; cases h
  | some i0 =>
    rw [hi] at h
    simp only [Option.map_some, Option.some.injEq, Prod.mk.injEq] at h
    exact ⟨i0, rfl, h.1, h.2⟩
theorem RT.isz (R : RT P T k z) : (P.info? T).map (·.size) = some k := by
  obtain ⟨i0, hi, hz0, hz1⟩ := R.parts
  rw [hi]; simp [hz1]
theorem RT.size (R : RT P T k z) {xs : List Value} (h : xs.length = k) : (P.info? T).map (·.size) = some xs.toArray.size := by rw [R.isz]; simp [h]
theorem RT.sz (R : RT P T k z) (w : World) : (sizeOf T).run P w = .ok k w := by
  obtain ⟨i0, hi, hz0, hz1⟩ := R.parts
  simp [sizeOf, typeInfo, hi, hz1]
theorem RT.zero (R : RT P T k z) (w : World) : (zeroValue T).run P w = .ok (.agg z.toArray) w := by
  obtain ⟨i0, hi, hz0, hz1⟩ := R.parts
  simp [zeroValue, typeInfo, hi, hz0]
/-- What a step to a new world leaves: all blocks but one stand, and as many as there were. -/
structure Stp (b : Nat) (w W : World) : Prop where
  size : W.heap.size = w.heap.size
  other : ∀ c, c ≠ b → W.heap[c]? = w.heap[c]?
  below : ∀ N, N ≤ b → Below N w W
theorem Stp.setRow (w : World) (b : Nat) (xs : Array Value) : Stp b w (w.setRow b xs) := ⟨by simp, fun c hc => setRow_other w b c xs hc, fun N hN => below_setRow (Below.refl N w) hN xs⟩
theorem Stp.arr {w W : World} {b c t : Nat} {xs : List Value} (h : Stp b w W) (hc : c ≠ b) (ha : Arr w c t xs) : Arr W c t xs := (h.other c hc).trans ha
theorem Stp.below' {w0 w W : World} {b N : Nat} (h : Stp b w W) (hb : Below N w0 w) (hN : N ≤ b) : Below N w0 W := hb.trans (h.below N hN)
theorem Stp.trans {w W V : World} {b : Nat} (h : Stp b w W) (k : Stp b W V) : Stp b w V := ⟨k.size.trans h.size, fun c hc => (k.other c hc).trans (h.other c hc), fun N hN => (h.below N hN).trans (k.below N hN)⟩
/-- A new block b that holds xs. -/
structure NewAt (w W : World) (b t : Nat) (xs : List Value) : Prop where
  at_ : b = w.heap.size
  size : W.heap.size = b + 1
  arr : Arr W b t xs
  below : Below w.heap.size w W
theorem NewAt.mk' (w : World) (t : Nat) (xs : List Value) : NewAt w (w.alloc (.cells xs.toArray t)) w.heap.size t xs := ⟨rfl, by simp, Arr.new _ _ _, (Below.refl _ w).alloc (Nat.le_refl _) _⟩
theorem NewAt.old {w W : World} {b t c u : Nat} {xs ys : List Value} (h : NewAt w W b t xs) (ha : Arr w c u ys) : Arr W c u ys := ha.below h.below ha.lt
theorem NewAt.lt {w W : World} {b t : Nat} {xs : List Value} (h : NewAt w W b t xs) : b < W.heap.size := h.arr.lt
theorem NewAt.put {w W W' : World} {b t : Nat} {xs : List Value} (h : NewAt w W b t xs) (k : Stp b W W') : Below w.heap.size w W' := h.below.trans (k.below _ (by rw [h.at_]; exact Nat.le_refl _))
theorem NewAt.le {w W : World} {b t : Nat} {xs : List Value} (h : NewAt w W b t xs) : w.heap.size ≤ b := by rw [h.at_]; exact Nat.le_refl _
section
variable {ops : Array Oper} {rest : List Oper} {o : Oper} {a : Act} {w : World} {Q : Exit → Act → World → Prop}
theorem wpL_new (R : RT P T k z) (d : Option Tmp) (hd : o.dst = d) (hgd : o.guard = none) (ho : o.op = .alloc T)
    (h : ∀ b W, NewAt w W b T z → wpList P ops Q rest (a.put o.dst (.pointer (some ⟨b, 0, none⟩))) W) : wpList P ops Q (o :: rest) a w := by
  refine wpList_plain hgd fun K hK => ?_
  have := hK _ _ (h w.heap.size (w.alloc (.cells z.toArray T)) (NewAt.mk' _ _ _))
  unfold Oper.wp execOp
  simp only [ho, Instr.alloc, Sem.run_bind, Result.andThen_ok, R.zero w]
  simp [newVar, newRow, Value.cells]
  exact this
theorem wpL_box (T : TypeId) (hgd : o.guard = none) (x : Operand) (ho : o.op = .box T x) (xs : List Value) (hx : a.eval x = .agg xs.toArray)
    (h : ∀ b W, NewAt w W b T xs → wpList P ops Q rest (a.put o.dst (.pointer (some ⟨b, 0, none⟩))) W) : wpList P ops Q (o :: rest) a w := by
  refine wpList_plain hgd fun K hK => ?_
  have := hK _ _ (h w.heap.size (w.alloc (.cells xs.toArray T)) (NewAt.mk' _ _ _))
  unfold Oper.wp execOp
  simp only [ho, Instr.box, Sem.run_bind, Result.andThen_ok, hx]
  simp [newVar, newRow, Value.cells]
  exact this
theorem wpL_put (R : RT P T k z) (hgd : o.guard = none) (x y : Operand) (ho : o.op = .store T x y) (b : Nat) (xs : List Value) (hx : a.eval x = .pointer (some ⟨b, 0, none⟩)) (hy : a.eval y = .agg xs.toArray) (hl : xs.length = k)
    (h1 : ∀ v ∈ xs, v.oneCell' = true) (ys : List Value) (hl2 : ys.length = k) (hg : Arr w b T ys)
    (h : ∀ W, Arr W b T xs → Stp b w W → wpList P ops Q rest (a.put o.dst undef) W) : wpList P ops Q (o :: rest) a w :=
  wpList_store_row hgd T x y ho b xs.toArray hx hy T _ hg (R.size hl) (by simp [hl, hl2]) (by rw [Array.all_eq_true]; intro i hi; exact h1 _ (by simp)) (h _ (Arr.row hg _) (Stp.setRow _ _ _))
theorem wpL_get (R : RT P T k z) (hw : Region.wanted o (yielded ops a.tmps) = true) (x : Operand) (ho : o.op = .load T x) (b : Nat) (xs : List Value) (hx : a.eval x = .pointer (some ⟨b, 0, none⟩)) (hl : xs.length = k) (hg : Arr w b T xs)
    (h : wpList P ops Q rest (a.put o.dst (.agg xs.toArray)) w) : wpList P ops Q (o :: rest) a w := by
  rcases R.ut with ⟨fs, hu⟩ | ⟨n, e, hu⟩
  · exact wpList_load_row_g hw T x ho b hx T _ (0, 0) _ hg hu rfl (R.size hl) h
  · exact wpList_load_row_g hw T x ho b hx T _ (0, 0) _ hg hu rfl (R.size hl) h
/-- A literal, whose cells are said. -/
theorem wpL_build (hw : Region.wanted o (yielded ops a.tmps) = true) (T : TypeId) (parts : Array (Nat × Operand)) (ho : o.op = .build T parts) (xs : List Value)
    (hb : P.built T (parts.map fun (i, x) => (i, a.eval x)).toList = some xs.toArray)
    (h : wpList P ops Q rest (a.put o.dst (.agg xs.toArray)) w) : wpList P ops Q (o :: rest) a w := by
  refine wpList_step fun K hK => ?_
  rw [if_pos hw]
  have := hK _ _ h
  unfold Oper.wp execOp
  simp only [ho, Sem.run_bind, run_build w T _ _ hb, Result.andThen_ok]
  exact this
end
section
variable {ops : Array Oper} {Q : Exit → Act → World → Prop} {S : World → Prop} {j : Nat} {o : Oper} {s : Scr} {a : Act} {w : World} {K : Act → World → Prop}
theorem s_skip (ho : ops[j]? = some o) (hw : Region.wanted o (yielded ops a.tmps) = false) (h : wpScr P ops Q s S (a.put o.dst undef) w) : wpScr P ops Q (.take j s) S a w :=
  ⟨o, undef, ho, .inr ⟨hw, rfl⟩, h⟩
end
end Go.Proofs.YtbgooppmhgaicaaDoor.Rt

namespace Go.Proofs.YtbgooppmhgaicaaDoor.Rw
set_option maxRecDepth 100000
set_option linter.unusedVariables false
set_option linter.unusedSimpArgs false
open Go.RowKit Go.Proofs.YtbgooppmhgaicaaDoor.Rt

/-- A type of elements: 'ST' a slice of it, k cells, 'by_' bytes, its zero value. -/
structure RowTy (P : Program) (ST T k by_ : Nat) (z : List Value) : Prop where
  kp : 0 < k
  km : k ≤ 64
  bm : by_ ≤ 65536
  zl : z.length = k
  us : P.underlying ST = some (.slice T)
  el : P.elem ST = T
  ut : ∃ fs, P.underlying T = some (.struct fs)
  info : (P.info? T).map (fun i => (i.zero, i.size, i.bytes)) = some (some (.agg z.toArray), k, by_)
variable {P : Program} {ST T k by_ : Nat} {z : List Value}
theorem RowTy.isz (R : RowTy P ST T k by_ z) : (P.info? T).map (·.size) = some k := by
  obtain ⟨i0, hi, hz0, hz1, hz2⟩ := info_parts R.info
  rw [hi]; simp [hz1]
theorem RowTy.size (R : RowTy P ST T k by_ z) {xs : List Value} (h : xs.length = k) : (P.info? T).map (·.size) = some xs.toArray.size := by rw [R.isz]; simp [h]
theorem RowTy.sz (R : RowTy P ST T k by_ z) (w : World) : (sizeOf T).run P w = .ok k w := by
  obtain ⟨i0, hi, hz0, hz1, hz2⟩ := info_parts R.info
  simp [sizeOf, typeInfo, hi, hz1]
theorem RowTy.zero (R : RowTy P ST T k by_ z) (w : World) : (zeroValue T).run P w = .ok (.agg z.toArray) w := by
  obtain ⟨i0, hi, hz0, hz1, hz2⟩ := info_parts R.info
  simp [zeroValue, typeInfo, hi, hz0]
theorem addr_addR (b o k : Nat) : (⟨b, o, none⟩ : Addr).add k = ⟨b, o + k, none⟩ := by unfold Addr.add; split <;> simp_all

/-- Each element has its k cells. -/
def AllK (k : Nat) (es : List (List Value)) : Prop := ∀ e ∈ es, e.length = k
def One1 (es : List (List Value)) : Prop := ∀ e ∈ es, ∀ v ∈ e, v.oneCell' = true
theorem AllK.nil : AllK k [] := fun _ h => by cases h
theorem AllK.get {es : List (List Value)} (h : AllK k es) (i : Nat) (hi : i < es.length) : es[i].length = k := h _ (List.getElem_mem hi)
theorem AllK.take {es : List (List Value)} (h : AllK k es) (n : Nat) : AllK k (es.take n) := fun x hx => h x (List.mem_of_mem_take hx)
theorem AllK.drop {es : List (List Value)} (h : AllK k es) (n : Nat) : AllK k (es.drop n) := fun x hx => h x (List.mem_of_mem_drop hx)
theorem AllK.app {a b : List (List Value)} (h : AllK k a) (g : AllK k b) : AllK k (a ++ b) := fun x hx => (List.mem_append.1 hx).elim (h x) (g x)
theorem AllK.one {a : List Value} (h : a.length = k) : AllK k [a] := fun x hx => by simp at hx; subst hx; exact h
theorem One1.take {es : List (List Value)} (h : One1 es) (n : Nat) : One1 (es.take n) := fun x hx => h x (List.mem_of_mem_take hx)
theorem One1.drop {es : List (List Value)} (h : One1 es) (n : Nat) : One1 (es.drop n) := fun x hx => h x (List.mem_of_mem_drop hx)
theorem One1.app {a b : List (List Value)} (h : One1 a) (g : One1 b) : One1 (a ++ b) := fun x hx => (List.mem_append.1 hx).elim (h x) (g x)
theorem One1.flat {es : List (List Value)} (h : One1 es) : ∀ v ∈ es.flatten, v.oneCell' = true := by
  intro v hv
  obtain ⟨e, he, hv⟩ := List.mem_flatten.1 hv
  exact h e he v hv
theorem flat_len {es : List (List Value)} (h : AllK k es) : es.flatten.length = k * es.length := by
  induction es with
  | nil => rfl
  | cons a r ih =>
    rw [List.flatten_cons, List.length_append, ih (fun x hx => h x (by simp [hx])), h a (by simp), List.length_cons, Nat.mul_add]; omega
theorem rAt_app {w : World} {b o : Nat} {xs ys : List Value} : w.rangeAt b o (xs ++ ys) ↔ w.rangeAt b o xs ∧ w.rangeAt b (o + xs.length) ys := by
  constructor
  · intro h
    refine ⟨fun j v hv => h j v ?_, fun j v hv => ?_⟩
    · rw [List.getElem?_append_left (List.getElem?_eq_some_iff.1 hv).1]; exact hv
    · have := h (xs.length + j) v (by rw [List.getElem?_append_right (by omega)]; simpa using hv)
      rw [Nat.add_assoc]; exact this
  · rintro ⟨h1, h2⟩ j v hv
    by_cases hj : j < xs.length
    · rw [List.getElem?_append_left hj] at hv; exact h1 j v hv
    · rw [List.getElem?_append_right (by omega)] at hv
      have := h2 (j - xs.length) v hv
      rw [show o + xs.length + (j - xs.length) = o + j from by omega] at this; exact this
theorem rAt_take {w : World} {b o : Nat} {es : List (List Value)} (h : w.rangeAt b o es.flatten) (n : Nat) : w.rangeAt b o (es.take n).flatten := by
  rw [← List.take_append_drop n es, List.flatten_append, rAt_app] at h; exact h.1
theorem rAt_drop {w : World} {b o : Nat} {es : List (List Value)} (h : w.rangeAt b o es.flatten) (hk : AllK k es) (n : Nat) (hn : n ≤ es.length) : w.rangeAt b (o + k * n) (es.drop n).flatten := by
  rw [← List.take_append_drop n es, List.flatten_append, rAt_app, flat_len (hk.take n), List.length_take, Nat.min_eq_left hn] at h; exact h.2
theorem rAt_nth {w : World} {b o : Nat} {es : List (List Value)} (h : w.rangeAt b o es.flatten) (hk : AllK k es) (i : Nat) (hi : i < es.length) : w.rangeAt b (o + k * i) es[i] := by
  have h2 := rAt_drop h hk i (by omega)
  rw [List.drop_eq_getElem_cons hi, List.flatten_cons, rAt_app] at h2
  exact h2.1
/-- A slice of elements in memory. -/
def RsAt (k : Nat) (w : World) (v : Value) (es : List (List Value)) : Prop :=
  AllK k es ∧ ((v = .slice none 0 0 ∧ es = []) ∨ ∃ B o c, v = .slice (some ⟨B, o, none⟩) es.length c ∧ es.length ≤ c ∧ B < w.heap.size ∧ w.rangeAt B o es.flatten)
theorem RsAt.nil (w : World) : RsAt k w (.slice none 0 0) [] := ⟨AllK.nil, .inl ⟨rfl, rfl⟩⟩
theorem RsAt.below {w w' : World} {v : Value} {es : List (List Value)} (h : RsAt k w v es) {B : Nat} (hb : Below B w w') (hB : w.heap.size ≤ B) (hs : w.heap.size ≤ w'.heap.size) : RsAt k w' v es := by
  refine ⟨h.1, h.2.imp id ?_⟩
  rintro ⟨b, o, c, rfl, hc, hlt, hr⟩
  exact ⟨b, o, c, rfl, hc, by omega, rangeAt_below hr hb (by omega)⟩
theorem RsAt.to {w w' : World} {v : Value} {es : List (List Value)} (h : RsAt k w v es) (hb : Below w.heap.size w w') : RsAt k w' v es := h.below hb (Nat.le_refl _) hb.size
theorem RsAt.form {w : World} {v : Value} {es : List (List Value)} (h : RsAt k w v es) : ∃ a c, v = .slice a es.length c := by
  rcases h.2 with ⟨rfl, rfl⟩ | ⟨B, o, c, rfl, _⟩
  · exact ⟨none, 0, rfl⟩
  · exact ⟨_, c, rfl⟩
theorem RsAt.get {w : World} {v : Value} {es : List (List Value)} (h : RsAt k w v es) (hp : 0 < es.length) : ∃ B o c, v = .slice (some ⟨B, o, none⟩) es.length c ∧ es.length ≤ c ∧ B < w.heap.size ∧ w.rangeAt B o es.flatten := by
  rcases h.2 with ⟨rfl, rfl⟩ | h
  · simp at hp
  · exact h
/-- A row of the call's own. -/
def OwnR (T k : Nat) (w : World) (B : Nat) (v : Value) (es : List (List Value)) : Prop := AllK k es ∧ w.ownsRow B T k v es.length es.flatten
theorem OwnR.nil (w : World) (B : Nat) : OwnR T k w B (.slice none 0 0) [] := ⟨AllK.nil, World.ownsRow_nil w B _ k⟩
theorem OwnR.rs {w : World} {B : Nat} {v : Value} {es : List (List Value)} (h : OwnR T k w B v es) : RsAt k w v es := by
  refine ⟨h.1, ?_⟩
  have h' := h.2
  rcases h'.2 with ⟨rfl, hn⟩ | ⟨g, cap, cur, rfl, _, hg, hle, _⟩
  · exact .inl ⟨rfl, List.eq_nil_of_length_eq_zero hn⟩
  · refine .inr ⟨g, 0, cap, rfl, hle, (Array.getElem?_eq_some_iff.1 hg).1, fun j u hj => ?_⟩
    have := World.ownsRow.cells h.2 (g := g) rfl j u hj
    rw [addr_addR] at this; exact this
theorem OwnR.to {w w' : World} {B C : Nat} {v : Value} {es : List (List Value)} (h : OwnR T k w B v es) (hb : Below C w w') (hC : w.heap.size ≤ C) : OwnR T k w' B v es := by
  refine ⟨h.1, h.2.1, ?_⟩
  rcases h.2.2 with h0 | ⟨g, cap, cur, e, hB, hg, r⟩
  · exact .inl h0
  · exact .inr ⟨g, cap, cur, e, hB, (hb.block g (by have := (Array.getElem?_eq_some_iff.1 hg).1; omega)).trans hg, r⟩
theorem OwnR.base {w : World} {B C : Nat} {v : Value} {es : List (List Value)} (h : OwnR T k w B v es) (hC : C ≤ B) : OwnR T k w C v es := by
  refine ⟨h.1, h.2.1, ?_⟩
  rcases h.2.2 with h0 | ⟨g, cap, cur, e, hB, r⟩
  · exact .inl h0
  · exact .inr ⟨g, cap, cur, e, by omega, r⟩
/-- A row of one's own with an element at least: its block. -/
theorem OwnR.blk {w : World} {B : Nat} {v : Value} {es : List (List Value)} (h : OwnR T k w B v es) (hp : 0 < es.length) :
    ∃ g cap cur, v = .slice (some ⟨g, 0, none⟩) es.length cap ∧ B ≤ g ∧ Arr w g T cur ∧ es.length ≤ cap ∧ cap ≤ maxLen ∧ cur.length = cap * k ∧ cur.take (k * es.length) = es.flatten := by
  rcases h.2.2 with ⟨_, h0⟩ | ⟨g, cap, cur, e, hB, hg, h1, h2, h3, h4⟩
  · omega
  · exact ⟨g, cap, cur.toList, e, hB, by unfold Arr; simpa using hg, h1, h2, by simpa using h3, by rw [Nat.mul_comm]; exact h4⟩
theorem OwnR.of_arr {w : World} {B g cap : Nat} {cur : List Value} {es : List (List Value)} (hk : AllK k es) (ha : Arr w g T cur) (hB : B ≤ g) (h1 : es.length ≤ cap) (h2 : cap ≤ maxLen) (h3 : cur.length = cap * k) (h4 : cur.take (k * es.length) = es.flatten) :
    OwnR T k w B (.slice (some ⟨g, 0, none⟩) es.length cap) es :=
  ⟨hk, by rw [flat_len hk, Nat.mul_comm], .inr ⟨g, cap, cur.toArray, rfl, hB, ha, h1, h2, by simpa using h3, by rw [Nat.mul_comm]; simpa using h4⟩⟩

section
variable {ops : Array Oper} {rest : List Oper} {o : Oper} {a : Act} {w : World} {Q : Exit → Act → World → Prop}
theorem wpL_newR (R : RowTy P ST T k by_ z) (hgd : o.guard = none) (ho : o.op = .alloc T)
    (h : ∀ b W, NewAt w W b T z → wpList P ops Q rest (a.put o.dst (.pointer (some ⟨b, 0, none⟩))) W) : wpList P ops Q (o :: rest) a w := by
  refine wpList_plain hgd fun K hK => ?_
  have := hK _ _ (h w.heap.size (w.alloc (.cells z.toArray T)) (NewAt.mk' _ _ _))
  unfold Oper.wp execOp
  simp only [ho, Instr.alloc, Sem.run_bind, Result.andThen_ok, R.zero w]
  simp [newVar, newRow, Value.cells]
  exact this
theorem wpL_boxR (T : TypeId) (hgd : o.guard = none) (x : Operand) (ho : o.op = .box T x) (xs : List Value) (hx : a.eval x = .agg xs.toArray)
    (h : ∀ b W, NewAt w W b T xs → wpList P ops Q rest (a.put o.dst (.pointer (some ⟨b, 0, none⟩))) W) : wpList P ops Q (o :: rest) a w := by
  refine wpList_plain hgd fun K hK => ?_
  have := hK _ _ (h w.heap.size (w.alloc (.cells xs.toArray T)) (NewAt.mk' _ _ _))
  unfold Oper.wp execOp
  simp only [ho, Instr.box, Sem.run_bind, Result.andThen_ok, hx]
  simp [newVar, newRow, Value.cells]
  exact this
theorem wpL_putR (R : RowTy P ST T k by_ z) (hgd : o.guard = none) (x y : Operand) (ho : o.op = .store T x y) (b : Nat) (xs : List Value) (hx : a.eval x = .pointer (some ⟨b, 0, none⟩)) (hy : a.eval y = .agg xs.toArray) (hl : xs.length = k)
    (h1 : ∀ v ∈ xs, v.oneCell' = true) (ys : List Value) (hl2 : ys.length = k) (hg : Arr w b T ys)
    (h : ∀ W, Arr W b T xs → Stp b w W → wpList P ops Q rest (a.put o.dst undef) W) : wpList P ops Q (o :: rest) a w :=
  wpList_store_row hgd T x y ho b xs.toArray hx hy T _ hg (R.size hl) (by simp [hl, hl2]) (by rw [Array.all_eq_true]; intro i hi; exact h1 _ (by simp)) (h _ (Arr.row hg _) (Stp.setRow _ _ _))
theorem wpL_getR (R : RowTy P ST T k by_ z) (hgd : o.guard = none) (x : Operand) (ho : o.op = .load T x) (b : Nat) (xs : List Value) (hx : a.eval x = .pointer (some ⟨b, 0, none⟩)) (hl : xs.length = k) (hg : Arr w b T xs)
    (h : wpList P ops Q rest (a.put o.dst (.agg xs.toArray)) w) : wpList P ops Q (o :: rest) a w := by
  obtain ⟨fs, hu⟩ := R.ut
  exact wpList_load_row hgd T x ho b hx T _ (0, 0) _ hg hu rfl (R.size hl) h
theorem wpL_atR (R : RowTy P ST T k by_ z) (hgd : o.guard = none) (x : Operand) (ho : o.op = .load T x) (b off : Nat) (xs : List Value) (hx : a.eval x = .pointer (some ⟨b, off, none⟩)) (hl : xs.length = k) (hg : w.rangeAt b off xs)
    (h : wpList P ops Q rest (a.put o.dst (.agg xs.toArray)) w) : wpList P ops Q (o :: rest) a w := by
  obtain ⟨fs, hu⟩ := R.ut
  exact wpList_load_mid hgd T x ho b off hx xs _ hg hu rfl (by have := R.size hl; simpa using this) h
theorem run_idxR (R : RowTy P ST T k by_ z) (B off n c i : Nat) (hi : i < n) (w : World) : (Instr.indexAt ST (.slice (some ⟨B, off, none⟩) n c) (.int .i64 (i : Int))).run P w = .ok (.pointer (some ⟨B, off + k * i, none⟩)) w := by
  rw [run_indexAt_slice (P := P) w ST ⟨B, off, none⟩ n c .i64 (i : Int) (by rw [R.el]; exact R.us), if_pos (by omega), R.el, R.sz]
  simp [Result.andThen, addr_addR, Nat.mul_comm]
theorem wpL_idxR (R : RowTy P ST T k by_ z) (hgd : o.guard = none) (x y : Operand) (ho : o.op = .indexAddr ST x y) (B off n c i : Nat) (hx : a.eval x = .slice (some ⟨B, off, none⟩) n c) (hy : a.eval y = .int .i64 (i : Int)) (hi : i < n)
    (h : wpList P ops Q rest (a.put o.dst (.pointer (some ⟨B, off + k * i, none⟩))) w) : wpList P ops Q (o :: rest) a w := by
  refine wpList_plain hgd fun K hK => ?_
  have := hK _ _ h
  unfold Oper.wp execOp
  simp only [ho, hx, hy, Sem.run_bind, run_idxR R B off n c i hi, Result.andThen_ok]
  exact this
theorem run_toR (R : RowTy P ST T k by_ z) (B off n c i : Nat) (hi : i ≤ c) (w : World) : (Instr.sliceAt ST (.slice (some ⟨B, off, none⟩) n c) none (some (.int .i64 (i : Int))) none).run P w = .ok (.slice (some ⟨B, off, none⟩) i c) w := by
  rw [run_sliceAt_slice (P := P) (w := w) ST _ _ _ _ (by rw [R.el]; exact R.us)]
  rw [run_slice_h (P := P) (w := w) ST (some ⟨B, off, none⟩) n c (by rw [R.el]; exact R.us) .i64 (i : Int) (by omega) (by omega), R.el, R.sz]
  simp [Result.andThen, sliced, addr_addR]
theorem run_fromR (R : RowTy P ST T k by_ z) (B off n c i : Nat) (hi : i ≤ n) (w : World) : (Instr.sliceAt ST (.slice (some ⟨B, off, none⟩) n c) (some (.int .i64 (i : Int))) none none).run P w = .ok (.slice (some ⟨B, if c = i then off else off + k * i, none⟩) (n - i) (c - i)) w := by
  rw [run_sliceAt_slice (P := P) (w := w) ST _ _ _ _ (by rw [R.el]; exact R.us)]
  rw [run_slice_l (P := P) (w := w) ST (some ⟨B, off, none⟩) n c (by rw [R.el]; exact R.us) .i64 (i : Int) (by omega) (by omega), R.el, R.sz]
  simp only [Result.andThen, sliced, Int.toNat_natCast]
  split <;> simp [addr_addR, Nat.mul_comm]
theorem wpL_toR (R : RowTy P ST T k by_ z) (hgd : o.guard = none) (x y : Operand) (ho : o.op = .slice ST x none (some y) none) (B off n c i : Nat) (hx : a.eval x = .slice (some ⟨B, off, none⟩) n c) (hy : a.eval y = .int .i64 (i : Int)) (hi : i ≤ c)
    (h : wpList P ops Q rest (a.put o.dst (.slice (some ⟨B, off, none⟩) i c)) w) : wpList P ops Q (o :: rest) a w := by
  refine wpList_plain hgd fun K hK => ?_
  have := hK _ _ h
  unfold Oper.wp execOp
  simp only [ho, hx, hy, Option.map_none, Option.map_some, Sem.run_bind, run_toR R B off n c i hi, Result.andThen_ok]
  exact this
theorem wpL_fromR (R : RowTy P ST T k by_ z) (hgd : o.guard = none) (x y : Operand) (ho : o.op = .slice ST x (some y) none none) (B off n c i : Nat) (hx : a.eval x = .slice (some ⟨B, off, none⟩) n c) (hy : a.eval y = .int .i64 (i : Int)) (hi : i ≤ n)
    (h : wpList P ops Q rest (a.put o.dst (.slice (some ⟨B, if c = i then off else off + k * i, none⟩) (n - i) (c - i))) w) : wpList P ops Q (o :: rest) a w := by
  refine wpList_plain hgd fun K hK => ?_
  have := hK _ _ h
  unfold Oper.wp execOp
  simp only [ho, hx, hy, Option.map_none, Option.map_some, Sem.run_bind, run_fromR R B off n c i hi, Result.andThen_ok]
  exact this
/-- 'append(s, x...)' of elements onto a row of one's own. -/
theorem wpL_appR (R : RowTy P ST T k by_ z) (hgd : o.guard = none) (s x : Operand) (ho : o.op = .call { callee := .builtin .append, args := #[s, x], argTypes := #[ST, ST] }) (B g off c : Nat) (v : Value) (es fs : List (List Value)) (m : Nat)
    (hv : a.eval s = v) (hx : a.eval x = .slice (some ⟨g, off, none⟩) m c) (hm : fs.length = m) (hown : OwnR T k w B v es) (hg : w.rangeAt g off fs.flatten) (hk : AllK k fs) (h1 : One1 fs) (hB : B ≤ w.heap.size) (hn : es.length + m ≤ 1048576)
    (h : ∀ v' W, OwnR T k W B v' (es ++ fs) → w.grownBy W v.ownBlock → Below B w W → wpList P ops Q rest (a.put o.dst v') W) : wpList P ops Q (o :: rest) a w := by
  obtain ⟨i0, hi, hz0, hz1, hz2⟩ := info_parts R.info
  have hb := R.bm
  refine wpList_append_own w hgd s x ST ho B T i0 _ k by_ R.us hi hz0 hz1 hz2 (by simp [Value.cells, R.zl]) R.kp v es.length es.flatten hv hown.2 ⟨g, off, none⟩ m c fs.flatten hx ?_ ?_ h1.flat ?_ ?_ hB ?_
  · rw [flat_len hk, hm, Nat.mul_comm]
  · intro j u hj
    rw [addr_addR]; exact hg j u hj
  · unfold maxLen; omega
  · have h1 : (es.length + m) * by_ ≤ 1048576 * 65536 := Nat.mul_le_mul hn hb
    omega
  · intro v' W h1 h2 _
    refine h v' W ⟨hown.1.app hk, ?_⟩ h2 ((Below.refl B w).grown h2 hB fun k hk => (World.ownsRow.lt hown.2 k hk).1)
    rw [List.length_append, List.flatten_append, hm]; exact h1
end
theorem foldSetR (l : List Value) : ∀ (k off : Nat) (cs : Array Value), off + k + l.length ≤ cs.size →
    ((l.zipIdx k).foldl (fun cs (x : Value × Nat) => cs.setIfInBounds (off + x.2) x.1) cs).toList = cs.toList.take (off + k) ++ l ++ cs.toList.drop (off + k + l.length) := by
  induction l with
  | nil => intro k off cs h; simp
  | cons x l ih =>
    intro k off cs h
    simp only [List.length_cons] at h
    rw [List.zipIdx_cons, List.foldl_cons, ih (k + 1) off _ (by simp; omega)]
    simp only [Array.toList_setIfInBounds, List.length_cons]
    have h1 : off + k < cs.toList.length := by simp; omega
    rw [List.take_set, List.drop_set, if_pos (by omega)]
    have e1 : (cs.toList.take (off + (k + 1))).set (off + k) x = cs.toList.take (off + k) ++ [x] := by
      rw [show off + (k + 1) = (off + k) + 1 from by omega, List.take_add_one, List.getElem?_eq_getElem h1]
      rw [List.set_append_right _ _ (by rw [List.length_take]; omega), List.length_take, Nat.min_eq_left (by omega), Nat.sub_self]; rfl
    rw [e1, show off + (k + 1) + l.length = off + k + (l.length + 1) from by omega]
    simp
theorem run_bs1R (R : RowTy P ST T k by_ z) (x : List Value) (hx : x.length = k) (w : World) : (Instr.buildSlice ST 1 #[(0, .agg x.toArray)]).run P w = .ok (.slice (some ⟨w.heap.size, 0, none⟩) 1 1) (w.alloc (.cells x.toArray T)) := by
  obtain ⟨i0, hi, hz0, hz1, hz2⟩ := info_parts R.info
  have hkm := R.km; have hkp := R.kp
  refine run_buildSlice w ST T 1 _ _ i0 _ R.us hi hz0 (by rw [hz1]; omega) (by rw [hz1]; omega) ?_
  rw [hz1]
  have hsz : ((Array.range (1 * k)).map ((Value.agg z.toArray).cells[· % (Value.agg z.toArray).cells.size]!)).size = k := by simp
  have e := foldSetR x 0 0 ((Array.range (1 * k)).map ((Value.agg z.toArray).cells[· % (Value.agg z.toArray).cells.size]!)) (by rw [hsz]; omega)
  have hc : (Value.agg x.toArray).cells = x.toArray := rfl
  conv => lhs; unfold Instr.fill
  dsimp only
  rw [if_neg (by rw [hc]; simp; omega), hc]
  unfold Instr.fill
  congr 1
  rw [← Array.toList_inj, ← Array.foldl_toList]
  simp only [Nat.zero_mul, Nat.zero_add, List.take_zero, List.nil_append] at e
  rw [List.drop_of_length_le (by simp [hx]), List.append_nil] at e
  simpa using e
section
variable {ops : Array Oper} {rest : List Oper} {o : Oper} {a : Act} {w : World} {Q : Exit → Act → World → Prop}
theorem wpL_bs1R (R : RowTy P ST T k by_ z) (hgd : o.guard = none) (x : Operand) (ho : o.op = .buildSlice ST 1 #[(0, x)]) (l : List Value) (hx : a.eval x = .agg l.toArray) (hl : l.length = k)
    (h : ∀ b W, NewAt w W b T l → wpList P ops Q rest (a.put o.dst (.slice (some ⟨b, 0, none⟩) 1 1)) W) : wpList P ops Q (o :: rest) a w := by
  refine wpList_plain hgd fun K hK => ?_
  have := hK _ _ (h w.heap.size (w.alloc (.cells l.toArray T)) (NewAt.mk' _ _ _))
  unfold Oper.wp execOp
  simp only [ho, List.map_toArray, List.map_cons, List.map_nil, hx, Sem.run_bind, run_bs1R R l hl, Result.andThen_ok]
  exact this
end
theorem stp_trans {w W X : World} {b : Nat} (h : Stp b w W) (k : Stp b W X) : Stp b w X :=
  ⟨k.size.trans h.size, fun c hc => (k.other c hc).trans (h.other c hc), fun N hN => (h.below N hN).trans (k.below N hN)⟩
theorem stp_cell (w : World) (b i : Nat) (v : Value) : Stp b w (w.setCell ⟨b, i, none⟩ v) := ⟨by simp, fun c hc => Below.heap_setCell w ⟨b, i, none⟩ v c hc, fun N hN => (Below.refl N w).setCell (p := ⟨b, i, none⟩) hN v⟩
theorem stp_same (w : World) (b : Nat) : Stp b w w := ⟨rfl, fun _ _ => rfl, fun N _ => Below.refl N w⟩
theorem setCells_stp (b : Nat) : ∀ (vs : List Value) (o : Nat) (w : World), Stp b w (w.setCells b o vs)
  | [], _, w => stp_same w b
  | v :: r, o, w => by rw [World.setCells]; exact stp_trans (stp_cell w b o v) (setCells_stp b r (o + 1) _)
theorem setCells_arr {b t : Nat} : ∀ (vs : List Value) (o : Nat) (w : World) (xs : List Value), Arr w b t xs → o + vs.length ≤ xs.length → Arr (w.setCells b o vs) b t (xs.take o ++ vs ++ xs.drop (o + vs.length))
  | [], o, w, xs, ha, _ => by simpa [World.setCells] using ha
  | v :: r, o, w, xs, ha, hl => by
    simp only [List.length_cons] at hl
    have h := setCells_arr r (o + 1) _ (xs.set o v) (ha.set o v) (by simp; omega)
    rw [World.setCells]
    have e1 : (xs.set o v).take (o + 1) = xs.take o ++ [v] := by
      rw [List.take_set, List.take_add_one, List.getElem?_eq_getElem (show o < xs.length by omega)]
      rw [List.set_append_right _ _ (by rw [List.length_take]; omega), List.length_take, Nat.min_eq_left (by omega), Nat.sub_self]; rfl
    have e2 : (xs.set o v).drop (o + 1 + r.length) = xs.drop (o + (r.length + 1)) := by
      rw [List.drop_set, if_pos (by omega)]; congr 1; omega
    rw [e1, e2] at h
    simpa using h
/-- 'copy(d, s)' of elements: all is read before anything is written. -/
theorem run_copyR (R : RowTy P ST T k by_ z) (w : World) (ty : TypeId) (b o dLen dCap : Nat) (ga go sLen sCap : Nat) (fs : List (List Value)) (xs : List Value) (t : Nat)
    (hn : fs.length = min sLen dLen) (hk : AllK k fs) (h1 : One1 fs) (hsrc : w.rangeAt ga go fs.flatten) (ha : Arr w b t xs) (hl : o + k * fs.length ≤ xs.length) :
    (Builtin.copy_ #[ST, ST] ty #[.slice (some ⟨b, o, none⟩) dLen dCap, .slice (some ⟨ga, go, none⟩) sLen sCap]).run P w = .ok (goInt fs.length) (w.setCells b o fs.flatten) := by
  obtain ⟨i0, hi, hz0, hz1, hz2⟩ := info_parts R.info
  have hfl := flat_len hk
  have hlo := run_loadCells_list (P := P) (w := w) ⟨ga, go, none⟩ fs.flatten (fun j v hj => by rw [addr_addR]; exact hsrc j v hj)
  have hst := run_storeCells_cells (P := P) b o fs.flatten 0 w (by
    intro j hj
    rw [ha.cell (o + 0 + j) (by rw [hfl] at hj; omega)]; rfl) (fun j hj => ha.frozen _) h1.flat
  rw [hfl, Nat.mul_comm] at hlo
  simp [Builtin.copy_, run_underlying R.us, Builtin.lenOf, Builtin.firstCells, sizeOf, typeInfo, hi, hz1, ← hn, hlo, hst]
section
variable {ops : Array Oper} {rest : List Oper} {o : Oper} {a : Act} {w : World} {Q : Exit → Act → World → Prop}
theorem wpL_fromV (R : RowTy P ST T k by_ z) (hgd : o.guard = none) (x y : Operand) (ho : o.op = .slice ST x (some y) none none) (B off n c i : Nat) (hx : a.eval x = .slice (some ⟨B, off, none⟩) n c) (hy : a.eval y = .int .i64 (i : Int)) (hi : i ≤ n)
    (v : Value) (hv : Value.slice (some ⟨B, if c = i then off else off + k * i, none⟩) (n - i) (c - i) = v) (h : wpList P ops Q rest (a.put o.dst v) w) : wpList P ops Q (o :: rest) a w :=
  wpL_fromR R hgd x y ho B off n c i hx hy hi (by rw [hv]; exact h)
theorem wpL_copyRun (hgd : o.guard = none) (d s : Operand) (t t' : TypeId) (ho : o.op = .call { callee := .builtin .copy, args := #[d, s], argTypes := #[t, t'] }) (v u : Value) (hd : a.eval d = v) (hs : a.eval s = u) {v' : Value} {w' : World}
    (hr : (Builtin.copy_ #[t, t'] o.type #[v, u]).run P w = .ok v' w') (h : wpList P ops Q rest (a.put o.dst v') w') : wpList P ops Q (o :: rest) a w := by
  refine wpList_plain hgd fun K hK => ?_
  have := hK _ _ h
  unfold Oper.wp execOp
  simp only [ho, resolve, invoke, builtin, Sem.run_bind, Sem.run_pure, Result.andThen_ok, List.map_toArray, List.map_cons, List.map_nil, hd, hs, hr]
  exact this
theorem wpL_appRun (hgd : o.guard = none) (d s : Operand) (t t' : TypeId) (ho : o.op = .call { callee := .builtin .append, args := #[d, s], argTypes := #[t, t'] }) (v u : Value) (hd : a.eval d = v) (hs : a.eval s = u) {v' : Value} {w' : World}
    (hr : (Builtin.append_ #[t, t'] o.type #[v, u]).run P w = .ok v' w') (h : wpList P ops Q rest (a.put o.dst v') w') : wpList P ops Q (o :: rest) a w := by
  refine wpList_plain hgd fun K hK => ?_
  have := hK _ _ h
  unfold Oper.wp execOp
  simp only [ho, resolve, invoke, builtin, Sem.run_bind, Sem.run_pure, Result.andThen_ok, List.map_toArray, List.map_cons, List.map_nil, hd, hs, hr]
  exact this
end
section
variable {ops : Array Oper} {Q : Exit → Act → World → Prop} {S : World → Prop} {j : Nat} {o : Oper} {s : Scr} {a : Act} {w : World} {K : Act → World → Prop}
theorem s_fromR (R : RowTy P ST T k by_ z) (ho : ops[j]? = some o) (hw : Region.wanted o (yielded ops a.tmps) = true) (x y : Operand) (hop : o.op = .slice ST x (some y) none none) (B off n c i : Nat) (hx : a.eval x = .slice (some ⟨B, off, none⟩) n c) (hy : a.eval y = .int .i64 (i : Int)) (hi : i ≤ n)
    (v : Value) (hv : Value.slice (some ⟨B, if c = i then off else off + k * i, none⟩) (n - i) (c - i) = v) (h : wpScr P ops Q s S (a.put o.dst v) w) : wpScr P ops Q (.take j s) S a w :=
  s_val ho hw (fun w hS => by
    unfold execOp
    simp only [hop, hx, hy, Option.map_none, Option.map_some, Sem.run_bind, run_fromR R B off n c i hi, Result.andThen_ok, Sem.run_pure, hv]) h
theorem s_idxR (R : RowTy P ST T k by_ z) (ho : ops[j]? = some o) (hw : Region.wanted o (yielded ops a.tmps) = true) (x y : Operand) (hop : o.op = .indexAddr ST x y) (B off n c i : Nat) (hx : a.eval x = .slice (some ⟨B, off, none⟩) n c) (hy : a.eval y = .int .i64 (i : Int)) (hi : i < n)
    (h : wpScr P ops Q s S (a.put o.dst (.pointer (some ⟨B, off + k * i, none⟩))) w) : wpScr P ops Q (.take j s) S a w :=
  s_val ho hw (fun w hS => by
    unfold execOp
    simp only [hop, hx, hy, Sem.run_bind, run_idxR R B off n c i hi, Result.andThen_ok]; rfl) h
theorem s_getR (R : RowTy P ST T k by_ z) (ho : ops[j]? = some o) (hw : Region.wanted o (yielded ops a.tmps) = true) (x : Operand) (hop : o.op = .load T x) (b : Nat) (xs : List Value) (hx : a.eval x = .pointer (some ⟨b, 0, none⟩)) (hl : xs.length = k) (hg : ∀ w, S w → Arr w b T xs)
    (h : wpScr P ops Q s S (a.put o.dst (.agg xs.toArray)) w) : wpScr P ops Q (.take j s) S a w := by
  obtain ⟨fs, hu⟩ := R.ut
  exact s_val ho hw (fun w hS => by
    unfold execOp
    simp only [hop, hx, Instr.loadAt, Instr.sureAddr, Sem.run_bind, Sem.run_pure, Result.andThen_ok, run_loadVar_row (P := P) w b T T _ (0, 0) _ (hg w hS) hu rfl (R.size hl)]) h
theorem s_skip (ho : ops[j]? = some o) (hw : Region.wanted o (yielded ops a.tmps) = false) (h : wpScr P ops Q s S (a.put o.dst undef) w) : wpScr P ops Q (.take j s) S a w :=
  ⟨o, undef, ho, .inr ⟨hw, rfl⟩, h⟩
theorem o_copyV (ho : ops[j]? = some o) (hw : Region.wanted o (yielded ops a.tmps) = true) (d x : Operand) (t u : TypeId)
    (hop : o.op = .call { callee := .builtin .copy, args := #[d, x], argTypes := #[t, u] }) (dv xv v : Value) (w' : World) (hd : a.eval d = dv) (hx : a.eval x = xv)
    (hrun : (Builtin.copy_ #[t, u] o.type #[dv, xv]).run P w = .ok v w') (hS : S w') (h : K (a.put o.dst v) w') : opW P ops Q S j K a w := by
  refine ⟨o, ho, hw, ?_⟩
  unfold Oper.wp
  simp [execOp, hop, resolve, invoke, builtin, hd, hx, hrun, Result.andThen]
  exact ⟨hS, h⟩
end
/-- An element goes in between: into a new row, into the row itself. -/
theorem ins_grow {row A x D : List Value} {k i n : Nat} (hA : A.length = k * i) (hr : row.take (k * i) = A) (hx : x.length = k) (hD : D.length = k * (n - i)) (hi : i ≤ n) (hl : k * (n + 1) ≤ row.length) :
    ((row.take (k * i) ++ x ++ row.drop (k * i + k)).take (k * (i + 1)) ++ D ++ (row.take (k * i) ++ x ++ row.drop (k * i + k)).drop (k * (i + 1) + D.length)).take (k * (n + 1)) = A ++ x ++ D := by
  have e1 : k * (i + 1) = (A ++ x).length := by rw [List.length_append, hA, hx]; rw [Nat.mul_add]; omega
  have e2 : k * (n + 1) = (A ++ x ++ D).length := by
    rw [List.length_append, List.length_append, hA, hx, hD]
    have : k * (n - i) = k * n - k * i := Nat.mul_sub k n i
    have h2 : k * i ≤ k * n := Nat.mul_le_mul_left k hi
    rw [Nat.mul_add]; omega
  rw [hr, e1, List.take_left, e2, List.take_left]
theorem ins_shift {row A x D : List Value} {k i n : Nat} (hA : A.length = k * i) (hr : row.take (k * n) = A ++ D) (hx : x.length = k) (hD : D.length = k * (n - i)) (hi : i ≤ n) (hl : k * (n + 1) ≤ row.length) :
    ((row.take (k * (i + 1)) ++ D ++ row.drop (k * (i + 1) + D.length)).take (k * i) ++ x ++ (row.take (k * (i + 1)) ++ D ++ row.drop (k * (i + 1) + D.length)).drop (k * i + x.length)).take (k * (n + 1)) = A ++ x ++ D := by
  have h2 : k * i ≤ k * n := Nat.mul_le_mul_left k hi
  have h3 : k * (n - i) = k * n - k * i := Nat.mul_sub k n i
  have h4 : k * (i + 1) = k * i + k := by rw [Nat.mul_add]; omega
  have h5 : k * (n + 1) = k * n + k := by rw [Nat.mul_add]; omega
  have hrow : row = A ++ D ++ row.drop (k * n) := by rw [← hr, List.take_append_drop]
  obtain ⟨Z, hZ⟩ : ∃ Z, row.drop (k * n) = Z := ⟨_, rfl⟩
  have t1 : (row.take (k * (i + 1))).length = k * i + k := by rw [List.length_take]; omega
  have t2 : (row.take (k * (i + 1)) ++ D ++ row.drop (k * (i + 1) + D.length)).take (k * i) = A := by
    rw [List.append_assoc, List.take_append_of_le_length (by omega), List.take_take, Nat.min_eq_left (by omega)]
    have : row.take (k * i) = (row.take (k * n)).take (k * i) := by rw [List.take_take, Nat.min_eq_left h2]
    rw [this, hr, ← hA, List.take_left]
  have t3 : (row.take (k * (i + 1)) ++ D ++ row.drop (k * (i + 1) + D.length)).drop (k * i + x.length) = D ++ row.drop (k * (i + 1) + D.length) := by
    rw [List.append_assoc, hx, ← t1, List.drop_left]
  rw [t2, t3]
  have e2 : k * (n + 1) = (A ++ x ++ D).length := by rw [List.length_append, List.length_append, hA, hx, hD]; omega
  rw [← List.append_assoc, e2, List.take_left]
end Go.Proofs.YtbgooppmhgaicaaDoor.Rw

namespace Go.Proofs.YtbgooppmhgaicaaDoor.Mm
set_option maxRecDepth 100000
set_option linter.unusedVariables false
set_option linter.unusedSimpArgs false
open Go.RowKit Go.Proofs.YtbgooppmhgaicaaDoor.Rt

/-- A variable: its block, its type, its cells. -/
structure Bx where
  b : Nat
  t : Nat
  r : List Value
/-- From the world w0 on all below N stands, and these variables are there, the newest one first. -/
structure M (N : Nat) (w0 w : World) (L : List Bx) : Prop where
  below : Below N w0 w
  le : N ≤ w.heap.size
  ge : ∀ x ∈ L, N ≤ x.b
  inc : L.Pairwise (fun x y => y.b < x.b)
  has : ∀ x ∈ L, Arr w x.b x.t x.r
theorem M.nil (w : World) : M w.heap.size w w [] := ⟨Below.refl _ _, Nat.le_refl _, (fun x h => by cases h), List.Pairwise.nil, (fun x h => by cases h)⟩
variable {N : Nat} {w0 w W : World} {L : List Bx}
theorem M.call (h : M N w0 w L) (hb : Below w.heap.size w W) : M N w0 W L :=
  ⟨h.below.trans (hb.mono h.le), Nat.le_trans h.le hb.size, h.ge, h.inc, fun x hx => (h.has x hx).below hb (h.has x hx).lt⟩
theorem M.drew (h : M N w0 w L) : M N w0 { w with drawn := w.drawn + 1 } L := h.call (Below.refl _ _).drew
theorem M.new {b t : Nat} {xs : List Value} (h : M N w0 w L) (n : NewAt w W b t xs) : M N w0 W (⟨b, t, xs⟩ :: L) := by
  have hc := h.call n.below
  refine ⟨hc.below, hc.le, fun x hx => ?_, List.Pairwise.cons (fun x hx => ?_) h.inc, fun x hx => ?_⟩
  · rcases List.mem_cons.1 hx with rfl | hx
    · exact Nat.le_trans h.le n.le
    · exact h.ge x hx
  · have := (h.has x hx).lt; have := n.at_; show x.b < b; omega
  · rcases List.mem_cons.1 hx with rfl | hx
    · exact n.arr
    · exact hc.has x hx
/-- A variable that is not the newest world's, but lies behind all the others. -/
theorem M.add {b t : Nat} {xs : List Value} {m : Nat} (h : M N w0 w L) (hb : Below w.heap.size w W) (hm : w.heap.size ≤ b) (ha : Arr W b t xs) : M N w0 W (⟨b, t, xs⟩ :: L) := by
  have hc := h.call hb
  refine ⟨hc.below, hc.le, fun x hx => ?_, List.Pairwise.cons (fun x hx => ?_) h.inc, fun x hx => ?_⟩
  · rcases List.mem_cons.1 hx with rfl | hx
    · exact Nat.le_trans h.le hm
    · exact h.ge x hx
  · have := (h.has x hx).lt; show x.b < b; omega
  · rcases List.mem_cons.1 hx with rfl | hx
    · exact ha
    · exact hc.has x hx
theorem M.ne {i : Nat} {x : Bx} (h : L.Pairwise (fun x y => y.b < x.b)) (hi : L[i]? = some x) : ∀ {j : Nat} {y : Bx}, L[j]? = some y → j ≠ i → y.b ≠ x.b := by
  intro j y hj hne
  obtain ⟨h1, e1⟩ := List.getElem?_eq_some_iff.1 hi
  obtain ⟨h2, e2⟩ := List.getElem?_eq_some_iff.1 hj
  rw [List.pairwise_iff_getElem] at h
  rcases Nat.lt_or_gt_of_ne hne with hlt | hgt
  · have := h j i h2 h1 hlt; rw [e1, e2] at this; omega
  · have := h i j h1 h2 hgt; rw [e1, e2] at this; omega
theorem M.put (h : M N w0 w L) (i b t : Nat) (xs ys : List Value) (hi : L[i]? = some ⟨b, t, ys⟩) (ha : Arr W b t xs) (st : Stp b w W) : M N w0 W (L.set i ⟨b, t, xs⟩) := by
  obtain ⟨h1, e1⟩ := List.getElem?_eq_some_iff.1 hi
  have hge := h.ge _ (List.mem_of_getElem? hi)
  have mem : ∀ x ∈ L.set i ⟨b, t, xs⟩, x = ⟨b, t, xs⟩ ∨ ∃ j, L[j]? = some x ∧ j ≠ i := by
    intro x hx
    obtain ⟨j, hj, rfl⟩ := List.getElem_of_mem hx
    by_cases e : j = i
    · subst e; left; simp
    · right; refine ⟨j, ?_, e⟩
      rw [List.getElem_set_ne (by omega)]
      exact List.getElem?_eq_getElem _
  refine ⟨st.below' h.below hge, by rw [st.size]; exact h.le, fun x hx => ?_, ?_, fun x hx => ?_⟩
  · rcases mem x hx with rfl | ⟨j, hj, _⟩
    · exact hge
    · exact h.ge x (List.mem_of_getElem? hj)
  · have hp := h.inc
    rw [List.pairwise_iff_getElem] at hp ⊢
    have hb : ∀ j (hj : j < (L.set i ⟨b, t, xs⟩).length), ((L.set i ⟨b, t, xs⟩)[j]).b = (L[j]'(by simpa using hj)).b := by
      intro j hj
      by_cases e : j = i
      · subst e; simp [e1]
      · rw [List.getElem_set_ne (by omega)]
    intro j k hj hk hlt
    rw [hb j hj, hb k hk]
    exact hp j k _ _ hlt
  · rcases mem x hx with rfl | ⟨j, hj, hne⟩
    · exact ha
    · exact st.arr (M.ne h.inc hi hj hne) (h.has x (List.mem_of_getElem? hj))
/-- A type of one cell. -/
def NA (P : Program) (ty : Nat) : Prop := ∃ d, P.underlying ty = some d ∧ (match d with | .struct _ | .array _ _ => false | _ => true) = true
theorem NA.agg {P : Program} {ty : Nat} (h : NA P ty) (w : World) : (isAgg ty).run P w = .ok false w := by
  obtain ⟨d, hu, hd⟩ := h
  unfold isAgg
  rw [Sem.run_bind, run_underlying hu w]
  cases d <;> simp_all [Result.andThen]
theorem run_loadVar_one {P : Program} {ty : Nat} (h : NA P ty) (w : World) (p : Addr) (v : Value) (hc : w.cell? p = some v) : (loadVar ty p).run P w = .ok v w := by
  simp only [loadVar, Sem.run_bind, h.agg w, Result.andThen_ok, Bool.false_eq_true, if_false]
  show Sem.run P (Sem.load _ p Sem.pure) w = _
  simp [Sem.run, hc]
section
variable {P : Program} {T k : Nat} {z : List Value} {ops : Array Oper} {rest : List Oper} {o : Oper} {a : Act} {Q : Exit → Act → World → Prop}
theorem new (R : RT P T k z) (H : Hid (M N w0 w L)) (d : Option Tmp) (hd : o.dst = d) (hgd : o.guard = none) (ho : o.op = .alloc T)
    (h : ∀ b W, Hid (M N w0 W (⟨b, T, z⟩ :: L)) → NewAt w W b T z → wpList P ops Q rest (a.put o.dst (.pointer (some ⟨b, 0, none⟩))) W) : wpList P ops Q (o :: rest) a w :=
  wpL_new R d hd hgd ho fun b W n => h b W (hidp (H.out.new n)) n
theorem box (T : TypeId) (H : Hid (M N w0 w L)) (hgd : o.guard = none) (x : Operand) (ho : o.op = .box T x) (xs : List Value) (hx : a.eval x = .agg xs.toArray)
    (h : ∀ b W, Hid (M N w0 W (⟨b, T, xs⟩ :: L)) → NewAt w W b T xs → wpList P ops Q rest (a.put o.dst (.pointer (some ⟨b, 0, none⟩))) W) : wpList P ops Q (o :: rest) a w :=
  wpL_box T hgd x ho xs hx fun b W n => h b W (hidp (H.out.new n)) n
theorem ldc {ty : Nat} (hn : NA P ty) (hw : Region.wanted o (yielded ops a.tmps) = true) (x : Operand) (p : Addr) (v : Value) (ho : o.op = .load ty x) (hx : a.eval x = .pointer (some p)) (hc : w.cell? p = some v)
    (h : wpList P ops Q rest (a.put o.dst v) w) : wpList P ops Q (o :: rest) a w := by
  refine wpList_step fun K hK => ?_
  rw [if_pos hw]
  have := hK _ _ h
  unfold Oper.wp execOp
  simp only [ho, hx, Instr.loadAt, Instr.sureAddr, Sem.run_bind, Sem.run_pure, Result.andThen_ok, run_loadVar_one hn w p v hc]
  exact this
end
section
variable {P : Program} {T k : Nat} {z : List Value} {ops : Array Oper} {o : Oper} {a : Act} {Q : Exit → Act → World → Prop} {S : World → Prop} {j : Nat} {s : Scr}
theorem s_ldc {ty : Nat} (hn : NA P ty) (ho : ops[j]? = some o) (hw : Region.wanted o (yielded ops a.tmps) = true) (x : Operand) (p : Addr) (v : Value) (hop : o.op = .load ty x) (hx : a.eval x = .pointer (some p)) (hc : ∀ w, S w → w.cell? p = some v)
    (h : wpScr P ops Q s S (a.put o.dst v) w) : wpScr P ops Q (.take j s) S a w :=
  s_val ho hw (fun w hS => by
    unfold execOp
    simp only [hop, hx, Instr.loadAt, Instr.sureAddr, Sem.run_bind, Sem.run_pure, Result.andThen_ok, run_loadVar_one hn w p v (hc w hS)]) h
variable {Lc : List Bx} {K : Act → World → Prop}
/-- A region that draws its order, by a script, over a bag. -/
theorem region {id : Nat} (H : Hid (M N w0 w L)) (s : Scr) (hm : P.follows .mixedOrders = true) (hs : Region.noSelect ops = true) (hd : s.depth ≤ ops.size) (hc : s.chk .any ops (Array.replicate ops.size false) = true)
    (h : ∀ U, Hid (M N w0 U L) → Below w.heap.size w U → wpScr P ops (NoPanic Q) s (fun W => M N w0 W L) a U) : (Code.region id ops true).wp P Q a w :=
  wp_region_noPanic (wp_region_scr (S := fun W => M N w0 W L) s hm hs (fun _ _ _ _ _ h => h) hd hc H.out.drew (h _ (hidp H.out.drew) (Below.refl _ _).drew))
end
theorem M.at0 {b t : Nat} {r : List Value} (h : M N w0 w (⟨b, t, r⟩ :: L)) : Arr w b t r := h.has ⟨b, t, r⟩ (by simp)
theorem M.put0 {b t : Nat} {xs ys : List Value} (h : M N w0 w (⟨b, t, ys⟩ :: L)) (ha : Arr W b t xs) (st : Stp b w W) : M N w0 W (⟨b, t, xs⟩ :: L) := h.put 0 b t xs ys rfl ha st
section
variable {P : Program} {T k : Nat} {z : List Value} {ops : Array Oper} {rest : List Oper} {o : Oper} {a : Act} {Q : Exit → Act → World → Prop} 
theorem get0 {b : Nat} {xs : List Value} (R : RT P T k z) (H : Hid (M N w0 w (⟨b, T, xs⟩ :: L))) (hw : Region.wanted o (yielded ops a.tmps) = true) (x : Operand) (ho : o.op = .load T x) (hx : a.eval x = .pointer (some ⟨b, 0, none⟩)) (hl : xs.length = k)
    (h : wpList P ops Q rest (a.put o.dst (.agg xs.toArray)) w) : wpList P ops Q (o :: rest) a w := wpL_get R hw x ho b xs hx hl H.out.at0 h
theorem put0 {b : Nat} {ys : List Value} (R : RT P T k z) (H : Hid (M N w0 w (⟨b, T, ys⟩ :: L))) (hgd : o.guard = none) (x y : Operand) (xs : List Value) (ho : o.op = .store T x y) (hx : a.eval x = .pointer (some ⟨b, 0, none⟩)) (hy : a.eval y = .agg xs.toArray) (hl : xs.length = k)
    (h1 : ∀ v ∈ xs, v.oneCell' = true) (hl2 : ys.length = k)
    (h : ∀ W, Hid (M N w0 W (⟨b, T, xs⟩ :: L)) → Stp b w W → wpList P ops Q rest (a.put o.dst undef) W) : wpList P ops Q (o :: rest) a w :=
  wpL_put R hgd x y ho b xs hx hy hl h1 ys hl2 H.out.at0 fun W ha st => h W (hidp (H.out.put0 ha st)) st
theorem ld0 {ty b t : Nat} {xs : List Value} (hn : NA P ty) (H : Hid (M N w0 w (⟨b, t, xs⟩ :: L))) (hw : Region.wanted o (yielded ops a.tmps) = true) (x : Operand) (f : Nat) (v : Value) (ho : o.op = .load ty x) (hx : a.eval x = .pointer (some ⟨b, f, none⟩)) (hf : xs[f]? = some v)
    (h : wpList P ops Q rest (a.put o.dst v) w) : wpList P ops Q (o :: rest) a w := ldc hn hw x _ _ ho hx (by obtain ⟨h1, rfl⟩ := List.getElem?_eq_some_iff.1 hf; exact H.out.at0.cell f h1) h
end
section
variable {P : Program} {T k : Nat} {z : List Value} {ops : Array Oper} {o : Oper} {a : Act} {Q : Exit → Act → World → Prop} {S : World → Prop} {j : Nat} {s : Scr} {K : Act → World → Prop} 
theorem sld0 {ty b t : Nat} {xs : List Value} (hn : NA P ty) (hS : ∀ w, S w → M N w0 w (⟨b, t, xs⟩ :: L)) (ho : ops[j]? = some o) (hw : Region.wanted o (yielded ops a.tmps) = true) (x : Operand) (f : Nat) (v : Value) (hop : o.op = .load ty x) (hx : a.eval x = .pointer (some ⟨b, f, none⟩)) (hf : xs[f]? = some v)
    (h : wpScr P ops Q s S (a.put o.dst v) w) : wpScr P ops Q (.take j s) S a w := s_ldc hn ho hw x _ _ hop hx (fun w hs => by obtain ⟨h1, rfl⟩ := List.getElem?_eq_some_iff.1 hf; exact (hS w hs).at0.cell f h1) h
end
theorem M.at1 {x0 : Bx} {b t : Nat} {r : List Value} (h : M N w0 w (x0 :: ⟨b, t, r⟩ :: L)) : Arr w b t r := h.has ⟨b, t, r⟩ (by simp)
theorem M.put1 {x0 : Bx} {b t : Nat} {xs ys : List Value} (h : M N w0 w (x0 :: ⟨b, t, ys⟩ :: L)) (ha : Arr W b t xs) (st : Stp b w W) : M N w0 W (x0 :: ⟨b, t, xs⟩ :: L) := h.put 1 b t xs ys rfl ha st
section
variable {P : Program} {T k : Nat} {z : List Value} {ops : Array Oper} {rest : List Oper} {o : Oper} {a : Act} {Q : Exit → Act → World → Prop} {x0 : Bx} 
theorem get1 {b : Nat} {xs : List Value} (R : RT P T k z) (H : Hid (M N w0 w (x0 :: ⟨b, T, xs⟩ :: L))) (hw : Region.wanted o (yielded ops a.tmps) = true) (x : Operand) (ho : o.op = .load T x) (hx : a.eval x = .pointer (some ⟨b, 0, none⟩)) (hl : xs.length = k)
    (h : wpList P ops Q rest (a.put o.dst (.agg xs.toArray)) w) : wpList P ops Q (o :: rest) a w := wpL_get R hw x ho b xs hx hl H.out.at1 h
theorem put1 {b : Nat} {ys : List Value} (R : RT P T k z) (H : Hid (M N w0 w (x0 :: ⟨b, T, ys⟩ :: L))) (hgd : o.guard = none) (x y : Operand) (xs : List Value) (ho : o.op = .store T x y) (hx : a.eval x = .pointer (some ⟨b, 0, none⟩)) (hy : a.eval y = .agg xs.toArray) (hl : xs.length = k)
    (h1 : ∀ v ∈ xs, v.oneCell' = true) (hl2 : ys.length = k)
    (h : ∀ W, Hid (M N w0 W (x0 :: ⟨b, T, xs⟩ :: L)) → Stp b w W → wpList P ops Q rest (a.put o.dst undef) W) : wpList P ops Q (o :: rest) a w :=
  wpL_put R hgd x y ho b xs hx hy hl h1 ys hl2 H.out.at1 fun W ha st => h W (hidp (H.out.put1 ha st)) st
end
section
variable {P : Program} {T k : Nat} {z : List Value} {ops : Array Oper} {o : Oper} {a : Act} {Q : Exit → Act → World → Prop} {S : World → Prop} {j : Nat} {s : Scr} {K : Act → World → Prop} {x0 : Bx} 
end
theorem M.at2 {x0 x1 : Bx} {b t : Nat} {r : List Value} (h : M N w0 w (x0 :: x1 :: ⟨b, t, r⟩ :: L)) : Arr w b t r := h.has ⟨b, t, r⟩ (by simp)
section
variable {P : Program} {T k : Nat} {z : List Value} {ops : Array Oper} {rest : List Oper} {o : Oper} {a : Act} {Q : Exit → Act → World → Prop} {x0 x1 : Bx} 
theorem get2 {b : Nat} {xs : List Value} (R : RT P T k z) (H : Hid (M N w0 w (x0 :: x1 :: ⟨b, T, xs⟩ :: L))) (hw : Region.wanted o (yielded ops a.tmps) = true) (x : Operand) (ho : o.op = .load T x) (hx : a.eval x = .pointer (some ⟨b, 0, none⟩)) (hl : xs.length = k)
    (h : wpList P ops Q rest (a.put o.dst (.agg xs.toArray)) w) : wpList P ops Q (o :: rest) a w := wpL_get R hw x ho b xs hx hl H.out.at2 h
end
section
variable {P : Program} {T k : Nat} {z : List Value} {ops : Array Oper} {o : Oper} {a : Act} {Q : Exit → Act → World → Prop} {S : World → Prop} {j : Nat} {s : Scr} {K : Act → World → Prop} {x0 x1 : Bx} 
end
theorem M.at3 {x0 x1 x2 : Bx} {b t : Nat} {r : List Value} (h : M N w0 w (x0 :: x1 :: x2 :: ⟨b, t, r⟩ :: L)) : Arr w b t r := h.has ⟨b, t, r⟩ (by simp)
section
variable {P : Program} {T k : Nat} {z : List Value} {ops : Array Oper} {rest : List Oper} {o : Oper} {a : Act} {Q : Exit → Act → World → Prop} {x0 x1 x2 : Bx} 
theorem get3 {b : Nat} {xs : List Value} (R : RT P T k z) (H : Hid (M N w0 w (x0 :: x1 :: x2 :: ⟨b, T, xs⟩ :: L))) (hw : Region.wanted o (yielded ops a.tmps) = true) (x : Operand) (ho : o.op = .load T x) (hx : a.eval x = .pointer (some ⟨b, 0, none⟩)) (hl : xs.length = k)
    (h : wpList P ops Q rest (a.put o.dst (.agg xs.toArray)) w) : wpList P ops Q (o :: rest) a w := wpL_get R hw x ho b xs hx hl H.out.at3 h
end
section
variable {P : Program} {T k : Nat} {z : List Value} {ops : Array Oper} {o : Oper} {a : Act} {Q : Exit → Act → World → Prop} {S : World → Prop} {j : Nat} {s : Scr} {K : Act → World → Prop} {x0 x1 x2 : Bx} 
end
theorem M.at4 {x0 x1 x2 x3 : Bx} {b t : Nat} {r : List Value} (h : M N w0 w (x0 :: x1 :: x2 :: x3 :: ⟨b, t, r⟩ :: L)) : Arr w b t r := h.has ⟨b, t, r⟩ (by simp)
section
variable {P : Program} {T k : Nat} {z : List Value} {ops : Array Oper} {rest : List Oper} {o : Oper} {a : Act} {Q : Exit → Act → World → Prop} {x0 x1 x2 x3 : Bx} 
theorem get4 {b : Nat} {xs : List Value} (R : RT P T k z) (H : Hid (M N w0 w (x0 :: x1 :: x2 :: x3 :: ⟨b, T, xs⟩ :: L))) (hw : Region.wanted o (yielded ops a.tmps) = true) (x : Operand) (ho : o.op = .load T x) (hx : a.eval x = .pointer (some ⟨b, 0, none⟩)) (hl : xs.length = k)
    (h : wpList P ops Q rest (a.put o.dst (.agg xs.toArray)) w) : wpList P ops Q (o :: rest) a w := wpL_get R hw x ho b xs hx hl H.out.at4 h
end
section
variable {P : Program} {T k : Nat} {z : List Value} {ops : Array Oper} {o : Oper} {a : Act} {Q : Exit → Act → World → Prop} {S : World → Prop} {j : Nat} {s : Scr} {K : Act → World → Prop} {x0 x1 x2 x3 : Bx} 
end
section
variable {P : Program} {T k : Nat} {z : List Value} {ops : Array Oper} {rest : List Oper} {o : Oper} {a : Act} {Q : Exit → Act → World → Prop} {x0 x1 x2 x3 x4 : Bx} 
end
section
variable {P : Program} {T k : Nat} {z : List Value} {ops : Array Oper} {o : Oper} {a : Act} {Q : Exit → Act → World → Prop} {S : World → Prop} {j : Nat} {s : Scr} {K : Act → World → Prop} {x0 x1 x2 x3 x4 : Bx} 
end
section
variable {P : Program} {T k : Nat} {z : List Value} {ops : Array Oper} {rest : List Oper} {o : Oper} {a : Act} {Q : Exit → Act → World → Prop} {x0 x1 x2 x3 x4 x5 : Bx} 
end
section
variable {P : Program} {T k : Nat} {z : List Value} {ops : Array Oper} {o : Oper} {a : Act} {Q : Exit → Act → World → Prop} {S : World → Prop} {j : Nat} {s : Scr} {K : Act → World → Prop} {x0 x1 x2 x3 x4 x5 : Bx} 
end
section
variable {P : Program} {T k : Nat} {z : List Value} {ops : Array Oper} {rest : List Oper} {o : Oper} {a : Act} {Q : Exit → Act → World → Prop} {x0 x1 x2 x3 x4 x5 x6 : Bx} 
end
section
variable {P : Program} {T k : Nat} {z : List Value} {ops : Array Oper} {o : Oper} {a : Act} {Q : Exit → Act → World → Prop} {S : World → Prop} {j : Nat} {s : Scr} {K : Act → World → Prop} {x0 x1 x2 x3 x4 x5 x6 : Bx} 
end
section
variable {P : Program} {T k : Nat} {z : List Value} {ops : Array Oper} {rest : List Oper} {o : Oper} {a : Act} {Q : Exit → Act → World → Prop} {x0 x1 x2 x3 x4 x5 x6 x7 : Bx} 
end
section
variable {P : Program} {T k : Nat} {z : List Value} {ops : Array Oper} {o : Oper} {a : Act} {Q : Exit → Act → World → Prop} {S : World → Prop} {j : Nat} {s : Scr} {K : Act → World → Prop} {x0 x1 x2 x3 x4 x5 x6 x7 : Bx} 
end
end Go.Proofs.YtbgooppmhgaicaaDoor.Mm
