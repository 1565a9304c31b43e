
/-
  Rows in memory; regions that draw their order, over a class of worlds. No dump.
-/
import Derived.Test.YtokakgjcegmabaaOctM
import Derived.WalkKit
import Derived.WalkSpells
import Derived.WalkLawsBesides
import Derived.Handy
import Derived.BigQuiet
import Derived.Deep.QuietTactic
import Derived.RegionTactic
import Derived.StillTailTactics
import Derived.OrdersHeld
import Derived.Deep.Quiet
import Derived.Deep.MidRow
import Derived.Deep.RegionHeld3
namespace Go.Proofs.Ytokakgjcegmabaa
set_option linter.unusedVariables false
set_option linter.unusedSimpArgs false
open Go.RowKit

def Arr (w : World) (b t : Nat) (xs : List Value) : Prop := w.heap[b]? = some (.cells xs.toArray t (0, 0))
theorem Arr.lt {w : World} {b t : Nat} {xs : List Value} (h : Arr w b t xs) : b < w.heap.size := (Array.getElem?_eq_some_iff.1 h).1
theorem Arr.cell {w : World} {b t : Nat} {xs : List Value} (h : Arr w b t xs) (i : Nat) (hi : i < xs.length) : w.cell? ⟨b, i, none⟩ = some xs[i] := by
  unfold World.cell?; dsimp only; rw [show w.heap[b]? = _ from h]; simp [hi]
theorem Arr.frozen {w : World} {b t : Nat} {xs : List Value} (h : Arr w b t xs) (i : Nat) : w.frozen? ⟨b, i, none⟩ = false := by
  unfold World.frozen?; dsimp only; rw [show w.heap[b]? = _ from h]; simp
theorem Arr.set {w : World} {b t : Nat} {xs : List Value} (h : Arr w b t xs) (i : Nat) (v : Value) : Arr (w.setCell ⟨b, i, none⟩ v) b t (xs.set i v) := by
  unfold Arr World.setCell
  rw [Array.getElem?_modify, if_pos rfl, show w.heap[b]? = _ from h]
  simp [List.setIfInBounds_toArray]
theorem Arr.below {w w' : World} {b t B : Nat} {xs : List Value} (h : Arr w b t xs) (hb : Below B w w') (hB : b < B) : Arr w' b t xs := (hb.block b hB).trans h
theorem Arr.other {w : World} {b t : Nat} {xs : List Value} (h : Arr w b t xs) (a : Addr) (hne : b ≠ a.block) (v : Value) : Arr (w.setCell a v) b t xs := (Below.heap_setCell w a v b hne).trans h
theorem Arr.alloc {w : World} {b t : Nat} {xs : List Value} (h : Arr w b t xs) (o : Obj) : Arr (w.alloc o) b t xs := (Below.heap_alloc w o b h.lt).trans h
theorem Arr.new (w : World) (t : Nat) (xs : List Value) : Arr (w.alloc (.cells xs.toArray t)) w.heap.size t xs := heap_alloc_new w _
theorem Arr.row {w : World} {b t : Nat} {xs : List Value} (h : Arr w b t xs) (ys : List Value) : Arr (w.setRow b ys.toArray) b t ys := setRow_heap w b _ _ t (0, 0) h
theorem Arr.row_other {w : World} {b t : Nat} {xs : List Value} (h : Arr w b t xs) (g : Nat) (hne : b ≠ g) (ys : Array Value) : Arr (w.setRow g ys) b t xs := (setRow_other w g b ys hne).trans h
theorem below_setRow {B : Nat} {a w : World} (h : Below B a w) {g : Nat} (hg : B ≤ g) (ys : Array Value) : Below B a (w.setRow g ys) := h.trans ⟨rfl, rfl, rfl, by simp, fun k hk => setRow_other w g k ys (by omega)⟩
def u8s (l : List UInt8) : List Value := l.map fun b => .int .u8 b.toNat
theorem u8s_length (l : List UInt8) : (u8s l).length = l.length := by simp [u8s]
theorem u8s_get (l : List UInt8) (i : Nat) (h : i < (u8s l).length) : (u8s l)[i] = .int .u8 (((l.getD i 0).toNat : Nat) : Int) := by
  have h' : i < l.length := by simpa [u8s] using h
  simp [u8s, List.getD_eq_getElem?_getD, h']
theorem u8s_one (l : List UInt8) : (u8s l).toArray.all (·.oneCell') = true := by simp [u8s, Value.oneCell']
theorem results_row_tmp {P : Program} {fn : Func} {p u : Tmp} {ty : TypeId} (h : fn.results = #[.cell p ty, .tmp u]) (tmps : Array Value) (w : World) (g : Nat) (t : TypeId) (cs : Array Value) (fr : Nat × Nat) (d : TypeDesc)
    (hp : tmps.getD p undef = .pointer (some ⟨g, 0, none⟩)) (hg : w.heap[g]? = some (.cells cs t fr))
    (hu : P.underlying ty = some d) (hd : (match d with | .struct _ | .array _ _ => true | _ => false) = true) (hi : (P.info? ty).map (·.size) = some cs.size) (v : Value) (hv : tmps.getD u undef = v) :
    (results fn tmps).run P w = .ok (.tuple #[.agg cs, v]) w := by
  have hp' : tmps[p]?.getD undef = .pointer (some ⟨g, 0, none⟩) := by simpa using hp
  have hv' : tmps[u]?.getD undef = v := by simpa using hv
  simp [results, h, hp', hv', asAddr, run_loadVar_row w g t ty cs fr d hg hu hd hi]
theorem Arr.range {w : World} {b t : Nat} {xs : List Value} (h : Arr w b t xs) : w.rangeAt b 0 xs := by
  intro j v hv
  rw [Nat.zero_add, cell_of_row w b j _ t _ h]; simpa using hv
theorem rangeAt_below {w w' : World} {b o B : Nat} {cs : List Value} (h : w.rangeAt b o cs) (hb : Below B w w') (hB : b < B) : w'.rangeAt b o cs :=
  fun j v hv => (hb.cell (p := ⟨b, o + j, none⟩) hB).trans (h j v hv)
/-- A new variable that holds a row. -/
theorem var_new (W : World) (cur : Array Value) (T : TypeId) (X : List Value) : Arr ((W.alloc (.cells cur T)).setRow W.heap.size X.toArray) W.heap.size T X ∧ Below W.heap.size W ((W.alloc (.cells cur T)).setRow W.heap.size X.toArray) ∧
    ((W.alloc (.cells cur T)).setRow W.heap.size X.toArray).heap.size = W.heap.size + 1 :=
  ⟨setRow_heap _ _ _ _ _ _ (heap_alloc_new W _), below_setRow ((Below.refl _ W).alloc (Nat.le_refl _) _) (Nat.le_refl _) _, by simp⟩
section
variable {P : Program} {ops : Array Oper} {C : World → Prop} {Q : Act → Prop} {a : Act} {o : Oper} {rest : List Oper}
theorem q_val {v : Value} (hw : Region.wanted o (yielded ops a.tmps) = true) (hv : ∀ w, C w → (execOp a.eval o).run P w = .ok (.value v) w) (h : wpQuiet P ops C Q rest (a.put o.dst v)) : wpQuiet P ops C Q (o :: rest) a :=
  wpQuiet_step fun K hK => by
    rw [if_pos hw]
    exact ⟨v, fun w hC => by unfold Oper.quietAt; rw [hv w hC]; exact ⟨rfl, rfl⟩, hK _ h⟩
theorem q_skip (hw : Region.wanted o (yielded ops a.tmps) = false) (h : wpQuiet P ops C Q rest (a.put o.dst undef)) : wpQuiet P ops C Q (o :: rest) a :=
  wpQuiet_step fun K hK => by rw [if_neg (by rw [hw]; exact Bool.false_ne_true)]; exact hK _ h
theorem q_row (hw : Region.wanted o (yielded ops a.tmps) = true) (ty : TypeId) (x : Operand) (ho : o.op = .load ty x) (b : Nat) (hx : a.eval x = .pointer (some ⟨b, 0, none⟩)) (cs : List Value) (d : TypeDesc)
    (hc : ∀ w, C w → w.rangeAt b 0 cs) (hu : P.underlying ty = some d) (hd : d.isRow = true) (hi : (P.info? ty).map (·.size) = some cs.length) (h : wpQuiet P ops C Q rest (a.put o.dst (.agg cs.toArray))) : wpQuiet P ops C Q (o :: rest) a :=
  q_val hw (fun w hC => by
    unfold execOp
    simp only [ho, hx, Sem.run_bind, run_loadAt_mid w b 0 ty cs d (hc w hC) hu hd hi, Result.andThen_ok, Sem.run_pure]) h
theorem q_call {v : Value} (hw : Region.wanted o (yielded ops a.tmps) = true) (f : FuncId) (args : Array Value) (hop : ∀ w, (execOp a.eval o).run P w = .ok (.enter f args) w)
    (hc : ∀ w, C w → Calls P f args w fun e w' => e = .returned v ∧ C w') (h : wpQuiet P ops C Q rest (a.put o.dst v)) : wpQuiet P ops C Q (o :: rest) a :=
  wpQuiet_step fun K hK => by
    rw [if_pos hw]
    exact ⟨v, fun w hC => by unfold Oper.quietAt; rw [hop w]; exact ⟨rfl, hc w hC⟩, hK _ h⟩
end
/-- A row's load under a guard that is met. -/
theorem wpList_load_row_g {P : Program} {ops : Array Oper} {rest : List Oper} {o : Oper} {a : Act} {w : World} {Q : Exit → Act → World → Prop} (hw : Region.wanted o (yielded ops a.tmps) = true) (ty : TypeId) (x : Operand) (ho : o.op = .load ty x)
    (g : Nat) (hx : a.eval x = .pointer (some ⟨g, 0, none⟩)) (t : TypeId) (cs : Array Value) (fr : Nat × Nat) (d : TypeDesc) (hg : w.heap[g]? = some (.cells cs t fr))
    (hu : P.underlying ty = some d) (hd : (match d with | .struct _ | .array _ _ => true | _ => false) = true) (hi : (P.info? ty).map (·.size) = some cs.size)
    (h : wpList P ops Q rest (a.put o.dst (.agg cs)) w) : wpList P ops Q (o :: rest) a w :=
  wpList_step fun K hK => by rw [if_pos hw]; exact wp_load_row ty x ho g hx t cs fr d hg hu hd hi (hK _ _ h)
/-- The class: what stood is as it was. -/
def Cls (N : Nat) (W w : World) : Prop := Below N W w
theorem Cls.range {N : Nat} {W w : World} (h : Cls N W w) {b : Nat} {cs : List Value} (hr : W.rangeAt b 0 cs) (hb : b < N) : w.rangeAt b 0 cs := rangeAt_below hr h hb
theorem Cls.step {N : Nat} {W w w' : World} (h : Cls N W w) (hN : N ≤ W.heap.size) (hb : Below w.heap.size w w') : Cls N W w' := Below.trans h (hb.mono (Nat.le_trans hN (Below.size h)))
theorem Cls.start (W : World) (n : Nat) : Cls W.heap.size W { W with drawn := n } := ⟨rfl, rfl, rfl, Nat.le_refl _, fun _ _ => rfl⟩

section
variable {P : Program} {ops : Array Oper} {md : Region.Mode} {C : World → Prop} {Q : Exit → Act → World → Prop}

/-- Does operation j wait for operation i? -/
def waits (md : Region.Mode) (ops : Array Oper) : Nat → Nat → Nat → Bool
  | 0, _, _ => false
  | fuel + 1, j, i => match ops[j]? with
    | some o => o.after.any fun e => Region.binds md e && (e.on == i || waits md ops fuel e.on i)
    | none => false
/-- What is listed has all that it waits for listed. -/
def Closed (md : Region.Mode) (ops : Array Oper) (listed : Array Bool) : Prop :=
  ∀ j o, ops[j]? = some o → listed.getD j false = true → ∀ e ∈ o.after, Region.binds md e = true → listed.getD e.on false = true
theorem waits_listed {listed : Array Bool} (hc : Closed md ops listed) : ∀ (fuel j i : Nat), (∀ o, ops[j]? = some o → ∀ e ∈ o.after, Region.binds md e = true → listed.getD e.on false = true) → waits md ops fuel j i = true → listed.getD i false = true
  | 0, _, _, _, h => by cases h
  | fuel + 1, j, i, hj, h => by
    unfold waits at h
    cases ho : ops[j]? with
    | none => rw [ho] at h; cases h
    | some o =>
      rw [ho] at h
      obtain ⟨e, he, hb⟩ := Array.any_eq_true'.1 h
      simp only [Bool.and_eq_true, Bool.or_eq_true, beq_iff_eq] at hb
      have hl := hj o ho e he hb.1
      rcases hb.2 with rfl | hw
      · exact hl
      · exact waits_listed hc fuel e.on i (fun o' ho' e' he' hb' => hc e.on o' ho' hl e' he' hb') hw
theorem Closed.set {listed : Array Bool} (hc : Closed md ops listed) {i : Nat} (hi : i ∈ Region.ready md ops listed) : Closed md ops (listed.setIfInBounds i true) := by
  intro j o ho hl e he hb
  obtain ⟨_, oi, hoi, hall⟩ := mem_ready.1 hi
  by_cases hji : i = j
  · subst hji
    rw [hoi] at ho; cases ho
    exact getD_set_true (hall e he hb)
  · rw [getD_set_ne false hji] at hl
    exact getD_set_true (hc j o ho hl e he hb)
/-- The first m operations are listed, of n. -/
def first (m n : Nat) : Array Bool := ((List.range n).map fun i => decide (i < m)).toArray
theorem first_getD (m n i : Nat) (h : i < n) (d : Bool) : (first m n).getD i d = decide (i < m) := by simp [first, h]
theorem first_size (m n : Nat) : (first m n).size = n := by simp [first]
theorem first_set (m n : Nat) : (first m n).setIfInBounds m true = first (m + 1) n := by
  apply Array.ext (by simp [first])
  intro i h1 h2
  simp [first, Array.getElem_setIfInBounds] at h1 ⊢
  by_cases h : m = i
  · simp [h]
  · simp [h]; omega
theorem first_zero (n : Nat) : first 0 n = Array.replicate n false := by
  refine Array.ext (by simp [first]) fun i h1 h2 => ?_
  simp [first]
/-- The last ones are listed in thought, from k on. -/
def mark (k : Nat) (listed : Array Bool) : Array Bool := listed.mapIdx fun i b => b || decide (k ≤ i)
theorem mark_getD (k : Nat) (listed : Array Bool) (i : Nat) (d : Bool) (h : i < listed.size) : (mark k listed).getD i d = (listed.getD i d || decide (k ≤ i)) := by
  simp [mark, h]
theorem mark_size (k : Nat) (listed : Array Bool) : (mark k listed).size = listed.size := by simp [mark]
theorem mark_set (k : Nat) (listed : Array Bool) (i : Nat) : mark k (listed.setIfInBounds i true) = (mark k listed).setIfInBounds i true := by
  refine Array.ext (by simp [mark]) fun j h1 h2 => ?_
  by_cases h : i = j <;> simp [mark, Array.getElem_setIfInBounds, h]
/-- The quiet ones, in the text's order. -/
def lexTo (md : Region.Mode) (ops : Array Oper) : Nat → Nat → Array Bool → Bool
  | 0, _, listed => (Region.ready md ops listed).isEmpty
  | m + 1, k, listed => (Region.ready md ops listed).contains k && Region.free md ops listed k && lexTo md ops m (k + 1) (listed.setIfInBounds k true)
theorem lexTo_any {Q : Act → Prop} (hs : Region.noSelect ops = true) : ∀ (l : List Oper) (k : Nat) (listed : Array Bool) (a : Act), (∀ j, j < l.length → l[j]? = ops[k + j]?) →
    lexTo md ops l.length k listed = true → wpQuiet P ops C Q l a → wpAnyQ P md ops C Q l.length listed a
  | [], _, _, _, _, hB, h => ⟨by simpa [lexTo] using hB, h⟩
  | o :: l, k, listed, a, hl, hB, h => by
    have h0 : ops[k]? = some o := by simpa using (hl 0 (by simp)).symm
    simp only [List.length_cons, lexTo, Bool.and_eq_true] at hB
    obtain ⟨⟨hr, hf⟩, hB'⟩ := hB
    have hst : qOp P ops C k (wpQuiet P ops C Q l) a := by unfold qOp; simp only [h0]; exact h
    obtain ⟨v, hy, hK⟩ := yieldsIn_of_qOp h0 hst
    exact wpAnyQ_first h0 (Region.noSelect_spec hs) l.length listed a (Region.free_spec h0 hf) (by simpa using hr) hy
      (lexTo_any hs l (k + 1) _ _ (fun j hj => by have := hl (j + 1) (by simpa using hj); simpa [Nat.add_assoc, Nat.add_comm 1 j] using this) hB' hK)
theorem wpAny_more : ∀ (fuel : Nat) (listed : Array Bool) (a : Act) (w : World), wpAny P md ops Q fuel listed a w → ∀ m, fuel ≤ m → wpAny P md ops Q m listed a w
  | 0, _, _, _, h, m, _ => wpAny_done h.1 h.2 m
  | fuel + 1, _, _, _, h, m, hm => by
    obtain ⟨m, rfl⟩ : ∃ k, m = k + 1 := ⟨m - 1, by omega⟩
    exact ⟨h.1, fun i hi => wpOp_mono (fun a w h => wpAny_more fuel _ a w h m (by omega)) (h.2 i hi)⟩
/-- The last ones, one behind the other. -/
def tailB (md : Region.Mode) (ops : Array Oper) : Nat → Nat → Bool
  | 0, j => (Region.ready md ops (first j ops.size)).isEmpty
  | m + 1, j => decide (Region.ready md ops (first j ops.size) = [j]) && tailB md ops m (j + 1)
theorem last_any : ∀ (r : List Oper) (j : Nat) (a : Act) (w : World), (∀ i, i < r.length → r[i]? = ops[j + i]?) → tailB md ops r.length j = true → wpList P ops Q r a w → wpAny P md ops Q r.length (first j ops.size) a w
  | [], j, a, w, _, hB, h => wpAny_done (by simpa [tailB] using hB) h 0
  | o :: r, j, a, w, hr, hB, h => by
    simp only [List.length_cons, tailB, Bool.and_eq_true, decide_eq_true_iff] at hB
    refine wpAny_all hB.1 (by simp) fun i hi => ?_
    obtain rfl : i = j := by simpa using hi
    have h0 : ops[i]? = some o := by simpa using (hr 0 (by simp)).symm
    unfold wpOp
    simp only [h0]
    have key := fun a w => last_any r (i + 1) a w (fun q hq => by have := hr (q + 1) (by simpa using hq); simpa [Nat.add_assoc, Nat.add_comm 1 q] using this) hB.2
    rw [first_set]
    unfold wpList at h
    split
    · rename_i hw
      rw [if_pos hw] at h
      exact h.imp (Oper.wp_mono key) id
    · rename_i hw
      rw [if_neg hw] at h
      exact key _ _ h
/-- Both. -/
theorem both_any {k : Nat} (hk : k ≤ ops.size) (hback : ∀ (j : Nat) o, ops[j]? = some o → ∀ e ∈ o.after, Region.binds md e = true → e.on < j)
    (hlate : ∀ j, k ≤ j → j < ops.size → ∀ i, i < k → waits md ops ops.size j i = true) {Qm : Act → Prop} {fuel2 : Nat}
    (hq : ∀ a w, C w → Qm a → wpAny P md ops Q fuel2 (first k ops.size) a w) :
    ∀ (fuel : Nat) (listed : Array Bool) (a : Act) (w : World), listed.size = ops.size → (∀ j, k ≤ j → listed.getD j false = false) → Closed md ops listed → C w → wpAnyQ P md ops C Qm fuel (mark k listed) a → wpAny P md ops Q (fuel + fuel2) listed a w := by
  -- nothing is ready in thought: the first k are listed
  have hall : ∀ listed : Array Bool, listed.size = ops.size → (∀ j, k ≤ j → listed.getD j false = false) → Region.ready md ops (mark k listed) = [] → listed = first k ops.size := by
    intro listed hs ht hr
    have hpre : ∀ i, i < k → listed.getD i false = true := by
      intro i
      induction i using Nat.strongRecOn with
      | ind i ih =>
        intro hi
        by_cases hl : listed.getD i false = true
        · exact hl
        · exfalso
          obtain ⟨o, ho⟩ : ∃ o, ops[i]? = some o := ⟨ops[i]'(by omega), by simp⟩
          have : i ∈ Region.ready md ops (mark k listed) := mem_ready.2 ⟨by
            rw [mark_getD _ _ _ _ (by omega)]
            have : listed.getD i true = false := by
              have h1 : i < listed.size := by omega
              simp [h1] at hl ⊢; exact hl
            rw [this]; simp; omega, o, ho, fun e he hb => by
            have hlt := hback i o ho e he hb
            rw [mark_getD _ _ _ _ (by omega), ih e.on hlt (by omega)]; rfl⟩
          rw [hr] at this; cases this
    apply Array.ext (by rw [hs, first_size])
    intro i h1 h2
    by_cases hik : i < k
    · have := hpre i hik
      simp [h1] at this
      simp [first, this, hik]
    · have := ht i (by omega)
      simp [h1] at this
      simp [first, this, hik]
  intro fuel
  induction fuel with
  | zero =>
    intro listed a w hs ht hc hw h
    obtain ⟨hr, hQ⟩ := h
    rw [hall listed hs ht hr, Nat.zero_add]
    exact hq a w hw hQ
  | succ fuel ih =>
    intro listed a w hs ht hc hw h
    by_cases hr : Region.ready md ops (mark k listed) = []
    · rw [hall listed hs ht hr]
      exact wpAny_more fuel2 _ _ _ (hq a w hw (h.1 hr)) _ (by omega)
    · rw [show fuel + 1 + fuel2 = (fuel + fuel2) + 1 from by omega]
      have hpick : ∀ i ∈ Region.ready md ops listed, i < k ∧ i ∈ Region.ready md ops (mark k listed) := by
        intro i hi
        obtain ⟨hun, o, ho, hal⟩ := mem_ready.1 hi
        have hio : i < ops.size := (Array.getElem?_eq_some_iff.1 ho).1
        by_cases hik : i < k
        · refine ⟨hik, mem_ready.2 ⟨?_, o, ho, fun e he hb => ?_⟩⟩
          · rw [mark_getD _ _ _ _ (by omega), hun]; simp; omega
          · have hlt := hback i o ho e he hb
            rw [mark_getD _ _ _ _ (by omega), hal e he hb]; rfl
        · exfalso
          apply hr
          have hfull : ∀ q, q < k → listed.getD q false = true := fun q hqk =>
            waits_listed hc ops.size i q (fun o' ho' e he hb => by rw [ho] at ho'; cases ho'; exact hal e he hb) (hlate i (by omega) hio q hqk)
          rw [List.eq_nil_iff_forall_not_mem]
          intro j hj
          obtain ⟨hun', oj, hoj, _⟩ := mem_ready.1 hj
          have hjs : j < ops.size := (Array.getElem?_eq_some_iff.1 hoj).1
          rw [mark_getD _ _ _ _ (by omega)] at hun'
          simp at hun'
          have := hfull j (by omega)
          have h1 : j < listed.size := by omega
          simp [h1] at this hun'
          rw [this] at hun'; simp at hun'
      refine ⟨fun h0 => ?_, fun i hi => ?_⟩
      · exfalso; apply hr
        rw [List.eq_nil_iff_forall_not_mem]
        intro j hj
        obtain ⟨hun', oj, hoj, hal⟩ := mem_ready.1 hj
        have hjs : j < ops.size := (Array.getElem?_eq_some_iff.1 hoj).1
        rw [mark_getD _ _ _ _ (by omega)] at hun'
        simp only [Bool.or_eq_false_iff, decide_eq_false_iff_not, Nat.not_le] at hun'
        have : j ∈ Region.ready md ops listed := mem_ready.2 ⟨hun'.1, oj, hoj, fun e he hb => by
          have hlt := hback j oj hoj e he hb
          have h2 := hal e he hb
          rw [mark_getD _ _ _ _ (by omega)] at h2
          simp only [Bool.or_eq_true, decide_eq_true_iff] at h2
          rcases h2 with h2 | h2
          · exact h2
          · omega⟩
        rw [h0] at this; cases this
      · obtain ⟨hik, him⟩ := hpick i hi
        refine wpOp_of_qOp hw (fun a' w' hw' hk' => ih (listed.setIfInBounds i true) a' w' (by simpa using hs) (fun j hj => by rw [getD_set_ne false (by omega)]; exact ht j hj) (hc.set hi) hw' ?_) (h.2 i him)
        rw [mark_set]; exact hk'
/-- What is asked of a region, for the first k to be taken in the text's order, and the others behind them. -/
def thenB (ops : Array Oper) (k : Nat) : Bool :=
  Region.noSelect ops && decide (k ≤ ops.size) && (List.range ops.size).all (fun j => match ops[j]? with | some o => o.after.all fun e => !Region.binds .any e || decide (e.on < j) | none => true)
  && (List.range ops.size).all (fun j => !decide (k ≤ j) || (List.range k).all fun i => waits .any ops ops.size j i)
  && lexTo .any ops k 0 (mark k (first 0 ops.size)) && tailB .any ops (ops.size - k) k
theorem wp_region_then {id : Nat} {a : Act} {w : World} (k : Nat) (hm : P.follows .mixedOrders = true) (hB : thenB ops k = true) (hC : C { w with drawn := w.drawn + 1 })
    (h : wpQuiet P ops C (fun a' => ∀ w', C w' → wpList P ops Q (ops.toList.drop k) a' w') (ops.toList.take k) a) : (Code.region id ops true).wp P Q a w := by
  simp only [thenB, Bool.and_eq_true, decide_eq_true_iff] at hB
  obtain ⟨⟨⟨⟨⟨hs, hk⟩, hback⟩, hlate⟩, hlex⟩, hlast⟩ := hB
  have hlt : (ops.toList.take k).length = k := by simp [hk]
  have hld : (ops.toList.drop k).length = ops.size - k := by simp
  refine wp_region_any hm ?_
  have h1 := lexTo_any (md := .any) hs (ops.toList.take k) 0 (mark k (first 0 ops.size)) a (fun j hj => by rw [hlt] at hj; simp [hj]) (by rw [hlt]; exact hlex) h
  have h2 := both_any (P := P) (Q := Q) (C := C) (md := .any) hk (fun j o ho e he hb => by
      have := (List.all_eq_true.1 hback) j (by simp; exact (Array.getElem?_eq_some_iff.1 ho).1)
      rw [ho] at this
      have := (Array.all_eq_true_iff_forall_mem.1 this) e he
      simpa [hb] using this) (fun j hkj hj i hi => by
      have := (List.all_eq_true.1 hlate) j (by simpa using hj)
      simp only [Bool.or_eq_true, Bool.not_eq_true', decide_eq_false_iff_not, List.all_eq_true] at this
      rcases this with h | h
      · omega
      · exact h i (by simpa using hi))
    (fuel2 := ops.size - k) (fun a' w' hw' hq => by
      have := last_any (P := P) (Q := Q) (md := .any) (ops.toList.drop k) k a' w' (fun i hi => by simp) (by rw [hld]; exact hlast) (hq w' hw')
      rwa [hld] at this)
    (ops.toList.take k).length (first 0 ops.size) a _ (first_size _ _) (fun j hj => by
      by_cases hjs : j < ops.size
      · rw [first_getD _ _ _ hjs]; simp
      · simp [first, hjs]) (fun j o ho hl => by
      have hjs : j < ops.size := (Array.getElem?_eq_some_iff.1 ho).1
      rw [first_getD _ _ _ hjs] at hl; simp at hl) hC h1
  rw [hlt, show k + (ops.size - k) = ops.size from by omega, first_zero] at h2
  exact h2
end
section
variable {P : Program} {ops : Array Oper} {md : Region.Mode} {S : World → Prop} {Q : Exit → Act → World → Prop} {sole : Nat → Bool}
def wpMix (P : Program) (ops : Array Oper) (Q : Exit → Act → World → Prop) (S : World → Prop) (sole : Nat → Bool) : Nat → List Oper → Act → World → Prop
  | _, [], a, w => Q .normal a w
  | k, o :: l, a, w => if sole k = true then (if Region.wanted o (yielded ops a.tmps) then o.wp P a w (fun a' w' => S w' ∧ wpMix P ops Q S sole (k + 1) l a' w') Q else wpMix P ops Q S sole (k + 1) l (a.put o.dst undef) w)
    else ∃ v, YieldsIf P ops S o v a ∧ wpMix P ops Q S sole (k + 1) l (a.put o.dst v) w
def mixB (md : Region.Mode) (ops : Array Oper) (sole : Nat → Bool) : Nat → Nat → Bool
  | 0, k => (Region.ready md ops (first k ops.size)).isEmpty
  | m + 1, k => (if sole k then decide (Region.ready md ops (first k ops.size) = [k]) else (Region.ready md ops (first k ops.size)).contains k && Region.free md ops (first k ops.size) k) && mixB md ops sole m (k + 1)
theorem mixH (hs : Region.noSelect ops = true) (hQ : ∀ c (a : Act) (d : Option Tmp) (v : Value) (w : World), Q (.panic c) (a.put d v) w → Q (.panic c) a w) :
    ∀ (l : List Oper) (k : Nat) (a : Act) (w : World), (∀ j, j < l.length → l[j]? = ops[k + j]?) → mixB md ops sole l.length k = true → S w → wpMix P ops Q S sole k l a w → wpAnyH P md ops Q S l.length (first k ops.size) a w
  | [], k, a, w, _, hB, _, h => wpAnyH_done (by simpa [mixB] using hB) h 0
  | o :: l, k, a, w, hl, hB, hS, h => by
    have h0 : ops[k]? = some o := by simpa using (hl 0 (by simp)).symm
    have key := fun a w hS h => mixH hs hQ l (k + 1) a w (fun j hj => by have := hl (j + 1) (by simpa using hj); simpa [Nat.add_assoc, Nat.add_comm 1 j] using this) (by simp only [List.length_cons, mixB, Bool.and_eq_true] at hB; exact hB.2) hS h
    simp only [List.length_cons, mixB, Bool.and_eq_true] at hB
    have hB := hB.1
    unfold wpMix at h
    by_cases hk : sole k = true
    · rw [if_pos hk] at h hB
      refine wpAnyH_all (by simpa using hB) (by simp) fun i hi => ?_
      obtain rfl : i = k := by simpa using hi
      unfold wpOp
      simp only [h0]
      rw [first_set]
      split
      · rename_i hw
        rw [if_pos hw] at h
        exact .inl (Oper.wp_mono (fun a' w' h' => ⟨h'.1, key a' w' h'.1 h'.2⟩) h)
      · rename_i hw
        rw [if_neg hw] at h
        exact ⟨hS, key _ _ hS h⟩
    · rw [if_neg hk] at h hB
      simp only [Bool.and_eq_true] at hB
      obtain ⟨v, hy, hK⟩ := h
      refine wpAnyH_take h0 hs hB.2 hB.1 (fun c a w => hQ c a _ _ w) hy hS ?_
      rw [first_set]
      exact key _ _ hS hK
theorem wp_region_mix {id : Nat} {a : Act} {w : World} (S : World → Prop) (sole : Nat → Bool) (hm : P.follows .mixedOrders = true) (hs : Region.noSelect ops = true) (hQ : ∀ c (a : Act) (d : Option Tmp) (v : Value) (w : World), Q (.panic c) (a.put d v) w → Q (.panic c) a w)
    (hB : mixB .any ops sole ops.size 0 = true) (hS : S { w with drawn := w.drawn + 1 }) (h : wpMix P ops Q S sole 0 ops.toList a { w with drawn := w.drawn + 1 }) : (Code.region id ops true).wp P Q a w := by
  refine wp_region_held (S := S) hm ?_
  have := mixH (md := .any) hs hQ ops.toList 0 a _ (fun j hj => by simp) (by simpa using hB) hS h
  rw [first_zero] at this
  simpa using this
theorem wp_region_mixed {id : Nat} {a : Act} {w : World} (S : World → Prop) (sole : Nat → Bool) (hm : P.follows .mixedOrders = true) (hs : Region.noSelect ops = true) (hQ : ∀ c (a : Act) (d : Option Tmp) (v : Value) (w : World), Q (.panic c) (a.put d v) w → Q (.panic c) a w)
    (hB : mixB .any ops sole ops.size 0 = true) (hS : S { w with drawn := w.drawn + 1 }) (h : ∀ u, S u → wpMix P ops Q S sole 0 ops.toList a u) : (Code.region id ops true).wp P Q a w :=
  wp_region_mix S sole hm hs hQ hB hS (h _ hS)
theorem m_nil {k : Nat} {a : Act} {w : World} (h : Q .normal a w) : wpMix P ops Q S sole k [] a w := h
variable {k : Nat} {o : Oper} {rest : List Oper} {a : Act} {w : World}
theorem m_val {v : Value} (hk : sole k = false) (hw : Region.wanted o (yielded ops a.tmps) = true) (hv : ∀ w, S w → (execOp a.eval o).run P w = .ok (.value v) w) (h : wpMix P ops Q S sole (k + 1) rest (a.put o.dst v) w) : wpMix P ops Q S sole k (o :: rest) a w := by
  unfold wpMix
  rw [if_neg (by rw [hk]; exact Bool.false_ne_true)]
  exact ⟨v, .inl ⟨hw, hv⟩, h⟩
theorem m_skip (hw : Region.wanted o (yielded ops a.tmps) = false) (h : wpMix P ops Q S sole (k + 1) rest (a.put o.dst undef) w) : wpMix P ops Q S sole k (o :: rest) a w := by
  unfold wpMix
  split
  · rw [if_neg (by rw [hw]; exact Bool.false_ne_true)]; exact h
  · exact ⟨undef, .inr ⟨hw, rfl⟩, h⟩
theorem m_call {R : Value → World → Prop} (hk : sole k = true) (hw : Region.wanted o (yielded ops a.tmps) = true) (f : FuncId) (args : Array Value) (hop : (execOp a.eval o).run P w = .ok (.enter f args) w) (hc : Calls P f args w fun e w' => ∃ v, e = .returned v ∧ R v w')
    (h : ∀ v w', R v w' → S w' ∧ wpMix P ops Q S sole (k + 1) rest (a.put o.dst v) w') : wpMix P ops Q S sole k (o :: rest) a w := by
  unfold wpMix
  rw [if_pos hk, if_pos hw]
  unfold Oper.wp
  rw [hop]
  exact hc.mono fun e w' ⟨v, he, hr⟩ => by subst he; exact h v w' hr
theorem m_make {v : Value} {W : World} (hk : sole k = true) (hw : Region.wanted o (yielded ops a.tmps) = true) (hop : (execOp a.eval o).run P w = .ok (.value v) W) (hS : S W) (h : wpMix P ops Q S sole (k + 1) rest (a.put o.dst v) W) : wpMix P ops Q S sole k (o :: rest) a w := by
  unfold wpMix
  rw [if_pos hk, if_pos hw]
  unfold Oper.wp
  rw [hop]
  exact ⟨hS, h⟩
end

end Go.Proofs.Ytokakgjcegmabaa
