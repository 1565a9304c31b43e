/-
  net: Put, Take, Drop, Double.
-/
import Derived.Test.YtokakgjcegmabaaNtB
import Derived.Test.YtokakgjcegmabaaOctE
import Derived.Deep.Cut
namespace Go.Proofs.Ytokakgjcegmabaa.Nt
set_option maxRecDepth 100000
set_option linter.unusedVariables false
set_option linter.unusedSimpArgs false
open Go.RowKit
open List (getElem_toArray getElem_cons_zero getElem_cons_succ setIfInBounds_toArray set_cons_zero set_cons_succ)

/-- A region that draws its order, by a script, nothing being said of its worlds. -/
theorem regionT {P : Program} {ops : Array Oper} {a : Act} {w : World} {Q : Exit → Act → World → Prop} {id : Nat} (s : Scr) (hm : P.follows .mixedOrders = true) (hs : Region.noSelect ops = true) (hd : s.depth ≤ ops.size) (hc : s.chk .any ops (Array.replicate ops.size false) = true)
    (h : ∀ U, Below w.heap.size w U → wpScr P ops (NoPanic Q) s (fun _ => True) a U) : (Code.region id ops true).wp P Q a w :=
  wp_region_noPanic (wp_region_scr (S := fun _ => True) s hm hs (fun _ _ _ _ _ h => h) hd hc trivial (h _ (Below.refl _ _).drew))
theorem o_callG {P : Program} {ops : Array Oper} {o : Oper} {a : Act} {w : World} {Q : Exit → Act → World → Prop} {S : World → Prop} {j : Nat} {K : Act → World → Prop} {Rr : Ending → World → Prop} (ho : ops[j]? = some o) (hw : Region.wanted o (yielded ops a.tmps) = true) (f : FuncId) (args : Array Value) (hop : (execOp a.eval o).run P w = .ok (.enter f args) w) (hc : Calls P f args w Rr)
    (h : ∀ e W, Rr e W → ∃ v, e = .returned v ∧ S W ∧ K (a.put o.dst v) W) : opW P ops Q S j K a w := by
  refine ⟨o, ho, hw, ?_⟩
  unfold Oper.wp
  rw [hop]
  exact hc.mono fun e W hr => by obtain ⟨v, rfl, h1, h2⟩ := h e W hr; exact ⟨h1, h2⟩
def putL (L : List ByteArray) (m : Int) (t : ByteArray) : List ByteArray := if m ≤ (L.length : Int) then L else L ++ [t]
def putN (L : List ByteArray) (m n : Int) : Int := if m ≤ (L.length : Int) then n + 1 else n
def putE (L : List ByteArray) (m : Int) : Int := if m ≤ (L.length : Int) then 8 else 0
set_option maxHeartbeats 8000000 in
theorem put_any (w : World) (b B : Nat) (v : Value) (L : List ByteArray) (m n : Int) (h : NetAt w b B v L m n) (hB : B ≤ w.heap.size) (hL : L.length ≤ 1048576) (hn : 0 ≤ n ∧ n ≤ 1048576) (t : ByteArray) (ht : t.size ≤ 140737488351232) :
    Calls Try.prog 11 #[.pointer (some ⟨b, 0, none⟩), .string t] w fun e w' => e = .returned (.int .i64 (putE L m)) ∧ ∃ v', NetAt w' b B v' (putL L m t) m (putN L m n) ∧ G2 b v.ownBlock w w' ∧ Nr w v v' := by
  have HN := hidp h
  have hlt := h.arr.lt
  obtain ⟨a0, c0, hv⟩ := Sl.own_form h.own
  rw [strV_length] at hv
  have ckn := hidp (fun W => known_any W b)
  clear hv a0 c0
  have cf := hidp (fun W (hn : NetAt W b B v L m n) => full_any W b B v L m n hn)
  by_cases hf : m ≤ (L.length : Int)
  · have HE := hidp (show putE L m = 8 from if_pos hf); have HL := hidp (show putL L m t = L from if_pos hf); have HM := hidp (show putN L m n = n + 1 from if_pos hf)
    rw [decide_eq_true hf] at cf
    have hw2 := show IntKind.i64.wrap (n + 1) = n + 1 from by rw [IntKind.wrap_i64]; omega
    clear h hf hL
    go_enter Try.func11, Try.ntmps11
    have tk0 := hidp trivial
    go_wp2_with (first | (clear tk0; (go_at_call 36; refine (ckn.out _).mono ?_; rintro e _ ⟨rfl, rfl⟩; clear ckn); (try simp only [Act.put, setIfInBounds_toArray, set_cons_zero, set_cons_succ]); have tk1 := hidp trivial) | (clear tk1; (go_at_call 37; refine (cf.out _ HN.out).mono ?_; rintro e W1 ⟨rfl, hb⟩; have HN1 := hidp (HN.out.to hb); have HB1 := hidp hb; clear hb cf); (try simp only [Act.put, setIfInBounds_toArray, set_cons_zero, set_cons_succ]); have tk2 := hidp trivial) | (clear tk2; (refine Mm.ldc naI rfl (.tmp 13) ⟨b, 2, none⟩ (.int .i64 n) rfl rfl (HN1.out.arr.cell 2 (by simp [nR])) ?_); (try simp only [Act.put, setIfInBounds_toArray, set_cons_zero, set_cons_succ]); have tk3 := hidp trivial) | (clear tk3; (refine Rt.wpL_putF rfl 3 (.tmp 17) (.tmp 15) rfl b 2 (.int .i64 (n + 1)) rfl rfl (by kernel_rfl) rfl (nR v m n) HN1.out.arr (by simp [nR]) ?_; intro W9 ha9 st9; have HA9 := hidp ha9; have HS9 := hidp st9; clear ha9 st9); (try simp only [Act.put, setIfInBounds_toArray, set_cons_zero, set_cons_succ]); have tk4 := hidp trivial))
    try clear tk4
    go_ret
    exact ⟨by rw [HE.out]; rfl, v, by rw [HL.out, HM.out]; exact NetAt.put HN1.out.arr HA9.out HN1.out.own HS9.out, (G2.of_below HB1.out).trans (G2.of_stp HS9.out), Nr.refl _ _⟩
  · have HE := hidp (show putE L m = 0 from if_neg hf); have HL := hidp (show putL L m t = L ++ [t] from if_neg hf); have HM := hidp (show putN L m n = n from if_neg hf)
    rw [decide_eq_false hf] at cf
    have ccl := hidp (fun W => clone t W ht)
    have cad := hidp (fun W (hn : NetAt W b B v L m n) (hB : B ≤ W.heap.size) => add_any W b B v L m n hn hB hL t)
    clear h hf
    go_enter Try.func11, Try.ntmps11
    have tk0 := hidp trivial
    go_upto_region 5 with (first | (clear tk0; (go_at_call 36; refine (ckn.out _).mono ?_; rintro e _ ⟨rfl, rfl⟩; clear ckn); (try simp only [Act.put, setIfInBounds_toArray, set_cons_zero, set_cons_succ]); have tk1 := hidp trivial) | (clear tk1; (go_at_call 37; refine (cf.out _ HN.out).mono ?_; rintro e W1 ⟨rfl, hb⟩; have HN1 := hidp (HN.out.to hb); have HB1 := hidp hb; clear hb cf); (try simp only [Act.put, setIfInBounds_toArray, set_cons_zero, set_cons_succ]); have tk2 := hidp trivial))
    try clear tk2
    refine regionT (.take 0 (.take 1 (.take 2 (.take 3 (.one 4 (.one 5 .done)))))) (by kernel_rfl) (by kernel_rfl) (by simp [Scr.depth]) (by kernel_rfl) ?_
    intro U hb1
    apply s_val
    case ho | hw => rfl
    case hv => intro w hw; go_simp; first | done | rfl
    simp only [Act.put, getElem_toArray, getElem_cons_zero, getElem_cons_succ, setIfInBounds_toArray, set_cons_zero, set_cons_succ]
    apply s_val
    case ho | hw => rfl
    case hv => intro w hw; go_simp; first | done | rfl
    simp only [Act.put, getElem_toArray, getElem_cons_zero, getElem_cons_succ, setIfInBounds_toArray, set_cons_zero, set_cons_succ]
    apply s_val
    case ho | hw => rfl
    case hv => intro w hw; go_simp; first | done | rfl
    simp only [Act.put, getElem_toArray, getElem_cons_zero, getElem_cons_succ, setIfInBounds_toArray, set_cons_zero, set_cons_succ]
    apply s_val
    case ho | hw => rfl
    case hv => intro w hw; go_simp; first | done | rfl
    simp only [Act.put, getElem_toArray, getElem_cons_zero, getElem_cons_succ, setIfInBounds_toArray, set_cons_zero, set_cons_succ]
    refine o_callG rfl rfl 39 #[.string t] (by go_simp; first | done | rfl) (ccl.out _) ?_
    rintro e W2 ⟨rfl, hb⟩
    have HN2 := hidp (HN1.out.to (hb1.trans (hb.mono hb1.size)))
    have HB2 := hidp (HB1.out.trans ((hb1.trans (hb.mono hb1.size)).mono HB1.out.size))
    clear hb
    refine ⟨.string t, rfl, trivial, ?_⟩
    simp only [Act.put, getElem_toArray, getElem_cons_zero, getElem_cons_succ, setIfInBounds_toArray, set_cons_zero, set_cons_succ]
    refine o_callG rfl rfl 38 #[.pointer (some ⟨b, 0, none⟩), .string t] (by go_simp; first | done | rfl) (cad.out _ HN2.out (Nat.le_trans hB HB2.out.size)) ?_
    rintro e W3 ⟨rfl, v3, hn3, hg3, hr3⟩
    have HN3 := hidp hn3
    have HG3 := hidp hg3
    have HR3 := hidp hr3
    clear hn3 hg3 hr3
    refine ⟨.tuple #[], rfl, trivial, ?_⟩
    simp only [Act.put, getElem_toArray, getElem_cons_zero, getElem_cons_succ, setIfInBounds_toArray, set_cons_zero, set_cons_succ]
    refine NoPanic.normal ?_
    go_wp2
    go_ret
    exact ⟨by rw [HE.out]; rfl, v3, by rw [HL.out, HM.out]; exact HN3.out, (G2.of_below HB2.out).trans HG3.out, fun g hg => (HR3.out g hg).elim .inl (fun e => .inr (Nat.le_trans HB2.out.size e))⟩
/-- There is such a text. -/
def hasB (L : List ByteArray) (i : Int) : Bool := decide (0 ≤ i ∧ i < (L.length : Int))
def tkL (L : List ByteArray) (i : Int) : List ByteArray := if hasB L i = true then L.eraseIdx i.toNat else L
def tkS (L : List ByteArray) (i : Int) : ByteArray := if hasB L i = true then Sl.sAt L i.toNat else ⟨#[]⟩
def tkE (L : List ByteArray) (i : Int) : Int := if hasB L i = true then 0 else 3
def drN (L : List ByteArray) (i n : Int) : Int := if hasB L i = true then n + 1 else n
def dbL (L : List ByteArray) (m i : Int) : List ByteArray := if hasB L i = true then putL L m (Sl.sAt L i.toNat) else L
def dbN (L : List ByteArray) (m n i : Int) : Int := if hasB L i = true then putN L m n else n
def dbE (L : List ByteArray) (m i : Int) : Int := if hasB L i = true then putE L m else 3
theorem hasB_nat {L : List ByteArray} {i : Int} (h : hasB L i = true) : ∃ k : Nat, i = k ∧ k < L.length := by
  have := of_decide_eq_true h
  exact ⟨i.toNat, by omega, by omega⟩
set_option maxHeartbeats 8000000 in
theorem take_any (w : World) (b B : Nat) (v : Value) (L : List ByteArray) (m n : Int) (h : NetAt w b B v L m n) (hL : L.length ≤ 1048576) (i : Int) :
    Calls Try.prog 13 #[.pointer (some ⟨b, 0, none⟩), .int .i64 i] w fun e w' => e = .returned (.tuple #[.string (tkS L i), .int .i64 (tkE L i)]) ∧ ∃ v', NetAt w' b B v' (tkL L i) m (n) ∧ G2 b v.ownBlock w w' ∧ Nr w v v' := by
  have HN := hidp h
  have hlt := h.arr.lt
  obtain ⟨a0, c0, hv⟩ := Sl.own_form h.own
  rw [strV_length] at hv
  have ckn := hidp (fun W => known_any W b)
  have ch := hidp (show ∀ W, NetAt W b B v L m n → _ from fun W hn => has_any W b B v L m n hn i)
  rw [show decide (0 ≤ i ∧ i < (L.length : Int)) = hasB L i from rfl] at ch
  cases hh : hasB L i with
  | true =>
    rw [hh] at ch
    have HE := hidp (show Value.tuple #[.string (tkS L i), .int .i64 (tkE L i)] = .tuple #[.string (Sl.sAt L i.toNat), .int .i64 0] from by unfold tkS tkE; rw [hh]; rfl)
    have HL := hidp (show tkL L i = L.eraseIdx i.toNat from if_pos hh)
    obtain ⟨k, rfl, hk⟩ := hasB_nat hh
    rw [Int.toNat_natCast] at *
    have cr := hidp (fun W (hn : NetAt W b B v L m n) => remove_any W b B v L m n hn k hk hL)
    clear hv
    clear hh
    go_enter Try.func13, Try.ntmps13
    have tk0 := hidp trivial
    go_wp2_with (first | (clear tk0; (go_at_call 36; refine (ckn.out _).mono ?_; rintro e _ ⟨rfl, rfl⟩; clear ckn); (try simp only [Act.put, setIfInBounds_toArray, set_cons_zero, set_cons_succ]); have tk1 := hidp trivial) | (clear tk1; (go_at_call 41; refine (ch.out _ HN.out).mono ?_; rintro e W1 ⟨rfl, hb⟩; have HN1 := hidp (HN.out.to hb); have HB1 := hidp hb; clear hb ch); (try simp only [Act.put, setIfInBounds_toArray, set_cons_zero, set_cons_succ]); have tk2 := hidp trivial) | (clear tk2; (go_at_call 42; refine (cr.out _ HN1.out).mono ?_; rintro e W2 ⟨rfl, v2, hn2, hg2, hr2⟩; have HN2 := hidp hn2; have HG2 := hidp hg2; have HR2 := hidp hr2; clear hn2 hg2 hr2 cr); (try simp only [Act.put, setIfInBounds_toArray, set_cons_zero, set_cons_succ]); have tk3 := hidp trivial))
    try clear tk3
    go_ret2
    exact ⟨by first | (rw [HE.out]; rfl) | rfl, v2, by rw [HL.out]; exact HN2.out, (G2.of_below HB1.out).trans HG2.out, fun g hg => .inl (HR2.out ▸ hg)⟩
  | false =>
    rw [hh] at ch
    have HE := hidp (show Value.tuple #[.string (tkS L i), .int .i64 (tkE L i)] = .tuple #[.string ⟨#[]⟩, .int .i64 3] from by unfold tkS tkE; rw [hh]; rfl)
    have HL := hidp (show tkL L i = L from if_neg (by rw [hh]; exact Bool.false_ne_true))
    clear hh
    go_enter Try.func13, Try.ntmps13
    have tk0 := hidp trivial
    go_wp2_with (first | (clear tk0; (go_at_call 36; refine (ckn.out _).mono ?_; rintro e _ ⟨rfl, rfl⟩; clear ckn); (try simp only [Act.put, setIfInBounds_toArray, set_cons_zero, set_cons_succ]); have tk1 := hidp trivial) | (clear tk1; (go_at_call 41; refine (ch.out _ HN.out).mono ?_; rintro e W1 ⟨rfl, hb⟩; have HN1 := hidp (HN.out.to hb); have HB1 := hidp hb; clear hb ch); (try simp only [Act.put, setIfInBounds_toArray, set_cons_zero, set_cons_succ]); have tk2 := hidp trivial))
    try clear tk2
    go_ret2
    exact ⟨by first | (rw [HE.out]; rfl) | rfl, v, by rw [HL.out]; exact HN1.out, G2.of_below HB1.out, Nr.refl _ _⟩
set_option maxHeartbeats 8000000 in
theorem drop_any (w : World) (b B : Nat) (v : Value) (L : List ByteArray) (m n : Int) (h : NetAt w b B v L m n) (hL : L.length ≤ 1048576) (hn : 0 ≤ n ∧ n ≤ 1048576) (i : Int) :
    Calls Try.prog 15 #[.pointer (some ⟨b, 0, none⟩), .int .i64 i] w fun e w' => e = .returned (.int .i64 (tkE L i)) ∧ ∃ v', NetAt w' b B v' (tkL L i) m (drN L i n) ∧ G2 b v.ownBlock w w' ∧ Nr w v v' := by
  have HN := hidp h
  have hlt := h.arr.lt
  obtain ⟨a0, c0, hv⟩ := Sl.own_form h.own
  rw [strV_length] at hv
  have ckn := hidp (fun W => known_any W b)
  have ch := hidp (show ∀ W, NetAt W b B v L m n → _ from fun W hn => has_any W b B v L m n hn i)
  rw [show decide (0 ≤ i ∧ i < (L.length : Int)) = hasB L i from rfl] at ch
  cases hh : hasB L i with
  | true =>
    rw [hh] at ch
    have HL := hidp (show tkL L i = L.eraseIdx i.toNat from if_pos hh)
    have HE := hidp (show tkE L i = 0 from if_pos hh)
    have HM := hidp (show drN L i n = n + 1 from if_pos hh)
    obtain ⟨k, rfl, hk⟩ := hasB_nat hh
    rw [Int.toNat_natCast] at *
    have cr := hidp (fun W (hn : NetAt W b B v L m n) => remove_any W b B v L m n hn k hk hL)
    have hw2 := show IntKind.i64.wrap (n + 1) = n + 1 from by rw [IntKind.wrap_i64]; omega
    clear hv
    clear hh
    go_enter Try.func15, Try.ntmps15
    have tk0 := hidp trivial
    go_wp2_with (first | (clear tk0; (go_at_call 36; refine (ckn.out _).mono ?_; rintro e _ ⟨rfl, rfl⟩; clear ckn); (try simp only [Act.put, setIfInBounds_toArray, set_cons_zero, set_cons_succ]); have tk1 := hidp trivial) | (clear tk1; (go_at_call 41; refine (ch.out _ HN.out).mono ?_; rintro e W1 ⟨rfl, hb⟩; have HN1 := hidp (HN.out.to hb); have HB1 := hidp hb; clear hb ch); (try simp only [Act.put, setIfInBounds_toArray, set_cons_zero, set_cons_succ]); have tk2 := hidp trivial) | (clear tk2; (go_at_call 42; refine (cr.out _ HN1.out).mono ?_; rintro e W2 ⟨rfl, v2, hn2, hg2, hr2⟩; have HN2 := hidp hn2; have HG2 := hidp hg2; have HR2 := hidp hr2; clear hn2 hg2 hr2 cr); (try simp only [Act.put, setIfInBounds_toArray, set_cons_zero, set_cons_succ]); have tk3 := hidp trivial) | (clear tk3; (refine Mm.ldc naI rfl (.tmp 20) ⟨b, 2, none⟩ (.int .i64 n) rfl rfl (HN2.out.arr.cell 2 (by simp [nR])) ?_); (try simp only [Act.put, setIfInBounds_toArray, set_cons_zero, set_cons_succ]); have tk4 := hidp trivial) | (clear tk4; (refine Rt.wpL_putF rfl 3 (.tmp 24) (.tmp 22) rfl b 2 (.int .i64 (n + 1)) rfl rfl (by kernel_rfl) rfl (nR v2 m n) HN2.out.arr (by simp [nR]) ?_; intro W9 ha9 st9; have HA9 := hidp ha9; have HS9 := hidp st9; clear ha9 st9); (try simp only [Act.put, setIfInBounds_toArray, set_cons_zero, set_cons_succ]); have tk5 := hidp trivial))
    try clear tk5
    go_ret
    exact ⟨by first | (rw [HE.out]; rfl) | rfl, v2, by rw [HL.out, HM.out]; exact NetAt.put HN2.out.arr HA9.out HN2.out.own HS9.out, ((G2.of_below HB1.out).trans HG2.out).trans (G2.of_stp HS9.out), fun g hg => .inl (HR2.out ▸ hg)⟩
  | false =>
    rw [hh] at ch
    have HL := hidp (show tkL L i = L from if_neg (by rw [hh]; exact Bool.false_ne_true))
    have HE := hidp (show tkE L i = 3 from if_neg (by rw [hh]; exact Bool.false_ne_true))
    have HM := hidp (show drN L i n = n from if_neg (by rw [hh]; exact Bool.false_ne_true))
    clear hh
    go_enter Try.func15, Try.ntmps15
    have tk0 := hidp trivial
    go_wp2_with (first | (clear tk0; (go_at_call 36; refine (ckn.out _).mono ?_; rintro e _ ⟨rfl, rfl⟩; clear ckn); (try simp only [Act.put, setIfInBounds_toArray, set_cons_zero, set_cons_succ]); have tk1 := hidp trivial) | (clear tk1; (go_at_call 41; refine (ch.out _ HN.out).mono ?_; rintro e W1 ⟨rfl, hb⟩; have HN1 := hidp (HN.out.to hb); have HB1 := hidp hb; clear hb ch); (try simp only [Act.put, setIfInBounds_toArray, set_cons_zero, set_cons_succ]); have tk2 := hidp trivial))
    try clear tk2
    go_ret
    exact ⟨by first | (rw [HE.out]; rfl) | rfl, v, by rw [HL.out, HM.out]; exact HN1.out, G2.of_below HB1.out, Nr.refl _ _⟩
set_option maxHeartbeats 8000000 in
theorem double_any (w : World) (b B : Nat) (v : Value) (L : List ByteArray) (m n : Int) (h : NetAt w b B v L m n) (hL : L.length ≤ 1048576) (hB : B ≤ w.heap.size) (hn : 0 ≤ n ∧ n ≤ 1048576) (hsz : ∀ k, (Sl.sAt L k).size ≤ 140737488351232) (i : Int) :
    Calls Try.prog 17 #[.pointer (some ⟨b, 0, none⟩), .int .i64 i] w fun e w' => e = .returned (.int .i64 (dbE L m i)) ∧ ∃ v', NetAt w' b B v' (dbL L m i) m (dbN L m n i) ∧ G2 b v.ownBlock w w' ∧ Nr w v v' := by
  have HN := hidp h
  have hlt := h.arr.lt
  obtain ⟨a0, c0, hv⟩ := Sl.own_form h.own
  rw [strV_length] at hv
  have ckn := hidp (fun W => known_any W b)
  have ch := hidp (show ∀ W, NetAt W b B v L m n → _ from fun W hn => has_any W b B v L m n hn i)
  rw [show decide (0 ≤ i ∧ i < (L.length : Int)) = hasB L i from rfl] at ch
  cases hh : hasB L i with
  | true =>
    rw [hh] at ch
    have HL := hidp (show dbL L m i = putL L m (Sl.sAt L i.toNat) from if_pos hh)
    have HM := hidp (show dbN L m n i = putN L m n from if_pos hh)
    have HE := hidp (show dbE L m i = putE L m from if_pos hh)
    obtain ⟨k, rfl, hk⟩ := hasB_nat hh
    rw [Int.toNat_natCast] at *
    obtain ⟨g, c, hv2, -, hgl, hcell⟩ := Sl.own_cells h.own (by rw [strV_length]; omega)
    rw [strV_length] at hv2
    have hcl := hidp (show w.cell? ⟨g, k, none⟩ = some (.string (Sl.sAt L k)) from by rw [hcell k (by rw [strV_length]; exact hk), Sl.sAt_get hk]; simp [strV])
    have hsz := hsz k
    obtain ⟨l, hl⟩ : ∃ l, L.length = l := ⟨_, rfl⟩
    have cp := hidp (fun W (h : NetAt W b B v L m n) (hB : B ≤ W.heap.size) => put_any W b B v L m n h hB hL hn (Sl.sAt L k) hsz)
    rw [hl] at hv2 hk
    subst hv2
    obtain ⟨X, hX⟩ : ∃ X, Sl.sAt L k = X := ⟨_, rfl⟩
    rw [hX] at hcl cp HL hsz
    have hi := hk
    clear hv hcell hX hl
    clear hh
    go_enter Try.func17, Try.ntmps17
    have tk0 := hidp trivial
    go_wp2_with (first | (clear tk0; (go_at_call 36; refine (ckn.out _).mono ?_; rintro e _ ⟨rfl, rfl⟩; clear ckn); (try simp only [Act.put, setIfInBounds_toArray, set_cons_zero, set_cons_succ]); have tk1 := hidp trivial) | (clear tk1; (go_at_call 41; refine (ch.out _ HN.out).mono ?_; rintro e W1 ⟨rfl, hb⟩; have HN1 := hidp (HN.out.to hb); have HB1 := hidp hb; clear hb ch); (try simp only [Act.put, setIfInBounds_toArray, set_cons_zero, set_cons_succ]); have tk2 := hidp trivial) | (clear tk2; (refine Mm.ldc naSS rfl (.tmp 17) ⟨b, 0, none⟩ (.slice (some ⟨g, 0, none⟩) l c) rfl rfl (HN1.out.arr.cell 0 (by simp [nR])) ?_); (try simp only [Act.put, setIfInBounds_toArray, set_cons_zero, set_cons_succ]); have tk3 := hidp trivial) | (clear tk3; (refine Sl.wpL_idx1 Sl.tyS (by kernel_rfl) rfl (.tmp 18) (.tmp 19) rfl g 0 l c k rfl rfl hi ?_; rw [Nat.zero_add]); (try simp only [Act.put, setIfInBounds_toArray, set_cons_zero, set_cons_succ]); have tk4 := hidp trivial) | (clear tk4; (refine Mm.ldc naS rfl (.tmp 20) ⟨g, k, none⟩ (.string X) rfl rfl ((HB1.out.cell (p := ⟨g, k, none⟩) hgl).trans hcl.out) ?_); (try simp only [Act.put, setIfInBounds_toArray, set_cons_zero, set_cons_succ]); have tk5 := hidp trivial) | (clear tk5; (go_at_call 11; refine (cp.out _ HN1.out (Nat.le_trans hB HB1.out.size)).mono ?_; rintro e W2 ⟨rfl, v2, hn2, hg2, hr2⟩; have HN2 := hidp hn2; have HG2 := hidp hg2; have HR2 := hidp hr2; clear hn2 hg2 hr2 cp); (try simp only [Act.put, setIfInBounds_toArray, set_cons_zero, set_cons_succ]); have tk6 := hidp trivial))
    try clear tk6
    go_ret
    exact ⟨by first | (rw [HE.out]; rfl) | rfl, v2, by rw [HL.out, HM.out]; exact HN2.out, (G2.of_below HB1.out).trans HG2.out, fun g hg => (HR2.out g hg).elim .inl (fun e => .inr (Nat.le_trans HB1.out.size e))⟩
  | false =>
    rw [hh] at ch
    have HL := hidp (show dbL L m i = L from if_neg (by rw [hh]; exact Bool.false_ne_true))
    have HM := hidp (show dbN L m n i = n from if_neg (by rw [hh]; exact Bool.false_ne_true))
    have HE := hidp (show dbE L m i = 3 from if_neg (by rw [hh]; exact Bool.false_ne_true))
    clear hh
    go_enter Try.func17, Try.ntmps17
    have tk0 := hidp trivial
    go_wp2_with (first | (clear tk0; (go_at_call 36; refine (ckn.out _).mono ?_; rintro e _ ⟨rfl, rfl⟩; clear ckn); (try simp only [Act.put, setIfInBounds_toArray, set_cons_zero, set_cons_succ]); have tk1 := hidp trivial) | (clear tk1; (go_at_call 41; refine (ch.out _ HN.out).mono ?_; rintro e W1 ⟨rfl, hb⟩; have HN1 := hidp (HN.out.to hb); have HB1 := hidp hb; clear hb ch); (try simp only [Act.put, setIfInBounds_toArray, set_cons_zero, set_cons_succ]); have tk2 := hidp trivial))
    try clear tk2
    go_ret
    exact ⟨by first | (rw [HE.out]; rfl) | rfl, v, by rw [HL.out, HM.out]; exact HN1.out, G2.of_below HB1.out, Nr.refl _ _⟩
end Go.Proofs.Ytokakgjcegmabaa.Nt
