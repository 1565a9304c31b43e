/-
  Joined: PwA PwB PwC PwD PwE.
-/
import Derived.Test.YtkcgmimcopoknaaGreatDoorIdAll
import Derived.Test.YtkcgmimcopoknaaGreatDoorBaAll
import Derived.Lib.LaidTab
import Derived.Test.YtkcgmimcopoknaaGreatDoorOctAll
import Derived.Deep.DeepAppendRoom
namespace Go.Proofs.YtkcgmimcopoknaaGreatDoor
set_option maxRecDepth 100000
set_option linter.unusedVariables false
set_option linter.unusedSimpArgs false
open Go.RowKit Rw


/-- Levels. -/
structure Lv where
  a : Int
  s : Int
  i : Int
  k : Int
  b : Int
  r : Int
  us : List (ByteArray × Int)
def sixL (l : Lv) : List Int := [l.a, l.s, l.i, l.k, l.b, l.r]
def inR (n : Int) : Bool := decide (0 ≤ n) && decide (n ≤ 100)
def usr (t : ByteArray) : Bool := (who 1 t).isSome
def uz : ByteArray × Int := (⟨#[]⟩, 0)
/-- The user at place i is right, and stands behind the one ahead. -/
def uAt (us : List (ByteArray × Int)) (i : Nat) : Bool :=
  usr (us.getD i uz).1 && inR (us.getD i uz).2 && (decide (i = 0) || Op.bytesLess (us.getD (i - 1) uz).1.toList (us.getD i uz).1.toList)
def uTo (us : List (ByteArray × Int)) (n : Nat) : Bool := (List.range n).all (uAt us)
theorem uTo_succ (us : List (ByteArray × Int)) (n : Nat) : uTo us (n + 1) = (uTo us n && uAt us n) := by
  unfold uTo; rw [List.range_succ, List.all_append]; simp
theorem uTo_le {us : List (ByteArray × Int)} {n i : Nat} (h : uTo us n = true) (hi : i < n) : uAt us i = true := by
  unfold uTo at h; rw [List.all_eq_true] at h; exact h i (by simpa using hi)
def lvOk (l : Lv) : Bool := (sixL l).all inR && decide (l.us.length ≤ 16) && uTo l.us l.us.length
def lvE (l : Lv) : Int := if lvOk l = true then 0 else 2
/-- A user's own number. -/
def ownL : List (ByteArray × Int) → ByteArray → Option Int
  | [], _ => none
  | p :: r, u => if (p.1.toList == u.toList) = true then some p.2 else ownL r u
def ofL (l : Lv) (u : ByteArray) : Int := (ownL l.us u).getD l.a
def ownV : Option Int → Value
  | some n => .tuple #[.int .i64 n, .bool true]
  | none => .tuple #[.int .i64 0, .bool false]
theorem own_step {us : List (ByteArray × Int)} {u : ByteArray} {i : Nat} (h : i < us.length) : ownL (us.drop i) u = if (us[i].1.toList == u.toList) = true then some us[i].2 else ownL (us.drop (i + 1)) u := by
  rw [List.drop_eq_getElem_cons h]; rfl

/-- Rows. -/
def uR (p : ByteArray × Int) : List Value := [.string p.1, .int .i64 p.2]
def zU : List Value := [.string ⟨#[]⟩, .int .i64 0]
def zL : List Value := [.int .i64 0, .int .i64 0, .int .i64 0, .int .i64 0, .int .i64 0, .int .i64 0, .slice none 0 0]
def zN : List Value := [.int .i64 0, .int .i64 0, .int .i64 0, .int .i64 0, .int .i64 0, .int .i64 0]
theorem tyU : RowTy Tryz.prog 45 93 2 24 zU := by
  refine ⟨by decide, by decide, by decide, rfl, by kernel_rfl, by kernel_rfl, ⟨_, Tryz.underlying93⟩, by kernel_rfl⟩
theorem tyL : Rt.RT Tryz.prog 47 7 zL := ⟨rfl, .inl ⟨_, Tryz.underlying47⟩, by kernel_rfl⟩
theorem tyN : Rt.RT Tryz.prog 89 6 zN := ⟨rfl, .inr ⟨_, _, Tryz.underlying89⟩, by kernel_rfl⟩
theorem tyP : Rt.RT Tryz.prog 93 2 zU := ⟨rfl, .inl ⟨_, Tryz.underlying93⟩, by kernel_rfl⟩
def uRs (us : List (ByteArray × Int)) : List (List Value) := us.map uR
theorem uRs_len (us : List (ByteArray × Int)) : (uRs us).length = us.length := by simp [uRs]
theorem uR_one (p : ByteArray × Int) : ∀ v ∈ uR p, v.oneCell' = true := by
  intro v hv; simp [uR] at hv; rcases hv with rfl | rfl <;> rfl
theorem uRs_one (us : List (ByteArray × Int)) : One1 (uRs us) := by
  intro e he v hv
  simp only [uRs, List.mem_map] at he
  obtain ⟨g, _, rfl⟩ := he
  exact uR_one g v hv
theorem uRs_all (us : List (ByteArray × Int)) : AllK 2 (uRs us) := by
  intro e he
  simp only [uRs, List.mem_map] at he
  obtain ⟨g, hg, rfl⟩ := he
  rfl
/-- Users in memory. -/
structure UsAt (w : World) (v : Value) (us : List (ByteArray × Int)) : Prop where
  rs : RsAt 2 w v (uRs us)
  len : us.length ≤ 140737488351232
  sz : ∀ p ∈ us, p.1.size ≤ 140737488351232
theorem UsAt.to {w w' : World} {v : Value} {us : List (ByteArray × Int)} (h : UsAt w v us) (hb : Below w.heap.size w w') : UsAt w' v us := ⟨h.rs.to hb, h.len, h.sz⟩
theorem UsAt.nil (w : World) : UsAt w (.slice none 0 0) [] := ⟨RsAt.nil w, by simp, by simp⟩
theorem UsAt.form {w : World} {v : Value} {us : List (ByteArray × Int)} (h : UsAt w v us) : ∃ a c, v = .slice a us.length c := by
  have := h.rs.form; rw [uRs_len] at this; exact this
theorem UsAt.get {w : World} {v : Value} {us : List (ByteArray × Int)} (h : UsAt w v us) (hp : 0 < us.length) : ∃ B o c, v = .slice (some ⟨B, o, none⟩) us.length c ∧ us.length ≤ c ∧ B < w.heap.size ∧ ∀ i, (hi : i < us.length) → w.rangeAt B (o + 2 * i) (uR us[i]) := by
  obtain ⟨B, o, c, e, h1, h2, h3⟩ := h.rs.get (by rw [uRs_len]; exact hp)
  rw [uRs_len] at e h1
  refine ⟨B, o, c, e, h1, h2, fun i hi => ?_⟩
  have := rAt_nth h3 h.rs.1 i (by rw [uRs_len]; exact hi)
  simpa [uRs] using this
theorem getU {us : List (ByteArray × Int)} {i : Nat} (h : i < us.length) : us.getD i uz = us[i] := by rw [List.getD_eq_getElem?_getD, List.getElem?_eq_getElem h]; rfl
theorem arr2 {w : World} {b T : Nat} {x y : Value} (h : Arr w b T [x, y]) : w.cell? ⟨b, 0, none⟩ = some x ∧ w.cell? ⟨b, 1, none⟩ = some y := ⟨h.cell 0 (by simp), h.cell 1 (by simp)⟩
theorem arr7 {w : World} {b T : Nat} {x0 x1 x2 x3 x4 x5 x6 : Value} (h : Arr w b T [x0, x1, x2, x3, x4, x5, x6]) : w.cell? ⟨b, 0, none⟩ = some x0 ∧ w.cell? ⟨b, 1, none⟩ = some x1 ∧ w.cell? ⟨b, 2, none⟩ = some x2 ∧ w.cell? ⟨b, 3, none⟩ = some x3 ∧ w.cell? ⟨b, 4, none⟩ = some x4 ∧ w.cell? ⟨b, 5, none⟩ = some x5 ∧ w.cell? ⟨b, 6, none⟩ = some x6 :=
  ⟨h.cell 0 (by simp), h.cell 1 (by simp), h.cell 2 (by simp), h.cell 3 (by simp), h.cell 4 (by simp), h.cell 5 (by simp), h.cell 6 (by simp)⟩
theorem arr6n {w : World} {b T : Nat} {x0 x1 x2 x3 x4 x5 : Value} (h : Arr w b T [x0, x1, x2, x3, x4, x5]) : w.cell? ⟨b, 0, none⟩ = some x0 ∧ w.cell? ⟨b, 1, none⟩ = some x1 ∧ w.cell? ⟨b, 2, none⟩ = some x2 ∧ w.cell? ⟨b, 3, none⟩ = some x3 ∧ w.cell? ⟨b, 4, none⟩ = some x4 ∧ w.cell? ⟨b, 5, none⟩ = some x5 :=
  ⟨h.cell 0 (by simp), h.cell 1 (by simp), h.cell 2 (by simp), h.cell 3 (by simp), h.cell 4 (by simp), h.cell 5 (by simp)⟩
/-- What the world holds: the tables of ident, and the powers of ten. -/
def PT (w : World) : Prop := IT w ∧ Lib.TabIs Tryz.prog w "internal/strconv.uint64pow10" .u64 Lib.pow10Tab
theorem gPow : Tryz.prog.globalNamed "internal/strconv.uint64pow10" = some 3 := by kernel_rfl
theorem PT.below {w w' : World} (h : PT w) {B : Nat} (hb : Below B w w') (hB : w.heap.size ≤ B) : PT w' := by
  refine ⟨h.1.below hb hB, ?_⟩
  have h2 := h.2
  unfold Lib.TabIs World.var? at h2 ⊢
  rw [gPow] at h2 ⊢
  simp only [Option.bind_some] at h2 ⊢
  have hlt : 3 < w.heap.size := by
    rcases Nat.lt_or_ge 3 w.heap.size with h' | h'
    · exact h'
    · rw [Array.getElem?_eq_none h'] at h2; cases h2
  rw [hb.block _ (by omega)]
  exact h2
theorem below_grow (w : World) (k : Nat) (os : Array Obj) : Below w.heap.size w (Sort.grow (w.drewN k) os) :=
  ⟨rfl, rfl, rfl, by simp [Sort.grow, World.drewN], fun j hj => by simp [Sort.grow, World.drewN, Array.getElem?_append_left hj]⟩
/-- The text of a small number. -/
def itT (n : Int) : ByteArray := ⟨(Lib.itoa n).toArray⟩
theorem itoa_any (w : World) (n : Int) (h0 : -9223372036854775808 ≤ n) (h1 : n ≤ 9223372036854775807) (hP : PT w) :
    Calls Tryz.prog 44 #[.int .i64 n] w fun e w' => e = .returned (.string (itT n)) ∧ Below w.heap.size w w' :=
  (Tryz.strconv_Itoa n h0 h1 w hP.2).mono fun e w' ⟨he, k, os, hw⟩ => ⟨he, hw ▸ below_grow w k os⟩

set_option maxHeartbeats 4000000 in
theorem inRange_any (w : World) (n : Int) :
    Calls Tryz.prog 49 #[.int .i64 n] w fun e w' => e = .returned (.bool (inR n)) ∧ w' = w := by
  by_cases h0 : 0 ≤ n
  · have d0 : decide (0 ≤ n) = true := decide_eq_true h0
    by_cases h1 : n ≤ 100
    · have d1 : decide (n ≤ 100) = true := decide_eq_true h1
      have HF := hidp (show inR n = true from by unfold inR; simp [*])
      go_enter Tryz.func49, Tryz.ntmps49
      go_wp2_with fail
      go_ret
      exact ⟨by rw [HF.out]; rfl, rfl⟩
    · have d1 : decide (n ≤ 100) = false := decide_eq_false h1
      have HF := hidp (show inR n = false from by unfold inR; simp [*])
      go_enter Tryz.func49, Tryz.ntmps49
      go_wp2_with fail
      go_ret
      exact ⟨by rw [HF.out]; rfl, rfl⟩
  · have d0 : decide (0 ≤ n) = false := decide_eq_false h0
    have HF := hidp (show inR n = false from by unfold inR; simp [*])
    go_enter Tryz.func49, Tryz.ntmps49
    go_wp2_with fail
    go_ret
    exact ⟨by rw [HF.out]; rfl, rfl⟩
set_option maxHeartbeats 4000000 in
theorem isUser_any (w : World) (t : ByteArray) (hs : t.size ≤ 281474976710656) (hI : IT w) :
    Calls Tryz.prog 50 #[.string t] w fun e w' => e = .returned (.bool (usr t)) ∧ Below w.heap.size w w' := by
  have c := hidp (user_any w t hs hI)
  clear hI
  cases hq : who 1 t with
  | none =>
    rw [hq] at c
    have HF := hidp (show usr t = false from by unfold usr; rw [hq]; rfl)
    have HV := hidp (show whoV none = .tuple #[.int .i64 0, .bool false] from rfl)
    rw [HV.out] at c
    go_enter Tryz.func50, Tryz.ntmps50
    go_wp2_with fail
    refine c.out.mono ?_
    rintro e w1 ⟨rfl, hb⟩
    have HB := hidp hb; clear hb
    go_wp2_with fail
    go_ret
    exact ⟨by rw [HF.out]; rfl, HB.out⟩
  | some n =>
    rw [hq] at c
    have HF := hidp (show usr t = true from by unfold usr; rw [hq]; rfl)
    have HV := hidp (show whoV (some n) = .tuple #[.int .i64 (n : Int), .bool true] from rfl)
    rw [HV.out] at c
    go_enter Tryz.func50, Tryz.ntmps50
    go_wp2_with fail
    refine c.out.mono ?_
    rintro e w1 ⟨rfl, hb⟩
    have HB := hidp hb; clear hb
    go_wp2_with fail
    go_ret
    exact ⟨by rw [HF.out]; rfl, HB.out⟩
end Go.Proofs.YtkcgmimcopoknaaGreatDoor

namespace Go.Proofs.YtkcgmimcopoknaaGreatDoor
set_option maxRecDepth 100000
set_option linter.unusedVariables false
set_option linter.unusedSimpArgs false
open Go.RowKit Rw


set_option maxHeartbeats 4000000 in
theorem numbersOf_any (w : World) (l : Lv) (v : Value) :
    Calls Tryz.prog 48 #[.agg #[.int .i64 l.a, .int .i64 l.s, .int .i64 l.i, .int .i64 l.k, .int .i64 l.b, .int .i64 l.r, v]] w fun e w' => e = .returned (.agg #[.int .i64 l.a, .int .i64 l.s, .int .i64 l.i, .int .i64 l.k, .int .i64 l.b, .int .i64 l.r]) ∧ Below w.heap.size w w' := by
  go_enter Tryz.func48, Tryz.ntmps48
  go_wp2_with (first | (refine Rt.wpL_box 47 rfl (.tmp 0) rfl [.int .i64 l.a, .int .i64 l.s, .int .i64 l.i, .int .i64 l.k, .int .i64 l.b, .int .i64 l.r, v] rfl ?_; intro b1 w1 n1; have HB1 := hidp n1.below; have hg_b1 := hidp n1.le; have HA1 := hidp n1.arr; clear n1) | (refine Rt.wpL_new tyN (some 2) rfl rfl rfl ?_; intro b2 w2 n2; have HB2 := hidp (HB1.out.trans (n2.below.mono HB1.out.size)); have hg_b2 := hidp (Nat.le_trans HB1.out.size n2.le); have HA2 := hidp (n2.old HA1.out); have hl_HA_b2 := hidp (show b1 < b2 from by have := n2.at_; have := HA1.out.lt; omega); have HN2 := hidp n2.arr; clear n2 HA1 HB1; obtain ⟨x0, x1, x2, x3, x4, x5, x6⟩ := arr7 HA2.out) | (refine Rt.wpL_put tyN rfl (.tmp 2) (.tmp 15) rfl b2 [.int .i64 l.a, .int .i64 l.s, .int .i64 l.i, .int .i64 l.k, .int .i64 l.b, .int .i64 l.r] rfl rfl rfl (by simp [Value.oneCell']) zN rfl HN2.out ?_; intro w3 ha hp; have HB3 := hidp (hp.below' HB2.out hg_b2.out); have HA3 := hidp (hp.arr (by have := hl_HA_b2.out; omega) HA2.out); have HN3 := hidp ha; clear ha hp HB2 HA2 HN2))
  refine bodyPost_ret (results_cell_row (P := Tryz.prog) (p := 2) (ty := 89) Tryz.results48 _ _ b2 89 ([.int .i64 l.a, .int .i64 l.s, .int .i64 l.i, .int .i64 l.k, .int .i64 l.b, .int .i64 l.r] : List Value).toArray (0, 0) _ rfl HN3.out Tryz.underlying89 rfl (tyN.size rfl)) rfl ⟨rfl, HB3.out⟩

set_option maxHeartbeats 4000000 in
theorem levelsOf_any (w : World) (l : Lv) :
    Calls Tryz.prog 108 #[.agg #[.int .i64 l.a, .int .i64 l.s, .int .i64 l.i, .int .i64 l.k, .int .i64 l.b, .int .i64 l.r]] w fun e w' => e = .returned (.agg #[.int .i64 l.a, .int .i64 l.s, .int .i64 l.i, .int .i64 l.k, .int .i64 l.b, .int .i64 l.r, .slice none 0 0]) ∧ Below w.heap.size w w' := by
  go_enter Tryz.func108, Tryz.ntmps108
  go_wp2_with (first | (refine Rt.wpL_box 89 rfl (.tmp 0) rfl [.int .i64 l.a, .int .i64 l.s, .int .i64 l.i, .int .i64 l.k, .int .i64 l.b, .int .i64 l.r] rfl ?_; intro b1 w1 n1; have HB1 := hidp n1.below; have hg_b1 := hidp n1.le; have HA1 := hidp n1.arr; clear n1) | (refine Rt.wpL_new tyL (some 2) rfl rfl rfl ?_; intro b2 w2 n2; have HB2 := hidp (HB1.out.trans (n2.below.mono HB1.out.size)); have hg_b2 := hidp (Nat.le_trans HB1.out.size n2.le); have HA2 := hidp (n2.old HA1.out); have hl_HA_b2 := hidp (show b1 < b2 from by have := n2.at_; have := HA1.out.lt; omega); have HN2 := hidp n2.arr; clear n2 HA1 HB1; obtain ⟨x0, x1, x2, x3, x4, x5⟩ := arr6n HA2.out) | (refine Rt.wpL_put tyL rfl (.tmp 2) (.tmp 15) rfl b2 [.int .i64 l.a, .int .i64 l.s, .int .i64 l.i, .int .i64 l.k, .int .i64 l.b, .int .i64 l.r, .slice none 0 0] rfl rfl rfl (by simp [Value.oneCell']) zL rfl HN2.out ?_; intro w3 ha hp; have HB3 := hidp (hp.below' HB2.out hg_b2.out); have HA3 := hidp (hp.arr (by have := hl_HA_b2.out; omega) HA2.out); have HN3 := hidp ha; clear ha hp HB2 HA2 HN2))
  refine bodyPost_ret (results_cell_row (P := Tryz.prog) (p := 2) (ty := 47) Tryz.results108 _ _ b2 47 ([.int .i64 l.a, .int .i64 l.s, .int .i64 l.i, .int .i64 l.k, .int .i64 l.b, .int .i64 l.r, .slice none 0 0] : List Value).toArray (0, 0) _ rfl HN3.out Tryz.underlying47 rfl (tyL.size rfl)) rfl ⟨rfl, HB3.out⟩

set_option maxHeartbeats 8000000 in
theorem own_any (w : World) (l : Lv) (v : Value) (u : ByteArray) (hv : UsAt w v l.us) :
    Calls Tryz.prog 51 #[.agg #[.int .i64 l.a, .int .i64 l.s, .int .i64 l.i, .int .i64 l.k, .int .i64 l.b, .int .i64 l.r, v], .string u] w fun e w' => e = .returned (ownV (ownL l.us u)) ∧ Below w.heap.size w w' := by
  obtain ⟨us, hus⟩ : ∃ us, l.us = us := ⟨_, rfl⟩
  rw [hus] at hv ⊢
  clear hus
  have HV := hidp hv; clear hv
  obtain ⟨av, cv, rfl⟩ := HV.out.form
  obtain ⟨n, hn⟩ : ∃ n, us.length = n := ⟨_, rfl⟩
  have HN := hidp hn
  have hn47 := HV.out.len
  rw [hn] at HV hn47 ⊢
  clear hn
  go_enter Tryz.func51, Tryz.ntmps51
  go_wp2_with (refine Rt.wpL_box 47 rfl (.tmp 0) rfl [.int .i64 l.a, .int .i64 l.s, .int .i64 l.i, .int .i64 l.k, .int .i64 l.b, .int .i64 l.r, .slice av n cv] rfl ?_; intro b1 w1 n1; have HB1 := hidp n1.below; have hg_b1 := hidp n1.le; have HA1 := hidp n1.arr; clear n1; obtain ⟨x0, x1, x2, x3, x4, x5, x6⟩ := arr7 HA1.out)
  go_loopw [11] (fun t11 wr => ∃ i : Nat, t11 = .int .i64 (i : Int) ∧ i ≤ n ∧ ownL us u = ownL (us.drop i) u ∧ Below w.heap.size w wr ∧ Arr wr b1 47 [.int .i64 l.a, .int .i64 l.s, .int .i64 l.i, .int .i64 l.k, .int .i64 l.b, .int .i64 l.r, .slice av n cv]) (fun t11 _ => n - (intOf t11).toNat)
  case atStart => exact ⟨0, rfl, by omega, rfl, HB1.out, HA1.out⟩
  case round =>
    obtain ⟨i, rfl, hi, hok, hb, ha⟩ := hrel
    have HOK := hidp hok; have HB := hidp hb; have HA := hidp ha
    clear x0 x1 x2 x3 x4 x5 x6
    clear hok hb ha
    obtain ⟨x0, x1, x2, x3, x4, x5, x6⟩ := arr7 HA.out
    by_cases hlt : i < n
    · have e1 : decide ((i : Int) < (n : Int)) = true := by simp; omega
      have hgl : i < us.length := by rw [HN.out]; exact hlt
      obtain ⟨BK, off, c, e2, hc, hBK0, hR0⟩ := HV.out.get (by rw [HN.out]; omega)
      rw [HN.out] at e2
      simp only [Value.slice.injEq] at e2
      obtain ⟨rfl, -, rfl⟩ := e2
      have hBK := hidp (show BK < wr.heap.size from Nat.lt_of_lt_of_le hBK0 HB.out.size)
      obtain ⟨p, hpe0⟩ : ∃ p, us[i] = p := ⟨_, rfl⟩
      have HRI := hidp (show wr.rangeAt BK (off + 2 * i) (uR p) from by rw [← hpe0]; exact rangeAt_below (hR0 i hgl) HB.out hBK0)
      have HST := hidp (own_step (u := u) hgl)
      rw [hpe0] at HST
      clear hR0 hBK0 hpe0 hc
      cases hq : (p.1.toList == u.toList) with
      | true =>
        have HF := hidp (show ownL us u = some p.2 from by rw [HOK.out, HST.out, if_pos hq])
        clear x0 x1 x2 x3 x4 x5 x6
        go_wp2_with (first | (refine wpL_idxR tyU rfl (.tmp 9) (.tmp 11) rfl BK off n _ i rfl rfl hlt ?_) | (refine wpL_atR tyU rfl (.tmp 13) rfl BK (off + 2 * i) (uR p) rfl rfl HRI.out ?_) | (refine Rt.wpL_new tyP (some 7) rfl rfl rfl ?_; intro b7 wq1 n1; have HB1 := hidp (HB.out.trans (n1.below.mono HB.out.size)); have hbw := hidp (Nat.le_trans HB.out.size n1.le); have HA1 := hidp (n1.old HA.out); have hab := hidp (show b1 < b7 from by have := n1.at_; have := HA.out.lt; omega)) | (refine Rt.wpL_put tyP rfl (.tmp 7) (.tmp 14) rfl b7 (uR p) rfl rfl rfl (uR_one p) zU rfl n1.arr ?_; intro wq2 ha hp; have HB2 := hidp (hp.below' HB1.out hbw.out); have HE2 := hidp (show Arr wq2 b7 93 [.string p.1, .int .i64 p.2] from ha); have HA2 := hidp (hp.arr (by have := hab.out; omega) HA1.out); obtain ⟨y0, y1⟩ := arr2 HE2.out; clear ha hp n1 HB1 HA1))
        go_ret2
        exact ⟨by rw [HF.out]; rfl, HB2.out⟩
      | false =>
        have HF := hidp (show ownL us u = ownL (us.drop (i + 1)) u from by rw [HOK.out, HST.out, if_neg (by rw [hq]; exact Bool.false_ne_true)])
        clear x0 x1 x2 x3 x4 x5 x6
        go_wp2_with (first | (refine wpL_idxR tyU rfl (.tmp 9) (.tmp 11) rfl BK off n _ i rfl rfl hlt ?_) | (refine wpL_atR tyU rfl (.tmp 13) rfl BK (off + 2 * i) (uR p) rfl rfl HRI.out ?_) | (refine Rt.wpL_new tyP (some 7) rfl rfl rfl ?_; intro b7 wq1 n1; have HB1 := hidp (HB.out.trans (n1.below.mono HB.out.size)); have hbw := hidp (Nat.le_trans HB.out.size n1.le); have HA1 := hidp (n1.old HA.out); have hab := hidp (show b1 < b7 from by have := n1.at_; have := HA.out.lt; omega)) | (refine Rt.wpL_put tyP rfl (.tmp 7) (.tmp 14) rfl b7 (uR p) rfl rfl rfl (uR_one p) zU rfl n1.arr ?_; intro wq2 ha hp; have HB2 := hidp (hp.below' HB1.out hbw.out); have HE2 := hidp (show Arr wq2 b7 93 [.string p.1, .int .i64 p.2] from ha); have HA2 := hidp (hp.arr (by have := hab.out; omega) HA1.out); obtain ⟨y0, y1⟩ := arr2 HE2.out; clear ha hp n1 HB1 HA1))
        exact ⟨⟨i + 1, by go_num, by omega, HF.out, HB2.out, HA2.out⟩, by simp [intOf]; omega⟩
    · have e1 : decide ((i : Int) < (n : Int)) = false := by simp; omega
      have HF := hidp (show ownL us u = none from by rw [HOK.out, List.drop_eq_nil_of_le (by rw [HN.out]; omega)]; rfl)
      go_wp2_with fail
      go_ret2
      exact ⟨by rw [HF.out]; rfl, HB.out⟩

set_option maxHeartbeats 4000000 in
theorem of_any (w : World) (l : Lv) (v : Value) (u : ByteArray) (hv : UsAt w v l.us) :
    Calls Tryz.prog 22 #[.agg #[.int .i64 l.a, .int .i64 l.s, .int .i64 l.i, .int .i64 l.k, .int .i64 l.b, .int .i64 l.r, v], .string u] w fun e w' => e = .returned (.int .i64 (ofL l u)) ∧ Below w.heap.size w w' := by
  have HV := hidp hv
  have c := hidp (fun W h => own_any W l v u h)
  clear hv
  cases hq : ownL l.us u with
  | none =>
    rw [hq] at c
    have HF := hidp (show ofL l u = l.a from by unfold ofL; rw [hq]; rfl)
    simp only [ownV] at c
    go_enter Tryz.func22, Tryz.ntmps22
    go_wp2_with (first | (refine Rt.wpL_box 47 rfl (.tmp 0) rfl [.int .i64 l.a, .int .i64 l.s, .int .i64 l.i, .int .i64 l.k, .int .i64 l.b, .int .i64 l.r, v] rfl ?_; intro b2 w1 n1; have HB1 := hidp n1.below; have hg_b2 := hidp n1.le; have HA1 := hidp n1.arr; clear n1) | (refine Rt.wpL_get tyL rfl (.tmp 2) rfl b2 [.int .i64 l.a, .int .i64 l.s, .int .i64 l.i, .int .i64 l.k, .int .i64 l.b, .int .i64 l.r, v] rfl rfl HA1.out ?_) | (go_at_call 51; refine (c.out _ (HV.out.to HB1.out)).mono ?_; rintro e w2 ⟨rfl, hb⟩; have HB2 := hidp (HB1.out.trans (hb.mono HB1.out.size)); have HA2 := hidp (HA1.out.below hb HA1.out.lt); clear hb HB1 HA1; obtain ⟨x0, x1, x2, x3, x4, x5, x6⟩ := arr7 HA2.out))
    go_ret
    exact ⟨by rw [HF.out]; rfl, HB2.out⟩
  | some n =>
    rw [hq] at c
    have HF := hidp (show ofL l u = n from by unfold ofL; rw [hq]; rfl)
    simp only [ownV] at c
    go_enter Tryz.func22, Tryz.ntmps22
    go_wp2_with (first | (refine Rt.wpL_box 47 rfl (.tmp 0) rfl [.int .i64 l.a, .int .i64 l.s, .int .i64 l.i, .int .i64 l.k, .int .i64 l.b, .int .i64 l.r, v] rfl ?_; intro b2 w1 n1; have HB1 := hidp n1.below; have hg_b2 := hidp n1.le; have HA1 := hidp n1.arr; clear n1) | (refine Rt.wpL_get tyL rfl (.tmp 2) rfl b2 [.int .i64 l.a, .int .i64 l.s, .int .i64 l.i, .int .i64 l.k, .int .i64 l.b, .int .i64 l.r, v] rfl rfl HA1.out ?_) | (go_at_call 51; refine (c.out _ (HV.out.to HB1.out)).mono ?_; rintro e w2 ⟨rfl, hb⟩; have HB2 := hidp (HB1.out.trans (hb.mono HB1.out.size)); have HA2 := hidp (HA1.out.below hb HA1.out.lt); clear hb HB1 HA1; obtain ⟨x0, x1, x2, x3, x4, x5, x6⟩ := arr7 HA2.out))
    go_ret
    exact ⟨by rw [HF.out]; rfl, HB2.out⟩
end Go.Proofs.YtkcgmimcopoknaaGreatDoor

namespace Go.Proofs.YtkcgmimcopoknaaGreatDoor
set_option maxRecDepth 100000
set_option linter.unusedVariables false
set_option linter.unusedSimpArgs false
open Go.RowKit Rw


theorem uR_cells {w : World} {b o : Nat} {p : ByteArray × Int} (h : w.rangeAt b o (uR p)) : w.cell? ⟨b, o, none⟩ = some (.string p.1) ∧ w.cell? ⟨b, o + 1, none⟩ = some (.int .i64 p.2) := ⟨h 0 _ rfl, h 1 _ rfl⟩
theorem index_num (l : Lv) (i : Nat) (hi : i < 6) (W : World) : (Instr.index 89 (.agg #[.int .i64 l.a, .int .i64 l.s, .int .i64 l.i, .int .i64 l.k, .int .i64 l.b, .int .i64 l.r]) (.int .i64 (i : Int))).run Tryz.prog W = .ok (.int .i64 ((sixL l).getD i 0)) W := by
  obtain ⟨i0, hi0, hz1⟩ : ∃ i0, Tryz.prog.info? 3 = some i0 ∧ i0.size = 1 := by
    have h : (Tryz.prog.info? 3).map (·.size) = some 1 := by kernel_rfl
    cases hq : Tryz.prog.info? 3 with
    | none => rw [hq] at h; cases h
    | some i0 => rw [hq] at h; exact ⟨i0, rfl, by simpa using h⟩
  have hu : Tryz.prog.underlying 89 = some (.array 6 3) := by kernel_rfl
  have h1 : (0 : Int) ≤ (i : Int) ∧ (i : Int) < ((6 : Nat) : Int) := by omega
  have hx : (#[.int .i64 l.a, .int .i64 l.s, .int .i64 l.i, .int .i64 l.k, .int .i64 l.b, .int .i64 l.r] : Array Value)[i]? = some (.int .i64 ((sixL l).getD i 0)) := by
    match i, hi with
    | 0, _ => rfl
    | 1, _ => rfl
    | 2, _ => rfl
    | 3, _ => rfl
    | 4, _ => rfl
    | 5, _ => rfl
  obtain ⟨xs, hxs⟩ : ∃ xs : Array Value, (#[.int .i64 l.a, .int .i64 l.s, .int .i64 l.i, .int .i64 l.k, .int .i64 l.b, .int .i64 l.r] : Array Value) = xs := ⟨_, rfl⟩
  rw [hxs] at hx ⊢
  simp [Instr.index, run_underlying hu, asIntOf, part, sizeOf, typeInfo, hi0, hz1, hx, hi, go_sem]
theorem same_b {f : FuncId} {args : Array Value} {w : World} {v : Value} (h : Calls Tryz.prog f args w fun e w' => e = .returned v ∧ w' = w) : Calls Tryz.prog f args w fun e w' => e = .returned v ∧ Below w.heap.size w w' :=
  h.mono fun e w' ⟨he, hw⟩ => ⟨he, hw ▸ Below.refl _ _⟩
theorem six_bad {l : Lv} {i : Nat} (hi : i < 6) (h : inR ((sixL l).getD i 0) = false) : lvE l = 2 := by
  refine if_neg fun hh => ?_
  unfold lvOk at hh
  simp only [Bool.and_eq_true, List.all_eq_true] at hh
  have hl : i < (sixL l).length := hi
  have := hh.1.1 _ (List.getElem_mem hl)
  rw [List.getD_eq_getElem?_getD, List.getElem?_eq_getElem hl] at h
  rw [show ((some (sixL l)[i]).getD 0) = (sixL l)[i] from rfl, this] at h
  cases h
theorem us_bad {l : Lv} {i : Nat} (hi : i < l.us.length) (h : uAt l.us i = false) : lvE l = 2 := by
  refine if_neg fun hh => ?_
  unfold lvOk at hh
  simp only [Bool.and_eq_true] at hh
  have := uTo_le hh.2 hi
  rw [this] at h; cases h

set_option maxHeartbeats 32000000 in
theorem lvCheck_any (w : World) (l : Lv) (v : Value) (hv : UsAt w v l.us) (hP : PT w) :
    Calls Tryz.prog 20 #[.agg #[.int .i64 l.a, .int .i64 l.s, .int .i64 l.i, .int .i64 l.k, .int .i64 l.b, .int .i64 l.r, v]] w fun e w' => e = .returned (.int .i64 (lvE l)) ∧ Below w.heap.size w w' := by
  have HP := hidp hP; clear hP
  have HV := hidp hv; clear hv
  obtain ⟨av, cv, rfl⟩ := HV.out.form
  obtain ⟨n, hn⟩ : ∃ n, l.us.length = n := ⟨_, rfl⟩
  have HN := hidp hn
  have hn47 := HV.out.len
  rw [hn] at HV hn47 ⊢
  clear hn
  have cn := hidp (fun W => numbersOf_any W l (.slice av n cv))
  by_cases h16 : 16 < n
  · have e0 : decide ((n : Int) > 16) = true := by simp; omega
    have HF := hidp (show lvE l = 2 from if_neg fun h => by unfold lvOk at h; simp only [Bool.and_eq_true, decide_eq_true_eq] at h; have := HN.out; omega)
    go_enter Tryz.func20, Tryz.ntmps20
    go_wp2_with (refine Rt.wpL_box 47 rfl (.tmp 0) rfl [.int .i64 l.a, .int .i64 l.s, .int .i64 l.i, .int .i64 l.k, .int .i64 l.b, .int .i64 l.r, .slice av n cv] rfl ?_; intro b1 w1 n1; have HB1 := hidp n1.below; have hg_b1 := hidp n1.le; have HA1 := hidp n1.arr; clear n1; obtain ⟨x0, x1, x2, x3, x4, x5, x6⟩ := arr7 HA1.out)
    go_ret
    exact ⟨by rw [HF.out]; rfl, HB1.out⟩
  · have e0 : decide ((n : Int) > 16) = false := by simp; omega
    go_enter Tryz.func20, Tryz.ntmps20
    go_wp2_with (first | (refine Rt.wpL_box 47 rfl (.tmp 0) rfl [.int .i64 l.a, .int .i64 l.s, .int .i64 l.i, .int .i64 l.k, .int .i64 l.b, .int .i64 l.r, .slice av n cv] rfl ?_; intro b1 w1 n1; have HB1 := hidp n1.below; have hg_b1 := hidp n1.le; have HA1 := hidp n1.arr; clear n1; obtain ⟨x0, x1, x2, x3, x4, x5, x6⟩ := arr7 HA1.out) | (refine Rt.wpL_get tyL rfl (.tmp 1) rfl b1 [.int .i64 l.a, .int .i64 l.s, .int .i64 l.i, .int .i64 l.k, .int .i64 l.b, .int .i64 l.r, .slice av n cv] rfl rfl HA1.out ?_) | (go_at_call 48; refine (cn.out _).mono ?_; rintro e w2 ⟨rfl, hb⟩; have HB2 := hidp (HB1.out.trans (hb.mono HB1.out.size)); have HA2 := hidp (HA1.out.below hb HA1.out.lt); clear hb HB1 HA1))
    go_loopw [13] (fun t13 wr => ∃ i : Nat, t13 = .int .i64 (i : Int) ∧ i ≤ 6 ∧ ((sixL l).take i).all inR = true ∧ Below w.heap.size w wr ∧ Arr wr b1 47 [.int .i64 l.a, .int .i64 l.s, .int .i64 l.i, .int .i64 l.k, .int .i64 l.b, .int .i64 l.r, .slice av n cv]) (fun t13 _ => 6 - (intOf t13).toNat)
    case atStart => exact ⟨0, rfl, by omega, rfl, HB2.out, HA2.out⟩
    case round =>
      obtain ⟨i, rfl, hi, hok, hb, ha⟩ := hrel
      have HOK := hidp hok; have HB := hidp hb; have HA := hidp ha
      clear x0 x1 x2 x3 x4 x5 x6
      clear hok hb ha
      by_cases hlt : i < 6
      · have e1 : decide ((i : Int) < 6) = true := by simp; omega
        have e1n : (i : Int) < 6 := by omega
        have hix := index_num l i hlt wr
        have ci := hidp (fun W => inRange_any W ((sixL l).getD i 0))
        obtain ⟨z, hz⟩ : ∃ z, (sixL l).getD i 0 = z := ⟨_, rfl⟩
        have HZ := hidp hz
        rw [hz] at hix ci
        clear hz
        cases hq : inR z with
        | true =>
          rw [hq] at ci
          have HOK2 := hidp (show ((sixL l).take (i + 1)).all inR = true from by
            rw [List.take_add_one, List.all_append, HOK.out, List.getElem?_eq_getElem (show i < (sixL l).length from hlt)]
            have := HZ.out
            rw [List.getD_eq_getElem?_getD, List.getElem?_eq_getElem (show i < (sixL l).length from hlt)] at this
            simp only [Option.getD_some] at this
            simp [this, hq])
          clear hq
          go_wp2_with (go_at_call 49; refine (ci.out _).mono ?_; rintro e w5 ⟨rfl, rfl⟩)
          exact ⟨⟨i + 1, by go_num, by omega, HOK2.out, HB.out, HA.out⟩, by simp [intOf]; omega⟩
        | false =>
          rw [hq] at ci
          have HF := hidp (six_bad (l := l) hlt (by rw [HZ.out]; exact hq))
          clear hq
          go_wp2_with (go_at_call 49; refine (ci.out _).mono ?_; rintro e w5 ⟨rfl, rfl⟩)
          go_ret
          exact ⟨by rw [HF.out]; rfl, HB.out⟩
      · have e1 : decide ((i : Int) < 6) = false := by simp; omega
        obtain rfl : i = 6 := by omega
        have H6 := hidp (show (sixL l).all inR = true from HOK.out)
        clear HOK
        obtain ⟨x0, x1, x2, x3, x4, x5, x6⟩ := arr7 HA.out
        go_wp2_with fail
        clear e1 hlt hi
        clear x0 x1 x2 x3 x4 x5 x6
        have HBs := HB; have HAs := HA
        clear HB HA
        go_loopw [23] (fun t23 wr => ∃ i : Nat, t23 = .int .i64 (i : Int) ∧ i ≤ n ∧ uTo l.us i = true ∧ Below w.heap.size w wr ∧ Arr wr b1 47 [.int .i64 l.a, .int .i64 l.s, .int .i64 l.i, .int .i64 l.k, .int .i64 l.b, .int .i64 l.r, .slice av n cv]) (fun t23 _ => n - (intOf t23).toNat)
        case atStart => exact ⟨0, rfl, by omega, rfl, HBs.out, HAs.out⟩
        case round =>
          obtain ⟨i, rfl, hi, hok, hb, ha⟩ := hrel
          have HOK := hidp hok; have HB := hidp hb; have HA := hidp ha
          clear hok hb ha HBs HAs
          by_cases hlt : i < n
          · have e1 : decide ((i : Int) < (n : Int)) = true := by simp; omega
            have hgl : i < l.us.length := by rw [HN.out]; exact hlt
            obtain ⟨BK, off, c, e2, hc, hBK0, hR0⟩ := HV.out.get (by rw [HN.out]; omega)
            rw [HN.out] at e2
            simp only [Value.slice.injEq] at e2
            obtain ⟨rfl, -, rfl⟩ := e2
            have hBK := hidp (show BK < wr.heap.size from Nat.lt_of_lt_of_le hBK0 HB.out.size)
            obtain ⟨p, hpe0⟩ : ∃ p, l.us[i] = p := ⟨_, rfl⟩
            have HRI := hidp (show wr.rangeAt BK (off + 2 * i) (uR p) from by rw [← hpe0]; exact rangeAt_below (hR0 i hgl) HB.out hBK0)
            have hR0 := hidp hR0; have hBK0 := hidp hBK0
            have HAT := hidp (show uAt l.us i = (usr p.1 && inR p.2 && (decide (i = 0) || Op.bytesLess (l.us.getD (i - 1) uz).1.toList p.1.toList)) from by unfold uAt; rw [getU hgl, hpe0])
            have cu := hidp (fun W h => isUser_any W p.1 (by have := HV.out.sz p (by rw [← hpe0]; exact List.getElem_mem hgl); omega) h)
            have ci := hidp (fun W => same_b (inRange_any W p.2))
            clear hpe0 hc
            cases hu : usr p.1 with
            | false =>
              rw [hu] at cu
              have HF := hidp (us_bad hgl (by rw [HAT.out, hu]; rfl))
              clear hu
              go_wp2_with (first | (refine wpL_idxR tyU rfl (.tmp 21) (.tmp 23) rfl BK off n _ i rfl rfl hlt ?_) | (refine wpL_atR tyU rfl (.tmp 26) rfl BK (off + 2 * i) (uR p) rfl rfl HRI.out ?_) | (refine Rt.wpL_new tyP (some 6) rfl rfl rfl ?_; intro b6 wq1 n1; have HB1 := hidp (HB.out.trans (n1.below.mono HB.out.size)); have hbw := hidp (Nat.le_trans HB.out.size n1.le); have HA1 := hidp (n1.old HA.out); have hab := hidp (show b1 < b6 from by have := n1.at_; have := HA.out.lt; omega)) | (refine Rt.wpL_put tyP rfl (.tmp 6) (.tmp 27) rfl b6 (uR p) rfl rfl rfl (uR_one p) zU rfl n1.arr ?_; intro wq2 ha hp; have HB2 := hidp (hp.below' HB1.out hbw.out); have HE2 := hidp (show Arr wq2 b6 93 [.string p.1, .int .i64 p.2] from ha); have HA2 := hidp (hp.arr (by have := hab.out; omega) HA1.out); obtain ⟨y0, y1⟩ := arr2 HE2.out; clear ha hp n1 HB1 HA1))
              obtain ⟨U, hU⟩ : ∃ U, ({ wq2 with drawn := wq2.drawn + 1 } : World) = U := ⟨_, rfl⟩
              have bU : Below wq2.heap.size wq2 U := by rw [← hU]; exact (Below.refl _ _).drew
              have HE3 := hidp (HE2.out.below bU HE2.out.lt); have HA3 := hidp (HA2.out.below bU HA2.out.lt); have HB3 := hidp (HB2.out.trans (bU.mono HB2.out.size))
              clear bU HE2 HA2 HB2 y0 y1
              refine wp_region_noPanic ?_
              refine wp_region_scr (S := fun W => Arr W b6 93 [.string p.1, .int .i64 p.2] ∧ Arr W b1 47 [.int .i64 l.a, .int .i64 l.s, .int .i64 l.i, .int .i64 l.k, .int .i64 l.b, .int .i64 l.r, .slice (some ⟨BK, off, none⟩) n cv]) (.take 0 (.take 1 (.one 2 (.take 3 (.take 4 (.take 5 (.take 6 (.take 7 (.take 8 (.take 9 (.take 10 (.take 11 (.take 12 (.take 13 (.take 14 (.take 15 (.take 16 (.take 17 (.take 18 (.take 19 (.take 20 (.take 21 (.take 22 (.take 23 (.take 24 (.take 25 .done)))))))))))))))))))))))))) (by kernel_rfl) (by kernel_rfl) (fun _ _ _ _ _ h => h) (by simp [Scr.depth]) (by kernel_rfl) (by rw [hU]; exact ⟨HE3.out, HA3.out⟩) ?_
              simp only [hU]
              clear hU
              apply s_val
              case ho => rfl
              case hw => rfl
              case hv => intro w hw; obtain ⟨y0, y1⟩ := arr2 hw.1; obtain ⟨x0, x1, x2, x3, x4, x5, x6⟩ := arr7 hw.2; go_simp; first | done | with_reducible rfl | rfl
              simp only [Act.put, List.getElem_toArray, List.getElem_cons_zero, List.getElem_cons_succ, List.setIfInBounds_toArray, List.set_cons_zero, List.set_cons_succ]
              apply s_val
              case ho => rfl
              case hw => rfl
              case hv => intro w hw; obtain ⟨y0, y1⟩ := arr2 hw.1; obtain ⟨x0, x1, x2, x3, x4, x5, x6⟩ := arr7 hw.2; go_simp; first | done | with_reducible rfl | rfl
              simp only [Act.put, List.getElem_toArray, List.getElem_cons_zero, List.getElem_cons_succ, List.setIfInBounds_toArray, List.set_cons_zero, List.set_cons_succ]
              apply o_call (f := 50) (args := #[.string p.1]) (v := .bool false) (hc := cu.out _ (HP.out.1.below HB3.out (Nat.le_refl _)))
              case ho => rfl
              case hw => rfl
              case hop => go_simp; first | done | rfl
              rintro X4 hb
              refine ⟨⟨HE3.out.below hb HE3.out.lt, HA3.out.below hb HA3.out.lt⟩, ?_⟩
              have HE4 := hidp (HE3.out.below hb HE3.out.lt); have HA4 := hidp (HA3.out.below hb HA3.out.lt); have HB4 := hidp (HB3.out.trans (hb.mono HB3.out.size))
              clear hb
              simp only [Act.put, List.getElem_toArray, List.getElem_cons_zero, List.getElem_cons_succ, List.setIfInBounds_toArray, List.set_cons_zero, List.set_cons_succ]
              apply s_val
              case ho => rfl
              case hw => rfl
              case hv => intro w hw; obtain ⟨y0, y1⟩ := arr2 hw.1; obtain ⟨x0, x1, x2, x3, x4, x5, x6⟩ := arr7 hw.2; go_simp; first | done | with_reducible rfl | rfl
              simp only [Act.put, List.getElem_toArray, List.getElem_cons_zero, List.getElem_cons_succ, List.setIfInBounds_toArray, List.set_cons_zero, List.set_cons_succ]
              apply s_val
              case ho => rfl
              case hw => rfl
              case hv => intro w hw; obtain ⟨y0, y1⟩ := arr2 hw.1; obtain ⟨x0, x1, x2, x3, x4, x5, x6⟩ := arr7 hw.2; go_simp; first | done | with_reducible rfl | rfl
              simp only [Act.put, List.getElem_toArray, List.getElem_cons_zero, List.getElem_cons_succ, List.setIfInBounds_toArray, List.set_cons_zero, List.set_cons_succ]
              refine Rt.s_skip rfl rfl ?_
              simp only [Act.put, List.getElem_toArray, List.getElem_cons_zero, List.getElem_cons_succ, List.setIfInBounds_toArray, List.set_cons_zero, List.set_cons_succ]
              refine Rt.s_skip rfl rfl ?_
              simp only [Act.put, List.getElem_toArray, List.getElem_cons_zero, List.getElem_cons_succ, List.setIfInBounds_toArray, List.set_cons_zero, List.set_cons_succ]
              refine Rt.s_skip rfl rfl ?_
              simp only [Act.put, List.getElem_toArray, List.getElem_cons_zero, List.getElem_cons_succ, List.setIfInBounds_toArray, List.set_cons_zero, List.set_cons_succ]
              refine Rt.s_skip rfl rfl ?_
              simp only [Act.put, List.getElem_toArray, List.getElem_cons_zero, List.getElem_cons_succ, List.setIfInBounds_toArray, List.set_cons_zero, List.set_cons_succ]
              apply s_val
              case ho => rfl
              case hw => rfl
              case hv => intro w hw; obtain ⟨y0, y1⟩ := arr2 hw.1; obtain ⟨x0, x1, x2, x3, x4, x5, x6⟩ := arr7 hw.2; go_simp; first | done | with_reducible rfl | rfl
              simp only [Act.put, List.getElem_toArray, List.getElem_cons_zero, List.getElem_cons_succ, List.setIfInBounds_toArray, List.set_cons_zero, List.set_cons_succ]
              apply s_val
              case ho => rfl
              case hw => rfl
              case hv => intro w hw; obtain ⟨y0, y1⟩ := arr2 hw.1; obtain ⟨x0, x1, x2, x3, x4, x5, x6⟩ := arr7 hw.2; go_simp; first | done | with_reducible rfl | rfl
              simp only [Act.put, List.getElem_toArray, List.getElem_cons_zero, List.getElem_cons_succ, List.setIfInBounds_toArray, List.set_cons_zero, List.set_cons_succ]
              refine Rt.s_skip rfl rfl ?_
              simp only [Act.put, List.getElem_toArray, List.getElem_cons_zero, List.getElem_cons_succ, List.setIfInBounds_toArray, List.set_cons_zero, List.set_cons_succ]
              refine Rt.s_skip rfl rfl ?_
              simp only [Act.put, List.getElem_toArray, List.getElem_cons_zero, List.getElem_cons_succ, List.setIfInBounds_toArray, List.set_cons_zero, List.set_cons_succ]
              refine Rt.s_skip rfl rfl ?_
              simp only [Act.put, List.getElem_toArray, List.getElem_cons_zero, List.getElem_cons_succ, List.setIfInBounds_toArray, List.set_cons_zero, List.set_cons_succ]
              refine Rt.s_skip rfl rfl ?_
              simp only [Act.put, List.getElem_toArray, List.getElem_cons_zero, List.getElem_cons_succ, List.setIfInBounds_toArray, List.set_cons_zero, List.set_cons_succ]
              refine Rt.s_skip rfl rfl ?_
              simp only [Act.put, List.getElem_toArray, List.getElem_cons_zero, List.getElem_cons_succ, List.setIfInBounds_toArray, List.set_cons_zero, List.set_cons_succ]
              refine Rt.s_skip rfl rfl ?_
              simp only [Act.put, List.getElem_toArray, List.getElem_cons_zero, List.getElem_cons_succ, List.setIfInBounds_toArray, List.set_cons_zero, List.set_cons_succ]
              refine Rt.s_skip rfl rfl ?_
              simp only [Act.put, List.getElem_toArray, List.getElem_cons_zero, List.getElem_cons_succ, List.setIfInBounds_toArray, List.set_cons_zero, List.set_cons_succ]
              refine Rt.s_skip rfl rfl ?_
              simp only [Act.put, List.getElem_toArray, List.getElem_cons_zero, List.getElem_cons_succ, List.setIfInBounds_toArray, List.set_cons_zero, List.set_cons_succ]
              refine Rt.s_skip rfl rfl ?_
              simp only [Act.put, List.getElem_toArray, List.getElem_cons_zero, List.getElem_cons_succ, List.setIfInBounds_toArray, List.set_cons_zero, List.set_cons_succ]
              refine Rt.s_skip rfl rfl ?_
              simp only [Act.put, List.getElem_toArray, List.getElem_cons_zero, List.getElem_cons_succ, List.setIfInBounds_toArray, List.set_cons_zero, List.set_cons_succ]
              refine Rt.s_skip rfl rfl ?_
              simp only [Act.put, List.getElem_toArray, List.getElem_cons_zero, List.getElem_cons_succ, List.setIfInBounds_toArray, List.set_cons_zero, List.set_cons_succ]
              refine Rt.s_skip rfl rfl ?_
              simp only [Act.put, List.getElem_toArray, List.getElem_cons_zero, List.getElem_cons_succ, List.setIfInBounds_toArray, List.set_cons_zero, List.set_cons_succ]
              refine Rt.s_skip rfl rfl ?_
              simp only [Act.put, List.getElem_toArray, List.getElem_cons_zero, List.getElem_cons_succ, List.setIfInBounds_toArray, List.set_cons_zero, List.set_cons_succ]
              refine Rt.s_skip rfl rfl ?_
              simp only [Act.put, List.getElem_toArray, List.getElem_cons_zero, List.getElem_cons_succ, List.setIfInBounds_toArray, List.set_cons_zero, List.set_cons_succ]
              apply s_val
              case ho => rfl
              case hw => rfl
              case hv => intro w hw; obtain ⟨y0, y1⟩ := arr2 hw.1; obtain ⟨x0, x1, x2, x3, x4, x5, x6⟩ := arr7 hw.2; go_simp; first | done | with_reducible rfl | rfl
              simp only [Act.put, List.getElem_toArray, List.getElem_cons_zero, List.getElem_cons_succ, List.setIfInBounds_toArray, List.set_cons_zero, List.set_cons_succ]
              refine NoPanic.normal ?_
              have HBZ := HB4; have HAZ := HA4
              go_wp2_with fail
              go_ret
              exact ⟨by rw [HF.out]; rfl, HBZ.out⟩
            | true =>
              rw [hu] at cu
              cases hr : inR p.2 with
              | false =>
                rw [hr] at ci
                have HF := hidp (us_bad hgl (by rw [HAT.out, hu, hr]; rfl))
                clear hu hr
                go_wp2_with (first | (refine wpL_idxR tyU rfl (.tmp 21) (.tmp 23) rfl BK off n _ i rfl rfl hlt ?_) | (refine wpL_atR tyU rfl (.tmp 26) rfl BK (off + 2 * i) (uR p) rfl rfl HRI.out ?_) | (refine Rt.wpL_new tyP (some 6) rfl rfl rfl ?_; intro b6 wq1 n1; have HB1 := hidp (HB.out.trans (n1.below.mono HB.out.size)); have hbw := hidp (Nat.le_trans HB.out.size n1.le); have HA1 := hidp (n1.old HA.out); have hab := hidp (show b1 < b6 from by have := n1.at_; have := HA.out.lt; omega)) | (refine Rt.wpL_put tyP rfl (.tmp 6) (.tmp 27) rfl b6 (uR p) rfl rfl rfl (uR_one p) zU rfl n1.arr ?_; intro wq2 ha hp; have HB2 := hidp (hp.below' HB1.out hbw.out); have HE2 := hidp (show Arr wq2 b6 93 [.string p.1, .int .i64 p.2] from ha); have HA2 := hidp (hp.arr (by have := hab.out; omega) HA1.out); obtain ⟨y0, y1⟩ := arr2 HE2.out; clear ha hp n1 HB1 HA1))
                obtain ⟨U, hU⟩ : ∃ U, ({ wq2 with drawn := wq2.drawn + 1 } : World) = U := ⟨_, rfl⟩
                have bU : Below wq2.heap.size wq2 U := by rw [← hU]; exact (Below.refl _ _).drew
                have HE3 := hidp (HE2.out.below bU HE2.out.lt); have HA3 := hidp (HA2.out.below bU HA2.out.lt); have HB3 := hidp (HB2.out.trans (bU.mono HB2.out.size))
                clear bU HE2 HA2 HB2 y0 y1
                refine wp_region_noPanic ?_
                refine wp_region_scr (S := fun W => Arr W b6 93 [.string p.1, .int .i64 p.2] ∧ Arr W b1 47 [.int .i64 l.a, .int .i64 l.s, .int .i64 l.i, .int .i64 l.k, .int .i64 l.b, .int .i64 l.r, .slice (some ⟨BK, off, none⟩) n cv]) (.take 0 (.take 1 (.one 2 (.take 3 (.take 4 (.take 5 (.take 6 (.one 7 (.take 8 (.take 9 (.take 10 (.take 11 (.take 12 (.take 13 (.take 14 (.take 15 (.take 16 (.take 17 (.take 18 (.take 19 (.take 20 (.take 21 (.take 22 (.take 23 (.take 24 (.take 25 .done)))))))))))))))))))))))))) (by kernel_rfl) (by kernel_rfl) (fun _ _ _ _ _ h => h) (by simp [Scr.depth]) (by kernel_rfl) (by rw [hU]; exact ⟨HE3.out, HA3.out⟩) ?_
                simp only [hU]
                clear hU
                apply s_val
                case ho => rfl
                case hw => rfl
                case hv => intro w hw; obtain ⟨y0, y1⟩ := arr2 hw.1; obtain ⟨x0, x1, x2, x3, x4, x5, x6⟩ := arr7 hw.2; go_simp; first | done | with_reducible rfl | rfl
                simp only [Act.put, List.getElem_toArray, List.getElem_cons_zero, List.getElem_cons_succ, List.setIfInBounds_toArray, List.set_cons_zero, List.set_cons_succ]
                apply s_val
                case ho => rfl
                case hw => rfl
                case hv => intro w hw; obtain ⟨y0, y1⟩ := arr2 hw.1; obtain ⟨x0, x1, x2, x3, x4, x5, x6⟩ := arr7 hw.2; go_simp; first | done | with_reducible rfl | rfl
                simp only [Act.put, List.getElem_toArray, List.getElem_cons_zero, List.getElem_cons_succ, List.setIfInBounds_toArray, List.set_cons_zero, List.set_cons_succ]
                apply o_call (f := 50) (args := #[.string p.1]) (v := .bool true) (hc := cu.out _ (HP.out.1.below HB3.out (Nat.le_refl _)))
                case ho => rfl
                case hw => rfl
                case hop => go_simp; first | done | rfl
                rintro X4 hb
                refine ⟨⟨HE3.out.below hb HE3.out.lt, HA3.out.below hb HA3.out.lt⟩, ?_⟩
                have HE4 := hidp (HE3.out.below hb HE3.out.lt); have HA4 := hidp (HA3.out.below hb HA3.out.lt); have HB4 := hidp (HB3.out.trans (hb.mono HB3.out.size))
                clear hb
                simp only [Act.put, List.getElem_toArray, List.getElem_cons_zero, List.getElem_cons_succ, List.setIfInBounds_toArray, List.set_cons_zero, List.set_cons_succ]
                apply s_val
                case ho => rfl
                case hw => rfl
                case hv => intro w hw; obtain ⟨y0, y1⟩ := arr2 hw.1; obtain ⟨x0, x1, x2, x3, x4, x5, x6⟩ := arr7 hw.2; go_simp; first | done | with_reducible rfl | rfl
                simp only [Act.put, List.getElem_toArray, List.getElem_cons_zero, List.getElem_cons_succ, List.setIfInBounds_toArray, List.set_cons_zero, List.set_cons_succ]
                apply s_val
                case ho => rfl
                case hw => rfl
                case hv => intro w hw; obtain ⟨y0, y1⟩ := arr2 hw.1; obtain ⟨x0, x1, x2, x3, x4, x5, x6⟩ := arr7 hw.2; go_simp; first | done | with_reducible rfl | rfl
                simp only [Act.put, List.getElem_toArray, List.getElem_cons_zero, List.getElem_cons_succ, List.setIfInBounds_toArray, List.set_cons_zero, List.set_cons_succ]
                apply s_val
                case ho => rfl
                case hw => rfl
                case hv => intro w hw; obtain ⟨y0, y1⟩ := arr2 hw.1; obtain ⟨x0, x1, x2, x3, x4, x5, x6⟩ := arr7 hw.2; go_simp; first | done | with_reducible rfl | rfl
                simp only [Act.put, List.getElem_toArray, List.getElem_cons_zero, List.getElem_cons_succ, List.setIfInBounds_toArray, List.set_cons_zero, List.set_cons_succ]
                apply s_val
                case ho => rfl
                case hw => rfl
                case hv => intro w hw; obtain ⟨y0, y1⟩ := arr2 hw.1; obtain ⟨x0, x1, x2, x3, x4, x5, x6⟩ := arr7 hw.2; go_simp; first | done | with_reducible rfl | rfl
                simp only [Act.put, List.getElem_toArray, List.getElem_cons_zero, List.getElem_cons_succ, List.setIfInBounds_toArray, List.set_cons_zero, List.set_cons_succ]
                apply o_call (f := 49) (args := #[.int .i64 p.2]) (v := .bool false) (hc := ci.out _)
                case ho => rfl
                case hw => rfl
                case hop => go_simp; first | done | rfl
                rintro X5 hb
                refine ⟨⟨HE4.out.below hb HE4.out.lt, HA4.out.below hb HA4.out.lt⟩, ?_⟩
                have HE5 := hidp (HE4.out.below hb HE4.out.lt); have HA5 := hidp (HA4.out.below hb HA4.out.lt); have HB5 := hidp (HB4.out.trans (hb.mono HB4.out.size))
                clear hb
                simp only [Act.put, List.getElem_toArray, List.getElem_cons_zero, List.getElem_cons_succ, List.setIfInBounds_toArray, List.set_cons_zero, List.set_cons_succ]
                apply s_val
                case ho => rfl
                case hw => rfl
                case hv => intro w hw; obtain ⟨y0, y1⟩ := arr2 hw.1; obtain ⟨x0, x1, x2, x3, x4, x5, x6⟩ := arr7 hw.2; go_simp; first | done | with_reducible rfl | rfl
                simp only [Act.put, List.getElem_toArray, List.getElem_cons_zero, List.getElem_cons_succ, List.setIfInBounds_toArray, List.set_cons_zero, List.set_cons_succ]
                apply s_val
                case ho => rfl
                case hw => rfl
                case hv => intro w hw; obtain ⟨y0, y1⟩ := arr2 hw.1; obtain ⟨x0, x1, x2, x3, x4, x5, x6⟩ := arr7 hw.2; go_simp; first | done | with_reducible rfl | rfl
                simp only [Act.put, List.getElem_toArray, List.getElem_cons_zero, List.getElem_cons_succ, List.setIfInBounds_toArray, List.set_cons_zero, List.set_cons_succ]
                apply s_val
                case ho => rfl
                case hw => rfl
                case hv => intro w hw; obtain ⟨y0, y1⟩ := arr2 hw.1; obtain ⟨x0, x1, x2, x3, x4, x5, x6⟩ := arr7 hw.2; go_simp; first | done | with_reducible rfl | rfl
                simp only [Act.put, List.getElem_toArray, List.getElem_cons_zero, List.getElem_cons_succ, List.setIfInBounds_toArray, List.set_cons_zero, List.set_cons_succ]
                refine Rt.s_skip rfl rfl ?_
                simp only [Act.put, List.getElem_toArray, List.getElem_cons_zero, List.getElem_cons_succ, List.setIfInBounds_toArray, List.set_cons_zero, List.set_cons_succ]
                refine Rt.s_skip rfl rfl ?_
                simp only [Act.put, List.getElem_toArray, List.getElem_cons_zero, List.getElem_cons_succ, List.setIfInBounds_toArray, List.set_cons_zero, List.set_cons_succ]
                refine Rt.s_skip rfl rfl ?_
                simp only [Act.put, List.getElem_toArray, List.getElem_cons_zero, List.getElem_cons_succ, List.setIfInBounds_toArray, List.set_cons_zero, List.set_cons_succ]
                refine Rt.s_skip rfl rfl ?_
                simp only [Act.put, List.getElem_toArray, List.getElem_cons_zero, List.getElem_cons_succ, List.setIfInBounds_toArray, List.set_cons_zero, List.set_cons_succ]
                refine Rt.s_skip rfl rfl ?_
                simp only [Act.put, List.getElem_toArray, List.getElem_cons_zero, List.getElem_cons_succ, List.setIfInBounds_toArray, List.set_cons_zero, List.set_cons_succ]
                refine Rt.s_skip rfl rfl ?_
                simp only [Act.put, List.getElem_toArray, List.getElem_cons_zero, List.getElem_cons_succ, List.setIfInBounds_toArray, List.set_cons_zero, List.set_cons_succ]
                refine Rt.s_skip rfl rfl ?_
                simp only [Act.put, List.getElem_toArray, List.getElem_cons_zero, List.getElem_cons_succ, List.setIfInBounds_toArray, List.set_cons_zero, List.set_cons_succ]
                refine Rt.s_skip rfl rfl ?_
                simp only [Act.put, List.getElem_toArray, List.getElem_cons_zero, List.getElem_cons_succ, List.setIfInBounds_toArray, List.set_cons_zero, List.set_cons_succ]
                refine Rt.s_skip rfl rfl ?_
                simp only [Act.put, List.getElem_toArray, List.getElem_cons_zero, List.getElem_cons_succ, List.setIfInBounds_toArray, List.set_cons_zero, List.set_cons_succ]
                refine Rt.s_skip rfl rfl ?_
                simp only [Act.put, List.getElem_toArray, List.getElem_cons_zero, List.getElem_cons_succ, List.setIfInBounds_toArray, List.set_cons_zero, List.set_cons_succ]
                refine Rt.s_skip rfl rfl ?_
                simp only [Act.put, List.getElem_toArray, List.getElem_cons_zero, List.getElem_cons_succ, List.setIfInBounds_toArray, List.set_cons_zero, List.set_cons_succ]
                refine Rt.s_skip rfl rfl ?_
                simp only [Act.put, List.getElem_toArray, List.getElem_cons_zero, List.getElem_cons_succ, List.setIfInBounds_toArray, List.set_cons_zero, List.set_cons_succ]
                refine Rt.s_skip rfl rfl ?_
                simp only [Act.put, List.getElem_toArray, List.getElem_cons_zero, List.getElem_cons_succ, List.setIfInBounds_toArray, List.set_cons_zero, List.set_cons_succ]
                refine Rt.s_skip rfl rfl ?_
                simp only [Act.put, List.getElem_toArray, List.getElem_cons_zero, List.getElem_cons_succ, List.setIfInBounds_toArray, List.set_cons_zero, List.set_cons_succ]
                apply s_val
                case ho => rfl
                case hw => rfl
                case hv => intro w hw; obtain ⟨y0, y1⟩ := arr2 hw.1; obtain ⟨x0, x1, x2, x3, x4, x5, x6⟩ := arr7 hw.2; go_simp; first | done | with_reducible rfl | rfl
                simp only [Act.put, List.getElem_toArray, List.getElem_cons_zero, List.getElem_cons_succ, List.setIfInBounds_toArray, List.set_cons_zero, List.set_cons_succ]
                refine NoPanic.normal ?_
                have HBZ := HB5; have HAZ := HA5
                go_wp2_with fail
                go_ret
                exact ⟨by rw [HF.out]; rfl, HBZ.out⟩
              | true =>
                rw [hr] at ci
                by_cases hz : i = 0
                · have ei : decide ((i : Int) > 0) = false := by simp; omega
                  have HOK2 := hidp (show uTo l.us (i + 1) = true from by rw [uTo_succ, HOK.out, HAT.out, hu, hr, decide_eq_true hz]; rfl)
                  have HZ0 := hidp hz
                  clear hu hr hz
                  go_wp2_with (first | (refine wpL_idxR tyU rfl (.tmp 21) (.tmp 23) rfl BK off n _ i rfl rfl hlt ?_) | (refine wpL_atR tyU rfl (.tmp 26) rfl BK (off + 2 * i) (uR p) rfl rfl HRI.out ?_) | (refine Rt.wpL_new tyP (some 6) rfl rfl rfl ?_; intro b6 wq1 n1; have HB1 := hidp (HB.out.trans (n1.below.mono HB.out.size)); have hbw := hidp (Nat.le_trans HB.out.size n1.le); have HA1 := hidp (n1.old HA.out); have hab := hidp (show b1 < b6 from by have := n1.at_; have := HA.out.lt; omega)) | (refine Rt.wpL_put tyP rfl (.tmp 6) (.tmp 27) rfl b6 (uR p) rfl rfl rfl (uR_one p) zU rfl n1.arr ?_; intro wq2 ha hp; have HB2 := hidp (hp.below' HB1.out hbw.out); have HE2 := hidp (show Arr wq2 b6 93 [.string p.1, .int .i64 p.2] from ha); have HA2 := hidp (hp.arr (by have := hab.out; omega) HA1.out); obtain ⟨y0, y1⟩ := arr2 HE2.out; clear ha hp n1 HB1 HA1))
                  obtain ⟨U, hU⟩ : ∃ U, ({ wq2 with drawn := wq2.drawn + 1 } : World) = U := ⟨_, rfl⟩
                  have bU : Below wq2.heap.size wq2 U := by rw [← hU]; exact (Below.refl _ _).drew
                  have HE3 := hidp (HE2.out.below bU HE2.out.lt); have HA3 := hidp (HA2.out.below bU HA2.out.lt); have HB3 := hidp (HB2.out.trans (bU.mono HB2.out.size))
                  clear bU HE2 HA2 HB2 y0 y1
                  refine wp_region_noPanic ?_
                  refine wp_region_scr (S := fun W => Arr W b6 93 [.string p.1, .int .i64 p.2] ∧ Arr W b1 47 [.int .i64 l.a, .int .i64 l.s, .int .i64 l.i, .int .i64 l.k, .int .i64 l.b, .int .i64 l.r, .slice (some ⟨BK, off, none⟩) n cv]) (.take 0 (.take 1 (.one 2 (.take 3 (.take 4 (.take 5 (.take 6 (.one 7 (.take 8 (.take 9 (.take 10 (.take 11 (.take 12 (.take 13 (.take 14 (.take 15 (.take 16 (.take 17 (.take 18 (.take 19 (.take 20 (.take 21 (.take 22 (.take 23 (.take 24 (.take 25 .done)))))))))))))))))))))))))) (by kernel_rfl) (by kernel_rfl) (fun _ _ _ _ _ h => h) (by simp [Scr.depth]) (by kernel_rfl) (by rw [hU]; exact ⟨HE3.out, HA3.out⟩) ?_
                  simp only [hU]
                  clear hU
                  apply s_val
                  case ho => rfl
                  case hw => rfl
                  case hv => intro w hw; obtain ⟨y0, y1⟩ := arr2 hw.1; obtain ⟨x0, x1, x2, x3, x4, x5, x6⟩ := arr7 hw.2; go_simp; first | done | with_reducible rfl | rfl
                  simp only [Act.put, List.getElem_toArray, List.getElem_cons_zero, List.getElem_cons_succ, List.setIfInBounds_toArray, List.set_cons_zero, List.set_cons_succ]
                  apply s_val
                  case ho => rfl
                  case hw => rfl
                  case hv => intro w hw; obtain ⟨y0, y1⟩ := arr2 hw.1; obtain ⟨x0, x1, x2, x3, x4, x5, x6⟩ := arr7 hw.2; go_simp; first | done | with_reducible rfl | rfl
                  simp only [Act.put, List.getElem_toArray, List.getElem_cons_zero, List.getElem_cons_succ, List.setIfInBounds_toArray, List.set_cons_zero, List.set_cons_succ]
                  apply o_call (f := 50) (args := #[.string p.1]) (v := .bool true) (hc := cu.out _ (HP.out.1.below HB3.out (Nat.le_refl _)))
                  case ho => rfl
                  case hw => rfl
                  case hop => go_simp; first | done | rfl
                  rintro X4 hb
                  refine ⟨⟨HE3.out.below hb HE3.out.lt, HA3.out.below hb HA3.out.lt⟩, ?_⟩
                  have HE4 := hidp (HE3.out.below hb HE3.out.lt); have HA4 := hidp (HA3.out.below hb HA3.out.lt); have HB4 := hidp (HB3.out.trans (hb.mono HB3.out.size))
                  clear hb
                  simp only [Act.put, List.getElem_toArray, List.getElem_cons_zero, List.getElem_cons_succ, List.setIfInBounds_toArray, List.set_cons_zero, List.set_cons_succ]
                  apply s_val
                  case ho => rfl
                  case hw => rfl
                  case hv => intro w hw; obtain ⟨y0, y1⟩ := arr2 hw.1; obtain ⟨x0, x1, x2, x3, x4, x5, x6⟩ := arr7 hw.2; go_simp; first | done | with_reducible rfl | rfl
                  simp only [Act.put, List.getElem_toArray, List.getElem_cons_zero, List.getElem_cons_succ, List.setIfInBounds_toArray, List.set_cons_zero, List.set_cons_succ]
                  apply s_val
                  case ho => rfl
                  case hw => rfl
                  case hv => intro w hw; obtain ⟨y0, y1⟩ := arr2 hw.1; obtain ⟨x0, x1, x2, x3, x4, x5, x6⟩ := arr7 hw.2; go_simp; first | done | with_reducible rfl | rfl
                  simp only [Act.put, List.getElem_toArray, List.getElem_cons_zero, List.getElem_cons_succ, List.setIfInBounds_toArray, List.set_cons_zero, List.set_cons_succ]
                  apply s_val
                  case ho => rfl
                  case hw => rfl
                  case hv => intro w hw; obtain ⟨y0, y1⟩ := arr2 hw.1; obtain ⟨x0, x1, x2, x3, x4, x5, x6⟩ := arr7 hw.2; go_simp; first | done | with_reducible rfl | rfl
                  simp only [Act.put, List.getElem_toArray, List.getElem_cons_zero, List.getElem_cons_succ, List.setIfInBounds_toArray, List.set_cons_zero, List.set_cons_succ]
                  apply s_val
                  case ho => rfl
                  case hw => rfl
                  case hv => intro w hw; obtain ⟨y0, y1⟩ := arr2 hw.1; obtain ⟨x0, x1, x2, x3, x4, x5, x6⟩ := arr7 hw.2; go_simp; first | done | with_reducible rfl | rfl
                  simp only [Act.put, List.getElem_toArray, List.getElem_cons_zero, List.getElem_cons_succ, List.setIfInBounds_toArray, List.set_cons_zero, List.set_cons_succ]
                  apply o_call (f := 49) (args := #[.int .i64 p.2]) (v := .bool true) (hc := ci.out _)
                  case ho => rfl
                  case hw => rfl
                  case hop => go_simp; first | done | rfl
                  rintro X5 hb
                  refine ⟨⟨HE4.out.below hb HE4.out.lt, HA4.out.below hb HA4.out.lt⟩, ?_⟩
                  have HE5 := hidp (HE4.out.below hb HE4.out.lt); have HA5 := hidp (HA4.out.below hb HA4.out.lt); have HB5 := hidp (HB4.out.trans (hb.mono HB4.out.size))
                  clear hb
                  simp only [Act.put, List.getElem_toArray, List.getElem_cons_zero, List.getElem_cons_succ, List.setIfInBounds_toArray, List.set_cons_zero, List.set_cons_succ]
                  apply s_val
                  case ho => rfl
                  case hw => rfl
                  case hv => intro w hw; obtain ⟨y0, y1⟩ := arr2 hw.1; obtain ⟨x0, x1, x2, x3, x4, x5, x6⟩ := arr7 hw.2; go_simp; first | done | with_reducible rfl | rfl
                  simp only [Act.put, List.getElem_toArray, List.getElem_cons_zero, List.getElem_cons_succ, List.setIfInBounds_toArray, List.set_cons_zero, List.set_cons_succ]
                  apply s_val
                  case ho => rfl
                  case hw => rfl
                  case hv => intro w hw; obtain ⟨y0, y1⟩ := arr2 hw.1; obtain ⟨x0, x1, x2, x3, x4, x5, x6⟩ := arr7 hw.2; go_simp; first | done | with_reducible rfl | rfl
                  simp only [Act.put, List.getElem_toArray, List.getElem_cons_zero, List.getElem_cons_succ, List.setIfInBounds_toArray, List.set_cons_zero, List.set_cons_succ]
                  apply s_val
                  case ho => rfl
                  case hw => rfl
                  case hv => intro w hw; obtain ⟨y0, y1⟩ := arr2 hw.1; obtain ⟨x0, x1, x2, x3, x4, x5, x6⟩ := arr7 hw.2; go_simp; first | done | with_reducible rfl | rfl
                  simp only [Act.put, List.getElem_toArray, List.getElem_cons_zero, List.getElem_cons_succ, List.setIfInBounds_toArray, List.set_cons_zero, List.set_cons_succ]
                  apply s_val
                  case ho => rfl
                  case hw => rfl
                  case hv => intro w hw; obtain ⟨y0, y1⟩ := arr2 hw.1; obtain ⟨x0, x1, x2, x3, x4, x5, x6⟩ := arr7 hw.2; go_simp; first | done | with_reducible rfl | rfl
                  simp only [Act.put, List.getElem_toArray, List.getElem_cons_zero, List.getElem_cons_succ, List.setIfInBounds_toArray, List.set_cons_zero, List.set_cons_succ]
                  apply s_val (v := .bool false)
                  case ho => rfl
                  case hw => rfl
                  case hv => intro w hw; have q1 := ei; go_simp; first | done | exact HZ0.out | omega | with_reducible rfl | rfl
                  simp only [Act.put, List.getElem_toArray, List.getElem_cons_zero, List.getElem_cons_succ, List.setIfInBounds_toArray, List.set_cons_zero, List.set_cons_succ]
                  apply s_val
                  case ho => rfl
                  case hw => rfl
                  case hv => intro w hw; obtain ⟨y0, y1⟩ := arr2 hw.1; obtain ⟨x0, x1, x2, x3, x4, x5, x6⟩ := arr7 hw.2; go_simp; first | done | with_reducible rfl | rfl
                  simp only [Act.put, List.getElem_toArray, List.getElem_cons_zero, List.getElem_cons_succ, List.setIfInBounds_toArray, List.set_cons_zero, List.set_cons_succ]
                  refine Rt.s_skip rfl rfl ?_
                  simp only [Act.put, List.getElem_toArray, List.getElem_cons_zero, List.getElem_cons_succ, List.setIfInBounds_toArray, List.set_cons_zero, List.set_cons_succ]
                  refine Rt.s_skip rfl rfl ?_
                  simp only [Act.put, List.getElem_toArray, List.getElem_cons_zero, List.getElem_cons_succ, List.setIfInBounds_toArray, List.set_cons_zero, List.set_cons_succ]
                  refine Rt.s_skip rfl rfl ?_
                  simp only [Act.put, List.getElem_toArray, List.getElem_cons_zero, List.getElem_cons_succ, List.setIfInBounds_toArray, List.set_cons_zero, List.set_cons_succ]
                  refine Rt.s_skip rfl rfl ?_
                  simp only [Act.put, List.getElem_toArray, List.getElem_cons_zero, List.getElem_cons_succ, List.setIfInBounds_toArray, List.set_cons_zero, List.set_cons_succ]
                  refine Rt.s_skip rfl rfl ?_
                  simp only [Act.put, List.getElem_toArray, List.getElem_cons_zero, List.getElem_cons_succ, List.setIfInBounds_toArray, List.set_cons_zero, List.set_cons_succ]
                  refine Rt.s_skip rfl rfl ?_
                  simp only [Act.put, List.getElem_toArray, List.getElem_cons_zero, List.getElem_cons_succ, List.setIfInBounds_toArray, List.set_cons_zero, List.set_cons_succ]
                  refine Rt.s_skip rfl rfl ?_
                  simp only [Act.put, List.getElem_toArray, List.getElem_cons_zero, List.getElem_cons_succ, List.setIfInBounds_toArray, List.set_cons_zero, List.set_cons_succ]
                  refine Rt.s_skip rfl rfl ?_
                  simp only [Act.put, List.getElem_toArray, List.getElem_cons_zero, List.getElem_cons_succ, List.setIfInBounds_toArray, List.set_cons_zero, List.set_cons_succ]
                  refine Rt.s_skip rfl rfl ?_
                  simp only [Act.put, List.getElem_toArray, List.getElem_cons_zero, List.getElem_cons_succ, List.setIfInBounds_toArray, List.set_cons_zero, List.set_cons_succ]
                  refine Rt.s_skip rfl rfl ?_
                  simp only [Act.put, List.getElem_toArray, List.getElem_cons_zero, List.getElem_cons_succ, List.setIfInBounds_toArray, List.set_cons_zero, List.set_cons_succ]
                  apply s_val
                  case ho => rfl
                  case hw => rfl
                  case hv => intro w hw; obtain ⟨y0, y1⟩ := arr2 hw.1; obtain ⟨x0, x1, x2, x3, x4, x5, x6⟩ := arr7 hw.2; go_simp; first | done | with_reducible rfl | rfl
                  simp only [Act.put, List.getElem_toArray, List.getElem_cons_zero, List.getElem_cons_succ, List.setIfInBounds_toArray, List.set_cons_zero, List.set_cons_succ]
                  apply s_val
                  case ho => rfl
                  case hw => rfl
                  case hv => intro w hw; obtain ⟨y0, y1⟩ := arr2 hw.1; obtain ⟨x0, x1, x2, x3, x4, x5, x6⟩ := arr7 hw.2; go_simp; first | done | with_reducible rfl | rfl
                  simp only [Act.put, List.getElem_toArray, List.getElem_cons_zero, List.getElem_cons_succ, List.setIfInBounds_toArray, List.set_cons_zero, List.set_cons_succ]
                  refine NoPanic.normal ?_
                  have HBZ := HB5; have HAZ := HA5
                  go_wp2_with fail
                  exact ⟨⟨_, _, _, _, _, _, _, _, _, _, _, _, _, _, _, _, _, _, _, _, _, _, _, _, _, _, _, _, _, _, _, _, _, _, _, ⟨i + 1, by go_num, by omega, HOK2.out, HBZ.out, HAZ.out⟩, rfl⟩, by simp [intOf]; omega⟩
                · have hi0 : 0 < i := by omega
                  have ei : decide ((i : Int) > 0) = true := by simp; omega
                  have hwi : IntKind.i64.wrap ((i : Int) - 1) = ((i - 1 : Nat) : Int) := by rw [IntKind.wrap_i64]; omega
                  have hpl : i - 1 < l.us.length := by omega
                  obtain ⟨q, hqe0⟩ : ∃ q, l.us[i - 1] = q := ⟨_, rfl⟩
                  have hqd : l.us.getD (i - 1) uz = q := by rw [getU hpl]; exact hqe0
                  have hRq := hidp (show w.rangeAt BK (off + 2 * (i - 1)) (uR q) from by rw [← hqe0]; exact hR0.out (i - 1) hpl)
                  have hBKw := hBK0
                  clear hqe0
                  cases hl : Op.bytesLess q.1.toList p.1.toList with
                  | false =>
                    have HF := hidp (us_bad hgl (by rw [HAT.out, hu, hr, hqd, hl, decide_eq_false hz]; rfl))
                    clear hu hr
                    go_wp2_with (first | (refine wpL_idxR tyU rfl (.tmp 21) (.tmp 23) rfl BK off n _ i rfl rfl hlt ?_) | (refine wpL_atR tyU rfl (.tmp 26) rfl BK (off + 2 * i) (uR p) rfl rfl HRI.out ?_) | (refine Rt.wpL_new tyP (some 6) rfl rfl rfl ?_; intro b6 wq1 n1; have HB1 := hidp (HB.out.trans (n1.below.mono HB.out.size)); have hbw := hidp (Nat.le_trans HB.out.size n1.le); have HA1 := hidp (n1.old HA.out); have hab := hidp (show b1 < b6 from by have := n1.at_; have := HA.out.lt; omega)) | (refine Rt.wpL_put tyP rfl (.tmp 6) (.tmp 27) rfl b6 (uR p) rfl rfl rfl (uR_one p) zU rfl n1.arr ?_; intro wq2 ha hp; have HB2 := hidp (hp.below' HB1.out hbw.out); have HE2 := hidp (show Arr wq2 b6 93 [.string p.1, .int .i64 p.2] from ha); have HA2 := hidp (hp.arr (by have := hab.out; omega) HA1.out); obtain ⟨y0, y1⟩ := arr2 HE2.out; clear ha hp n1 HB1 HA1))
                    obtain ⟨U, hU⟩ : ∃ U, ({ wq2 with drawn := wq2.drawn + 1 } : World) = U := ⟨_, rfl⟩
                    have bU : Below wq2.heap.size wq2 U := by rw [← hU]; exact (Below.refl _ _).drew
                    have HE3 := hidp (HE2.out.below bU HE2.out.lt); have HA3 := hidp (HA2.out.below bU HA2.out.lt); have HB3 := hidp (HB2.out.trans (bU.mono HB2.out.size))
                    have HQ3 := hidp (show U.rangeAt BK (off + 2 * (i - 1)) (uR q) from rangeAt_below (hRq.out) HB3.out hBKw.out)
                    clear bU HE2 HA2 HB2 y0 y1
                    refine wp_region_noPanic ?_
                    refine wp_region_scr (S := fun W => Arr W b6 93 [.string p.1, .int .i64 p.2] ∧ Arr W b1 47 [.int .i64 l.a, .int .i64 l.s, .int .i64 l.i, .int .i64 l.k, .int .i64 l.b, .int .i64 l.r, .slice (some ⟨BK, off, none⟩) n cv] ∧ W.rangeAt BK (off + 2 * (i - 1)) (uR q)) (.take 0 (.take 1 (.one 2 (.take 3 (.take 4 (.take 5 (.take 6 (.one 7 (.take 8 (.take 9 (.take 10 (.take 11 (.take 12 (.take 13 (.take 14 (.take 15 (.take 16 (.take 17 (.take 18 (.take 19 (.take 20 (.take 21 (.take 22 (.take 23 (.take 24 (.take 25 .done)))))))))))))))))))))))))) (by kernel_rfl) (by kernel_rfl) (fun _ _ _ _ _ h => h) (by simp [Scr.depth]) (by kernel_rfl) (by rw [hU]; exact ⟨HE3.out, HA3.out, HQ3.out⟩) ?_
                    simp only [hU]
                    clear hU
                    apply s_val
                    case ho => rfl
                    case hw => rfl
                    case hv => intro w hw; obtain ⟨y0, y1⟩ := arr2 hw.1; obtain ⟨x0, x1, x2, x3, x4, x5, x6⟩ := arr7 hw.2.1; obtain ⟨z0, z1⟩ := uR_cells hw.2.2; go_simp; first | done | with_reducible rfl | rfl
                    simp only [Act.put, List.getElem_toArray, List.getElem_cons_zero, List.getElem_cons_succ, List.setIfInBounds_toArray, List.set_cons_zero, List.set_cons_succ]
                    apply s_val
                    case ho => rfl
                    case hw => rfl
                    case hv => intro w hw; obtain ⟨y0, y1⟩ := arr2 hw.1; obtain ⟨x0, x1, x2, x3, x4, x5, x6⟩ := arr7 hw.2.1; obtain ⟨z0, z1⟩ := uR_cells hw.2.2; go_simp; first | done | with_reducible rfl | rfl
                    simp only [Act.put, List.getElem_toArray, List.getElem_cons_zero, List.getElem_cons_succ, List.setIfInBounds_toArray, List.set_cons_zero, List.set_cons_succ]
                    apply o_call (f := 50) (args := #[.string p.1]) (v := .bool true) (hc := cu.out _ (HP.out.1.below HB3.out (Nat.le_refl _)))
                    case ho => rfl
                    case hw => rfl
                    case hop => go_simp; first | done | rfl
                    rintro X4 hb
                    refine ⟨⟨HE3.out.below hb HE3.out.lt, HA3.out.below hb HA3.out.lt, rangeAt_below HQ3.out hb (Nat.lt_of_lt_of_le hBKw.out HB3.out.size)⟩, ?_⟩
                    have HE4 := hidp (HE3.out.below hb HE3.out.lt); have HA4 := hidp (HA3.out.below hb HA3.out.lt); have HB4 := hidp (HB3.out.trans (hb.mono HB3.out.size)); have HQ4 := hidp (rangeAt_below HQ3.out hb (Nat.lt_of_lt_of_le hBKw.out HB3.out.size))
                    clear hb
                    simp only [Act.put, List.getElem_toArray, List.getElem_cons_zero, List.getElem_cons_succ, List.setIfInBounds_toArray, List.set_cons_zero, List.set_cons_succ]
                    apply s_val
                    case ho => rfl
                    case hw => rfl
                    case hv => intro w hw; obtain ⟨y0, y1⟩ := arr2 hw.1; obtain ⟨x0, x1, x2, x3, x4, x5, x6⟩ := arr7 hw.2.1; obtain ⟨z0, z1⟩ := uR_cells hw.2.2; go_simp; first | done | with_reducible rfl | rfl
                    simp only [Act.put, List.getElem_toArray, List.getElem_cons_zero, List.getElem_cons_succ, List.setIfInBounds_toArray, List.set_cons_zero, List.set_cons_succ]
                    apply s_val
                    case ho => rfl
                    case hw => rfl
                    case hv => intro w hw; obtain ⟨y0, y1⟩ := arr2 hw.1; obtain ⟨x0, x1, x2, x3, x4, x5, x6⟩ := arr7 hw.2.1; obtain ⟨z0, z1⟩ := uR_cells hw.2.2; go_simp; first | done | with_reducible rfl | rfl
                    simp only [Act.put, List.getElem_toArray, List.getElem_cons_zero, List.getElem_cons_succ, List.setIfInBounds_toArray, List.set_cons_zero, List.set_cons_succ]
                    apply s_val
                    case ho => rfl
                    case hw => rfl
                    case hv => intro w hw; obtain ⟨y0, y1⟩ := arr2 hw.1; obtain ⟨x0, x1, x2, x3, x4, x5, x6⟩ := arr7 hw.2.1; obtain ⟨z0, z1⟩ := uR_cells hw.2.2; go_simp; first | done | with_reducible rfl | rfl
                    simp only [Act.put, List.getElem_toArray, List.getElem_cons_zero, List.getElem_cons_succ, List.setIfInBounds_toArray, List.set_cons_zero, List.set_cons_succ]
                    apply s_val
                    case ho => rfl
                    case hw => rfl
                    case hv => intro w hw; obtain ⟨y0, y1⟩ := arr2 hw.1; obtain ⟨x0, x1, x2, x3, x4, x5, x6⟩ := arr7 hw.2.1; obtain ⟨z0, z1⟩ := uR_cells hw.2.2; go_simp; first | done | with_reducible rfl | rfl
                    simp only [Act.put, List.getElem_toArray, List.getElem_cons_zero, List.getElem_cons_succ, List.setIfInBounds_toArray, List.set_cons_zero, List.set_cons_succ]
                    apply o_call (f := 49) (args := #[.int .i64 p.2]) (v := .bool true) (hc := ci.out _)
                    case ho => rfl
                    case hw => rfl
                    case hop => go_simp; first | done | rfl
                    rintro X5 hb
                    refine ⟨⟨HE4.out.below hb HE4.out.lt, HA4.out.below hb HA4.out.lt, rangeAt_below HQ4.out hb (Nat.lt_of_lt_of_le hBKw.out HB4.out.size)⟩, ?_⟩
                    have HE5 := hidp (HE4.out.below hb HE4.out.lt); have HA5 := hidp (HA4.out.below hb HA4.out.lt); have HB5 := hidp (HB4.out.trans (hb.mono HB4.out.size)); have HQ5 := hidp (rangeAt_below HQ4.out hb (Nat.lt_of_lt_of_le hBKw.out HB4.out.size))
                    clear hb
                    simp only [Act.put, List.getElem_toArray, List.getElem_cons_zero, List.getElem_cons_succ, List.setIfInBounds_toArray, List.set_cons_zero, List.set_cons_succ]
                    apply s_val
                    case ho => rfl
                    case hw => rfl
                    case hv => intro w hw; obtain ⟨y0, y1⟩ := arr2 hw.1; obtain ⟨x0, x1, x2, x3, x4, x5, x6⟩ := arr7 hw.2.1; obtain ⟨z0, z1⟩ := uR_cells hw.2.2; go_simp; first | done | with_reducible rfl | rfl
                    simp only [Act.put, List.getElem_toArray, List.getElem_cons_zero, List.getElem_cons_succ, List.setIfInBounds_toArray, List.set_cons_zero, List.set_cons_succ]
                    apply s_val
                    case ho => rfl
                    case hw => rfl
                    case hv => intro w hw; obtain ⟨y0, y1⟩ := arr2 hw.1; obtain ⟨x0, x1, x2, x3, x4, x5, x6⟩ := arr7 hw.2.1; obtain ⟨z0, z1⟩ := uR_cells hw.2.2; go_simp; first | done | with_reducible rfl | rfl
                    simp only [Act.put, List.getElem_toArray, List.getElem_cons_zero, List.getElem_cons_succ, List.setIfInBounds_toArray, List.set_cons_zero, List.set_cons_succ]
                    apply s_val
                    case ho => rfl
                    case hw => rfl
                    case hv => intro w hw; obtain ⟨y0, y1⟩ := arr2 hw.1; obtain ⟨x0, x1, x2, x3, x4, x5, x6⟩ := arr7 hw.2.1; obtain ⟨z0, z1⟩ := uR_cells hw.2.2; go_simp; first | done | with_reducible rfl | rfl
                    simp only [Act.put, List.getElem_toArray, List.getElem_cons_zero, List.getElem_cons_succ, List.setIfInBounds_toArray, List.set_cons_zero, List.set_cons_succ]
                    apply s_val
                    case ho => rfl
                    case hw => rfl
                    case hv => intro w hw; obtain ⟨y0, y1⟩ := arr2 hw.1; obtain ⟨x0, x1, x2, x3, x4, x5, x6⟩ := arr7 hw.2.1; obtain ⟨z0, z1⟩ := uR_cells hw.2.2; go_simp; first | done | with_reducible rfl | rfl
                    simp only [Act.put, List.getElem_toArray, List.getElem_cons_zero, List.getElem_cons_succ, List.setIfInBounds_toArray, List.set_cons_zero, List.set_cons_succ]
                    apply s_val (v := .bool true)
                    case ho => rfl
                    case hw => rfl
                    case hv => intro w hw; have q1 := ei; go_simp; first | done | omega | with_reducible rfl | rfl
                    simp only [Act.put, List.getElem_toArray, List.getElem_cons_zero, List.getElem_cons_succ, List.setIfInBounds_toArray, List.set_cons_zero, List.set_cons_succ]
                    apply s_val
                    case ho => rfl
                    case hw => rfl
                    case hv => intro w hw; obtain ⟨y0, y1⟩ := arr2 hw.1; obtain ⟨x0, x1, x2, x3, x4, x5, x6⟩ := arr7 hw.2.1; obtain ⟨z0, z1⟩ := uR_cells hw.2.2; go_simp; first | done | with_reducible rfl | rfl
                    simp only [Act.put, List.getElem_toArray, List.getElem_cons_zero, List.getElem_cons_succ, List.setIfInBounds_toArray, List.set_cons_zero, List.set_cons_succ]
                    apply s_val
                    case ho => rfl
                    case hw => rfl
                    case hv => intro w hw; obtain ⟨y0, y1⟩ := arr2 hw.1; obtain ⟨x0, x1, x2, x3, x4, x5, x6⟩ := arr7 hw.2.1; obtain ⟨z0, z1⟩ := uR_cells hw.2.2; go_simp; first | done | with_reducible rfl | rfl
                    simp only [Act.put, List.getElem_toArray, List.getElem_cons_zero, List.getElem_cons_succ, List.setIfInBounds_toArray, List.set_cons_zero, List.set_cons_succ]
                    apply s_val
                    case ho => rfl
                    case hw => rfl
                    case hv => intro w hw; obtain ⟨y0, y1⟩ := arr2 hw.1; obtain ⟨x0, x1, x2, x3, x4, x5, x6⟩ := arr7 hw.2.1; obtain ⟨z0, z1⟩ := uR_cells hw.2.2; go_simp; first | done | with_reducible rfl | rfl
                    simp only [Act.put, List.getElem_toArray, List.getElem_cons_zero, List.getElem_cons_succ, List.setIfInBounds_toArray, List.set_cons_zero, List.set_cons_succ]
                    apply s_val
                    case ho => rfl
                    case hw => rfl
                    case hv => intro w hw; obtain ⟨y0, y1⟩ := arr2 hw.1; obtain ⟨x0, x1, x2, x3, x4, x5, x6⟩ := arr7 hw.2.1; obtain ⟨z0, z1⟩ := uR_cells hw.2.2; go_simp; first | done | with_reducible rfl | rfl
                    simp only [Act.put, List.getElem_toArray, List.getElem_cons_zero, List.getElem_cons_succ, List.setIfInBounds_toArray, List.set_cons_zero, List.set_cons_succ]
                    apply s_val (v := .int .i64 ((i - 1 : Nat) : Int))
                    case ho => rfl
                    case hw => rfl
                    case hv => intro w hw; have q1 := hwi; go_simp; first | done | with_reducible rfl | rfl
                    simp only [Act.put, List.getElem_toArray, List.getElem_cons_zero, List.getElem_cons_succ, List.setIfInBounds_toArray, List.set_cons_zero, List.set_cons_succ]
                    refine s_idxR tyU rfl rfl (.tmp 43) (.tmp 45) rfl BK off n _ (i - 1) rfl rfl (by omega) ?_
                    simp only [Act.put, List.getElem_toArray, List.getElem_cons_zero, List.getElem_cons_succ, List.setIfInBounds_toArray, List.set_cons_zero, List.set_cons_succ]
                    apply s_val
                    case ho => rfl
                    case hw => rfl
                    case hv => intro w hw; obtain ⟨y0, y1⟩ := arr2 hw.1; obtain ⟨x0, x1, x2, x3, x4, x5, x6⟩ := arr7 hw.2.1; obtain ⟨z0, z1⟩ := uR_cells hw.2.2; go_simp; first | done | with_reducible rfl | rfl
                    simp only [Act.put, List.getElem_toArray, List.getElem_cons_zero, List.getElem_cons_succ, List.setIfInBounds_toArray, List.set_cons_zero, List.set_cons_succ]
                    apply s_val
                    case ho => rfl
                    case hw => rfl
                    case hv => intro w hw; obtain ⟨y0, y1⟩ := arr2 hw.1; obtain ⟨x0, x1, x2, x3, x4, x5, x6⟩ := arr7 hw.2.1; obtain ⟨z0, z1⟩ := uR_cells hw.2.2; go_simp; first | done | with_reducible rfl | rfl
                    simp only [Act.put, List.getElem_toArray, List.getElem_cons_zero, List.getElem_cons_succ, List.setIfInBounds_toArray, List.set_cons_zero, List.set_cons_succ]
                    apply s_val
                    case ho => rfl
                    case hw => rfl
                    case hv => intro w hw; obtain ⟨y0, y1⟩ := arr2 hw.1; obtain ⟨x0, x1, x2, x3, x4, x5, x6⟩ := arr7 hw.2.1; obtain ⟨z0, z1⟩ := uR_cells hw.2.2; go_simp; first | done | with_reducible rfl | rfl
                    simp only [Act.put, List.getElem_toArray, List.getElem_cons_zero, List.getElem_cons_succ, List.setIfInBounds_toArray, List.set_cons_zero, List.set_cons_succ]
                    apply s_val
                    case ho => rfl
                    case hw => rfl
                    case hv => intro w hw; obtain ⟨y0, y1⟩ := arr2 hw.1; obtain ⟨x0, x1, x2, x3, x4, x5, x6⟩ := arr7 hw.2.1; obtain ⟨z0, z1⟩ := uR_cells hw.2.2; go_simp; first | done | with_reducible rfl | rfl
                    simp only [Act.put, List.getElem_toArray, List.getElem_cons_zero, List.getElem_cons_succ, List.setIfInBounds_toArray, List.set_cons_zero, List.set_cons_succ]
                    apply s_val
                    case ho => rfl
                    case hw => rfl
                    case hv => intro w hw; obtain ⟨y0, y1⟩ := arr2 hw.1; obtain ⟨x0, x1, x2, x3, x4, x5, x6⟩ := arr7 hw.2.1; obtain ⟨z0, z1⟩ := uR_cells hw.2.2; go_simp; first | done | with_reducible rfl | rfl
                    simp only [Act.put, List.getElem_toArray, List.getElem_cons_zero, List.getElem_cons_succ, List.setIfInBounds_toArray, List.set_cons_zero, List.set_cons_succ]
                    apply s_val
                    case ho => rfl
                    case hw => rfl
                    case hv => intro w hw; obtain ⟨y0, y1⟩ := arr2 hw.1; obtain ⟨x0, x1, x2, x3, x4, x5, x6⟩ := arr7 hw.2.1; obtain ⟨z0, z1⟩ := uR_cells hw.2.2; go_simp; first | done | with_reducible rfl | rfl
                    simp only [Act.put, List.getElem_toArray, List.getElem_cons_zero, List.getElem_cons_succ, List.setIfInBounds_toArray, List.set_cons_zero, List.set_cons_succ]
                    apply s_val
                    case ho => rfl
                    case hw => rfl
                    case hv => intro w hw; obtain ⟨y0, y1⟩ := arr2 hw.1; obtain ⟨x0, x1, x2, x3, x4, x5, x6⟩ := arr7 hw.2.1; obtain ⟨z0, z1⟩ := uR_cells hw.2.2; go_simp; first | done | with_reducible rfl | rfl
                    simp only [Act.put, List.getElem_toArray, List.getElem_cons_zero, List.getElem_cons_succ, List.setIfInBounds_toArray, List.set_cons_zero, List.set_cons_succ]
                    refine NoPanic.normal ?_
                    have HBZ := HB5; have HAZ := HA5
                    go_wp2_with fail
                    go_ret
                    exact ⟨by rw [HF.out]; rfl, HBZ.out⟩
                  | true =>
                    have HOK2 := hidp (show uTo l.us (i + 1) = true from by rw [uTo_succ, HOK.out, HAT.out, hu, hr, hqd, hl]; simp)
                    clear hu hr
                    go_wp2_with (first | (refine wpL_idxR tyU rfl (.tmp 21) (.tmp 23) rfl BK off n _ i rfl rfl hlt ?_) | (refine wpL_atR tyU rfl (.tmp 26) rfl BK (off + 2 * i) (uR p) rfl rfl HRI.out ?_) | (refine Rt.wpL_new tyP (some 6) rfl rfl rfl ?_; intro b6 wq1 n1; have HB1 := hidp (HB.out.trans (n1.below.mono HB.out.size)); have hbw := hidp (Nat.le_trans HB.out.size n1.le); have HA1 := hidp (n1.old HA.out); have hab := hidp (show b1 < b6 from by have := n1.at_; have := HA.out.lt; omega)) | (refine Rt.wpL_put tyP rfl (.tmp 6) (.tmp 27) rfl b6 (uR p) rfl rfl rfl (uR_one p) zU rfl n1.arr ?_; intro wq2 ha hp; have HB2 := hidp (hp.below' HB1.out hbw.out); have HE2 := hidp (show Arr wq2 b6 93 [.string p.1, .int .i64 p.2] from ha); have HA2 := hidp (hp.arr (by have := hab.out; omega) HA1.out); obtain ⟨y0, y1⟩ := arr2 HE2.out; clear ha hp n1 HB1 HA1))
                    obtain ⟨U, hU⟩ : ∃ U, ({ wq2 with drawn := wq2.drawn + 1 } : World) = U := ⟨_, rfl⟩
                    have bU : Below wq2.heap.size wq2 U := by rw [← hU]; exact (Below.refl _ _).drew
                    have HE3 := hidp (HE2.out.below bU HE2.out.lt); have HA3 := hidp (HA2.out.below bU HA2.out.lt); have HB3 := hidp (HB2.out.trans (bU.mono HB2.out.size))
                    have HQ3 := hidp (show U.rangeAt BK (off + 2 * (i - 1)) (uR q) from rangeAt_below (hRq.out) HB3.out hBKw.out)
                    clear bU HE2 HA2 HB2 y0 y1
                    refine wp_region_noPanic ?_
                    refine wp_region_scr (S := fun W => Arr W b6 93 [.string p.1, .int .i64 p.2] ∧ Arr W b1 47 [.int .i64 l.a, .int .i64 l.s, .int .i64 l.i, .int .i64 l.k, .int .i64 l.b, .int .i64 l.r, .slice (some ⟨BK, off, none⟩) n cv] ∧ W.rangeAt BK (off + 2 * (i - 1)) (uR q)) (.take 0 (.take 1 (.one 2 (.take 3 (.take 4 (.take 5 (.take 6 (.one 7 (.take 8 (.take 9 (.take 10 (.take 11 (.take 12 (.take 13 (.take 14 (.take 15 (.take 16 (.take 17 (.take 18 (.take 19 (.take 20 (.take 21 (.take 22 (.take 23 (.take 24 (.take 25 .done)))))))))))))))))))))))))) (by kernel_rfl) (by kernel_rfl) (fun _ _ _ _ _ h => h) (by simp [Scr.depth]) (by kernel_rfl) (by rw [hU]; exact ⟨HE3.out, HA3.out, HQ3.out⟩) ?_
                    simp only [hU]
                    clear hU
                    apply s_val
                    case ho => rfl
                    case hw => rfl
                    case hv => intro w hw; obtain ⟨y0, y1⟩ := arr2 hw.1; obtain ⟨x0, x1, x2, x3, x4, x5, x6⟩ := arr7 hw.2.1; obtain ⟨z0, z1⟩ := uR_cells hw.2.2; go_simp; first | done | with_reducible rfl | rfl
                    simp only [Act.put, List.getElem_toArray, List.getElem_cons_zero, List.getElem_cons_succ, List.setIfInBounds_toArray, List.set_cons_zero, List.set_cons_succ]
                    apply s_val
                    case ho => rfl
                    case hw => rfl
                    case hv => intro w hw; obtain ⟨y0, y1⟩ := arr2 hw.1; obtain ⟨x0, x1, x2, x3, x4, x5, x6⟩ := arr7 hw.2.1; obtain ⟨z0, z1⟩ := uR_cells hw.2.2; go_simp; first | done | with_reducible rfl | rfl
                    simp only [Act.put, List.getElem_toArray, List.getElem_cons_zero, List.getElem_cons_succ, List.setIfInBounds_toArray, List.set_cons_zero, List.set_cons_succ]
                    apply o_call (f := 50) (args := #[.string p.1]) (v := .bool true) (hc := cu.out _ (HP.out.1.below HB3.out (Nat.le_refl _)))
                    case ho => rfl
                    case hw => rfl
                    case hop => go_simp; first | done | rfl
                    rintro X4 hb
                    refine ⟨⟨HE3.out.below hb HE3.out.lt, HA3.out.below hb HA3.out.lt, rangeAt_below HQ3.out hb (Nat.lt_of_lt_of_le hBKw.out HB3.out.size)⟩, ?_⟩
                    have HE4 := hidp (HE3.out.below hb HE3.out.lt); have HA4 := hidp (HA3.out.below hb HA3.out.lt); have HB4 := hidp (HB3.out.trans (hb.mono HB3.out.size)); have HQ4 := hidp (rangeAt_below HQ3.out hb (Nat.lt_of_lt_of_le hBKw.out HB3.out.size))
                    clear hb
                    simp only [Act.put, List.getElem_toArray, List.getElem_cons_zero, List.getElem_cons_succ, List.setIfInBounds_toArray, List.set_cons_zero, List.set_cons_succ]
                    apply s_val
                    case ho => rfl
                    case hw => rfl
                    case hv => intro w hw; obtain ⟨y0, y1⟩ := arr2 hw.1; obtain ⟨x0, x1, x2, x3, x4, x5, x6⟩ := arr7 hw.2.1; obtain ⟨z0, z1⟩ := uR_cells hw.2.2; go_simp; first | done | with_reducible rfl | rfl
                    simp only [Act.put, List.getElem_toArray, List.getElem_cons_zero, List.getElem_cons_succ, List.setIfInBounds_toArray, List.set_cons_zero, List.set_cons_succ]
                    apply s_val
                    case ho => rfl
                    case hw => rfl
                    case hv => intro w hw; obtain ⟨y0, y1⟩ := arr2 hw.1; obtain ⟨x0, x1, x2, x3, x4, x5, x6⟩ := arr7 hw.2.1; obtain ⟨z0, z1⟩ := uR_cells hw.2.2; go_simp; first | done | with_reducible rfl | rfl
                    simp only [Act.put, List.getElem_toArray, List.getElem_cons_zero, List.getElem_cons_succ, List.setIfInBounds_toArray, List.set_cons_zero, List.set_cons_succ]
                    apply s_val
                    case ho => rfl
                    case hw => rfl
                    case hv => intro w hw; obtain ⟨y0, y1⟩ := arr2 hw.1; obtain ⟨x0, x1, x2, x3, x4, x5, x6⟩ := arr7 hw.2.1; obtain ⟨z0, z1⟩ := uR_cells hw.2.2; go_simp; first | done | with_reducible rfl | rfl
                    simp only [Act.put, List.getElem_toArray, List.getElem_cons_zero, List.getElem_cons_succ, List.setIfInBounds_toArray, List.set_cons_zero, List.set_cons_succ]
                    apply s_val
                    case ho => rfl
                    case hw => rfl
                    case hv => intro w hw; obtain ⟨y0, y1⟩ := arr2 hw.1; obtain ⟨x0, x1, x2, x3, x4, x5, x6⟩ := arr7 hw.2.1; obtain ⟨z0, z1⟩ := uR_cells hw.2.2; go_simp; first | done | with_reducible rfl | rfl
                    simp only [Act.put, List.getElem_toArray, List.getElem_cons_zero, List.getElem_cons_succ, List.setIfInBounds_toArray, List.set_cons_zero, List.set_cons_succ]
                    apply o_call (f := 49) (args := #[.int .i64 p.2]) (v := .bool true) (hc := ci.out _)
                    case ho => rfl
                    case hw => rfl
                    case hop => go_simp; first | done | rfl
                    rintro X5 hb
                    refine ⟨⟨HE4.out.below hb HE4.out.lt, HA4.out.below hb HA4.out.lt, rangeAt_below HQ4.out hb (Nat.lt_of_lt_of_le hBKw.out HB4.out.size)⟩, ?_⟩
                    have HE5 := hidp (HE4.out.below hb HE4.out.lt); have HA5 := hidp (HA4.out.below hb HA4.out.lt); have HB5 := hidp (HB4.out.trans (hb.mono HB4.out.size)); have HQ5 := hidp (rangeAt_below HQ4.out hb (Nat.lt_of_lt_of_le hBKw.out HB4.out.size))
                    clear hb
                    simp only [Act.put, List.getElem_toArray, List.getElem_cons_zero, List.getElem_cons_succ, List.setIfInBounds_toArray, List.set_cons_zero, List.set_cons_succ]
                    apply s_val
                    case ho => rfl
                    case hw => rfl
                    case hv => intro w hw; obtain ⟨y0, y1⟩ := arr2 hw.1; obtain ⟨x0, x1, x2, x3, x4, x5, x6⟩ := arr7 hw.2.1; obtain ⟨z0, z1⟩ := uR_cells hw.2.2; go_simp; first | done | with_reducible rfl | rfl
                    simp only [Act.put, List.getElem_toArray, List.getElem_cons_zero, List.getElem_cons_succ, List.setIfInBounds_toArray, List.set_cons_zero, List.set_cons_succ]
                    apply s_val
                    case ho => rfl
                    case hw => rfl
                    case hv => intro w hw; obtain ⟨y0, y1⟩ := arr2 hw.1; obtain ⟨x0, x1, x2, x3, x4, x5, x6⟩ := arr7 hw.2.1; obtain ⟨z0, z1⟩ := uR_cells hw.2.2; go_simp; first | done | with_reducible rfl | rfl
                    simp only [Act.put, List.getElem_toArray, List.getElem_cons_zero, List.getElem_cons_succ, List.setIfInBounds_toArray, List.set_cons_zero, List.set_cons_succ]
                    apply s_val
                    case ho => rfl
                    case hw => rfl
                    case hv => intro w hw; obtain ⟨y0, y1⟩ := arr2 hw.1; obtain ⟨x0, x1, x2, x3, x4, x5, x6⟩ := arr7 hw.2.1; obtain ⟨z0, z1⟩ := uR_cells hw.2.2; go_simp; first | done | with_reducible rfl | rfl
                    simp only [Act.put, List.getElem_toArray, List.getElem_cons_zero, List.getElem_cons_succ, List.setIfInBounds_toArray, List.set_cons_zero, List.set_cons_succ]
                    apply s_val
                    case ho => rfl
                    case hw => rfl
                    case hv => intro w hw; obtain ⟨y0, y1⟩ := arr2 hw.1; obtain ⟨x0, x1, x2, x3, x4, x5, x6⟩ := arr7 hw.2.1; obtain ⟨z0, z1⟩ := uR_cells hw.2.2; go_simp; first | done | with_reducible rfl | rfl
                    simp only [Act.put, List.getElem_toArray, List.getElem_cons_zero, List.getElem_cons_succ, List.setIfInBounds_toArray, List.set_cons_zero, List.set_cons_succ]
                    apply s_val (v := .bool true)
                    case ho => rfl
                    case hw => rfl
                    case hv => intro w hw; have q1 := ei; go_simp; first | done | omega | with_reducible rfl | rfl
                    simp only [Act.put, List.getElem_toArray, List.getElem_cons_zero, List.getElem_cons_succ, List.setIfInBounds_toArray, List.set_cons_zero, List.set_cons_succ]
                    apply s_val
                    case ho => rfl
                    case hw => rfl
                    case hv => intro w hw; obtain ⟨y0, y1⟩ := arr2 hw.1; obtain ⟨x0, x1, x2, x3, x4, x5, x6⟩ := arr7 hw.2.1; obtain ⟨z0, z1⟩ := uR_cells hw.2.2; go_simp; first | done | with_reducible rfl | rfl
                    simp only [Act.put, List.getElem_toArray, List.getElem_cons_zero, List.getElem_cons_succ, List.setIfInBounds_toArray, List.set_cons_zero, List.set_cons_succ]
                    apply s_val
                    case ho => rfl
                    case hw => rfl
                    case hv => intro w hw; obtain ⟨y0, y1⟩ := arr2 hw.1; obtain ⟨x0, x1, x2, x3, x4, x5, x6⟩ := arr7 hw.2.1; obtain ⟨z0, z1⟩ := uR_cells hw.2.2; go_simp; first | done | with_reducible rfl | rfl
                    simp only [Act.put, List.getElem_toArray, List.getElem_cons_zero, List.getElem_cons_succ, List.setIfInBounds_toArray, List.set_cons_zero, List.set_cons_succ]
                    apply s_val
                    case ho => rfl
                    case hw => rfl
                    case hv => intro w hw; obtain ⟨y0, y1⟩ := arr2 hw.1; obtain ⟨x0, x1, x2, x3, x4, x5, x6⟩ := arr7 hw.2.1; obtain ⟨z0, z1⟩ := uR_cells hw.2.2; go_simp; first | done | with_reducible rfl | rfl
                    simp only [Act.put, List.getElem_toArray, List.getElem_cons_zero, List.getElem_cons_succ, List.setIfInBounds_toArray, List.set_cons_zero, List.set_cons_succ]
                    apply s_val
                    case ho => rfl
                    case hw => rfl
                    case hv => intro w hw; obtain ⟨y0, y1⟩ := arr2 hw.1; obtain ⟨x0, x1, x2, x3, x4, x5, x6⟩ := arr7 hw.2.1; obtain ⟨z0, z1⟩ := uR_cells hw.2.2; go_simp; first | done | with_reducible rfl | rfl
                    simp only [Act.put, List.getElem_toArray, List.getElem_cons_zero, List.getElem_cons_succ, List.setIfInBounds_toArray, List.set_cons_zero, List.set_cons_succ]
                    apply s_val (v := .int .i64 ((i - 1 : Nat) : Int))
                    case ho => rfl
                    case hw => rfl
                    case hv => intro w hw; have q1 := hwi; go_simp; first | done | with_reducible rfl | rfl
                    simp only [Act.put, List.getElem_toArray, List.getElem_cons_zero, List.getElem_cons_succ, List.setIfInBounds_toArray, List.set_cons_zero, List.set_cons_succ]
                    refine s_idxR tyU rfl rfl (.tmp 43) (.tmp 45) rfl BK off n _ (i - 1) rfl rfl (by omega) ?_
                    simp only [Act.put, List.getElem_toArray, List.getElem_cons_zero, List.getElem_cons_succ, List.setIfInBounds_toArray, List.set_cons_zero, List.set_cons_succ]
                    apply s_val
                    case ho => rfl
                    case hw => rfl
                    case hv => intro w hw; obtain ⟨y0, y1⟩ := arr2 hw.1; obtain ⟨x0, x1, x2, x3, x4, x5, x6⟩ := arr7 hw.2.1; obtain ⟨z0, z1⟩ := uR_cells hw.2.2; go_simp; first | done | with_reducible rfl | rfl
                    simp only [Act.put, List.getElem_toArray, List.getElem_cons_zero, List.getElem_cons_succ, List.setIfInBounds_toArray, List.set_cons_zero, List.set_cons_succ]
                    apply s_val
                    case ho => rfl
                    case hw => rfl
                    case hv => intro w hw; obtain ⟨y0, y1⟩ := arr2 hw.1; obtain ⟨x0, x1, x2, x3, x4, x5, x6⟩ := arr7 hw.2.1; obtain ⟨z0, z1⟩ := uR_cells hw.2.2; go_simp; first | done | with_reducible rfl | rfl
                    simp only [Act.put, List.getElem_toArray, List.getElem_cons_zero, List.getElem_cons_succ, List.setIfInBounds_toArray, List.set_cons_zero, List.set_cons_succ]
                    apply s_val
                    case ho => rfl
                    case hw => rfl
                    case hv => intro w hw; obtain ⟨y0, y1⟩ := arr2 hw.1; obtain ⟨x0, x1, x2, x3, x4, x5, x6⟩ := arr7 hw.2.1; obtain ⟨z0, z1⟩ := uR_cells hw.2.2; go_simp; first | done | with_reducible rfl | rfl
                    simp only [Act.put, List.getElem_toArray, List.getElem_cons_zero, List.getElem_cons_succ, List.setIfInBounds_toArray, List.set_cons_zero, List.set_cons_succ]
                    apply s_val
                    case ho => rfl
                    case hw => rfl
                    case hv => intro w hw; obtain ⟨y0, y1⟩ := arr2 hw.1; obtain ⟨x0, x1, x2, x3, x4, x5, x6⟩ := arr7 hw.2.1; obtain ⟨z0, z1⟩ := uR_cells hw.2.2; go_simp; first | done | with_reducible rfl | rfl
                    simp only [Act.put, List.getElem_toArray, List.getElem_cons_zero, List.getElem_cons_succ, List.setIfInBounds_toArray, List.set_cons_zero, List.set_cons_succ]
                    apply s_val
                    case ho => rfl
                    case hw => rfl
                    case hv => intro w hw; obtain ⟨y0, y1⟩ := arr2 hw.1; obtain ⟨x0, x1, x2, x3, x4, x5, x6⟩ := arr7 hw.2.1; obtain ⟨z0, z1⟩ := uR_cells hw.2.2; go_simp; first | done | with_reducible rfl | rfl
                    simp only [Act.put, List.getElem_toArray, List.getElem_cons_zero, List.getElem_cons_succ, List.setIfInBounds_toArray, List.set_cons_zero, List.set_cons_succ]
                    apply s_val
                    case ho => rfl
                    case hw => rfl
                    case hv => intro w hw; obtain ⟨y0, y1⟩ := arr2 hw.1; obtain ⟨x0, x1, x2, x3, x4, x5, x6⟩ := arr7 hw.2.1; obtain ⟨z0, z1⟩ := uR_cells hw.2.2; go_simp; first | done | with_reducible rfl | rfl
                    simp only [Act.put, List.getElem_toArray, List.getElem_cons_zero, List.getElem_cons_succ, List.setIfInBounds_toArray, List.set_cons_zero, List.set_cons_succ]
                    apply s_val
                    case ho => rfl
                    case hw => rfl
                    case hv => intro w hw; obtain ⟨y0, y1⟩ := arr2 hw.1; obtain ⟨x0, x1, x2, x3, x4, x5, x6⟩ := arr7 hw.2.1; obtain ⟨z0, z1⟩ := uR_cells hw.2.2; go_simp; first | done | with_reducible rfl | rfl
                    simp only [Act.put, List.getElem_toArray, List.getElem_cons_zero, List.getElem_cons_succ, List.setIfInBounds_toArray, List.set_cons_zero, List.set_cons_succ]
                    refine NoPanic.normal ?_
                    have HBZ := HB5; have HAZ := HA5
                    go_wp2_with fail
                    exact ⟨⟨_, _, _, _, _, _, _, _, _, _, _, _, _, _, _, _, _, _, _, _, _, _, _, _, _, _, _, _, _, _, _, _, _, _, _, ⟨i + 1, by go_num, by omega, HOK2.out, HBZ.out, HAZ.out⟩, rfl⟩, by simp [intOf]; omega⟩
          · have e1 : decide ((i : Int) < (n : Int)) = false := by simp; omega
            have hin : i = n := by omega
            have HF := hidp (show lvE l = 0 from if_pos (by unfold lvOk; rw [H6.out, HN.out, ← hin, HOK.out, decide_eq_true (show i ≤ 16 by omega)]; rfl))
            go_wp2_with fail
            go_ret
            exact ⟨by rw [HF.out]; rfl, HB.out⟩
end Go.Proofs.YtkcgmimcopoknaaGreatDoor

namespace Go.Proofs.YtkcgmimcopoknaaGreatDoor
set_option maxRecDepth 100000
set_option linter.unusedVariables false
set_option linter.unusedSimpArgs false
open Go.RowKit Rw


/-- The number that a word tells. -/
def numW (t : ByteArray) : Int := match Lib.atoiAll t.data.toList with | .ok v => v | _ => -1
set_option maxHeartbeats 4000000 in
theorem number_any (w : World) (t : ByteArray) (hs : t.size ≤ 281474976710656) (hI : IT w) :
    Calls Tryz.prog 107 #[.string t] w fun e w' => e = .returned (.int .i64 (numW t)) ∧ Below w.heap.size w w' := by
  by_cases hat : ∃ v, Lib.atoiAll t.data.toList = .ok v
  · obtain ⟨v, hat⟩ := hat
    have c := hidp (Tryz.strconv_Atoi_ok t (by omega) v hat w)
    have HF := hidp (show numW t = v from by unfold numW; rw [hat])
    clear hat hI
    go_enter Tryz.func107, Tryz.ntmps107
    go_wp2_with fail
    refine c.out.mono ?_
    rintro e w3 ⟨rfl, hw3⟩
    have hb3 : Below w.heap.size w w3 := by
      rcases hw3 with rfl | ⟨t, rfl⟩
      · exact Below.refl _ _
      · exact bytesW_below _ _
    have HB := hidp hb3
    clear hw3 hb3
    go_wp2_with fail
    go_ret
    exact ⟨by rw [HF.out]; rfl, HB.out⟩
  · have hno : ∀ v, Lib.atoiAll t.data.toList ≠ .ok v := fun v h => hat ⟨v, h⟩
    have c := hidp (atoi_fails t hs hno w hI)
    have HF := hidp (show numW t = -1 from by
      unfold numW
      rcases h : Lib.atoiAll t.data.toList with v | _ | _
      · exact absurd h (hno v)
      · rfl
      · rfl)
    clear hat hno hI
    go_enter Tryz.func107, Tryz.ntmps107
    go_wp2_with fail
    refine c.out.mono ?_
    rintro e w3 ⟨N, z, rfl, hb3⟩
    have HB := hidp hb3
    clear hb3
    go_wp2_with fail
    go_ret
    exact ⟨by rw [HF.out]; rfl, HB.out⟩

def fsL (u : ByteArray) : Lv := ⟨0, 50, 0, 50, 50, 50, if usr u = true then [(u, 100)] else []⟩
set_option maxHeartbeats 8000000 in
theorem first_any (w : World) (u : ByteArray) (hs : u.size ≤ 140737488351232) (hP : PT w) :
    Calls Tryz.prog 84 #[.string u] w fun e w' => ∃ v, e = .returned (.agg #[.int .i64 (fsL u).a, .int .i64 (fsL u).s, .int .i64 (fsL u).i, .int .i64 (fsL u).k, .int .i64 (fsL u).b, .int .i64 (fsL u).r, v]) ∧ UsAt w' v (fsL u).us ∧ Below w.heap.size w w' := by
  have HP := hidp hP; clear hP
  have cu := hidp (fun W h => isUser_any W u (by omega) h)
  have cc := hidp (fun W => strClone_any u W (by omega))
  cases hu : usr u with
  | true =>
    rw [hu] at cu
    have HF := hidp (show fsL u = ⟨0, 50, 0, 50, 50, 50, [(u, 100)]⟩ from by unfold fsL; rw [hu]; rfl)
    clear hu
    go_enter Tryz.func84, Tryz.ntmps84
    go_wp2_with (first | (refine Rt.wpL_new tyL (some 2) rfl rfl rfl ?_; intro b2 w1 n1; have HB1 := hidp n1.below; have hg_b2 := hidp n1.le; have HR1 := hidp n1.arr; clear n1) | (refine Rt.wpL_new tyL (some 3) rfl rfl rfl ?_; intro b3 w2 n2; have HB2 := hidp (HB1.out.trans (n2.below.mono HB1.out.size)); have hg_b3 := hidp (Nat.le_trans HB1.out.size n2.le); have HR2 := hidp (n2.old HR1.out); have hl_HR_b3 := hidp (show b2 < b3 from by have := n2.at_; have := HR1.out.lt; omega); have HA2 := hidp n2.arr; clear n2 HR1 HB1) | (refine Rt.wpL_put tyL rfl (.tmp 3) (.tmp 4) rfl b3 [.int .i64 0, .int .i64 50, .int .i64 0, .int .i64 50, .int .i64 50, .int .i64 50, .slice none 0 0] rfl rfl rfl (by simp [Value.oneCell']) zL rfl HA2.out ?_; intro w3 ha hp; have HB3 := hidp (hp.below' HB2.out hg_b3.out); have HR3 := hidp (hp.arr (by have := hl_HR_b3.out; omega) HR2.out); have HA3 := hidp ha; clear ha hp HB2 HR2 HA2) | (go_at_call 50; refine (cu.out _ (HP.out.1.below HB3.out (Nat.le_refl _))).mono ?_; rintro e w4 ⟨rfl, hb⟩; have HB4 := hidp (HB3.out.trans (hb.mono HB3.out.size)); have HR4 := hidp (HR3.out.below hb HR3.out.lt); have HA4 := hidp (HA3.out.below hb HA3.out.lt); clear hb HB3 HR3 HA3) | (go_at_call 35; refine (cc.out _).mono ?_; rintro e w5 ⟨rfl, hb⟩; have HB5 := hidp (HB4.out.trans (hb.mono HB4.out.size)); have HR5 := hidp (HR4.out.below hb HR4.out.lt); have HA5 := hidp (HA4.out.below hb HA4.out.lt); clear hb HB4 HR4 HA4) | (refine wpL_bs1R tyU rfl (.tmp 9) rfl (uR (u, 100)) rfl rfl ?_; intro b5 w6 n6; have HB6 := hidp (HB5.out.trans (n6.below.mono HB5.out.size)); have hg_b5 := hidp (Nat.le_trans HB5.out.size n6.le); have HR6 := hidp (n6.old HR5.out); have hl_HR_b5 := hidp (show b2 < b5 from by have := n6.at_; have := HR5.out.lt; omega); have HA6 := hidp (n6.old HA5.out); have hl_HA_b5 := hidp (show b3 < b5 from by have := n6.at_; have := HA5.out.lt; omega); have HU6 := hidp n6.arr; clear n6 HR5 HA5 HB5) | (refine Rt.wpL_putF rfl 45 (.tmp 11) _ rfl b3 6 (.slice (some ⟨b5, 0, none⟩) 1 1) rfl rfl (by kernel_rfl) rfl [.int .i64 0, .int .i64 50, .int .i64 0, .int .i64 50, .int .i64 50, .int .i64 50, .slice none 0 0] HA6.out (by simp) ?_; intro w7 ha hp; have HB7 := hidp (hp.below' HB6.out hg_b3.out); have HA7 := hidp (show Arr w7 b3 47 [.int .i64 0, .int .i64 50, .int .i64 0, .int .i64 50, .int .i64 50, .int .i64 50, .slice (some ⟨b5, 0, none⟩) 1 1] from ha); have HR7 := hidp (hp.arr (by have := hl_HR_b3.out; omega) HR6.out); have HU7 := hidp (hp.arr (by have := hl_HA_b5.out; omega) HU6.out); clear ha hp HB6 HA6 HR6 HU6) | (refine Rt.wpL_get tyL rfl (.tmp 3) rfl b3 [.int .i64 0, .int .i64 50, .int .i64 0, .int .i64 50, .int .i64 50, .int .i64 50, .slice (some ⟨b5, 0, none⟩) 1 1] rfl rfl HA7.out ?_) | (refine Rt.wpL_put tyL rfl (.tmp 2) (.tmp 12) rfl b2 [.int .i64 0, .int .i64 50, .int .i64 0, .int .i64 50, .int .i64 50, .int .i64 50, .slice (some ⟨b5, 0, none⟩) 1 1] rfl rfl rfl (by simp [Value.oneCell']) zL rfl HR7.out ?_; intro w8 ha hp; have HB8 := hidp (hp.below' HB7.out hg_b2.out); have HR8 := hidp ha; have HA8 := hidp (hp.arr (by have := hl_HR_b3.out; omega) HA7.out); have HU8 := hidp (hp.arr (by have := hl_HR_b5.out; omega) HU7.out); clear ha hp HB7 HR7 HA7 HU7))
    refine bodyPost_ret (results_cell_row (P := Tryz.prog) (p := 2) (ty := 47) Tryz.results84 _ _ b2 47 ([.int .i64 0, .int .i64 50, .int .i64 0, .int .i64 50, .int .i64 50, .int .i64 50, .slice (some ⟨b5, 0, none⟩) 1 1] : List Value).toArray (0, 0) _ rfl HR8.out Tryz.underlying47 rfl (tyL.size rfl)) rfl ?_
    rw [HF.out]
    exact ⟨.slice (some ⟨b5, 0, none⟩) 1 1, rfl, ⟨⟨uRs_all _, .inr ⟨b5, 0, 1, rfl, by simp [uRs], HU8.out.lt, by have := HU8.out.range; simpa [uRs] using this⟩⟩, by simp, by simp; omega⟩, HB8.out⟩
  | false =>
    rw [hu] at cu
    have HF := hidp (show fsL u = ⟨0, 50, 0, 50, 50, 50, []⟩ from by unfold fsL; rw [hu]; rfl)
    clear hu
    go_enter Tryz.func84, Tryz.ntmps84
    go_wp2_with (first | (refine Rt.wpL_new tyL (some 2) rfl rfl rfl ?_; intro b2 w1 n1; have HB1 := hidp n1.below; have hg_b2 := hidp n1.le; have HR1 := hidp n1.arr; clear n1) | (refine Rt.wpL_new tyL (some 3) rfl rfl rfl ?_; intro b3 w2 n2; have HB2 := hidp (HB1.out.trans (n2.below.mono HB1.out.size)); have hg_b3 := hidp (Nat.le_trans HB1.out.size n2.le); have HR2 := hidp (n2.old HR1.out); have hl_HR_b3 := hidp (show b2 < b3 from by have := n2.at_; have := HR1.out.lt; omega); have HA2 := hidp n2.arr; clear n2 HR1 HB1) | (refine Rt.wpL_put tyL rfl (.tmp 3) (.tmp 4) rfl b3 [.int .i64 0, .int .i64 50, .int .i64 0, .int .i64 50, .int .i64 50, .int .i64 50, .slice none 0 0] rfl rfl rfl (by simp [Value.oneCell']) zL rfl HA2.out ?_; intro w3 ha hp; have HB3 := hidp (hp.below' HB2.out hg_b3.out); have HR3 := hidp (hp.arr (by have := hl_HR_b3.out; omega) HR2.out); have HA3 := hidp ha; clear ha hp HB2 HR2 HA2) | (go_at_call 50; refine (cu.out _ (HP.out.1.below HB3.out (Nat.le_refl _))).mono ?_; rintro e w4 ⟨rfl, hb⟩; have HB4 := hidp (HB3.out.trans (hb.mono HB3.out.size)); have HR4 := hidp (HR3.out.below hb HR3.out.lt); have HA4 := hidp (HA3.out.below hb HA3.out.lt); clear hb HB3 HR3 HA3) | (refine Rt.wpL_get tyL rfl (.tmp 3) rfl b3 [.int .i64 0, .int .i64 50, .int .i64 0, .int .i64 50, .int .i64 50, .int .i64 50, .slice none 0 0] rfl rfl HA4.out ?_) | (refine Rt.wpL_put tyL rfl (.tmp 2) (.tmp 12) rfl b2 [.int .i64 0, .int .i64 50, .int .i64 0, .int .i64 50, .int .i64 50, .int .i64 50, .slice none 0 0] rfl rfl rfl (by simp [Value.oneCell']) zL rfl HR4.out ?_; intro w5 ha hp; have HB5 := hidp (hp.below' HB4.out hg_b2.out); have HR5 := hidp ha; have HA5 := hidp (hp.arr (by have := hl_HR_b3.out; omega) HA4.out); clear ha hp HB4 HR4 HA4))
    refine bodyPost_ret (results_cell_row (P := Tryz.prog) (p := 2) (ty := 47) Tryz.results84 _ _ b2 47 ([.int .i64 0, .int .i64 50, .int .i64 0, .int .i64 50, .int .i64 50, .int .i64 50, .slice none 0 0] : List Value).toArray (0, 0) _ rfl HR5.out Tryz.underlying47 rfl (tyL.size rfl)) rfl ?_
    rw [HF.out]
    exact ⟨.slice none 0 0, rfl, UsAt.nil _, HB5.out⟩

theorem info_str : (Tryz.prog.info? 9).map (fun i => (i.zero, i.size, i.bytes)) = some (some (.string ByteArray.empty), 1, 16) := by kernel_rfl
/-- The row of words: of the call's own, with room for 38. -/
def WAt (w : World) (g : Nat) (ws : List ByteArray) : Prop := w.ownsRow g 9 1 (.slice (some ⟨g, 0, none⟩) ws.length 38) ws.length (strV ws)
/-- What an append to it leaves. -/
structure Gro (g : Nat) (w W : World) : Prop where
  size : w.heap.size ≤ W.heap.size
  other : ∀ c, c < w.heap.size → c ≠ g → W.heap[c]? = w.heap[c]?
  below : ∀ N, N ≤ g → N ≤ w.heap.size → Below N w W
theorem Gro.arr {g : Nat} {w W : World} {c t : Nat} {xs : List Value} (h : Gro g w W) (hc : c ≠ g) (ha : Arr w c t xs) : Arr W c t xs := (h.other c ha.lt hc).trans ha
theorem WAt.lt {w : World} {g : Nat} {ws : List ByteArray} (h : WAt w g ws) : g < w.heap.size := (World.ownsRow.lt h g rfl).2
theorem WAt.to {w W : World} {g : Nat} {ws : List ByteArray} (h : WAt w g ws) (hb : Below w.heap.size w W) : WAt W g ws := by
  have hl := h.lt
  refine ⟨h.1, ?_⟩
  rcases h.2 with h0 | ⟨q, cap, cur, e, hB, hg, r⟩
  · exact .inl h0
  · refine .inr ⟨q, cap, cur, e, hB, ?_, r⟩
    have := (Array.getElem?_eq_some_iff.1 hg).1
    exact (hb.block q this).trans hg
theorem WAt.alloc {w : World} {g : Nat} {ws : List ByteArray} (h : WAt w g ws) (o : Obj) : WAt (w.alloc o) g ws := h.to ((Below.refl _ w).alloc (Nat.le_refl _) o)
theorem mk38 (w : World) : ∃ C : Array Value, (Instr.makeSlice 51 (.int .i64 0) (.int .i64 38)).run Tryz.prog w = .ok (.slice (some ⟨w.heap.size, 0, none⟩) 0 38) (w.alloc (.cells C 9)) ∧
    WAt (w.alloc (.cells C 9)) w.heap.size [] := by
  obtain ⟨i0, hi, hz0, hz1, hz2⟩ := info_parts info_str
  refine ⟨madeCells (Value.string ByteArray.empty).cells (38 * i0.size), ?_, ?_⟩
  · have h := run_make (P := Tryz.prog) w 51 9 i0 (.string ByteArray.empty) Tryz.underlying51 hi hz0 .i64 .i64 0 38 (by omega) (by omega) (by rw [hz2]; omega) (by omega)
    rw [show ((38 : Int).toNat) = 38 from rfl] at h
    simpa using h
  · refine ⟨rfl, .inr ⟨w.heap.size, 38, _, rfl, Nat.le_refl _, heap_alloc_new w _, by simp, by unfold maxLen; omega, ?_, by simp [strV]⟩⟩
    rw [size_madeCells, hz1]
theorem run_app38 (w : World) (ty : TypeId) (g : Nat) (ws news : List ByteArray) (hown : WAt w g ws) (nb : Nat) (hn : Arr w nb 9 (strV news)) (hroom : ws.length + news.length ≤ 38) :
    ∃ w', (Builtin.append_ #[51, 51] ty #[.slice (some ⟨g, 0, none⟩) ws.length 38, .slice (some ⟨nb, 0, none⟩) news.length news.length]).run Tryz.prog w = .ok (.slice (some ⟨g, 0, none⟩) (ws.length + news.length) 38) w' ∧
      WAt w' g (ws ++ news) ∧ Gro g w w' := by
  obtain ⟨i0, hi, hz0, hz1, hz2⟩ := info_parts info_str
  obtain ⟨w', h1, h2, h3⟩ := run_append_own_spare (P := Tryz.prog) (w := w) g 51 ty 9 i0 1 Tryz.underlying51 hi hz1 g ws.length 38 (strV ws) hown ⟨nb, 0, none⟩ news.length news.length (strV news) (by rw [strV_length]; omega)
    (fun j u hu => by
      have hj : j < (strV news).length := (List.getElem?_eq_some_iff.1 hu).1
      have hc := hn.cell j hj
      rw [addr_addR, Nat.zero_add]
      rw [List.getElem?_eq_getElem hj] at hu
      rw [hc]; exact hu)
    (fun u hu => by simp [strV] at hu; obtain ⟨a, _, rfl⟩ := hu; rfl) hroom
  refine ⟨w', h1, ?_, ⟨h3.size, fun c hc hne => h3.block c hc (fun e => hne (by simpa using e)), fun N hN hw => (Below.refl N w).grown h3 hw fun k hk => by simp at hk; omega⟩⟩
  unfold WAt
  rw [List.length_append, show strV (ws ++ news) = strV ws ++ strV news from by simp [strV]]
  exact h2
section
variable {ops : Array Oper} {rest : List Oper} {o : Oper} {a : Act} {w : World} {Q : Exit → Act → World → Prop}
theorem wpL_app38 (hgd : o.guard = none) (s x : Operand) (ho : o.op = .call { callee := .builtin .append, args := #[s, x], argTypes := #[51, 51] }) (g n : Nat) (ws news : List ByteArray) (nb : Nat)
    (hv : a.eval s = .slice (some ⟨g, 0, none⟩) n 38) (hx : a.eval x = .slice (some ⟨nb, 0, none⟩) news.length news.length) (hl : ws.length = n) (hown : WAt w g ws) (hn : Arr w nb 9 (strV news)) (hroom : n + news.length ≤ 38)
    (h : ∀ W, WAt W g (ws ++ news) → Gro g w W → wpList Tryz.prog ops Q rest (a.put o.dst (.slice (some ⟨g, 0, none⟩) (n + news.length) 38)) W) : wpList Tryz.prog ops Q (o :: rest) a w := by
  subst hl
  obtain ⟨w', h1, h2, h3⟩ := run_app38 w o.type g ws news hown nb hn hroom
  exact wpL_appRun hgd s x 51 51 ho _ _ hv hx h1 (h w' h2 h3)
variable {S : World → Prop} {j : Nat} {s : Scr} {K : Act → World → Prop}
theorem o_app38 (ho : ops[j]? = some o) (hw : Region.wanted o (yielded ops a.tmps) = true) (s x : Operand) (hop : o.op = .call { callee := .builtin .append, args := #[s, x], argTypes := #[51, 51] }) (g n : Nat) (ws news : List ByteArray) (nb : Nat)
    (hv : a.eval s = .slice (some ⟨g, 0, none⟩) n 38) (hx : a.eval x = .slice (some ⟨nb, 0, none⟩) news.length news.length) (hl : ws.length = n) (hown : WAt w g ws) (hn : Arr w nb 9 (strV news)) (hroom : n + news.length ≤ 38)
    (h : ∀ W, WAt W g (ws ++ news) → Gro g w W → S W ∧ K (a.put o.dst (.slice (some ⟨g, 0, none⟩) (n + news.length) 38)) W) : opW Tryz.prog ops Q S j K a w := by
  subst hl
  obtain ⟨w', h1, h2, h3⟩ := run_app38 w o.type g ws news hown nb hn hroom
  refine ⟨o, ho, hw, ?_⟩
  unfold Oper.wp
  simp [execOp, hop, resolve, invoke, builtin, hv, hx, h1, Result.andThen]
  exact h w' h2 h3
end
end Go.Proofs.YtkcgmimcopoknaaGreatDoor

namespace Go.Proofs.YtkcgmimcopoknaaGreatDoor
set_option maxRecDepth 100000
set_option linter.unusedVariables false
set_option linter.unusedSimpArgs false
open Go.RowKit Rw


def wordsL (l : Lv) : List ByteArray := (sixL l).map itT ++ l.us.flatMap fun p => [p.1, itT p.2]
def joinW (ws : List ByteArray) : ByteArray := ⟨(Lib.join (ws.map (·.data.toList)) [32]).toArray⟩
def txL (l : Lv) : ByteArray := joinW (wordsL l)
def txV (l : Lv) : ByteArray := if lvOk l = true then txL l else ⟨#[]⟩
theorem usr_size {t : ByteArray} (h : usr t = true) : t.size ≤ 20 := by
  unfold usr who at h
  cases hp : idP t with
  | none => rw [hp] at h; cases h
  | some q =>
    obtain ⟨k, nm, n⟩ := q
    obtain ⟨h1, h2⟩ := idP_some hp
    have := idOk_size h1
    have h3 := idL_len k nm n
    rw [← h2, mkS_size]; omega
theorem itT_size {n : Int} (h : inR n = true) : (itT n).size ≤ 3 := by
  have hd : ∀ k : Fin 101, (Lib.itoa (k.val : Int)).length ≤ 3 := by decide +kernel
  unfold inR at h
  simp only [Bool.and_eq_true, decide_eq_true_eq] at h
  have := hd ⟨n.toNat, by omega⟩
  simp only [Int.toNat_of_nonneg h.1] at this
  unfold itT
  simpa [ByteArray.size] using this
structure LvOk (l : Lv) : Prop where
  six : ∀ n ∈ sixL l, inR n = true
  len : l.us.length ≤ 16
  us : ∀ p ∈ l.us, usr p.1 = true ∧ inR p.2 = true
theorem lvOk_parts {l : Lv} (h : lvOk l = true) : LvOk l := by
  unfold lvOk at h
  simp only [Bool.and_eq_true, List.all_eq_true, decide_eq_true_eq] at h
  refine ⟨h.1.1, h.1.2, fun p hp => ?_⟩
  obtain ⟨i, hi, rfl⟩ := List.mem_iff_getElem.1 hp
  have := uTo_le h.2 hi
  unfold uAt at this
  simp only [Bool.and_eq_true, getU hi] at this
  exact this.1
theorem words_size {l : Lv} (h : LvOk l) : ∀ x ∈ wordsL l, x.size ≤ 20 := by
  intro x hx
  unfold wordsL at hx
  rw [List.mem_append] at hx
  rcases hx with hx | hx
  · obtain ⟨n, hn, rfl⟩ := List.mem_map.1 hx
    have := itT_size (h.six n hn); omega
  · obtain ⟨p, hp, hx⟩ := List.mem_flatMap.1 hx
    simp at hx
    rcases hx with rfl | rfl
    · exact usr_size (h.us p hp).1
    · have := itT_size (h.us p hp).2; omega
theorem flat_two (us : List (ByteArray × Int)) : (us.flatMap fun p => [p.1, itT p.2]).length = 2 * us.length := by
  induction us with
  | nil => rfl
  | cons a r ih => simp only [List.flatMap_cons, List.length_append, ih, List.length_cons, List.length_nil]; omega
theorem words_len (l : Lv) : (wordsL l).length = 6 + 2 * l.us.length := by
  unfold wordsL; rw [List.length_append, List.length_map, flat_two]; rfl
theorem joinTail_len (sep : List UInt8) : ∀ (r : List (List UInt8)), (∀ x ∈ r, x.length ≤ 20) → (Lib.joinTail sep r).length ≤ r.length * (20 + sep.length)
  | [], _ => by simp [Lib.joinTail]
  | x :: r, h => by
    have h1 := h x (by simp)
    have h2 := joinTail_len sep r (fun z hz => h z (by simp [hz]))
    have h3 : Lib.joinTail sep (x :: r) = (sep ++ x) ++ Lib.joinTail sep r := rfl
    rw [h3, List.length_append, List.length_append, List.length_cons, Nat.add_mul, Nat.one_mul]
    omega
theorem join_len (sep : List UInt8) (ws : List (List UInt8)) (h : ∀ x ∈ ws, x.length ≤ 20) : (Lib.join ws sep).length ≤ ws.length * (20 + sep.length) := by
  cases ws with
  | nil => rw [Lib.join_nil]; simp
  | cons x r =>
    have h1 := h x (by simp)
    have h2 := joinTail_len sep r (fun z hz => h z (by simp [hz]))
    rw [Lib.join_cons, List.length_append, List.length_cons, Nat.add_mul, Nat.one_mul]
    omega
theorem join_ok {l : Lv} (h : LvOk l) : (Lib.join ((wordsL l).map (·.data.toList)) [32]).length ≤ 140737488355328 := by
  have h1 := join_len [32] ((wordsL l).map (·.data.toList)) (fun x hx => by
    obtain ⟨y, hy, rfl⟩ := List.mem_map.1 hx
    have := words_size h y hy
    simpa using this)
  rw [List.length_map, words_len] at h1
  have := h.len
  have h2 : (6 + 2 * l.us.length) * (20 + [(32 : UInt8)].length) ≤ 38 * 21 := Nat.mul_le_mul (by omega) (by simp)
  omega
theorem WAt.cells {w : World} {g : Nat} {ws : List ByteArray} (h : WAt w g ws) (j : Nat) (x : ByteArray) (hx : ws[j]? = some x) : w.cell? ⟨g, 0 + j, none⟩ = some (.string x) := by
  have hj := (List.getElem?_eq_some_iff.1 hx)
  obtain ⟨hj, rfl⟩ := hj
  have := World.ownsRow.cells h (g := g) rfl j (.string ws[j]) (by unfold strV; rw [List.getElem?_map, List.getElem?_eq_getElem hj]; rfl)
  rw [addr_addR] at this
  exact this

set_option maxHeartbeats 32000000 in
theorem text_any (w : World) (l : Lv) (v : Value) (hv : UsAt w v l.us) (hP : PT w) :
    Calls Tryz.prog 110 #[.agg #[.int .i64 l.a, .int .i64 l.s, .int .i64 l.i, .int .i64 l.k, .int .i64 l.b, .int .i64 l.r, v]] w fun e w' => e = .returned (.tuple #[.string (txV l), .int .i64 (lvE l)]) ∧ Below w.heap.size w w' := by
  have HP := hidp hP; clear hP
  have ck := hidp (fun W h h' => lvCheck_any W l v h h')
  have HV := hidp hv; clear hv
  obtain ⟨av, cv, rfl⟩ := HV.out.form
  obtain ⟨n, hn⟩ : ∃ n, l.us.length = n := ⟨_, rfl⟩
  have HN := hidp hn
  have hn47 := HV.out.len
  rw [hn] at HV hn47 ck ⊢
  clear hn
  cases hok : lvOk l with
  | false =>
    have hE : lvE l = 2 := if_neg (by rw [hok]; exact Bool.false_ne_true)
    have HF := hidp (show txV l = ⟨#[]⟩ from if_neg (by rw [hok]; exact Bool.false_ne_true))
    rw [hE] at ck ⊢
    clear hok hE
    go_enter Tryz.func110, Tryz.ntmps110
    go_wp2_with (first | (refine Rt.wpL_box 47 rfl (.tmp 0) rfl [.int .i64 l.a, .int .i64 l.s, .int .i64 l.i, .int .i64 l.k, .int .i64 l.b, .int .i64 l.r, .slice av n cv] rfl ?_; intro b1 w1 n1; have HB1 := hidp n1.below; have hg_b1 := hidp n1.le; have HA1 := hidp n1.arr; clear n1) | (refine Rt.wpL_get tyL rfl (.tmp 1) rfl b1 [.int .i64 l.a, .int .i64 l.s, .int .i64 l.i, .int .i64 l.k, .int .i64 l.b, .int .i64 l.r, .slice av n cv] rfl rfl HA1.out ?_) | (go_at_call 20; refine (ck.out _ (HV.out.to HB1.out) (HP.out.below HB1.out (Nat.le_refl _))).mono ?_; rintro e w2 ⟨rfl, hb⟩; have HB2 := hidp (HB1.out.trans (hb.mono HB1.out.size)); have HA2 := hidp (HA1.out.below hb HA1.out.lt); clear hb HB1 HA1))
    go_ret2
    exact ⟨by rw [HF.out]; rfl, HB2.out⟩
  | true =>
    have HOKP := hidp (lvOk_parts hok)
    have hE : lvE l = 0 := if_pos hok
    have HF := hidp (show txV l = joinW (wordsL l) from if_pos hok)
    have h16 := HOKP.out.len
    rw [HN.out] at h16
    rw [hE] at ck ⊢
    clear hok hE
    have cn := hidp (fun W => numbersOf_any W l (.slice av n cv))
    go_enter Tryz.func110, Tryz.ntmps110
    go_wp2_with (first | (refine Rt.wpL_box 47 rfl (.tmp 0) rfl [.int .i64 l.a, .int .i64 l.s, .int .i64 l.i, .int .i64 l.k, .int .i64 l.b, .int .i64 l.r, .slice av n cv] rfl ?_; intro b1 w1 n1; have HB1 := hidp n1.below; have hg_b1 := hidp n1.le; have HA1 := hidp n1.arr; clear n1) | (refine Rt.wpL_get tyL rfl (.tmp 1) rfl b1 [.int .i64 l.a, .int .i64 l.s, .int .i64 l.i, .int .i64 l.k, .int .i64 l.b, .int .i64 l.r, .slice av n cv] rfl rfl HA1.out ?_) | (go_at_call 20; refine (ck.out _ (HV.out.to HB1.out) (HP.out.below HB1.out (Nat.le_refl _))).mono ?_; rintro e w2 ⟨rfl, hb⟩; have HB2 := hidp (HB1.out.trans (hb.mono HB1.out.size)); have HA2 := hidp (HA1.out.below hb HA1.out.lt); clear hb HB1 HA1; obtain ⟨C, hmk, hwm⟩ := mk38 w2; have HWM := hidp hwm; have HBM := hidp (HB2.out.alloc HB2.out.size (.cells C 9)); have HAM := hidp (HA2.out.alloc (.cells C 9)); have hb12 := hidp HA2.out.lt; clear hwm HB2 HA2) | (refine Rt.wpL_get tyL rfl (.tmp 1) rfl b1 [.int .i64 l.a, .int .i64 l.s, .int .i64 l.i, .int .i64 l.k, .int .i64 l.b, .int .i64 l.r, .slice av n cv] rfl rfl HAM.out ?_) | (go_at_call 48; refine (cn.out _).mono ?_; rintro e w4 ⟨rfl, hb⟩; have HB4 := hidp (HBM.out.trans (hb.mono HBM.out.size)); have HA4 := hidp (HAM.out.below hb HAM.out.lt); have HW4 := hidp (HWM.out.to hb); have hg1 := hb12; have hgw := hidp (show w.heap.size ≤ w2.heap.size from Nat.le_trans hg_b1.out (Nat.le_of_lt hb12.out)); clear hb HBM HAM HWM))
    obtain ⟨g, hgd⟩ : ∃ g, w2.heap.size = g := ⟨_, rfl⟩
    rw [hgd] at HW4 hg1 hgw ⊢
    clear hmk hb12 hgd
    go_loopw [5, 18] (fun t5 t18 wr => ∃ i m : Nat, t18 = .int .i64 (i : Int) ∧ i ≤ 6 ∧ t5 = .slice (some ⟨g, 0, none⟩) m 38 ∧ m = i ∧ WAt wr g (((sixL l).take i).map itT) ∧ Below w.heap.size w wr ∧ Arr wr b1 47 [.int .i64 l.a, .int .i64 l.s, .int .i64 l.i, .int .i64 l.k, .int .i64 l.b, .int .i64 l.r, .slice av n cv]) (fun _ t18 _ => 6 - (intOf t18).toNat)
    case atStart => exact ⟨0, 0, rfl, by omega, rfl, rfl, HW4.out, HB4.out, HA4.out⟩
    case round =>
      obtain ⟨i, m, rfl, hi, rfl, hm, hwr, hb, ha⟩ := hrel
      have HWr := hidp hwr; have HB := hidp hb; have HA := hidp ha
      clear hwr hb ha HW4 HB4 HA4
      by_cases hlt : i < 6
      · have e1 : decide ((i : Int) < 6) = true := by simp; omega
        have e1n : (i : Int) < 6 := by omega
        have hix := index_num l i hlt wr
        have hl6 : i < (sixL l).length := hlt
        have hsn := hidp (show ((sixL l).take (i + 1)).map itT = ((sixL l).take i).map itT ++ [itT ((sixL l).getD i 0)] from by
          rw [List.take_add_one, List.getElem?_eq_getElem hl6, List.map_append, List.getD_eq_getElem?_getD, List.getElem?_eq_getElem hl6]; rfl)
        have hr := HOKP.out.six ((sixL l).getD i 0) (by rw [List.getD_eq_getElem?_getD, List.getElem?_eq_getElem hl6]; exact List.getElem_mem hl6)
        have hlw := hidp (show (((sixL l).take i).map itT).length = m from by rw [List.length_map, List.length_take, hm]; exact Nat.min_eq_left (by omega))
        obtain ⟨WS, hWS⟩ : ∃ x, ((sixL l).take i).map itT = x := ⟨_, rfl⟩
        obtain ⟨z, hz⟩ : ∃ z, (sixL l).getD i 0 = z := ⟨_, rfl⟩
        rw [hz] at hix hsn hr
        rw [hWS] at hsn hlw HWr
        have cz := hidp (fun W h => itoa_any W z (by unfold inR at hr; simp at hr; omega) (by unfold inR at hr; simp at hr; omega) h)
        obtain ⟨X, hX⟩ : ∃ x, itT z = x := ⟨_, rfl⟩
        rw [hX] at hsn cz
        clear hz hWS hX hr hl6
        have HM := hidp hm
        clear hm
        go_wp2_with (first | (go_at_call 44; refine (cz.out _ (HP.out.below HB.out (Nat.le_refl _))).mono ?_; rintro e w5 ⟨rfl, hb5⟩; have HB5 := hidp (HB.out.trans (hb5.mono HB.out.size)); have HA5 := hidp (HA.out.below hb5 HA.out.lt); have HW5 := hidp (HWr.out.to hb5); have hsz := hidp (show w.heap.size ≤ (w5.alloc (.cells #[.string X] 9)).heap.size from by have := HB5.out.size; simp; omega); clear hb5 HB HA HWr) | (refine wpL_app38 rfl (.tmp 21) (.tmp 24) rfl g m WS [X] w5.heap.size rfl rfl hlw.out (HW5.out.alloc _) (show Arr (w5.alloc (.cells #[.string X] 9)) w5.heap.size 9 (strV [X]) from Arr.new _ _ _) (by have := HM.out; simp; omega) ?_; intro w6 hw6 hg6; have HB6 := hidp ((HB5.out.alloc HB5.out.size _).trans (hg6.below _ hgw.out hsz.out)); have HA6 := hidp (hg6.arr (by have := hg1.out; omega) (HA5.out.alloc _)); have HW6 := hidp hw6; clear hw6 hg6 HB5 HA5 HW5))
        exact ⟨⟨i + 1, m + 1, by go_num, by omega, rfl, by have := HM.out; omega, by rw [hsn.out]; exact HW6.out, HB6.out, HA6.out⟩, by simp [intOf]; omega⟩
      · have e1 : decide ((i : Int) < 6) = false := by simp; omega
        obtain rfl : i = 6 := by omega
        have HWs := hidp (show WAt wr g ((sixL l).map itT) from HWr.out)
        obtain rfl : m = 6 := hm
        clear HWr
        obtain ⟨x0, x1, x2, x3, x4, x5, x6⟩ := arr7 HA.out
        go_wp2_with fail
        clear e1 hlt hi
        have HBs := HB; have HAs := HA
        clear HB HA
        clear x0 x1 x2 x3 x4 x5 x6
        go_loopw [5, 30] (fun t5 t30 wr => ∃ i m : Nat, t30 = .int .i64 (i : Int) ∧ i ≤ n ∧ t5 = .slice (some ⟨g, 0, none⟩) m 38 ∧ m = 6 + 2 * i ∧ WAt wr g ((sixL l).map itT ++ (l.us.take i).flatMap fun p => [p.1, itT p.2]) ∧ Below w.heap.size w wr ∧ Arr wr b1 47 [.int .i64 l.a, .int .i64 l.s, .int .i64 l.i, .int .i64 l.k, .int .i64 l.b, .int .i64 l.r, .slice av n cv]) (fun _ t30 _ => n - (intOf t30).toNat)
        case atStart => exact ⟨0, 6, rfl, by omega, rfl, rfl, by simpa using HWs.out, HBs.out, HAs.out⟩
        case round =>
          obtain ⟨i, m, rfl, hi, rfl, hm, hwr, hb, ha⟩ := hrel
          have HWr := hidp hwr; have HB := hidp hb; have HA := hidp ha; have HM := hidp hm
          clear hwr hb ha hm HWs HBs HAs
          by_cases hlt : i < n
          · have e1 : decide ((i : Int) < (n : Int)) = true := by simp; omega
            have hgl : i < l.us.length := by rw [HN.out]; exact hlt
            obtain ⟨BK, off, c, e2, hc, hBK0, hR0⟩ := HV.out.get (by rw [HN.out]; omega)
            rw [HN.out] at e2
            simp only [Value.slice.injEq] at e2
            obtain ⟨rfl, -, rfl⟩ := e2
            have hBK := hidp (show BK < wr.heap.size from Nat.lt_of_lt_of_le hBK0 HB.out.size)
            obtain ⟨p, hpe0⟩ : ∃ p, l.us[i] = p := ⟨_, rfl⟩
            have HRI := hidp (show wr.rangeAt BK (off + 2 * i) (uR p) from by rw [← hpe0]; exact rangeAt_below (hR0 i hgl) HB.out hBK0)
            have hsn := hidp (show (sixL l).map itT ++ ((l.us.take (i + 1)).flatMap fun p => [p.1, itT p.2]) = ((sixL l).map itT ++ (l.us.take i).flatMap fun p => [p.1, itT p.2]) ++ [p.1, itT p.2] from by
              rw [List.take_add_one, List.getElem?_eq_getElem hgl, List.flatMap_append, ← List.append_assoc, hpe0]; rfl)
            have hr := (HOKP.out.us p (by rw [← hpe0]; exact List.getElem_mem hgl)).2
            have hlw := hidp (show ((sixL l).map itT ++ (l.us.take i).flatMap fun p => [p.1, itT p.2]).length = m from by
              rw [List.length_append, List.length_map, flat_two, List.length_take, HM.out, Nat.min_eq_left (by omega)]; rfl)
            obtain ⟨WS, hWS⟩ : ∃ x, ((sixL l).map itT ++ (l.us.take i).flatMap fun p => [p.1, itT p.2]) = x := ⟨_, rfl⟩
            rw [hWS] at hsn hlw HWr
            have cz := hidp (fun W h => itoa_any W p.2 (by unfold inR at hr; simp at hr; omega) (by unfold inR at hr; simp at hr; omega) h)
            obtain ⟨X, hX⟩ : ∃ x, itT p.2 = x := ⟨_, rfl⟩
            rw [hX] at hsn cz
            clear hWS hX hr hpe0 hc hR0 hBK0 hgl
            go_wp2_with (first | (refine wpL_idxR tyU rfl (.tmp 28) (.tmp 30) rfl BK off n _ i rfl rfl hlt ?_) | (refine wpL_atR tyU rfl (.tmp 32) rfl BK (off + 2 * i) (uR p) rfl rfl HRI.out ?_) | (refine Rt.wpL_new tyP (some 9) rfl rfl rfl ?_; intro b9 wq1 n1; have HB1 := hidp (HB.out.trans (n1.below.mono HB.out.size)); have hbw := hidp (Nat.le_trans HB.out.size n1.le); have HA1 := hidp (n1.old HA.out); have hab := hidp (show b1 < b9 from by have := n1.at_; have := HA.out.lt; omega)) | (refine Rt.wpL_put tyP rfl (.tmp 9) (.tmp 33) rfl b9 (uR p) rfl rfl rfl (uR_one p) zU rfl n1.arr ?_; intro wq2 ha hp; have HB2 := hidp (hp.below' HB1.out hbw.out); have HE2 := hidp (show Arr wq2 b9 93 [.string p.1, .int .i64 p.2] from ha); have HA2 := hidp (hp.arr (by have := hab.out; omega) HA1.out); obtain ⟨y0, y1⟩ := arr2 HE2.out; have hbq := n1.put hp; have HW2 := hidp (HWr.out.to hbq); have hg9 := hidp (show g < b9 from by have := HWr.out.lt; have := n1.at_; omega); clear hbq ha hp n1 HB1 HA1))
            obtain ⟨U, hU⟩ : ∃ U, ({ wq2 with drawn := wq2.drawn + 1 } : World) = U := ⟨_, rfl⟩
            have bU : Below wq2.heap.size wq2 U := by rw [← hU]; exact (Below.refl _ _).drew
            have HE3 := hidp (HE2.out.below bU HE2.out.lt); have HA3 := hidp (HA2.out.below bU HA2.out.lt); have HB3 := hidp (HB2.out.trans (bU.mono HB2.out.size)); have HW3 := hidp (HW2.out.to bU)
            clear bU HE2 HA2 HB2 HW2 y0 y1
            refine wp_region_noPanic ?_
            refine wp_region_scr (S := fun W => Arr W b9 93 [.string p.1, .int .i64 p.2]) (.take 0 (.take 1 (.take 2 (.take 3 (.take 4 (.one 5 (.one 6 (.one 7 (.take 8 .done))))))))) (by kernel_rfl) (by kernel_rfl) (fun _ _ _ _ _ h => h) (by simp [Scr.depth]) (by kernel_rfl) (by rw [hU]; exact HE3.out) ?_
            simp only [hU]
            clear hU
            apply s_val
            case ho => rfl
            case hw => rfl
            case hv => intro w hw; obtain ⟨y0, y1⟩ := arr2 hw; go_simp; first | done | with_reducible rfl | rfl
            simp only [Act.put, List.getElem_toArray, List.getElem_cons_zero, List.getElem_cons_succ, List.setIfInBounds_toArray, List.set_cons_zero, List.set_cons_succ]
            apply s_val
            case ho => rfl
            case hw => rfl
            case hv => intro w hw; obtain ⟨y0, y1⟩ := arr2 hw; go_simp; first | done | with_reducible rfl | rfl
            simp only [Act.put, List.getElem_toArray, List.getElem_cons_zero, List.getElem_cons_succ, List.setIfInBounds_toArray, List.set_cons_zero, List.set_cons_succ]
            apply s_val
            case ho => rfl
            case hw => rfl
            case hv => intro w hw; obtain ⟨y0, y1⟩ := arr2 hw; go_simp; first | done | with_reducible rfl | rfl
            simp only [Act.put, List.getElem_toArray, List.getElem_cons_zero, List.getElem_cons_succ, List.setIfInBounds_toArray, List.set_cons_zero, List.set_cons_succ]
            apply s_val
            case ho => rfl
            case hw => rfl
            case hv => intro w hw; obtain ⟨y0, y1⟩ := arr2 hw; go_simp; first | done | with_reducible rfl | rfl
            simp only [Act.put, List.getElem_toArray, List.getElem_cons_zero, List.getElem_cons_succ, List.setIfInBounds_toArray, List.set_cons_zero, List.set_cons_succ]
            apply s_val
            case ho => rfl
            case hw => rfl
            case hv => intro w hw; obtain ⟨y0, y1⟩ := arr2 hw; go_simp; first | done | with_reducible rfl | rfl
            simp only [Act.put, List.getElem_toArray, List.getElem_cons_zero, List.getElem_cons_succ, List.setIfInBounds_toArray, List.set_cons_zero, List.set_cons_succ]
            apply o_call (f := 44) (args := #[.int .i64 p.2]) (v := .string X) (hc := cz.out _ (HP.out.below HB3.out (Nat.le_refl _)))
            case ho => rfl
            case hw => rfl
            case hop => go_simp; first | done | rfl
            rintro X4 hb
            have HE4 := hidp (HE3.out.below hb HE3.out.lt); have HA4 := hidp (HA3.out.below hb HA3.out.lt); have HB4 := hidp (HB3.out.trans (hb.mono HB3.out.size)); have HW4 := hidp (HW3.out.to hb)
            refine ⟨HE4.out, ?_⟩
            clear hb HE3 HA3 HB3 HW3
            simp only [Act.put, List.getElem_toArray, List.getElem_cons_zero, List.getElem_cons_succ, List.setIfInBounds_toArray, List.set_cons_zero, List.set_cons_succ]
            apply o_make (v := .slice (some ⟨X4.heap.size, 0, none⟩) 2 2) (W := X4.alloc (.cells #[.string p.1, .string X] 9))
            case ho => rfl
            case hw => rfl
            case hop => go_simp; first | done | rfl
            case hS => exact HE4.out.alloc _
            have HE5 := hidp (HE4.out.alloc (.cells #[.string p.1, .string X] 9)); have HA5 := hidp (HA4.out.alloc (.cells #[.string p.1, .string X] 9)); have HB5 := hidp (HB4.out.alloc HB4.out.size (.cells #[.string p.1, .string X] 9)); have HW5 := hidp (HW4.out.alloc (.cells #[.string p.1, .string X] 9))
            have HN5 := hidp (Arr.new X4 9 [.string p.1, .string X])
            obtain ⟨N5, hN5⟩ : ∃ k, X4.heap.size = k := ⟨_, rfl⟩
            obtain ⟨W5, hW5⟩ : ∃ W, X4.alloc (.cells #[.string p.1, .string X] 9) = W := ⟨_, rfl⟩
            have hgN := hidp (show w.heap.size ≤ W5.heap.size from by rw [← hW5]; exact HB5.out.size)
            change Hid (Arr (X4.alloc (.cells #[.string p.1, .string X] 9)) _ _ _) at HN5
            rw [hW5] at HE5 HA5 HB5 HW5 HN5 ⊢
            rw [hN5] at HN5 ⊢
            clear HE4 HA4 HB4 HW4 hW5 hN5
            simp only [Act.put, List.getElem_toArray, List.getElem_cons_zero, List.getElem_cons_succ, List.setIfInBounds_toArray, List.set_cons_zero, List.set_cons_succ]
            refine o_app38 rfl rfl (.tmp 34) (.tmp 40) rfl g m WS [p.1, X] N5 rfl rfl hlw.out HW5.out HN5.out (by have := HM.out; simp; omega) ?_
            intro W6 hw6 hg6
            have HB6 := hidp (HB5.out.trans (hg6.below _ hgw.out hgN.out)); have HA6 := hidp (hg6.arr (by have := hg1.out; omega) HA5.out)
            have HW6 := hidp hw6
            refine ⟨hg6.arr (by have := hg9.out; omega) HE5.out, ?_⟩
            clear hw6 hg6 HE5 HA5 HB5 HW5 HN5
            simp only [Act.put, List.getElem_toArray, List.getElem_cons_zero, List.getElem_cons_succ, List.setIfInBounds_toArray, List.set_cons_zero, List.set_cons_succ]
            apply s_val
            case ho => rfl
            case hw => rfl
            case hv => intro w hw; obtain ⟨y0, y1⟩ := arr2 hw; go_simp; first | done | with_reducible rfl | rfl
            simp only [Act.put, List.getElem_toArray, List.getElem_cons_zero, List.getElem_cons_succ, List.setIfInBounds_toArray, List.set_cons_zero, List.set_cons_succ]
            refine NoPanic.normal ?_
            go_wp2_with fail
            exact ⟨⟨i + 1, m + 2, by go_num, by omega, rfl, by have := HM.out; omega, by rw [hsn.out]; exact HW6.out, HB6.out, HA6.out⟩, by simp [intOf]; omega⟩
          · have e1 : decide ((i : Int) < (n : Int)) = false := by simp; omega
            obtain rfl : i = n := by omega
            have HWf := hidp (show WAt wr g (wordsL l) from by
              have := HWr.out
              rw [show l.us.take i = l.us from List.take_of_length_le (by rw [HN.out]; exact Nat.le_refl _)] at this
              exact this)
            have hml := hidp (show (wordsL l).length = m from by rw [words_len, HN.out, HM.out])
            obtain ⟨WS, hWS⟩ : ∃ x, wordsL l = x := ⟨_, rfl⟩
            have hjl := hidp (join_ok HOKP.out)
            rw [hWS] at HWf hml hjl HF
            have cj := hidp (Tryz.strings_Join g 0 38 WS ⟨#[32]⟩ wr (fun j x hx => HWf.out.cells j x hx) HWf.out.lt (by rw [hml.out, HM.out]; omega) (by rw [hml.out, HM.out]; omega) hjl.out)
            rw [hml.out] at cj
            clear hWS
            go_wp2_with (go_at_call 142; refine cj.out.mono ?_; rintro e w7 ⟨rfl, hb7⟩; have HB7 := hidp (HB.out.trans (hb7.mono HB.out.size)); clear hb7)
            go_ret2
            exact ⟨by rw [HF.out]; rfl, HB7.out⟩
end Go.Proofs.YtkcgmimcopoknaaGreatDoor
