
/-
  Levels: plain mathematics, rows, the small functions.
-/
import Derived.Test.YtiakfopdohcigaaGreatDoorIdAll
import Derived.Test.YtiakfopdohcigaaGreatDoorRw
import Derived.Lib.LaidTab
namespace Go.Proofs.YtiakfopdohcigaaGreatDoor
set_option maxRecDepth 100000
set_option linter.unusedVariables false
set_option linter.unusedSimpArgs false
open Go.RowKit Rw


/-- Levels. -/
structure Lv where
  a : Int
  s : Int
  i : Int
  k : Int
  b : Int
  r : Int
  us : List (ByteArray × Int)
def sixL (l : Lv) : List Int := [l.a, l.s, l.i, l.k, l.b, l.r]
def inR (n : Int) : Bool := decide (0 ≤ n) && decide (n ≤ 100)
def usr (t : ByteArray) : Bool := (who 1 t).isSome
def uz : ByteArray × Int := (⟨#[]⟩, 0)
/-- The user at place i is right, and stands behind the one ahead. -/
def uAt (us : List (ByteArray × Int)) (i : Nat) : Bool :=
  usr (us.getD i uz).1 && inR (us.getD i uz).2 && (decide (i = 0) || Op.bytesLess (us.getD (i - 1) uz).1.toList (us.getD i uz).1.toList)
def uTo (us : List (ByteArray × Int)) (n : Nat) : Bool := (List.range n).all (uAt us)
theorem uTo_succ (us : List (ByteArray × Int)) (n : Nat) : uTo us (n + 1) = (uTo us n && uAt us n) := by
  unfold uTo; rw [List.range_succ, List.all_append]; simp
theorem uTo_le {us : List (ByteArray × Int)} {n i : Nat} (h : uTo us n = true) (hi : i < n) : uAt us i = true := by
  unfold uTo at h; rw [List.all_eq_true] at h; exact h i (by simpa using hi)
def lvOk (l : Lv) : Bool := (sixL l).all inR && decide (l.us.length ≤ 16) && uTo l.us l.us.length
def lvE (l : Lv) : Int := if lvOk l = true then 0 else 2
/-- A user's own number. -/
def ownL : List (ByteArray × Int) → ByteArray → Option Int
  | [], _ => none
  | p :: r, u => if (p.1.toList == u.toList) = true then some p.2 else ownL r u
def ofL (l : Lv) (u : ByteArray) : Int := (ownL l.us u).getD l.a
def ownV : Option Int → Value
  | some n => .tuple #[.int .i64 n, .bool true]
  | none => .tuple #[.int .i64 0, .bool false]
theorem own_step {us : List (ByteArray × Int)} {u : ByteArray} {i : Nat} (h : i < us.length) : ownL (us.drop i) u = if (us[i].1.toList == u.toList) = true then some us[i].2 else ownL (us.drop (i + 1)) u := by
  rw [List.drop_eq_getElem_cons h]; rfl

/-- Rows. -/
def uR (p : ByteArray × Int) : List Value := [.string p.1, .int .i64 p.2]
def zU : List Value := [.string ⟨#[]⟩, .int .i64 0]
def zL : List Value := [.int .i64 0, .int .i64 0, .int .i64 0, .int .i64 0, .int .i64 0, .int .i64 0, .slice none 0 0]
def zN : List Value := [.int .i64 0, .int .i64 0, .int .i64 0, .int .i64 0, .int .i64 0, .int .i64 0]
theorem tyU : RowTy Tryz.prog 35 83 2 24 zU := by
  refine ⟨by decide, by decide, by decide, rfl, by kernel_rfl, by kernel_rfl, ⟨_, Tryz.underlying83⟩, by kernel_rfl⟩
theorem tyL : Rt.RT Tryz.prog 37 7 zL := ⟨rfl, .inl ⟨_, Tryz.underlying37⟩, by kernel_rfl⟩
theorem tyN : Rt.RT Tryz.prog 85 6 zN := ⟨rfl, .inr ⟨_, _, Tryz.underlying85⟩, by kernel_rfl⟩
theorem tyP : Rt.RT Tryz.prog 83 2 zU := ⟨rfl, .inl ⟨_, Tryz.underlying83⟩, by kernel_rfl⟩
def uRs (us : List (ByteArray × Int)) : List (List Value) := us.map uR
theorem uRs_len (us : List (ByteArray × Int)) : (uRs us).length = us.length := by simp [uRs]
theorem uR_one (p : ByteArray × Int) : ∀ v ∈ uR p, v.oneCell' = true := by
  intro v hv; simp [uR] at hv; rcases hv with rfl | rfl <;> rfl
theorem uRs_one (us : List (ByteArray × Int)) : One1 (uRs us) := by
  intro e he v hv
  simp only [uRs, List.mem_map] at he
  obtain ⟨g, _, rfl⟩ := he
  exact uR_one g v hv
theorem uRs_all (us : List (ByteArray × Int)) : AllK 2 (uRs us) := by
  intro e he
  simp only [uRs, List.mem_map] at he
  obtain ⟨g, hg, rfl⟩ := he
  rfl
/-- Users in memory. -/
structure UsAt (w : World) (v : Value) (us : List (ByteArray × Int)) : Prop where
  rs : RsAt 2 w v (uRs us)
  len : us.length ≤ 140737488351232
  sz : ∀ p ∈ us, p.1.size ≤ 140737488351232
theorem UsAt.to {w w' : World} {v : Value} {us : List (ByteArray × Int)} (h : UsAt w v us) (hb : Below w.heap.size w w') : UsAt w' v us := ⟨h.rs.to hb, h.len, h.sz⟩
theorem UsAt.nil (w : World) : UsAt w (.slice none 0 0) [] := ⟨RsAt.nil w, by simp, by simp⟩
theorem UsAt.form {w : World} {v : Value} {us : List (ByteArray × Int)} (h : UsAt w v us) : ∃ a c, v = .slice a us.length c := by
  have := h.rs.form; rw [uRs_len] at this; exact this
theorem UsAt.get {w : World} {v : Value} {us : List (ByteArray × Int)} (h : UsAt w v us) (hp : 0 < us.length) : ∃ B o c, v = .slice (some ⟨B, o, none⟩) us.length c ∧ us.length ≤ c ∧ B < w.heap.size ∧ ∀ i, (hi : i < us.length) → w.rangeAt B (o + 2 * i) (uR us[i]) := by
  obtain ⟨B, o, c, e, h1, h2, h3⟩ := h.rs.get (by rw [uRs_len]; exact hp)
  rw [uRs_len] at e h1
  refine ⟨B, o, c, e, h1, h2, fun i hi => ?_⟩
  have := rAt_nth h3 h.rs.1 i (by rw [uRs_len]; exact hi)
  simpa [uRs] using this
theorem getU {us : List (ByteArray × Int)} {i : Nat} (h : i < us.length) : us.getD i uz = us[i] := by rw [List.getD_eq_getElem?_getD, List.getElem?_eq_getElem h]; rfl
theorem arr2 {w : World} {b T : Nat} {x y : Value} (h : Arr w b T [x, y]) : w.cell? ⟨b, 0, none⟩ = some x ∧ w.cell? ⟨b, 1, none⟩ = some y := ⟨h.cell 0 (by simp), h.cell 1 (by simp)⟩
theorem arr7 {w : World} {b T : Nat} {x0 x1 x2 x3 x4 x5 x6 : Value} (h : Arr w b T [x0, x1, x2, x3, x4, x5, x6]) : w.cell? ⟨b, 0, none⟩ = some x0 ∧ w.cell? ⟨b, 1, none⟩ = some x1 ∧ w.cell? ⟨b, 2, none⟩ = some x2 ∧ w.cell? ⟨b, 3, none⟩ = some x3 ∧ w.cell? ⟨b, 4, none⟩ = some x4 ∧ w.cell? ⟨b, 5, none⟩ = some x5 ∧ w.cell? ⟨b, 6, none⟩ = some x6 :=
  ⟨h.cell 0 (by simp), h.cell 1 (by simp), h.cell 2 (by simp), h.cell 3 (by simp), h.cell 4 (by simp), h.cell 5 (by simp), h.cell 6 (by simp)⟩
theorem arr6n {w : World} {b T : Nat} {x0 x1 x2 x3 x4 x5 : Value} (h : Arr w b T [x0, x1, x2, x3, x4, x5]) : w.cell? ⟨b, 0, none⟩ = some x0 ∧ w.cell? ⟨b, 1, none⟩ = some x1 ∧ w.cell? ⟨b, 2, none⟩ = some x2 ∧ w.cell? ⟨b, 3, none⟩ = some x3 ∧ w.cell? ⟨b, 4, none⟩ = some x4 ∧ w.cell? ⟨b, 5, none⟩ = some x5 :=
  ⟨h.cell 0 (by simp), h.cell 1 (by simp), h.cell 2 (by simp), h.cell 3 (by simp), h.cell 4 (by simp), h.cell 5 (by simp)⟩
/-- What the world holds: the tables of ident, and the powers of ten. -/
def PT (w : World) : Prop := IT w ∧ Lib.TabIs Tryz.prog w "internal/strconv.uint64pow10" .u64 Lib.pow10Tab
theorem gPow : Tryz.prog.globalNamed "internal/strconv.uint64pow10" = some 2 := by kernel_rfl
theorem PT.below {w w' : World} (h : PT w) {B : Nat} (hb : Below B w w') (hB : w.heap.size ≤ B) : PT w' := by
  refine ⟨h.1.below hb hB, ?_⟩
  have h2 := h.2
  unfold Lib.TabIs World.var? at h2 ⊢
  rw [gPow] at h2 ⊢
  simp only [Option.bind_some] at h2 ⊢
  have hlt : 2 < w.heap.size := by
    rcases Nat.lt_or_ge 2 w.heap.size with h' | h'
    · exact h'
    · rw [Array.getElem?_eq_none h'] at h2; cases h2
  rw [hb.block _ (by omega)]
  exact h2
theorem below_grow (w : World) (k : Nat) (os : Array Obj) : Below w.heap.size w (Sort.grow (w.drewN k) os) :=
  ⟨rfl, rfl, rfl, by simp [Sort.grow, World.drewN], fun j hj => by simp [Sort.grow, World.drewN, Array.getElem?_append_left hj]⟩
/-- The text of a small number. -/
def itT (n : Int) : ByteArray := ⟨(Lib.itoa n).toArray⟩
theorem itoa_any (w : World) (n : Int) (h0 : -9223372036854775808 ≤ n) (h1 : n ≤ 9223372036854775807) (hP : PT w) :
    Calls Tryz.prog 61 #[.int .i64 n] w fun e w' => e = .returned (.string (itT n)) ∧ Below w.heap.size w w' :=
  (Tryz.strconv_Itoa n h0 h1 w hP.2).mono fun e w' ⟨he, k, os, hw⟩ => ⟨he, hw ▸ below_grow w k os⟩

set_option maxHeartbeats 4000000 in
theorem inRange_any (w : World) (n : Int) :
    Calls Tryz.prog 71 #[.int .i64 n] w fun e w' => e = .returned (.bool (inR n)) ∧ w' = w := by
  by_cases h0 : 0 ≤ n
  · have d0 : decide (0 ≤ n) = true := decide_eq_true h0
    by_cases h1 : n ≤ 100
    · have d1 : decide (n ≤ 100) = true := decide_eq_true h1
      have HF := hidp (show inR n = true from by unfold inR; simp [*])
      go_enter Tryz.func71, Tryz.ntmps71
      go_wp2_with fail
      go_ret
      exact ⟨by rw [HF.out]; rfl, rfl⟩
    · have d1 : decide (n ≤ 100) = false := decide_eq_false h1
      have HF := hidp (show inR n = false from by unfold inR; simp [*])
      go_enter Tryz.func71, Tryz.ntmps71
      go_wp2_with fail
      go_ret
      exact ⟨by rw [HF.out]; rfl, rfl⟩
  · have d0 : decide (0 ≤ n) = false := decide_eq_false h0
    have HF := hidp (show inR n = false from by unfold inR; simp [*])
    go_enter Tryz.func71, Tryz.ntmps71
    go_wp2_with fail
    go_ret
    exact ⟨by rw [HF.out]; rfl, rfl⟩
set_option maxHeartbeats 4000000 in
theorem isUser_any (w : World) (t : ByteArray) (hs : t.size ≤ 281474976710656) (hI : IT w) :
    Calls Tryz.prog 72 #[.string t] w fun e w' => e = .returned (.bool (usr t)) ∧ Below w.heap.size w w' := by
  have c := hidp (user_any w t hs hI)
  clear hI
  cases hq : who 1 t with
  | none =>
    rw [hq] at c
    have HF := hidp (show usr t = false from by unfold usr; rw [hq]; rfl)
    have HV := hidp (show whoV none = .tuple #[.int .i64 0, .bool false] from rfl)
    rw [HV.out] at c
    go_enter Tryz.func72, Tryz.ntmps72
    go_wp2_with fail
    refine c.out.mono ?_
    rintro e w1 ⟨rfl, hb⟩
    have HB := hidp hb; clear hb
    go_wp2_with fail
    go_ret
    exact ⟨by rw [HF.out]; rfl, HB.out⟩
  | some n =>
    rw [hq] at c
    have HF := hidp (show usr t = true from by unfold usr; rw [hq]; rfl)
    have HV := hidp (show whoV (some n) = .tuple #[.int .i64 (n : Int), .bool true] from rfl)
    rw [HV.out] at c
    go_enter Tryz.func72, Tryz.ntmps72
    go_wp2_with fail
    refine c.out.mono ?_
    rintro e w1 ⟨rfl, hb⟩
    have HB := hidp hb; clear hb
    go_wp2_with fail
    go_ret
    exact ⟨by rw [HF.out]; rfl, HB.out⟩
end Go.Proofs.YtiakfopdohcigaaGreatDoor
