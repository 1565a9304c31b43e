/-
  Joined: PwO PwP PwQ PwU.
-/
import Derived.Test.YtkcgmimcopoknaaGreatDoorPwK
import Derived.Test.YtkcgmimcopoknaaGreatDoorIdAll
import Derived.Deep.Slices
namespace Go.Proofs.YtkcgmimcopoknaaGreatDoor
set_option maxRecDepth 100000
set_option linter.unusedVariables false
set_option linter.unusedSimpArgs false
open Go.RowKit Rw Go.Shelf
attribute [local go_sem] Oper.semAt_some


theorem ba_inj {a b : ByteArray} (h : a.toList = b.toList) : a = b := by
  rw [ByteArray.toList_eq, ByteArray.toList_eq] at h
  cases a; cases b; simp only [ByteArray.mk.injEq]; exact Array.toList_inj.1 h
theorem own_mem : ∀ {us : List (ByteArray × Int)} {x : ByteArray} {k : Int}, ownL us x = some k → ∃ p ∈ us, p.1 = x ∧ p.2 = k
  | [], _, _, h => by cases h
  | p :: r, x, k, h => by
    unfold ownL at h
    split at h
    · rename_i he
      exact ⟨p, List.mem_cons_self .., ba_inj (beq_iff_eq.1 he), by simpa using h⟩
    · obtain ⟨q, hq, e⟩ := own_mem h
      exact ⟨q, List.mem_cons_of_mem _ hq, e⟩
theorem nh_parts {was is : Lv} {u : ByteArray} (h : chE was is u = 0) : nBad was is (ofL was u) 0 = false ∧ ∀ x ∈ chL was.us is.us, uBad was is u (ofL was u) x = false := by
  unfold chE at h
  split at h
  · split at h
    · cases h
    · rename_i h1
      split at h
      · cases h
      · rename_i h2
        refine ⟨?_, fun x hx => ?_⟩
        · cases hb : nBad was is (ofL was u) 0 with
          | false => rfl
          | true => exact absurd (any_range_at (by omega) hb) h1
        · cases hb : uBad was is u (ofL was u) x with
          | false => rfl
          | true => exact absurd (List.any_eq_true.2 ⟨x, hx, hb⟩) h2
  · cases h
theorem nh_user {was is : Lv} {u x : ByteArray} {lev : Int} (h : uBad was is u lev x = false) : ofL was x ≤ lev ∧ ofL is x ≤ lev := by
  unfold uBad at h
  simp only [Bool.or_eq_false_iff, decide_eq_false_iff_not] at h
  omega
theorem no_higher {was is : Lv} {u : ByteArray} (h : chE was is u = 0) (x : ByteArray) : (ofL was x ≤ ofL was u ∧ ofL is x ≤ ofL was u) ∨ ofL was x = ofL is x := by
  obtain ⟨h0, hu⟩ := nh_parts h
  cases h1 : ownL was.us x with
  | some k =>
    obtain ⟨p, hp, rfl, rfl⟩ := own_mem h1
    cases hf : chF is.us p with
    | true =>
      refine .inl (nh_user (hu p.1 ?_))
      unfold chL chI chW
      refine List.mem_append_left _ (List.mem_map_of_mem (List.mem_filter.2 ⟨?_, hf⟩))
      rw [List.take_length]; exact hp
    | false =>
      unfold chF at hf
      cases h2 : ownL is.us p.1 with
      | none => rw [h2] at hf; cases hf
      | some k =>
        rw [h2] at hf
        have : k = p.2 := by simpa using hf
        refine .inr ?_
        unfold ofL
        rw [h1, h2, this]; rfl
  | none =>
    cases h2 : ownL is.us x with
    | some k =>
      obtain ⟨p, hp, rfl, rfl⟩ := own_mem h2
      refine .inl (nh_user (hu p.1 ?_))
      unfold chL chI
      refine List.mem_append_right _ (List.mem_map_of_mem (List.mem_filter.2 ⟨?_, by unfold chG; rw [h1]; rfl⟩))
      rw [List.take_length]; exact hp
    | none =>
      have e1 : ofL was x = was.a := by unfold ofL; rw [h1]; rfl
      have e2 : ofL is x = is.a := by unfold ofL; rw [h2]; rfl
      rw [e1, e2]
      unfold nBad at h0
      simp only [sixL, List.getD_cons_zero, Bool.and_eq_false_iff, decide_eq_false_iff_not, bne_eq_false_iff_eq] at h0
      rcases h0 with h0 | h0
      · exact .inr h0
      · exact .inl (by omega)
end Go.Proofs.YtkcgmimcopoknaaGreatDoor

namespace Go.Proofs.YtkcgmimcopoknaaGreatDoor
set_option maxRecDepth 100000
set_option linter.unusedVariables false
set_option linter.unusedSimpArgs false
open Go.RowKit Rw Go.ChangeShapes Go.WideShapes Go.ChangeAt

theorem addr_pl (b o i : Nat) : (⟨b, o, none⟩ : Addr).add i = ⟨b, o + i, none⟩ := by unfold Addr.add; split <;> simp_all
theorem weights_all {H : Type} {P : Program} {e : TypeId} : ∀ {l : List (DataW H)} {d : DataW H} {n : Nat}, d ∈ l → n ∈ d.weights P e → n ∈ DataW.weightsAll P e l
  | [], _, _, h, _ => by cases h
  | a :: r, d, n, h, hn => by
    rw [DataW.weightsAll, List.mem_append]
    rcases List.mem_cons.1 h with rfl | h
    · exact .inl hn
    · exact .inr (weights_all h hn)
theorem choose_ps {p : Nat → ByteArray × Int → Prop} : ∀ (n : Nat), (∀ i, i < n → ∃ x, p i x) → ∃ l : List (ByteArray × Int), l.length = n ∧ ∀ i (h : i < l.length), p i l[i]
  | 0, _ => ⟨[], rfl, fun i h => by simp at h⟩
  | n + 1, h => by
    obtain ⟨l, h1, h2⟩ := choose_ps n (fun i hi => h i (by omega))
    obtain ⟨x, hx⟩ := h n (by omega)
    refine ⟨l ++ [x], by simp [h1], fun i hi => ?_⟩
    by_cases hi2 : i < l.length
    · rw [List.getElem_append_left hi2]; exact h2 i hi2
    · have e : i = l.length := by simp at hi; omega
      subst e
      rw [List.getElem_append_right (by omega)]
      simp only [Nat.sub_self, List.getElem_cons_zero]
      rw [h1]; exact hx
theorem rAt_nth' : ∀ (us : List (ByteArray × Int)) {q : Nat} (hi : q / 2 < us.length) (q' : Nat) {u : Value}, (uRs us).flatten[q']? = some u → q' = q → (uR us[q / 2])[q % 2]? = some u
  | [], _, hi, _, _, _, _ => by simp at hi
  | p :: r, q, hi, q', u, h, he => by
    subst he
    simp only [uRs, List.map_cons, List.flatten_cons] at h
    match q', h with
    | 0, h => simpa [uR] using h
    | 1, h => simpa [uR] using h
    | q + 2, h =>
      have h' : (uRs r).flatten[q]? = some u := by simpa [uRs, uR] using h
      have hi2 : q / 2 < r.length := by simp at hi; omega
      have := rAt_nth' r hi2 q h' rfl
      rw [show (q + 2) % 2 = q % 2 from by omega]
      simpa [show (q + 2) / 2 = q / 2 + 1 from by omega] using this
section
variable {H : Type} {enc : TypeId × Value → H} {w : World} {base : Nat} {held : Bool} {r : Reach} {b0 : Nat}
theorem open_users {ts : List TypeId} {ds : List (DataW H)} (hsz : (DataW.weightsEach Tryz.prog ts ds).all (· ≤ reachBytes) = true) {j : Nat} (htj : ts[j]? = some 45) {v : Value} {fuel : Nat} {x : DataW H × List MemPlace} (hdj : ds[j]? = some x.1)
    (hval : Cell.okWide Tryz.prog w r b0 45 v) (hf : DataW.trod enc Tryz.prog w base (fun _ => true) held fuel 45 [v] = some x) : ∃ us, UsAt w v us := by
  have hu : Tryz.prog.underlying 45 = some (.slice 93) := Tryz.underlying45
  have he := Tryz.underlying93
  have hce : Tryz.prog.cellsOf 93 = 2 := by kernel_rfl
  have hci : Tryz.prog.cellsOf 3 = 1 := by kernel_rfl
  have hcs1 : Tryz.prog.cellsOf 9 = 1 := by kernel_rfl
  have hby : Tryz.prog.bytesOf 93 = 24 := by kernel_rfl
  rcases Go.Deep.open_slice hu hf with ⟨hcs, _⟩ | ⟨a', len', cap', m, n, D, Pl, hcs, _, hl, hm, hmm, hx, hel⟩
  · simp only [List.cons.injEq, and_true] at hcs
    subst hcs
    exact ⟨[], UsAt.nil _⟩
  simp only [List.cons.injEq, and_true] at hcs
  subst hcs
  have hmc : m = cap' := by simpa using hmm
  subst hmc
  subst hx
  have hs1 := sized_slice hsz htj hdj hu
  rw [hby] at hs1
  simp only [List.length_map, List.length_range, reachBytes] at hs1
  have hlive : a'.spot = none ∧ a'.block < w.heap.size := by
    simp only [hu, Cell.okWide, Cell.ok] at hval
    obtain ⟨_, _, _, hsp, row, cells, hsh, _⟩ := hval
    refine ⟨hsp, ?_⟩
    unfold World.shape? at hsh
    split at hsh
    · rename_i h; exact (Array.getElem?_eq_some_iff.1 h).1
    · cases hsh
  obtain ⟨b, o, sp⟩ := a'
  obtain ⟨rfl, hb⟩ := hlive
  obtain ⟨us, hul, hus⟩ := choose_ps (p := fun i p => w.rangeAt b (o + 2 * i) (uR p) ∧ p.1.size ≤ 140737488351232) len' fun i hi => by
    obtain ⟨cs', hc, ht⟩ := hel i (by omega)
    rw [hce] at hc
    obtain ⟨_, hcl, hcg⟩ := World.cells?_some hc
    obtain ⟨y0, y1, n', hD, _, g0, g1⟩ := trod_struct2 he ht
    obtain ⟨t, htx, hty, _⟩ := DataW.trod_string Tryz.underlying9 g0
    obtain ⟨k, hk, _, _⟩ := DataW.trod_int Tryz.underlying3 g1
    have c0 := hcg 0 (by omega)
    have c1 := hcg 1 (by omega)
    have e0 : cs'[0]? = some (.string t) := by have := congrArg (·[0]?) htx; simp [List.getElem?_take, List.getElem?_drop] at this; exact this.2
    have e1 : cs'[1]? = some (.int .i64 k) := by have := congrArg (·[0]?) hk; simp [List.getElem?_take, List.getElem?_drop] at this; exact this.2
    rw [addr_pl, addr_pl, e0] at c0
    rw [addr_pl, addr_pl, e1] at c1
    refine ⟨(t, k), fun q u hq => ?_, ?_⟩
    · match q, hq with
      | 0, hq => cases hq; rw [Nat.mul_comm 2 i]; exact c0
      | 1, hq => cases hq; rw [Nat.mul_comm 2 i]; exact c1
    · have hDi : D i = .agg [y0.1, y1.1] := congrArg Prod.fst hD
      have h1 := List.all_eq_true.1 hsz _ (DataW.weights_mem_each htj hdj t.data.toList.length (by
        simp only [DataW.weights, hu, List.mem_cons, List.mem_append]
        right; left
        refine weights_all (List.mem_map.2 ⟨i, List.mem_range.2 hi, rfl⟩) ?_
        rw [hDi, hty]
        simp [DataW.weights, he, DataW.weightsEach]))
      have := of_decide_eq_true h1
      simpa [reachBytes] using this
  refine ⟨us, ⟨uRs_all _, .inr ⟨b, o, m, by rw [uRs_len, hul], by rw [uRs_len, hul]; exact hl, hb, fun q u hq => ?_⟩⟩, by omega, fun p hp => ?_⟩
  · have hfl : (uRs us).flatten.length = 2 * us.length := by rw [flat_len (uRs_all us), uRs_len]
    have hq1 := (List.getElem?_eq_some_iff.1 hq).1
    have hi : q / 2 < us.length := by omega
    have := rAt_nth' us hi q hq rfl
    have h2 := (hus (q / 2) hi).1 (q % 2) u this
    rw [show o + q = o + 2 * (q / 2) + q % 2 from by omega]; exact h2
  · obtain ⟨i, hi, rfl⟩ := List.getElem_of_mem hp
    exact (hus i hi).2
end
end Go.Proofs.YtkcgmimcopoknaaGreatDoor

namespace Go.Proofs.YtkcgmimcopoknaaGreatDoor
set_option maxRecDepth 100000
set_option linter.unusedVariables false
set_option linter.unusedSimpArgs false
open Go.RowKit Rw Go.ChangeShapes Go.WideShapes Go.ChangeAt
theorem cellTL : Tryz.prog.cellTypes Tryz.prog.depth 47 = some [3, 3, 3, 3, 3, 3, 45] := by kernel_rfl
section
variable {H : Type} {enc : TypeId × Value → H} {w : World} {base : Nat} {held : Bool} {r : Reach} {b0 : Nat}
theorem open_levels {ts : List TypeId} {ds : List (DataW H)} (hsz : (DataW.weightsEach Tryz.prog ts ds).all (· ≤ reachBytes) = true) {j : Nat} (htj : ts[j]? = some 47) {v : Value} {d : DataW H} {ps : List MemPlace} (hdj : ds[j]? = some d)
    (hval : Value.okWide Tryz.prog w r b0 47 v) (hd : DataW.Trod enc Tryz.prog w base (fun _ => true) held 47 v d ps) : ∃ (l : Lv) (u : Value), v = .agg #[.int .i64 l.a, .int .i64 l.s, .int .i64 l.i, .int .i64 l.k, .int .i64 l.b, .int .i64 l.r, u] ∧ UsAt w u l.us := by
  have he := Tryz.underlying47
  have hce : Tryz.prog.cellsOf 47 = 7 := by kernel_rfl
  have hci : Tryz.prog.cellsOf 3 = 1 := by kernel_rfl
  have hcs1 : Tryz.prog.cellsOf 45 = 1 := by kernel_rfl
  have hrow := hval
  obtain ⟨cs, rfl, hsz7⟩ := okWide_struct he hval
  rw [hce] at hsz7
  simp only [Value.okWide, he] at hrow
  obtain ⟨cs', e', _, hrow⟩ := hrow
  obtain rfl : cs = cs' := by cases e'; rfl
  obtain ⟨ts', ht', _, hcell⟩ := hrow
  rw [cellTL] at ht'
  cases ht'
  obtain ⟨l⟩ := cs
  simp only [List.size_toArray] at hsz7
  obtain ⟨fuel, hf⟩ := hd
  obtain ⟨ys, n', hn', hy, hlen, hyl, hfl⟩ := DataW.trod_struct he hf
  have hyln : ys.length = 7 := hyl
  match l, hsz7, ys, hyln, hfl, hy, hcell with
  | [v0, v1, v2, v3, v4, v5, v6], _, [y0, y1, y2, y3, y4, y5, y6], _, hfl, hy, hcell =>
    have g0 := hfl 0 _ rfl
    have g1 := hfl 1 _ rfl
    have g2 := hfl 2 _ rfl
    have g3 := hfl 3 _ rfl
    have g4 := hfl 4 _ rfl
    have g5 := hfl 5 _ rfl
    have g6 := hfl 6 _ rfl
    simp only [Value.cells, List.getElem?_cons_zero, List.getElem?_cons_succ, List.drop_zero, List.drop_succ_cons, List.take_zero, List.take_succ_cons, hci, hcs1] at g0 g1 g2 g3 g4 g5 g6
    obtain ⟨a0, c0, z0, _⟩ := DataW.trod_int Tryz.underlying3 g0
    have d0 : v0 = Value.int .i64 a0 := by
      have h : List.take (Tryz.prog.cellsOf 3) (List.drop 0 [v0, v1, v2, v3, v4, v5, v6]) = _ := c0
      rw [hci] at h; simpa using h
    obtain ⟨a1, c1, z1, _⟩ := DataW.trod_int Tryz.underlying3 g1
    have d1 : v1 = Value.int .i64 a1 := by
      have h : List.take (Tryz.prog.cellsOf 3) (List.drop 1 [v0, v1, v2, v3, v4, v5, v6]) = _ := c1
      rw [hci] at h; simpa using h
    obtain ⟨a2, c2, z2, _⟩ := DataW.trod_int Tryz.underlying3 g2
    have d2 : v2 = Value.int .i64 a2 := by
      have h : List.take (Tryz.prog.cellsOf 3) (List.drop 2 [v0, v1, v2, v3, v4, v5, v6]) = _ := c2
      rw [hci] at h; simpa using h
    obtain ⟨a3, c3, z3, _⟩ := DataW.trod_int Tryz.underlying3 g3
    have d3 : v3 = Value.int .i64 a3 := by
      have h : List.take (Tryz.prog.cellsOf 3) (List.drop 3 [v0, v1, v2, v3, v4, v5, v6]) = _ := c3
      rw [hci] at h; simpa using h
    obtain ⟨a4, c4, z4, _⟩ := DataW.trod_int Tryz.underlying3 g4
    have d4 : v4 = Value.int .i64 a4 := by
      have h : List.take (Tryz.prog.cellsOf 3) (List.drop 4 [v0, v1, v2, v3, v4, v5, v6]) = _ := c4
      rw [hci] at h; simpa using h
    obtain ⟨a5, c5, z5, _⟩ := DataW.trod_int Tryz.underlying3 g5
    have d5 : v5 = Value.int .i64 a5 := by
      have h : List.take (Tryz.prog.cellsOf 3) (List.drop 5 [v0, v1, v2, v3, v4, v5, v6]) = _ := c5
      rw [hci] at h; simpa using h
    have hq : d = .agg [y0.1, y1.1, y2.1, y3.1, y4.1, y5.1, y6.1] := by have := congrArg Prod.fst hy; simpa using this
    have hs := sized_agg hsz htj (by rw [hdj, hq]) he
    obtain ⟨u6, hu6, hc6⟩ := hcell 6 v6 rfl
    have e6 : u6 = 45 := by have h : some 45 = some u6 := hu6; exact (Option.some.inj h).symm
    subst e6
    have g6' : DataW.trod enc Tryz.prog w base (fun _ => true) held n' 45 [v6] = some y6 := by
      have h := g6
      have e : List.take (Tryz.prog.cellsOf 45) (List.drop 6 [v0, v1, v2, v3, v4, v5, v6]) = [v6] := by rw [hcs1]; rfl
      rw [← e]; exact h
    obtain ⟨us, hus⟩ := open_users hs (j := 6) rfl (by rfl) hc6 g6'
    subst d0 d1 d2 d3 d4 d5
    exact ⟨⟨a0, a1, a2, a3, a4, a5, us⟩, v6, rfl, hus⟩
end
theorem gPowT : (Tryz.prog.globals[3]?).map (·.type) = some 203 := by kernel_rfl
theorem pow_tab : (Rows.laid_internal_strconv_uint64pow10 : DataW Unit) = Lib.tabData .u64 Lib.pow10Tab := by kernel_rfl
theorem pt_of_laid {W : World} {x0 x1 x3 : String × DataW Unit} {rest : List (String × DataW Unit)}
    (h : laidMet Tryz.prog (x0 :: x1 :: ("internal/strconv.uint64pow10", Rows.laid_internal_strconv_uint64pow10) :: x3 :: ("strconv.ErrRange", Rows.laid_strconv_ErrRange) :: ("strconv.ErrSyntax", Rows.laid_strconv_ErrSyntax) :: ("palaver/ident.marks", Rows.laid_palaver_ident_marks) :: rest) W) : PT W := by
  refine ⟨it_of_laid h.tail, ?_⟩
  have h2 := h.tail.tail
  rw [pow_tab] at h2
  exact Lib.tabIs_of_head gPow gPowT Tryz.underlying203 Tryz.underlying86 (by kernel_rfl) (by kernel_rfl) h2
end Go.Proofs.YtkcgmimcopoknaaGreatDoor

namespace Go.Proofs.YtkcgmimcopoknaaGreatDoor
set_option maxRecDepth 100000
set_option linter.unusedVariables false
set_option linter.unusedSimpArgs false
open Go.RowKit Rw


def mostU (m : Int) (us : List (ByteArray × Int)) : Int := us.foldl (fun m p => max m p.2) m
/-- The greatest of All and every user's number. -/
def mostL (l : Lv) : Int := mostU l.a l.us
theorem mostU_ge : ∀ (us : List (ByteArray × Int)) (m : Int), m ≤ mostU m us ∧ ∀ p ∈ us, p.2 ≤ mostU m us
  | [], m => ⟨Int.le_refl _, fun p h => by cases h⟩
  | q :: r, m => by
    obtain ⟨h1, h2⟩ := mostU_ge r (max m q.2)
    have e : mostU m (q :: r) = mostU (max m q.2) r := rfl
    rw [e]
    refine ⟨by omega, fun p hp => ?_⟩
    rcases List.mem_cons.1 hp with rfl | hp
    · omega
    · exact h2 p hp
/-- One round of the loop over the users. -/
theorem mostU_take (us : List (ByteArray × Int)) (m : Int) (i : Nat) (h : i < us.length) : mostU m (us.take (i + 1)) = max (mostU m (us.take i)) us[i].2 := by
  unfold mostU
  rw [List.take_add_one, List.getElem?_eq_getElem h, List.foldl_append]
  rfl
theorem of_most (l : Lv) (x : ByteArray) : ofL l x ≤ mostL l := by
  obtain ⟨h1, h2⟩ := mostU_ge l.us l.a
  unfold ofL
  cases hx : ownL l.us x with
  | none => exact h1
  | some k =>
    obtain ⟨p, hp, -, rfl⟩ := own_mem hx
    exact h2 p hp
/-- A change that may be keeps every bound of all levels. -/
theorem keep_most {l m : Lv} {u : ByteArray} {k : Int} (h : chE l m u = 0) (hk : ∀ x, ofL l x ≤ k) (x : ByteArray) : ofL m x ≤ k := by
  have h1 := hk x; have h2 := hk u
  rcases no_higher h x with ⟨_, h3⟩ | h3
  · omega
  · omega
end Go.Proofs.YtkcgmimcopoknaaGreatDoor
