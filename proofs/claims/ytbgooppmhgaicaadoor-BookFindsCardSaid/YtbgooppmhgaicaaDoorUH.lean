/-
  Joined: TreB.
-/
import Derived.Test.YtbgooppmhgaicaaDoorUG
import Derived.Laws.MakeOwn
import Derived.RangeFuncNested
import Derived.RangeFuncBound
import Derived.RangeFuncCalls
import Derived.RangeFuncLeaves
import Derived.Shelf.Abstract
import Derived.Shelf.RegionOpen
import Derived.WalkKit
import Derived.OwnWalkIn
import Derived.TacticsInMore
import Derived.LoopNIn
import Derived.LoopIn
namespace Go.Proofs.YtbgooppmhgaicaaDoor
set_option maxRecDepth 100000
set_option linter.unusedVariables false
set_option linter.unusedSimpArgs false
open Go.RowKit

theorem Stp.ownV {w W : World} {b e t B : Nat} {v : Value} {l xs : List Value} (h : Stp b w W) (ho : OwnV w B e v l) (ha : Arr w b t xs) (hte : t ≠ e) : OwnV W B e v l := by
  refine ⟨ho.1, ho.2.imp id ?_⟩
  rintro ⟨g, cap, cur, e1, hB, hg, r⟩
  refine ⟨g, cap, cur, e1, hB, (h.other g ?_).trans hg, r⟩
  rintro rfl
  rw [show w.heap[g]? = _ from ha] at hg
  cases hg; exact hte rfl
/-- Texts as cells. -/
def tv (ts : List (List UInt8)) : List Value := ts.map fun t => .string (mkS t)
theorem tv_len (ts : List (List UInt8)) : (tv ts).length = ts.length := by simp [tv]
theorem tv_snoc (ts : List (List UInt8)) (t : List UInt8) : tv (ts ++ [t]) = tv ts ++ [.string (mkS t)] := by simp [tv]
theorem infoStr : (Tryd.prog.info? 9).map (fun i => (i.zero, i.size, i.bytes)) = some (some (.string ⟨#[]⟩), 1, 16) := by kernel_rfl
theorem wayL_snoc (leaf : List UInt8) (i : Nat) (p : List (List UInt8)) (k : Nat) (hk : k < p.length) : wayL leaf i (p.take (k + 1)) = wayL leaf i (p.take k) ++ [stepT (climbL leaf i (p.take k)) (i / 2 ^ k) p[k]] := by
  rw [List.take_add_one, List.getElem?_eq_getElem hk, Option.toList_some, wayL_app, List.length_take, Nat.min_eq_left (by omega)]
theorem stepT_even (a : List UInt8) (i : Nat) (x : List UInt8) (h : i % 2 = 0) : stepT a i x = txtL a x := if_pos h
theorem stepT_odd (a : List UInt8) (i : Nat) (x : List UInt8) (h : ¬ i % 2 = 0) : stepT a i x = txtL x a := if_neg h
theorem ownV_form {w : World} {B e : Nat} {v : Value} {l : List Value} (h : OwnV w B e v l) : ∃ a n c, v = .slice a n c := by
  rcases h.2 with ⟨rfl, _⟩ | ⟨g, cap, cur, rfl, _⟩
  · exact ⟨none, 0, 0, rfl⟩
  · exact ⟨_, _, _, rfl⟩
set_option maxHeartbeats 8000000 in
theorem way_ok (w : World) (leaf : List UInt8) (hlf : leaf.length = 32) (i : Nat) (hi63 : i ≤ 9223372036854775807) (v : Value) (p : List (List UInt8)) (hH : HsAt w v p) (hp : p.length ≤ 7) :
    Calls Tryd.prog 50 #[.agg (u8s leaf).toArray, .int .i64 (i : Int), v] w fun e w' => ∃ v', e = .returned (.tuple #[v', .bool (i / 2 ^ p.length == 0)]) ∧ OwnV w' w.heap.size 9 v' (tv (wayL leaf i p)) ∧ Below w.heap.size w w' := by
  obtain ⟨a, c, rfl⟩ := hH.form
  have HH := hidp hH
  obtain ⟨i0, hi5', hz0', hz1', hz2'⟩ := info_parts infoStr
  have hi5 := hidp hi5'; have hz0 := hidp hz0'; have hz1 := hidp hz1'; have hz2 := hidp hz2'
  clear hi5' hz0' hz1' hz2'
  obtain ⟨n, hn⟩ : ∃ n, p.length = n := ⟨_, rfl⟩
  have HN := hidp hn
  rw [hn] at hp HH ⊢
  have hn7 : decide ((n : Int) > 7) = false := by simp; omega
  have hi0 : decide ((i : Int) < 0) = false := by simp
  have hall := hidp (show p.take n = p from List.take_of_length_le (by omega))
  clear hH hn
  go_enter Tryd.func50, Tryd.ntmps50
  go_wp2_with (first
    | (refine wpL_box rfl (.tmp 0) rfl (u8s leaf) rfl ?_; intro b1 w1 n1)
    | (refine wpL_newD 9 rfl rfl rfl ?_; intro b3 w3 n3)
    | (refine wpL_get rfl (.tmp 3) rfl b1 leaf rfl hlf n1.arr ?_)
    | (refine wpL_put rfl (.tmp 9) (.tmp 20) rfl b3 leaf rfl rfl hlf (u8s z32) rfl n3.arr ?_; intro w4 ha4 hp4))
  have hB4 := hidp (n1.below.trans ((n3.put hp4).mono n1.below.size))
  have h3 := hidp (show w.heap.size ≤ b3 from Nat.le_trans n1.below.size n3.le)
  have HA4 := hidp ha4
  clear n1 n3 hp4 ha4
  go_loopw [1, 8, 23] (fun t1 t8 t23 wr => ∃ k : Nat, t23 = .int .i64 (k : Int) ∧ k ≤ n ∧ t1 = .int .i64 ((i / 2 ^ k : Nat) : Int) ∧ OwnV wr w.heap.size 9 t8 (tv (wayL leaf i (p.take k))) ∧ Arr wr b3 25 (u8s (climbL leaf i (p.take k))) ∧ Below w.heap.size w wr) (fun _ _ t23 _ => n - (intOf t23).toNat)
  case atStart => exact ⟨0, rfl, by omega, by simp, OwnV.nil _ _ _, HA4.out, hB4.out⟩
  case round =>
    obtain ⟨k, rfl, hk, rfl, ho, hc, hbw⟩ := hrel
    obtain ⟨a8, s8, c8, rfl⟩ := ownV_form ho
    have HC := hidp hc; have HO := hidp ho; have HBW := hidp hbw
    clear hc ho hbw hB4 HA4
    by_cases hlt : k < n
    · obtain ⟨B, off, c', e1, _, hB, hrr⟩ := HH.out.get (by rw [HN.out]; omega)
      simp only [Value.slice.injEq] at e1
      obtain ⟨rfl, -, -⟩ := e1
      have hkp' : k < p.length := by rw [HN.out]; exact hlt
      have hxl := HH.out.1.get k hkp'
      have hrx := hidp (show wr.rangeAt B (off + 32 * k) (u8s p[k]) from rangeAt_below (range_nth hrr HH.out.1 k hkp') HBW.out hB)
      have hcl := climbL_len leaf i (p.take k) hlf
      have hI1 := hidp (show i / 2 ^ (k + 1) = i / 2 ^ k / 2 from by rw [Nat.pow_succ, Nat.div_div_eq_div_mul])
      have hIi : i / 2 ^ k ≤ i := Nat.div_le_self _ _
      have hsn := climbL_snoc leaf i p k hkp'
      have hwn := wayL_snoc leaf i p k hkp'
      obtain ⟨x, hxp⟩ : ∃ x, p[k] = x := ⟨_, rfl⟩
      obtain ⟨cur, hcur⟩ : ∃ x, climbL leaf i (p.take k) = x := ⟨_, rfl⟩
      obtain ⟨I, hI⟩ : ∃ I, i / 2 ^ k = I := ⟨_, rfl⟩
      rw [hcur, hI, hxp] at hsn hwn
      rw [hxp] at hxl hrx
      rw [hcur] at hcl HC
      rw [hI] at hI1 hIi ⊢
      have HSN := hidp hsn; have HWN := hidp hwn
      clear hxp hcur hI hsn hkp' hrr hwn
      have hq1 : ((I : Int)).tdiv 2 = ((I / 2 : Nat) : Int) := by rw [Int.tdiv_eq_ediv_of_nonneg (by omega)]; omega
      have hq2 : ((I : Int)) / 2 = ((I / 2 : Nat) : Int) := by omega
      have hqw : IntKind.i64.wrap (((I / 2 : Nat) : Int)) = ((I / 2 : Nat) : Int) := by rw [IntKind.wrap_i64]; omega
      obtain ⟨J, hJ⟩ : ∃ J, I / 2 = J := ⟨_, rfl⟩
      rw [hJ] at hq1 hq2 hqw hI1
      clear hJ hIi
      have ti : ((k : Int) < (n : Int)) := by omega
      by_cases hbit2 : I % 2 = 0
      · have hxn := hidp (HSN.out.trans (step_even cur I x hbit2))
        have hwn := hidp (HWN.out.trans (congrArg (fun t => wayL leaf i (p.take k) ++ [t]) (stepT_even cur I x hbit2)))
        have hm1 : ((I : Int).tmod 2 == 1) = false := by rw [Int.tmod_eq_emod_of_nonneg (by omega)]; simp; omega
        have hm2 : ((I : Int) % 2 == 1) = false := by simp; omega
        have ct := hidp (fun W => text_any W cur x hcl hxl)
        have cs := hidp (show ∀ W, Calls Tryd.prog 49 #[.string (mkS (txtL cur x))] W fun e w' => e = .returned (.agg (u8s (abvL cur x)).toArray) ∧ Below W.heap.size W w' from fun W => by
          have := rsum_any W (mkS (txtL cur x)) (by rw [mkS_size, txtL_len _ _ hcl hxl]; omega)
          rw [mkS_data] at this; rw [abvL_eq]; exact this)
        have hzl := abvL_len cur x
        obtain ⟨z, hz⟩ : ∃ z, abvL cur x = z := ⟨_, rfl⟩
        rw [hz] at cs hzl hxn
        have htl : (mkS (txtL cur x)).size ≤ 65 := by rw [mkS_size, txtL_len _ _ hcl hxl]; omega
        obtain ⟨T, hT⟩ : ∃ T, mkS (txtL cur x) = T := ⟨_, rfl⟩
        rw [hT] at ct htl
        have htv := hidp (show tv (wayL leaf i (p.take k)) ++ [.string T] = tv (wayL leaf i (p.take (k + 1))) from by rw [hwn.out, tv_snoc, hT])
        rw [hT] at cs
        have hlv := hidp (show (tv (wayL leaf i (p.take k))).length ≤ 7 from by rw [tv_len, wayL_len, List.length_take]; have := HN.out; omega)
        clear hz hT hwn hbit2
        go_wp2_with (first
          | (refine wpL_idx rfl (.tmp 21) (.tmp 23) rfl B off _ _ k rfl rfl hlt ?_)
          | (refine wpL_at rfl (.tmp 25) rfl B (off + 32 * k) x rfl hxl hrx.out ?_)
          | (refine wpL_newD 11 rfl rfl rfl ?_; intro b4 w4 n4)
          | (refine wpL_put rfl (.tmp 11) (.tmp 26) rfl b4 x rfl rfl hxl (u8s z32) rfl n4.arr ?_; intro w5 ha5 hp5
             have hb5 := hidp (HBW.out.trans ((n4.put hp5).mono HBW.out.size))
             have hc5 := hidp (HC.out.below (n4.put hp5) HC.out.lt)
             have ho5 := hidp (HO.out.kept (n4.put hp5) (Nat.le_refl _)))
          | (refine wpL_get rfl (.tmp 9) rfl b3 cur rfl hcl hc5.out ?_)
          | (refine wpL_get rfl (.tmp 11) rfl b4 x rfl hxl ha5 ?_)
          | (go_at_call 62; refine (ct.out _).mono ?_; rintro e w6 ⟨rfl, hb6⟩; clear ct
             have hb6' := hidp (hb5.out.trans (hb6.mono hb5.out.size))
             have hc6 := hidp (hc5.out.below hb6 hc5.out.lt)
             have hx6 := hidp (Arr.below ha5 hb6 ha5.lt)
             have ho6 := hidp (ho5.out.kept hb6 (Nat.le_refl _)))
          | (at_builtin; (refine wpList_appO rfl (.tmp 36) (.tmp 38) 62 rfl w.heap.size 9 i0 (.string ⟨#[]⟩) 16 Tryd.underlying62 hi5.out hz0.out hz1.out hz2.out rfl _ (tv (wayL leaf i (p.take k))) rfl (ho6.out.alloc _) ⟨w6.heap.size, 0, none⟩ _ (.string T) rfl (cell_new1 _ _ _) rfl ?_ ?_ ?_ ?_)))
        · have := hlv.out; unfold maxLen; omega
        · have := hlv.out; omega
        · rw [heap_size_alloc]; have := hb6'.out.size; omega
        · intro v' w8 ho8 hb8 hot8
          have ho8 := hidp (show OwnV w8 w.heap.size 9 v' (tv (wayL leaf i (p.take (k + 1)))) from by rw [← htv.out]; exact ho8)
          have hc8 := hidp (show Arr w8 b3 25 (u8s cur) from hot8 _ _ _ _ (hc6.out.alloc _) (by decide))
          have hb8 := hidp (show Below w.heap.size w w8 from hb6'.out.trans (((Below.refl w.heap.size _).alloc hb6'.out.size _).trans hb8))
          clear hot8
          go_wp2_with (first
            | (go_at_call 49; refine (cs.out _).mono ?_; rintro e w9 ⟨rfl, hb9⟩
               have hb9' := hidp (hb8.out.trans (hb9.mono hb8.out.size))
               have hc9 := hidp (hc8.out.below hb9 hc8.out.lt)
               have ho9 := hidp (ho8.out.kept hb9 (Nat.le_refl _)))
            | (refine wpL_put rfl (.tmp 9) (.tmp 41) rfl b3 z rfl rfl hzl (u8s cur) (by rw [u8s_length]; exact hcl) hc9.out ?_; intro w10 ha10 hp10
               have hb10 := hidp (hp10.below' hb9'.out h3.out)
               have ho10 := hidp (hp10.ownV ho9.out hc9.out (by decide))))
          exact ⟨⟨k + 1, by go_num, by omega, by rw [hI1.out], ho10.out, by rw [hxn.out]; exact ha10, hb10.out⟩, by simp [intOf]; omega⟩
      · have hxn := hidp (HSN.out.trans (step_odd cur I x hbit2))
        have hwn := hidp (HWN.out.trans (congrArg (fun t => wayL leaf i (p.take k) ++ [t]) (stepT_odd cur I x hbit2)))
        have hm1 : ((I : Int).tmod 2 == 1) = true := by rw [Int.tmod_eq_emod_of_nonneg (by omega)]; simp; omega
        have hm2 : ((I : Int) % 2 == 1) = true := by simp; omega
        have ct := hidp (fun W => text_any W cur x hcl hxl)
        have ct2 := hidp (fun W => text_any W x cur hxl hcl)
        have cs := hidp (show ∀ W, Calls Tryd.prog 49 #[.string (mkS (txtL x cur))] W fun e w' => e = .returned (.agg (u8s (abvL x cur)).toArray) ∧ Below W.heap.size W w' from fun W => by
          have := rsum_any W (mkS (txtL x cur)) (by rw [mkS_size, txtL_len _ _ hxl hcl]; omega)
          rw [mkS_data] at this; rw [abvL_eq]; exact this)
        have hzl := abvL_len x cur
        obtain ⟨z, hz⟩ : ∃ z, abvL x cur = z := ⟨_, rfl⟩
        rw [hz] at cs hzl hxn
        have htl : (mkS (txtL cur x)).size ≤ 65 := by rw [mkS_size, txtL_len _ _ hcl hxl]; omega
        obtain ⟨T, hT⟩ : ∃ T, mkS (txtL cur x) = T := ⟨_, rfl⟩
        rw [hT] at ct htl
        have htl2 : (mkS (txtL x cur)).size ≤ 65 := by rw [mkS_size, txtL_len _ _ hxl hcl]; omega
        obtain ⟨U, hU⟩ : ∃ T, mkS (txtL x cur) = T := ⟨_, rfl⟩
        have htv := hidp (show tv (wayL leaf i (p.take k)) ++ [.string U] = tv (wayL leaf i (p.take (k + 1))) from by rw [hwn.out, tv_snoc, hU])
        rw [hU] at ct2 cs htl2
        clear hU
        have hlv := hidp (show (tv (wayL leaf i (p.take k))).length ≤ 7 from by rw [tv_len, wayL_len, List.length_take]; have := HN.out; omega)
        clear hz hT hwn hbit2
        go_wp2_with (first
          | (refine wpL_idx rfl (.tmp 21) (.tmp 23) rfl B off _ _ k rfl rfl hlt ?_)
          | (refine wpL_at rfl (.tmp 25) rfl B (off + 32 * k) x rfl hxl hrx.out ?_)
          | (refine wpL_newD 11 rfl rfl rfl ?_; intro b4 w4 n4)
          | (refine wpL_put rfl (.tmp 11) (.tmp 26) rfl b4 x rfl rfl hxl (u8s z32) rfl n4.arr ?_; intro w5 ha5 hp5
             have hb5 := hidp (HBW.out.trans ((n4.put hp5).mono HBW.out.size))
             have hc5 := hidp (HC.out.below (n4.put hp5) HC.out.lt)
             have ho5 := hidp (HO.out.kept (n4.put hp5) (Nat.le_refl _)))
          | (refine wpL_get rfl (.tmp 9) rfl b3 cur rfl hcl hc5.out ?_)
          | (refine wpL_get rfl (.tmp 11) rfl b4 x rfl hxl ha5 ?_)
          | (go_at_call 62; refine (ct.out _).mono ?_; rintro e w6 ⟨rfl, hb6⟩; clear ct
             have hb6' := hidp (hb5.out.trans (hb6.mono hb5.out.size))
             have hc6 := hidp (hc5.out.below hb6 hc5.out.lt)
             have hx6 := hidp (Arr.below ha5 hb6 ha5.lt)
             have ho6 := hidp (ho5.out.kept hb6 (Nat.le_refl _)))
          | (refine wpL_get rfl (.tmp 9) rfl b3 cur rfl hcl hc6.out ?_)
          | (refine wpL_get rfl (.tmp 11) rfl b4 x rfl hxl hx6.out ?_)
          | (go_at_call 62; refine (ct2.out _).mono ?_; rintro e w7 ⟨rfl, hb7⟩
             have hb7' := hidp (hb6'.out.trans (hb7.mono hb6'.out.size))
             have hc7 := hidp (hc6.out.below hb7 hc6.out.lt)
             have ho7 := hidp (ho6.out.kept hb7 (Nat.le_refl _)))
          | (at_builtin; (refine wpList_appO rfl (.tmp 36) (.tmp 38) 62 rfl w.heap.size 9 i0 (.string ⟨#[]⟩) 16 Tryd.underlying62 hi5.out hz0.out hz1.out hz2.out rfl _ (tv (wayL leaf i (p.take k))) rfl (ho7.out.alloc _) ⟨w7.heap.size, 0, none⟩ _ (.string U) rfl (cell_new1 _ _ _) rfl ?_ ?_ ?_ ?_)))
        · have := hlv.out; unfold maxLen; omega
        · have := hlv.out; omega
        · rw [heap_size_alloc]; have := hb7'.out.size; omega
        · intro v' w8 ho8 hb8 hot8
          have ho8 := hidp (show OwnV w8 w.heap.size 9 v' (tv (wayL leaf i (p.take (k + 1)))) from by rw [← htv.out]; exact ho8)
          have hc8 := hidp (show Arr w8 b3 25 (u8s cur) from hot8 _ _ _ _ (hc7.out.alloc _) (by decide))
          have hb8 := hidp (show Below w.heap.size w w8 from hb7'.out.trans (((Below.refl w.heap.size _).alloc hb7'.out.size _).trans hb8))
          clear hot8
          go_wp2_with (first
            | (go_at_call 49; refine (cs.out _).mono ?_; rintro e w9 ⟨rfl, hb9⟩
               have hb9' := hidp (hb8.out.trans (hb9.mono hb8.out.size))
               have hc9 := hidp (hc8.out.below hb9 hc8.out.lt)
               have ho9 := hidp (ho8.out.kept hb9 (Nat.le_refl _)))
            | (refine wpL_put rfl (.tmp 9) (.tmp 41) rfl b3 z rfl rfl hzl (u8s cur) (by rw [u8s_length]; exact hcl) hc9.out ?_; intro w10 ha10 hp10
               have hb10 := hidp (hp10.below' hb9'.out h3.out)
               have ho10 := hidp (hp10.ownV ho9.out hc9.out (by decide))))
          exact ⟨⟨k + 1, by go_num, by omega, by rw [hI1.out], ho10.out, by rw [hxn.out]; exact ha10, hb10.out⟩, by simp [intOf]; omega⟩
    · obtain rfl : k = n := by omega
      rw [hall.out] at HO
      have hb : (((i / 2 ^ k : Nat) : Int) == 0) = (i / 2 ^ k == 0) := by rw [Bool.eq_iff_iff]; simp only [beq_iff_eq]; omega
      obtain ⟨I, hI⟩ : ∃ I, i / 2 ^ k = I := ⟨_, rfl⟩
      rw [hI] at hb ⊢
      have HI := hidp hI
      obtain ⟨bb, hbb⟩ : ∃ b, (I == 0) = b := ⟨_, rfl⟩
      rw [hbb] at hb
      have HBB := hidp hbb
      clear hI hbb
      go_wp2
      go_ret2
      exact ⟨_, by rw [HI.out, HBB.out]; rfl, HO.out, HBW.out⟩
end Go.Proofs.YtbgooppmhgaicaaDoor

namespace Go.Proofs.YtbgooppmhgaicaaDoor
set_option maxRecDepth 100000
set_option linter.unusedVariables false
set_option linter.unusedSimpArgs false
open Go.RowKit

theorem zeros_cat (n : Nat) : cat32 (List.replicate n z32) = List.replicate (n * 32) (Value.int .u8 0) := by
  induction n with
  | zero => rfl
  | succ n ih =>
    rw [List.replicate_succ, show cat32 (z32 :: List.replicate n z32) = u8s z32 ++ cat32 (List.replicate n z32) from rfl, ih, show u8s z32 = List.replicate 32 (Value.int .u8 0) from by simp [u8s, z32_eq], List.replicate_append_replicate]
    congr 1; omega
theorem made_rep (N k : Nat) (v : Value) (hN : 0 < N) : madeCells (List.replicate N v).toArray k = (List.replicate k v).toArray := by
  apply Array.ext (by simp [madeCells])
  intro i h1 h2
  simp [madeCells, Nat.mod_lt, hN]
theorem made_zero (n : Nat) : madeCells (u8s z32).toArray (n * 32) = (cat32 (List.replicate n z32)).toArray := by
  have hz : u8s z32 = List.replicate 32 (Value.int .u8 0) := by simp [u8s, z32_eq]
  rw [zeros_cat, hz, made_rep 32 _ _ (by omega)]
theorem All32.rep (n : Nat) : All32 (List.replicate n z32) := fun x hx => by rw [(List.mem_replicate.1 hx).2]; rfl
theorem All32.set {hs : List (List UInt8)} (h : All32 hs) (i : Nat) {z : List UInt8} (hz : z.length = 32) : All32 (hs.set i z) := fun x hx => (List.mem_or_eq_of_mem_set hx).elim (h x) (fun e => e ▸ hz)
theorem cat32_set {hs : List (List UInt8)} (h : All32 hs) (i : Nat) (hi : i < hs.length) (z : List UInt8) : cat32 (hs.set i z) = (cat32 hs).take (32 * i) ++ u8s z ++ (cat32 hs).drop (32 * i + 32) := by
  have e : hs = hs.take i ++ (hs[i] :: hs.drop (i + 1)) := by rw [← List.drop_eq_getElem_cons hi, List.take_append_drop]
  have hl : (cat32 (hs.take i)).length = 32 * i := by rw [cat32_len (h.take i), List.length_take, Nat.min_eq_left (by omega)]
  have hx : (u8s hs[i]).length = 32 := by rw [u8s_length]; exact h.get i hi
  have e2 : hs.set i z = hs.take i ++ (z :: hs.drop (i + 1)) := by
    rw [List.set_eq_take_append_cons_drop, if_pos hi]
  have e3 : cat32 hs = cat32 (hs.take i) ++ (u8s hs[i] ++ cat32 (hs.drop (i + 1))) := by
    conv => lhs; rw [e]
    rw [cat32_app]; rfl
  have t1 : (cat32 hs).take (32 * i) = cat32 (hs.take i) := by rw [e3]; exact List.take_left' hl
  have t2 : (cat32 hs).drop (32 * i + 32) = cat32 (hs.drop (i + 1)) := by rw [e3, ← List.append_assoc]; exact List.drop_left' (by rw [List.length_append, hl, hx])
  rw [e2, cat32_app, t1, t2, List.append_assoc]
  rfl
theorem setCells_arr (b t : Nat) : ∀ (vs : List Value) (o : Nat) (w : World) (xs : List Value), Arr w b t xs → o + vs.length ≤ xs.length → Arr (w.setCells b o vs) b t (xs.take o ++ vs ++ xs.drop (o + vs.length)) ∧ Stp b w (w.setCells b o vs)
  | [], o, w, xs, h, hl => ⟨by simpa [World.setCells] using h, rfl, fun _ _ => rfl, fun N _ => Below.refl N w⟩
  | v :: vs, o, w, xs, h, hl => by
    simp only [List.length_cons] at hl
    obtain ⟨h1, h2⟩ := setCells_arr b t vs (o + 1) (w.setCell ⟨b, o, none⟩ v) (xs.set o v) (h.set o v) (by simp; omega)
    have e1 : (xs.set o v).take (o + 1) = xs.take o ++ [v] := by
      rw [List.take_set, List.take_add_one, List.getElem?_eq_getElem (by omega), List.set_append_right _ _ (by rw [List.length_take]; omega), List.length_take, Nat.min_eq_left (by omega), Nat.sub_self]; rfl
    have e2 : (xs.set o v).drop (o + 1 + vs.length) = xs.drop (o + 1 + vs.length) := by rw [List.drop_set, if_pos (by omega)]
    rw [e1, e2] at h1
    refine ⟨?_, ?_⟩
    · rw [List.length_cons, show o + (vs.length + 1) = o + 1 + vs.length from by omega]
      have : xs.take o ++ v :: vs ++ xs.drop (o + 1 + vs.length) = xs.take o ++ [v] ++ vs ++ xs.drop (o + 1 + vs.length) := by simp
      rw [this]; exact h1
    · have s1 : Stp b w (w.setCell ⟨b, o, none⟩ v) := ⟨by simp, fun c hc => Below.heap_setCell w ⟨b, o, none⟩ v c hc, fun N hN => (Below.refl N w).setCell (p := ⟨b, o, none⟩) hN v⟩
      exact ⟨h2.size.trans s1.size, fun c hc => (h2.other c hc).trans (s1.other c hc), fun N hN => (s1.below N hN).trans (h2.below N hN)⟩
section
variable {ops : Array Oper} {rest : List Oper} {o : Oper} {a : Act} {w : World} {Q : Exit → Act → World → Prop}
/-- A new row of zero hashes. -/
theorem wpL_mk (hgd : o.guard = none) (x : Operand) (ho : o.op = .makeSlice 52 x x) (n : Nat) (hx : a.eval x = .int .i64 (n : Int)) (hn : n ≤ 4294967296)
    (h : ∀ b W, NewAt w W b 25 (cat32 (List.replicate n z32)) → wpList Tryd.prog ops Q rest (a.put o.dst (.slice (some ⟨b, 0, none⟩) n n)) W) : wpList Tryd.prog ops Q (o :: rest) a w := by
  obtain ⟨i0, hi, hz0, hz1, hz2⟩ := info_parts infoHash
  refine wpList_plain hgd fun K hK => ?_
  have := hK _ _ (h w.heap.size (w.alloc (.cells (cat32 (List.replicate n z32)).toArray 25)) (NewAt.mk' _ _ _))
  have hr := run_make (P := Tryd.prog) w 52 25 i0 _ hashes_row hi hz0 .i64 .i64 (n : Int) (n : Int) (by omega) (Int.le_refl _) (by rw [hz2]; omega) (by omega)
  rw [hz1, Int.toNat_natCast, show (Value.agg (u8s z32).toArray).cells = (u8s z32).toArray from rfl, made_zero] at hr
  unfold Oper.wp execOp
  simp only [ho, hx, Sem.run_bind, hr, Result.andThen_ok]
  exact this
end
end Go.Proofs.YtbgooppmhgaicaaDoor

namespace Go.Proofs.YtbgooppmhgaicaaDoor
set_option linter.unusedVariables false
set_option linter.unusedSimpArgs false
open Go.RowKit Go.Shelf

/-- What the iterator does between two rounds: it makes blocks, and writes blocks of its own kind. -/
def ItK (lv : Obj → Prop) (m : Nat) (W W' : World) : Prop := Below m W W' ∧ W.heap.size ≤ W'.heap.size ∧ ∀ (k : Nat) (o : Obj), W.heap[k]? = some o → ¬ lv o → W'.heap[k]? = some o
/-- All cells stand. -/
def CelK (m : Nat) (W W' : World) : Prop := Below m W W' ∧ W.heap.size ≤ W'.heap.size ∧ ∀ (k : Nat) (o : Obj), W.heap[k]? = some o → o.isCells = true → W'.heap[k]? = some o
theorem CelK.put {m l : Nat} {W : World} {o : Obj} (o' : Obj) (hl : m ≤ l) (h : W.heap[l]? = some o) (hc : o.isCells = false) : CelK m W (W.putObj l o') :=
  ⟨(Below.refl m W).grown (grownBy_putObj' W l o') (by have := (Array.getElem?_eq_some_iff.1 h).1; omega) (fun k e => by cases e; exact hl), by simp, fun k o2 hk hc2 => by
    have : k ≠ l := fun e => by subst e; rw [h] at hk; cases hk; rw [hc] at hc2; cases hc2
    exact (World.putObj_heap_other this).trans hk⟩
theorem CelK.trans {m : Nat} {X Y Z : World} (h : CelK m X Y) (k : CelK m Y Z) : CelK m X Z := ⟨h.1.trans k.1, Nat.le_trans h.2.1 k.2.1, fun i o hi hc => k.2.2 i o (h.2.2 i o hi hc) hc⟩
variable {F : Fence} {n : Nat} {P : Program}
end Go.Proofs.YtbgooppmhgaicaaDoor

namespace Go.Proofs.YtbgooppmhgaicaaDoor
set_option maxRecDepth 100000
set_option linter.unusedVariables false
set_option linter.unusedSimpArgs false
open Go.RowKit

/-- The value of a level. -/
def lvV (v : Value) : List Value := [v, .func (.func 44) #[] #[]]
section
variable {ops : Array Oper} {rest : List Oper} {o : Oper} {a : Act} {w : World} {Q : Exit → Act → World → Prop}
end
theorem lvV_one (a : Option Addr) (n c : Nat) : ∀ v ∈ lvV (.slice a n c), v.oneCell' = true := by
  intro v hv
  simp only [lvV, List.mem_cons, List.not_mem_nil, or_false] at hv
  rcases hv with rfl | rfl <;> rfl
theorem row_set (ps : List (List UInt8)) (M i : Nat) (hM : ps.length = M) (hi : i < M) : (ps.take i ++ List.replicate (M - i) z32).set i ps[i] = ps.take (i + 1) ++ List.replicate (M - (i + 1)) z32 := by
  rw [List.set_append_right _ _ (by rw [List.length_take]; omega), List.length_take, Nat.min_eq_left (by omega), Nat.sub_self, show M - i = (M - (i + 1)) + 1 from by omega, List.replicate_succ, List.set_cons_zero, List.take_add_one, List.getElem?_eq_getElem (by omega), List.append_assoc]
  rfl
end Go.Proofs.YtbgooppmhgaicaaDoor

namespace Go.Proofs.YtbgooppmhgaicaaDoor
set_option maxRecDepth 100000
set_option linter.unusedVariables false
set_option linter.unusedSimpArgs false
open Go.RowKit Go.Shelf
attribute [local go_sem] Oper.semAt_some
section
variable {F : Fence} {n : Nat} {P : Program} {ops : Array Oper} {rest : List Oper} {o : Oper} {a : Act} {w : World} {Q : Exit → Act → World → Prop}
end
section
variable {F : Fence} {n : Nat} {ops : Array Oper} {rest : List Oper} {o : Oper} {a : Act} {w : World} {Q : Exit → Act → World → Prop}
end
/-- A level that is handed on. -/
structure LvX where
  b : Nat
  o : Nat
  c : Nat
  hs : List (List UInt8)
def LvX.v (x : LvX) : Value := .slice (some ⟨x.b, x.o, none⟩) x.hs.length x.c
theorem LvX.one (x : LvX) : ∀ v ∈ lvV x.v, v.oneCell' = true := lvV_one _ _ _
/-- It lies in memory, in a block of its own, or below n₀. -/
structure VX (n₀ : Nat) (x : LvX) (k : Nat) (W : World) : Prop where
  le : x.hs.length ≤ x.c
  range : W.rangeAt x.b x.o (cat32 x.hs)
  all : All32 x.hs
  pos : 0 < x.hs.length
  most : x.hs.length ≤ 128
  lt : x.b < W.heap.size
  own : x.b < n₀ ∨ k ≤ x.b
theorem VX.hs {n₀ k : Nat} {x : LvX} {W : World} (h : VX n₀ x k W) : HsAt W x.v x.hs := by
  exact ⟨h.all, .inr ⟨x.b, x.o, x.c, rfl, h.le, h.lt, h.range⟩⟩
theorem VX.kept {n₀ k k' : Nat} {x : LvX} {W W' : World} (h : VX n₀ x k W) (hb : W'.heap[x.b]? = W.heap[x.b]?) (hs : W.heap.size ≤ W'.heap.size) (hk : k' ≤ k) : VX n₀ x k' W' := by
  refine ⟨h.le, fun j v hv => ?_, h.all, h.pos, h.most, Nat.lt_of_lt_of_le h.lt hs, h.own.imp id (Nat.le_trans hk)⟩
  rw [World.cell?_of_block (show W'.heap[(⟨x.b, x.o + j, none⟩ : Addr).block]? = _ from hb)]
  exact h.range j v hv
theorem VX.cells {n₀ k : Nat} {x : LvX} {W : World} (h : VX n₀ x k W) : ∃ o : Obj, W.heap[x.b]? = some o ∧ o.isCells = true := by
  have hl := cat32_len h.all
  have hp := h.pos
  have h0 : 0 < (cat32 x.hs).length := by omega
  have := h.range 0 _ (List.getElem?_eq_getElem h0)
  exact cells_of_cell this
/-- The levels up to j. -/
def upToT (j : Nat) (hs : List (List UInt8)) (xs : List LvX) : Prop := xs.map (·.hs) = (List.range j).map fun i => lvl i hs
theorem ItK.refl (lv : Obj → Prop) (m : Nat) (W : World) : ItK lv m W W := ⟨Below.refl m W, Nat.le_refl _, fun _ _ h _ => h⟩
theorem ItK.put {lv : Obj → Prop} {m b t : Nat} {xs : List Value} {W0 W W' : World} (h : ItK lv m W0 W) (k : Stp b W W') (hb : m ≤ b) (ha : Arr W b t xs) (hl : lv (.cells xs.toArray t (0, 0))) : ItK lv m W0 W' :=
  ⟨h.1.trans (k.below m hb), Nat.le_trans h.2.1 k.sz, fun i o hi hno => by
    have h1 := h.2.2 i o hi hno
    by_cases e : i = b
    · subst e; rw [show W.heap[i]? = _ from ha] at h1; cases h1; exact absurd hl hno
    · exact (k.other i e).trans h1⟩
theorem ItK.trans {lv : Obj → Prop} {m : Nat} {X Y Z : World} (h : ItK lv m X Y) (k : ItK lv m Y Z) : ItK lv m X Z := ⟨h.1.trans k.1, Nat.le_trans h.2.1 k.2.1, fun i o hi hno => k.2.2 i o (h.2.2 i o hi hno) hno⟩
theorem upToT.len {j : Nat} {hs : List (List UInt8)} {xs : List LvX} (h : upToT j hs xs) : xs.length = j := by
  have := congrArg List.length h
  simpa using this
end Go.Proofs.YtbgooppmhgaicaaDoor

namespace Go.Proofs.YtbgooppmhgaicaaDoor
set_option maxRecDepth 100000
set_option linter.unusedVariables false
set_option linter.unusedSimpArgs false
open Go.RowKit Go.Shelf
attribute [local go_sem] Oper.semAt_some
theorem arr_own {β : Type} (B t : Nat) (f : β → List Value) : Go.Own (fun (s : β) W => Arr W B t (f s)) := fun s X Y row hs hg hr =>
  (hg.block B hs.lt (fun e => by
    obtain ⟨o, ho, hc⟩ := hr B e.symm
    rw [show X.heap[B]? = _ from hs] at ho; cases ho; cases hc)).trans hs
section
variable {F : Fence} {n : Nat} {ops : Array Oper} {rest : List Oper} {o : Oper} {a : Act} {w : World} {Q : Exit → Act → World → Prop}
end
end Go.Proofs.YtbgooppmhgaicaaDoor
