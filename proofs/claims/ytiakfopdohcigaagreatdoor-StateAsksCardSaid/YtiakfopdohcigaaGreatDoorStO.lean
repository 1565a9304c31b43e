
/-
  state: the iterator over the cells of a kind, where what lies above a place may change, but for two blocks.
-/
import Derived.Test.YtiakfopdohcigaaGreatDoorStN
namespace Go.Proofs.YtiakfopdohcigaaGreatDoor
set_option maxRecDepth 100000
set_option linter.unusedVariables false
set_option linter.unusedSimpArgs false
open Go.RowKit Rw
open List (getElem_toArray getElem_cons_zero getElem_cons_succ setIfInBounds_toArray set_cons_zero set_cons_succ)
attribute [local go_sem] Oper.semAt_some
open Go.Shelf
/-- All below N stands, and so do two blocks. -/
structure Kb (N s k : Nat) (X Y : World) : Prop where
  below : Below N X Y
  s1 : Y.heap[s]? = X.heap[s]?
  s2 : Y.heap[k]? = X.heap[k]?
theorem Kb.trans {N s k : Nat} {X Y Z : World} (h : Kb N s k X Y) (g : Kb N s k Y Z) : Kb N s k X Z := ⟨h.below.trans g.below, g.s1.trans h.s1, g.s2.trans h.s2⟩
theorem Kb.refl (N s k : Nat) (X : World) : Kb N s k X X := ⟨Below.refl _ _, rfl, rfl⟩
theorem Kb.bel {N s k : Nat} {X Y : World} (h : Below X.heap.size X Y) (hN : N ≤ X.heap.size) (hs : s < X.heap.size) (hk : k < X.heap.size) : Kb N s k X Y := ⟨h.mono hN, h.block s hs, h.block k hk⟩
theorem Kb.size {N s k : Nat} {X Y : World} (h : Kb N s k X Y) : X.heap.size ≤ Y.heap.size := h.below.size
theorem Kb.stp {N s k b : Nat} {X Y : World} (h : Rt.Stp b X Y) (hN : N ≤ b) (hs : b ≠ s) (hk : b ≠ k) : Kb N s k X Y := ⟨h.below' (Below.refl _ _) hN, h.other s (Ne.symm hs), h.other k (Ne.symm hk)⟩
theorem Kb.put {N s k : Nat} {w : World} (W : World) (l : Nat) (o o' : Obj) (hl : w.heap.size ≤ l) (h : W.heap[l]? = some o) (hN : N ≤ w.heap.size) (hs : s < w.heap.size) (hk : k < w.heap.size) : Kb N s k W (W.putObj l o') := by
  have hl2 := (Array.getElem?_eq_some_iff.1 h).1
  exact ⟨(Below.refl N W).grown (grownBy_putObj' W l o') (by omega) (fun k e => by cases e; omega), (grownBy_putObj' W l o').block s (by omega) (fun e => by cases e; omega), (grownBy_putObj' W l o').block k (by omega) (fun e => by cases e; omega)⟩
/-- The cells of a kind, with the word that they are cells. -/
abbrev CM (cs : List Ce) := {c : Ce // c ∈ cs}
def kmT (cs : List Ce) (k i : Nat) : List (CM cs) := (cs.attach.take i).filter fun c => decide (c.1.k = k)
def kmL (cs : List Ce) (k : Nat) : List (CM cs) := kmT cs k cs.length
theorem kmT_succ {cs : List Ce} {k i : Nat} {c : Ce} (h : i < cs.length) (hc : cs[i] = c) (hm : c ∈ cs) : kmT cs k (i + 1) = kmT cs k i ++ (if c.k = k then [⟨c, hm⟩] else []) := by
  subst hc
  unfold kmT
  rw [List.take_add_one, List.getElem?_eq_getElem (by simpa using h), List.filter_append]
  congr 1
  by_cases hk : cs[i].k = k <;> simp [hk]
theorem kmT_pre (cs : List Ce) (k i : Nat) : kmT cs k i <+: kmL cs k := by
  unfold kmL kmT
  obtain ⟨t, ht⟩ : cs.attach.take i <+: cs.attach.take cs.length := by rw [show cs.length = cs.attach.length from by simp, List.take_length]; exact List.take_prefix _ _
  rw [← ht, List.filter_append]; exact List.prefix_append _ _
theorem kmL_map (cs : List Ce) (k : Nat) : (kmL cs k).map (·.1) = kiL cs k := by
  unfold kmL kmT kiL kiT
  rw [List.take_length, show cs.length = cs.attach.length from by simp, List.take_length]
  have h := List.filter_map (p := fun c : Ce => decide (c.k = k)) (f := fun c : CM cs => c.1) (l := cs.attach)
  rw [show cs.attach.map (fun c : CM cs => c.1) = cs from List.attach_map_subtype_val cs] at h
  exact h.symm
theorem lt_of_preM {cs : List Ce} {l m : List (CM cs)} {x : CM cs} (h : l ++ [x] <+: m) : l.length < m.length := by
  have := h.length_le; simp at this; omega
def encM {cs : List Ce} (c : CM cs) : Array Value := encCe c.1
/-- The cells lie below N. -/
def lowC (v : Value) (N : Nat) : Prop := ∀ B o n c, v = Value.slice (some ⟨B, o, none⟩) n c → B < N

set_option maxHeartbeats 16000000 in
theorem ofKindX_in (n0 : Nat) (hn0 : 2 ≤ n0) (l : Nat) (bs bk k : Nat) (cs : List Ce) (v : Value) (N : Nat) (w0 : World) (hs : Arr w0 bs 22 [v]) (hk0 : Arr w0 bk 23 [.int .u8 (k : Int)]) (hv : CsAt w0 v cs) (hNW : N ≤ w0.heap.size) (hnv : lowC v N)
    (J Jx : List (CM cs) → World → Prop) (W : World) (hW : Kb N bs bk w0 W) (hJ : AbidesFrom W.heap.size J)
    (hY : ∀ pre x W1, J pre W1 → pre.length < (kmL cs k).length → YieldAt Fence.wide (n0 - 1) Tryz.prog l (encM x) W1 fun e W' =>
      (e = .returned (.bool true) ∧ J (pre ++ [x]) W' ∧ Kb N bs bk W1 W') ∨ (e = .returned (.bool false) ∧ Jx (pre ++ [x]) W'))
    (h0 : J [] W) :
    CallsIn Fence.wide n0 Tryz.prog 109 #[.func (.yield l) #[] #[], .pointer (some ⟨bs, 0, none⟩), .pointer (some ⟨bk, 0, none⟩)] W fun e W' => (∃ v, e = .returned v) ∧
      ((∃ ys, ys = kmL cs k ∧ J ys W') ∨ (∃ pre, pre <+: kmL cs k ∧ Jx pre W')) := by
  have HY := hidp hY; have HV := hidp hv; have HWB := hidp hW
  have HNW := hidp hNW; have HNV := hidp hnv; have HSL := hidp hs.lt; have HK0 := hidp (hk0.cell 0 (by simp)); have HKL := hidp hk0.lt
  have x1 := (World.cell?_of_block (w := w0) hW.s1 : W.cell? ⟨bs, 0, none⟩ = _).trans (hs.cell 0 (by simp))
  clear hY hv hW hk0 hs hnv hNW
  simp only [List.getElem_cons_zero] at HK0 x1
  obtain ⟨av, cv0, rfl⟩ := HV.out.form
  obtain ⟨n, hn⟩ : ∃ n, cs.length = n := ⟨_, rfl⟩
  have HN := hidp hn
  have h47 := HV.out.len
  rw [hn] at HV h47 x1
  clear hn
  refine callsIn_of_wp Tryz.func109 rfl trivial ?_ rfl
  simp only [Tryz.ntmps109, List.size_toArray, List.length_cons, List.length_nil, Nat.reduceAdd, Nat.reduceSub, Array.replicate_succ, Array.replicate_zero, List.push_toArray, List.append_toArray, List.nil_append, List.cons_append]
  gi_wp2
  clear x1
  gi_loopw [8] (fun t8 wr => ∃ i : Nat, t8 = .int .i64 (i : Int) ∧ i ≤ n ∧ J (kmT cs k i) wr ∧ Kb N bs bk w0 wr) (fun t8 _ => n - (intOf t8).toNat)
  case atStart => exact ⟨0, rfl, by omega, h0, HWB.out⟩
  case round =>
    obtain ⟨i, rfl, hi, hJs, hb⟩ := hrel
    have HJ := hidp hJs; have HB := hidp hb
    clear hJs hb
    by_cases hlt : i < n
    · have e1 : decide ((i : Int) < (n : Int)) = true := by simp; omega
      have hgl : i < cs.length := by rw [HN.out]; exact hlt
      obtain ⟨BK, off, c0, e2, hc, hBK0, hR0⟩ := HV.out.get (by rw [HN.out]; omega)
      rw [HN.out] at e2
      simp only [Value.slice.injEq] at e2
      obtain ⟨rfl, -, rfl⟩ := e2
      obtain ⟨c, hge⟩ : ∃ c, cs[i] = c := ⟨_, rfl⟩
      have hcm : c ∈ cs := by rw [← hge]; exact List.getElem_mem hgl
      have HRI := hidp (show wr.rangeAt BK (off + 8 * i) c.row from by rw [← hge]; exact rangeAt_below (hR0 i hgl) HB.out.below (HNV.out _ _ _ _ rfl))
      clear hR0 hBK0 hc
      by_cases hk : c.k = k
      · have H := hidp (Mm.M.nil wr)
        have hst := kmT_succ (cs := cs) (k := k) hgl hge hcm
        have HS := hidp (show kmT cs k (i + 1) = kmT cs k i ++ [⟨c, hcm⟩] from by rw [hst, if_pos hk])
        have ek : ((c.k : Int) == (k : Int)) = true := by rw [hk]; simp
        have hpx := hidp (show kmT cs k i ++ [⟨c, hcm⟩] <+: kmL cs k from by rw [← HS.out]; exact kmT_pre _ _ _)
        clear hst hk hge
        gi_wp2_with (first | (refine Rnd.to_in Rnd.wideF rfl ?_; refine wpL_idxR tyC rfl (.tmp 6) (.tmp 8) rfl BK off n _ i rfl rfl hlt ?_; refine ⟨rfl, ?_⟩) | (refine Rnd.to_in Rnd.wideF rfl ?_; refine wpL_atR tyC rfl (.tmp 10) rfl BK (off + 8 * i) c.row rfl rfl HRI.out ?_; refine ⟨rfl, ?_⟩) | (refine Rnd.to_in Rnd.wideF rfl ?_; refine Mm.new rtC H (some 5) rfl rfl rfl ?_; clear H; intro b5 _ H nw; clear nw; refine ⟨rfl, ?_⟩) | (refine Rnd.to_in Rnd.wideF rfl ?_; refine Mm.put0 rtC H rfl (.tmp 5) (.tmp 11) c.row rfl rfl rfl rfl (Ce.one c) rfl ?_; intro w2 H2 st; refine ⟨rfl, ?_⟩; clear H st; have H := H2; clear H2; have HBX := hidp (HB.out.trans (Kb.bel H.out.below (Nat.le_trans HNW.out HB.out.size) (Nat.lt_of_lt_of_le HSL.out HB.out.size) (Nat.lt_of_lt_of_le HKL.out HB.out.size))); have x0 := H.out.at0.cell 0 (by simp [Ce.row]); simp only [Ce.row, List.getElem_cons_zero] at x0; have x9 := (World.cell?_of_block (w := w0) HBX.out.s2 : w2.cell? ⟨bk, 0, none⟩ = _).trans HK0.out; have hJ2 := hJ _ wr w2 none HJ.out (grown_of_below H.out.below) (fun r e => by cases e); obtain ⟨fn, tmps, assign, body, hy, hR⟩ := HY.out _ ⟨c, hcm⟩ w2 hJ2 (lt_of_preM hpx.out); simp only [encM, encCe] at hy hR; have HR := hidp hR; clear hR hJ2; skip) | (refine Rnd.to_in Rnd.wideF rfl ?_; refine Mm.get0 rtC H rfl (.tmp 5) rfl rfl rfl ?_; refine ⟨rfl, ?_⟩))
        refine ⟨fun _ => by omega, HR.out.mono ?_⟩
        rintro e1 W3 (⟨rfl, hJ3, hk3⟩ | ⟨rfl, hJx3⟩)
        · have HB3 := hidp (HBX.out.trans hk3)
          have HJ3 := hidp (show J (kmT cs k (i + 1)) W3 from by rw [HS.out]; exact hJ3)
          clear hk3 hJ3 x0 x9
          gi_wp2
          exact ⟨⟨i + 1, by go_num, by omega, HJ3.out, HB3.out⟩, by simp [intOf]; omega⟩
        · clear x0 x9
          gi_wp2
          refine bodyPost_ret (results_none rfl _ _ _) rfl ?_
          exact ⟨⟨_, rfl⟩, .inr ⟨_, hpx.out, hJx3⟩⟩
      · have H := hidp (Mm.M.nil wr)
        have hst := kmT_succ (cs := cs) (k := k) hgl hge hcm
        have HS := hidp (show kmT cs k (i + 1) = kmT cs k i from by rw [hst, if_neg hk, List.append_nil])
        have ek : ((c.k : Int) == (k : Int)) = false := by rw [beq_eq_false_iff_ne]; omega
        clear hst hk hge
        gi_wp2_with (first | (refine Rnd.to_in Rnd.wideF rfl ?_; refine wpL_idxR tyC rfl (.tmp 6) (.tmp 8) rfl BK off n _ i rfl rfl hlt ?_; refine ⟨rfl, ?_⟩) | (refine Rnd.to_in Rnd.wideF rfl ?_; refine wpL_atR tyC rfl (.tmp 10) rfl BK (off + 8 * i) c.row rfl rfl HRI.out ?_; refine ⟨rfl, ?_⟩) | (refine Rnd.to_in Rnd.wideF rfl ?_; refine Mm.new rtC H (some 5) rfl rfl rfl ?_; clear H; intro b5 _ H nw; clear nw; refine ⟨rfl, ?_⟩) | (refine Rnd.to_in Rnd.wideF rfl ?_; refine Mm.put0 rtC H rfl (.tmp 5) (.tmp 11) c.row rfl rfl rfl rfl (Ce.one c) rfl ?_; intro w2 H2 st; refine ⟨rfl, ?_⟩; clear H st; have H := H2; clear H2; have HBX := hidp (HB.out.trans (Kb.bel H.out.below (Nat.le_trans HNW.out HB.out.size) (Nat.lt_of_lt_of_le HSL.out HB.out.size) (Nat.lt_of_lt_of_le HKL.out HB.out.size))); have x0 := H.out.at0.cell 0 (by simp [Ce.row]); simp only [Ce.row, List.getElem_cons_zero] at x0; have x9 := (World.cell?_of_block (w := w0) HBX.out.s2 : w2.cell? ⟨bk, 0, none⟩ = _).trans HK0.out; skip) | (refine Rnd.to_in Rnd.wideF rfl ?_; refine Mm.get0 rtC H rfl (.tmp 5) rfl rfl rfl ?_; refine ⟨rfl, ?_⟩))
        have HJ3 := hidp (show J (kmT cs k (i + 1)) w2 from by rw [HS.out]; exact hJ _ wr w2 none HJ.out (grown_of_below H.out.below) (fun r e => by cases e))
        clear x0 x9
        refine ⟨fun _ _ => trivial, ?_⟩
        gi_wp2
        exact ⟨⟨i + 1, by go_num, by omega, HJ3.out, HBX.out⟩, by simp [intOf]; omega⟩
    · have e1 : decide ((i : Int) < (n : Int)) = false := by simp; omega
      have HJ1 := hidp (show J (kmL cs k) wr from by
        unfold kmL
        rw [show cs.length = i from by rw [HN.out]; omega]
        exact HJ.out)
      gi_wp2
      go_end0
      exact ⟨⟨_, rfl⟩, .inl ⟨_, rfl, HJ1.out⟩⟩
/-- ofKind hands back a value that supplies the cells. -/
theorem ofKindX_stops (n : Nat) (hn : 2 ≤ n) (bs bk k : Nat) (cs : List Ce) (v : Value) (N : Nat) (w0 : World) (hs : Arr w0 bs 22 [v]) (hk0 : Arr w0 bk 23 [.int .u8 (k : Int)]) (hv : CsAt w0 v cs) (hNW : N ≤ w0.heap.size) (hnv : lowC v N) :
    SeqStopsK Fence.wide n Tryz.prog 109 #[.pointer (some ⟨bs, 0, none⟩), .pointer (some ⟨bk, 0, none⟩)] encM (Kb N bs bk) (fun ys => ys = kmL cs k) (fun pre => pre <+: kmL cs k) (kmL cs k).length w0 :=
  fun l J Jx W hW hJ _ hY h0 => ofKindX_in n hn l bs bk k cs v N w0 hs hk0 hv hNW hnv J Jx W (Kb.bel hW hNW hs.lt hk0.lt) hJ hY h0
end Go.Proofs.YtiakfopdohcigaaGreatDoor
