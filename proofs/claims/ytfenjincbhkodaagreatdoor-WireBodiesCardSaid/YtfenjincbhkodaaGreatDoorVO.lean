/-
  Joined: WiD.
-/
import Derived.Test.YtfenjincbhkodaaGreatDoorVM
import Derived.Test.YtfenjincbhkodaaGreatDoorVN
namespace Go.Proofs.YtfenjincbhkodaaGreatDoor.Wi
set_option maxRecDepth 100000
set_option linter.unusedVariables false
set_option linter.unusedSimpArgs false
open Go.RowKit
open List (getElem_toArray getElem_cons_zero getElem_cons_succ setIfInBounds_toArray set_cons_zero set_cons_succ)
open En (naS naI rtH u8_one hsV hsE hsV_len ohash_any s_bld wpL_slc num4_in)
open Ho (inE inV in_zero in_not al_sz allInt_any)
open En (smN)
theorem y_gnm {s : ByteArray} {n j c m : Nat} (h : gn s.data.toList = (n, j, c)) : (inE s m = 0 ↔ c = 0 ∧ j = s.size ∧ n ≤ m) ∧ (inE s m = 0 → inV s m = n) := by
  have hb := gn_bd s.data.toList
  have hz := size_toList s
  rw [h] at hb
  simp only at hb
  have hn : numOf s = if c = 0 ∧ j = s.size then some n else none := by unfold numOf; rw [h]
  have key : inE s m = 0 → c = 0 ∧ j = s.size ∧ n ≤ m ∧ inV s m = n := by
    intro h0
    obtain ⟨h1, h2⟩ := in_zero h0
    rw [hn] at h1
    split at h1
    · rename_i hh
      simp only [Option.some.injEq] at h1
      exact ⟨hh.1, hh.2, by omega, h1.symm⟩
    · cases h1
  refine ⟨⟨fun h0 => ⟨(key h0).1, (key h0).2.1, (key h0).2.2.1⟩, fun ⟨h1, h2, h3⟩ => ?_⟩, fun h0 => (key h0).2.2.2⟩
  cases hq : decide (inE s m = 0) with
  | true => exact of_decide_eq_true hq
  | false =>
    have := in_not (of_decide_eq_false hq) n (by rw [hn, if_pos ⟨h1, h2⟩])
    omega
theorem smN_inm {s : ByteArray} {m : Nat} (h : inE s m = 0) : inV s m = smN s := by
  obtain ⟨⟨n, j, c⟩, hr⟩ : ∃ r, gn s.data.toList = r := ⟨_, rfl⟩
  rw [(y_gnm hr).2 h]; unfold smN; rw [hr]
theorem rjH_len (s : ByteArray) : (rjH s).length = 32 := by
  unfold rjH
  split
  · rename_i g
    unfold rjE at g
    split at g
    · rename_i h
      have h2 := h.2.2.1
      unfold hsE at h2
      split at h2
      · rw [size_toList]; assumption
      · cases h2
    · cases g
  · rfl
def nmB (s : ByteArray) (m : Nat) : Bool := decide (inE s m = 0)

set_option maxHeartbeats 8000000 in
theorem rnumber25_any (w : World) (s : ByteArray) (m : Nat) (hm : m ≤ 1048576) (hs : s.size ≤ 281474976710656) : Calls Tryz.prog 30 #[.string s, .int .u64 (m : Int)] w fun e w' => e = .returned (.tuple #[.int .i64 (smN s : Nat), .bool (nmB s m)]) ∧ Below w.heap.size w w' := by
  have cg := hidp (fun W => refGetNum_any W s hs)
  have hb := gn_bd s.data.toList
  have hz := size_toList s
  obtain ⟨⟨n, j, c⟩, hr⟩ : ∃ r, gn s.data.toList = r := ⟨_, rfl⟩
  have hy := y_gnm (m := m) hr
  have hN : smN s = n := by unfold smN; rw [hr]
  rw [hN]
  rw [hr] at cg hb
  unfold tup3 at cg
  simp only at cg hb
  have w1 : IntKind.i64.wrap (n : Int) = (n : Int) := by unfold IntKind.wrap; simp [IntKind.bits, IntKind.signed]; omega
  clear hr hN
  by_cases h0 : c = 0
  · subst h0
    by_cases h1 : j = s.size
    · have e1 : ((j : Int) == (s.size : Int)) = true := by simp; omega
      subst h1
      by_cases h2 : n ≤ m
      · have e2 : decide ((n : Int) ≤ (m : Int)) = true := by simp; omega
        have e2n : decide (n ≤ m) = true := decide_eq_true h2
        have n2 : (n : Int) ≤ (m : Int) := by omega
        have HF := hidp (show nmB s m = true from decide_eq_true (hy.1.2 ⟨rfl, rfl, h2⟩))
        clear hy hb hz
        go_enter Tryz.func30, Tryz.ntmps30
        go_wp2_with (go_at_call 43; refine (cg.out _).mono ?_; rintro e w' ⟨rfl, hb⟩; have HB := hidp hb; clear hb)
        go_ret2
        exact ⟨by rw [HF.out]; first | done | rfl, HB.out⟩
      · have e2 : decide ((n : Int) ≤ (m : Int)) = false := by simp; omega
        have e2n : decide (n ≤ m) = false := decide_eq_false h2
        have n2 : ¬ (n : Int) ≤ (m : Int) := by omega
        have HF := hidp (show nmB s m = false from decide_eq_false (fun g => h2 (hy.1.1 g).2.2))
        clear hy hb hz
        go_enter Tryz.func30, Tryz.ntmps30
        go_wp2_with (go_at_call 43; refine (cg.out _).mono ?_; rintro e w' ⟨rfl, hb⟩; have HB := hidp hb; clear hb)
        go_ret2
        exact ⟨by rw [HF.out]; first | done | rfl, HB.out⟩
    · have e1 : ((j : Int) == (s.size : Int)) = false := by rw [beq_eq_false_iff_ne]; omega
      have n1 : ¬ (j : Int) = (s.size : Int) := by omega
      have HF := hidp (show nmB s m = false from decide_eq_false (fun g => h1 (hy.1.1 g).2.1))
      clear hy hb hz
      go_enter Tryz.func30, Tryz.ntmps30
      go_wp2_with (go_at_call 43; refine (cg.out _).mono ?_; rintro e w' ⟨rfl, hb⟩; have HB := hidp hb; clear hb)
      go_ret2
      exact ⟨by rw [HF.out]; first | done | rfl, HB.out⟩
  · have e0 : ((c : Int) == 0) = false := by rw [beq_eq_false_iff_ne]; omega
    have n0 : ¬ (c : Int) = 0 := by omega
    have HF := hidp (show nmB s m = false from decide_eq_false (fun g => h0 (hy.1.1 g).1))
    clear hy hb hz
    go_enter Tryz.func30, Tryz.ntmps30
    go_wp2_with (go_at_call 43; refine (cg.out _).mono ?_; rintro e w' ⟨rfl, hb⟩; have HB := hidp hb; clear hb)
    go_ret2
    exact ⟨by rw [HF.out]; first | done | rfl, HB.out⟩

set_option maxHeartbeats 4000000 in
theorem rask_any (w : World) (i : Int) : Calls Tryz.prog 15 #[.int .i64 i] w fun e w' => e = .returned (.tuple #[.string (akB i), .int .i64 (akBE i)]) ∧ Below w.heap.size w w' := by
  by_cases h0 : i < 0
  · have e0 : decide (i < 0) = true := decide_eq_true h0
    have HF := hidp (show akB i = ByteArray.empty ∧ akBE i = 1 from ⟨if_neg (by omega), if_neg (by omega)⟩)
    go_enter Tryz.func15, Tryz.ntmps15
    go_wp2
    go_ret2
    exact ⟨by rw [HF.out.1, HF.out.2]; rfl, Below.refl _ _⟩
  · have e0 : decide (i < 0) = false := decide_eq_false h0
    by_cases h9 : i > 4096
    · have e1 : decide (i > 4096) = true := decide_eq_true h9
      have n1 : (4096 : Int) < i := h9
      have HF := hidp (show akB i = ByteArray.empty ∧ akBE i = 1 from ⟨if_neg (by omega), if_neg (by omega)⟩)
      go_enter Tryz.func15, Tryz.ntmps15
      go_wp2
      go_ret2
      exact ⟨by rw [HF.out.1, HF.out.2]; rfl, Below.refl _ _⟩
    · have e1 : decide (i > 4096) = false := decide_eq_false h9
      have n1 : ¬ (4096 : Int) < i := h9
      obtain ⟨n, rfl⟩ := Int.eq_ofNat_of_zero_le (show 0 ≤ i by omega)
      have HF := hidp (show akB (n : Int) = mkS (encN n) ∧ akBE (n : Int) = 0 from ⟨by unfold akB; rw [if_pos (by omega), Int.toNat_natCast], if_pos (by omega)⟩)
      have cn := hidp (fun W => refNum_any W n (by omega))
      rw [numS_yes (by omega), numE_yes (by omega)] at cn
      have w1 : IntKind.u64.wrap (n : Int) = (n : Int) := by unfold IntKind.wrap; simp [IntKind.bits, IntKind.signed]; omega
      clear h0 h9
      go_enter Tryz.func15, Tryz.ntmps15
      go_wp2_with (go_at_call 23; refine (cn.out _).mono ?_; rintro e w9 ⟨rfl, hb⟩; have HB := hidp hb; clear hb cn)
      go_ret2
      exact ⟨by rw [HF.out.1, HF.out.2]; first | done | rfl, HB.out⟩


set_option maxHeartbeats 4000000 in
theorem rasked_any (w : World) (s : ByteArray) (hs : s.size ≤ 281474976710656) : Calls Tryz.prog 19 #[.string s] w fun e w' => e = .returned (.tuple #[.int .i64 (akV s : Nat), .int .i64 (akE s)]) ∧ Below w.heap.size w w' := by
  have ci := hidp (show ∀ W, Calls Tryz.prog 30 #[.string s, .int .u64 4096] W (fun e w' => e = .returned (.tuple #[.int .i64 (smN s : Nat), .bool (nmB s 4096)]) ∧ Below W.heap.size W w') from fun W => rnumber25_any W s 4096 (by omega) hs)
  by_cases h : inE s 4096 = 0
  · have HF := hidp (show (akV s : Nat) = smN s ∧ akE s = 0 from ⟨smN_inm h, if_pos h⟩)
    rw [show nmB s 4096 = true from decide_eq_true h] at ci
    obtain ⟨V, hV⟩ : ∃ V : Int, ((smN s : Nat) : Int) = V := ⟨_, rfl⟩
    rw [HF.out.1, HF.out.2, hV]
    rw [hV] at ci
    clear h hV HF
    go_enter Tryz.func19, Tryz.ntmps19
    go_wp2_with (go_at_call 30; refine (ci.out _).mono ?_; rintro e w9 ⟨rfl, hb⟩; have HB := hidp hb; clear hb ci)
    go_ret2
    exact ⟨rfl, HB.out⟩
  · have HF := hidp (show (akV s : Nat) = 0 ∧ akE s = 6 from ⟨akV_no (by rw [akE_no h]; decide), if_neg h⟩)
    rw [show nmB s 4096 = false from decide_eq_false h] at ci
    obtain ⟨V, hV⟩ : ∃ V : Int, ((smN s : Nat) : Int) = V := ⟨_, rfl⟩
    rw [HF.out.1, HF.out.2]
    rw [hV] at ci
    clear h hV HF
    go_enter Tryz.func19, Tryz.ntmps19
    go_wp2_with (go_at_call 30; refine (ci.out _).mono ?_; rintro e w9 ⟨rfl, hb⟩; have HB := hidp hb; clear hb ci)
    go_ret2
    exact ⟨rfl, HB.out⟩

set_option maxHeartbeats 8000000 in
theorem rreject_any (w : World) (h : List UInt8) (hl : h.length = 32) (c : Int) : Calls Tryz.prog 13 #[.agg (u8s h).toArray, .int .i64 c] w fun e w' => e = .returned (.tuple #[.string (rjB h c), .int .i64 (rjBE c)]) ∧ Below w.heap.size w w' := by
  have H := hidp (Mm.M.nil w)
  have HL := hidp hl
  by_cases h0 : c < 1
  · have e0 : decide (c < 1) = true := decide_eq_true h0
    have HF := hidp (show rjB h c = ByteArray.empty ∧ rjBE c = 1 from ⟨if_neg (by omega), if_neg (by omega)⟩)
    clear hl
    go_enter Tryz.func13, Tryz.ntmps13
    have tk0 := hidp trivial
    go_wp2_with (first | (clear tk0; (refine Mm.box 34 H rfl (.tmp 0) rfl (u8s h) rfl ?_; clear H; intro b1 _ H nw; have hb := nw.below; clear hb nw); (try simp only [Act.put, setIfInBounds_toArray, set_cons_zero, set_cons_succ]); have tk1 := hidp trivial))
    try clear tk1
    go_ret2
    exact ⟨by rw [HF.out.1, HF.out.2]; first | done | rfl, H.out.below⟩
  · have e0 : decide (c < 1) = false := decide_eq_false h0
    by_cases h9 : c > 15
    · have e1 : decide (c > 15) = true := decide_eq_true h9
      have n1 : (15 : Int) < c := h9
      have HF := hidp (show rjB h c = ByteArray.empty ∧ rjBE c = 1 from ⟨if_neg (by omega), if_neg (by omega)⟩)
      clear hl
      go_enter Tryz.func13, Tryz.ntmps13
      have tk0 := hidp trivial
      go_wp2_with (first | (clear tk0; (refine Mm.box 34 H rfl (.tmp 0) rfl (u8s h) rfl ?_; clear H; intro b1 _ H nw; have hb := nw.below; clear hb nw); (try simp only [Act.put, setIfInBounds_toArray, set_cons_zero, set_cons_succ]); have tk1 := hidp trivial))
      try clear tk1
      go_ret2
      exact ⟨by rw [HF.out.1, HF.out.2]; first | done | rfl, H.out.below⟩
    · have e1 : decide (c > 15) = false := decide_eq_false h9
      have n1 : ¬ (15 : Int) < c := h9
      obtain ⟨n, rfl⟩ := Int.eq_ofNat_of_zero_le (show 0 ≤ c by omega)
      have hc' : (1 : Int) ≤ (n : Int) ∧ (n : Int) ≤ 15 := by omega
      have hlok := rjL_ok hl (c := n) (by omega)
      have HF := hidp (show rjB h (n : Int) = mkS (encL [mkS h, mkS (encN n)]) ∧ rjBE (n : Int) = 0 from ⟨by unfold rjB; rw [if_pos hc', Int.toNat_natCast], if_pos hc'⟩)
      have cn := hidp (fun W => refNum_any W n (by omega))
      rw [numS_yes (by omega), numE_yes (by omega)] at cn
      have w1 : IntKind.u64.wrap (n : Int) = (n : Int) := by unfold IntKind.wrap; simp [IntKind.bits, IntKind.signed]; omega
      have cl := hidp (fun W v (hat : StrsAt W v [mkS h, mkS (encN n)]) => refList_any W v [mkS h, mkS (encN n)] hat (by simp) (fun s hs => by have := hlok.2 s hs; omega))
      rw [listS_yes hlok, listE_yes hlok] at cl
      clear hl hc' hlok h0 h9
      go_enter Tryz.func13, Tryz.ntmps13
      have tk0 := hidp trivial
      go_wp2_with (first | (clear tk0; (refine Mm.box 34 H rfl (.tmp 0) rfl (u8s h) rfl ?_; clear H; intro b1 _ H nw; have hb := nw.below; clear hb nw); (try simp only [Act.put, setIfInBounds_toArray, set_cons_zero, set_cons_succ]); have tk1 := hidp trivial) | (clear tk1; (go_at_call 23; refine (cn.out _).mono ?_; rintro e _ ⟨rfl, hb⟩; replace H := hidp (H.out.call hb); clear cn; clear hb); (try simp only [Act.put, setIfInBounds_toArray, set_cons_zero, set_cons_succ]); have tk2 := hidp trivial) | (clear tk2; (refine wpL_slc rfl (.tmp 2) rfl b1 0 rfl ?_); (try simp only [Act.put, setIfInBounds_toArray, set_cons_zero, set_cons_succ]); have tk3 := hidp trivial) | (clear tk3; (refine wpL_cnv rfl (.tmp 20) rfl _ (mkS h) rfl (convH _ b1 h HL.out H.out.at0) ?_); (try simp only [Act.put, setIfInBounds_toArray, set_cons_zero, set_cons_succ]); have tk4 := hidp trivial) | (clear tk4; (refine Sl.wpL_bsS2 H rfl (.tmp 21) (.tmp 22) (mkS h) (mkS (encN n)) rfl rfl rfl ?_; clear H; intro b6 _ H nw; clear nw); (try simp only [Act.put, setIfInBounds_toArray, set_cons_zero, set_cons_succ]); have tk5 := hidp trivial) | (clear tk5; (go_at_call 24; refine (cl.out _ _ (Sl.own_arr (B := 0) (row := strV [mkS h, mkS (encN n)]) H.out.at0 (Nat.zero_le _) (by simp [strV])).strs).mono ?_; rintro e _ ⟨rfl, hb⟩; replace H := hidp (H.out.call hb); clear cl; clear hb); (try simp only [Act.put, setIfInBounds_toArray, set_cons_zero, set_cons_succ]); have tk6 := hidp trivial))
      try clear tk6
      go_ret2
      exact ⟨by rw [HF.out.1, HF.out.2]; first | done | rfl, H.out.below⟩

theorem o_cpH {ops : Array Oper} {Q : Exit → Act → World → Prop} {S : World → Prop} {k : Nat} {K : Act → World → Prop} {a : Act} {w w0 : World} {o : Oper} {N b : Nat} {L : List Mm.Bx} {ys : List Value} (H : Hid (Mm.M N w0 w (⟨b, 34, ys⟩ :: L))) (hl : ys.length = 32) (t : ByteArray) (ht : t.size = 32)
    (hT : ∀ W, Mm.M N w0 W (⟨b, 34, u8s t.data.toList⟩ :: L) → S W) (ho : ops[k]? = some o) (hw : Region.wanted o (yielded ops a.tmps) = true) (d y : Operand)
    (hop : o.op = .call { callee := .builtin .copy, args := #[d, y], argTypes := #[59, 9] }) (hd : a.eval d = .slice (some ⟨b, 0, none⟩) 32 32) (hy : a.eval y = .string t)
    (h : ∀ W, Hid (Mm.M N w0 W (⟨b, 34, u8s t.data.toList⟩ :: L)) → K (a.put o.dst (goInt 32)) W) : opW Tryz.prog ops Q S k K a w := by
  have hr := run_copy_long (P := Tryz.prog) w 59 9 o.type 5 b 32 32 t ys.toArray 34 Tryz.underlying59 (by kernel_rfl) H.out.at0 (by omega) (by simp [hl])
  rw [show Lib.byteCells (t.data.toList.take 32) = u8s t.data.toList from by rw [List.take_of_length_le (by rw [size_toList]; omega)]; rfl] at hr
  have st := Rt.Stp.setRow w b (u8s t.data.toList).toArray
  have hM := H.out.put0 (Arr.row H.out.at0 (u8s t.data.toList)) st
  exact o_copy ho hw d y 59 9 hop _ _ _ _ hd hy hr (hT _ hM) (h _ (hidp hM))
set_option maxHeartbeats 16000000 in
theorem rrejected_any (w : World) (s : ByteArray) (hs : s.size ≤ 281474976710656) :
    Calls Tryz.prog 17 #[.string s] w fun e w' => e = .returned (.tuple #[.agg (u8s (rjH s)).toArray, .int .i64 (rjC s : Nat), .int .i64 (rjE s)]) ∧ Below w.heap.size w w' := by
  have ca := hidp (fun W => refAll_any W s hs)
  have H := hidp (Mm.M.nil w)
  by_cases h0 : (al s).2 = 0
  · by_cases h6 : (al s).1.length = 2
    · obtain ⟨a, c, hL⟩ : ∃ a c, (al s).1 = [a, c] := by
        match hL : (al s).1, h6 with
        | [a, c], _ => exact ⟨a, c, rfl⟩
      have hss := al_sz s hs
      rw [hL] at hss
      have a0 : at' s 0 = a := by unfold at'; rw [hL]; rfl
      have a1 : at' s 1 = c := by unfold at'; rw [hL]; rfl
      have hR : rjE s = if hsE a = 0 ∧ inE c 15 = 0 ∧ 1 ≤ inV c 15 then 0 else 6 := by unfold rjE; rw [a0, a1]; simp only [h0, h6, true_and]
      have hH : rjH s = if rjE s = 0 then a.data.toList else z32 := by unfold rjH; rw [a0]
      have hC : rjC s = if rjE s = 0 then inV c 15 else 0 := by unfold rjC; rw [a1]
      have c1 := hidp (show ∀ W, Calls Tryz.prog 30 #[.string c, .int .u64 15] W (fun e w' => e = .returned (.tuple #[.int .i64 (smN c : Nat), .bool (nmB c 15)]) ∧ Below W.heap.size W w') from fun W => rnumber25_any W c 15 (by omega) (by have := hss c (by simp); omega))
      rw [h0, hL] at ca
      obtain ⟨V1, hV1⟩ : ∃ V : Int, ((smN c : Nat) : Int) = V := ⟨_, rfl⟩
      rw [hV1] at c1
      have en : (((2 : Nat) : Int) != 2) = false := rfl
      by_cases h32 : a.size = 32
      · have HA := hidp h32
        have hz : hsE a = 0 := if_pos h32
        have e32 : ((a.size : Int) != 32) = false := by rw [h32]; rfl
        have n32 : (a.size : Int) = 32 := by omega
        have HQ := hidp (show (u8s a.data.toList).length = 32 from by rw [u8s_length, size_toList]; exact h32)
        cases hB : nmB c 15 with
        | false =>
          have hB' := of_decide_eq_false hB
          rw [hB] at c1
          have hE6 : rjE s = 6 := by rw [hR, if_neg (fun g => hB' g.2.1)]
          have HV := hidp (show rjH s = z32 from if_neg (by rw [hE6]; decide))
          have HD := hidp (show ((rjC s : Nat) : Int) = 0 from by unfold rjC; rw [if_neg (by rw [hE6]; decide)]; rfl)
          have HE := hidp hE6
          clear hE6
          clear hss h0 h6 hL hR hH hC a0 a1 hB' hV1 h32 hz hB
          go_enter Tryz.func17, Tryz.ntmps17
          have tk0 := hidp trivial
          go_wp2_with (first | (clear tk0; (refine Mm.new rtH H (some 2) rfl rfl rfl ?_; clear H; intro b2 _ H nw; have hb := nw.below; clear hb nw); (try simp only [Act.put, setIfInBounds_toArray, set_cons_zero, set_cons_succ]); have tk1 := hidp trivial) | (clear tk1; (go_at_call 29; refine (ca.out _).mono ?_; rintro e w1 ⟨v, rfl, hst, hb⟩; have H0 := hidp (H.out.call hb); obtain ⟨g, off, cv, rfl, hg, hcs⟩ := Sl.strs_pos hst (by simp); clear H hst hb ca; have HC := hidp (show ∀ W, Below w1.heap.size w1 W → W.cell? ⟨g, off, none⟩ = some (.string a) ∧ W.cell? ⟨g, off + 1, none⟩ = some (.string c) from fun W hW => ⟨(hW.cell (p := ⟨g, off, none⟩) hg).trans (hcs 0 (by simp)), (hW.cell (p := ⟨g, off + 1, none⟩) hg).trans (hcs 1 (by simp))⟩); clear hcs; have H := hidp (Mm.M.nil w1); obtain ⟨m0, m1⟩ := HC.out _ H.out.below); (try simp only [Act.put, setIfInBounds_toArray, set_cons_zero, set_cons_succ]); have tk2 := hidp trivial) | (clear tk2; (go_at_call 30; refine (c1.out _).mono ?_; rintro e _ ⟨rfl, hb⟩; clear m0 m1; replace H := hidp (H.out.call hb); clear hb; replace H := hidp (Sl.join H0.out H.out)); (try simp only [Act.put, setIfInBounds_toArray, set_cons_zero, set_cons_succ]); have tk3 := hidp trivial) | (clear tk3; (refine Rt.wpL_build rfl 34 _ rfl (u8s z32) (by kernel_rfl) ?_); (try simp only [Act.put, setIfInBounds_toArray, set_cons_zero, set_cons_succ]); have tk4 := hidp trivial) | (clear tk4; (refine Mm.put0 rtH H rfl (.tmp 2) (.tmp 43) (u8s z32) rfl rfl rfl rfl (u8_one z32) rfl ?_; intro _ H2 st; clear st H; have H := H2; clear H2); (try simp only [Act.put, setIfInBounds_toArray, set_cons_zero, set_cons_succ]); have tk5 := hidp trivial))
          try clear tk5
          refine bodyPost_ret (ret_rowvv rtH Tryz.results17 _ b2 _ _ _ rfl rfl rfl H.out.at0 rfl) rfl ⟨by rw [HV.out, HD.out, HE.out]; first | done | rfl, H.out.below⟩
        | true =>
          have hB' := of_decide_eq_true hB
          have hi := smN_inm hB'
          rw [hB] at c1
          by_cases h1 : V1 < 1
          · have e1 : decide (V1 < 1) = true := decide_eq_true h1
            have hE6 : rjE s = 6 := by rw [hR, if_neg (fun g => by omega)]
            have HV := hidp (show rjH s = z32 from if_neg (by rw [hE6]; decide))
            have HD := hidp (show ((rjC s : Nat) : Int) = 0 from by unfold rjC; rw [if_neg (by rw [hE6]; decide)]; rfl)
            have HE := hidp hE6
            clear hE6
            clear hss h0 h6 hL hR hH hC a0 a1 hB' hV1 h32 hz hi hB
            go_enter Tryz.func17, Tryz.ntmps17
            have tk0 := hidp trivial
            go_wp2_with (first | (clear tk0; (refine Mm.new rtH H (some 2) rfl rfl rfl ?_; clear H; intro b2 _ H nw; have hb := nw.below; clear hb nw); (try simp only [Act.put, setIfInBounds_toArray, set_cons_zero, set_cons_succ]); have tk1 := hidp trivial) | (clear tk1; (go_at_call 29; refine (ca.out _).mono ?_; rintro e w1 ⟨v, rfl, hst, hb⟩; have H0 := hidp (H.out.call hb); obtain ⟨g, off, cv, rfl, hg, hcs⟩ := Sl.strs_pos hst (by simp); clear H hst hb ca; have HC := hidp (show ∀ W, Below w1.heap.size w1 W → W.cell? ⟨g, off, none⟩ = some (.string a) ∧ W.cell? ⟨g, off + 1, none⟩ = some (.string c) from fun W hW => ⟨(hW.cell (p := ⟨g, off, none⟩) hg).trans (hcs 0 (by simp)), (hW.cell (p := ⟨g, off + 1, none⟩) hg).trans (hcs 1 (by simp))⟩); clear hcs; have H := hidp (Mm.M.nil w1); obtain ⟨m0, m1⟩ := HC.out _ H.out.below); (try simp only [Act.put, setIfInBounds_toArray, set_cons_zero, set_cons_succ]); have tk2 := hidp trivial) | (clear tk2; (go_at_call 30; refine (c1.out _).mono ?_; rintro e _ ⟨rfl, hb⟩; clear m0 m1; replace H := hidp (H.out.call hb); clear hb; replace H := hidp (Sl.join H0.out H.out)); (try simp only [Act.put, setIfInBounds_toArray, set_cons_zero, set_cons_succ]); have tk3 := hidp trivial) | (clear tk3; (refine Rt.wpL_build rfl 34 _ rfl (u8s z32) (by kernel_rfl) ?_); (try simp only [Act.put, setIfInBounds_toArray, set_cons_zero, set_cons_succ]); have tk4 := hidp trivial) | (clear tk4; (refine Mm.put0 rtH H rfl (.tmp 2) (.tmp 43) (u8s z32) rfl rfl rfl rfl (u8_one z32) rfl ?_; intro _ H2 st; clear st H; have H := H2; clear H2); (try simp only [Act.put, setIfInBounds_toArray, set_cons_zero, set_cons_succ]); have tk5 := hidp trivial))
            try clear tk5
            refine bodyPost_ret (ret_rowvv rtH Tryz.results17 _ b2 _ _ _ rfl rfl rfl H.out.at0 rfl) rfl ⟨by rw [HV.out, HD.out, HE.out]; first | done | rfl, H.out.below⟩
          · have e1 : decide (V1 < 1) = false := decide_eq_false h1
            have hR0 : rjE s = 0 := by rw [hR, if_pos ⟨hz, hB', by omega⟩]
            have HV := hidp (show rjH s = a.data.toList from by rw [hH, if_pos hR0])
            have HD := hidp (show ((rjC s : Nat) : Int) = V1 from by rw [hC, if_pos hR0, hi, hV1])
            have HE := hidp hR0
            clear hss h0 h6 hL hR hH hC a0 a1 hB' hV1 h32 hz hi hR0 hB
            go_enter Tryz.func17, Tryz.ntmps17
            have tk0 := hidp trivial
            go_wp2_with (first | (clear tk0; (refine Mm.new rtH H (some 2) rfl rfl rfl ?_; clear H; intro b2 _ H nw; have hb := nw.below; clear hb nw); (try simp only [Act.put, setIfInBounds_toArray, set_cons_zero, set_cons_succ]); have tk1 := hidp trivial) | (clear tk1; (go_at_call 29; refine (ca.out _).mono ?_; rintro e w1 ⟨v, rfl, hst, hb⟩; have H0 := hidp (H.out.call hb); obtain ⟨g, off, cv, rfl, hg, hcs⟩ := Sl.strs_pos hst (by simp); clear H hst hb ca; have HC := hidp (show ∀ W, Below w1.heap.size w1 W → W.cell? ⟨g, off, none⟩ = some (.string a) ∧ W.cell? ⟨g, off + 1, none⟩ = some (.string c) from fun W hW => ⟨(hW.cell (p := ⟨g, off, none⟩) hg).trans (hcs 0 (by simp)), (hW.cell (p := ⟨g, off + 1, none⟩) hg).trans (hcs 1 (by simp))⟩); clear hcs; have H := hidp (Mm.M.nil w1); obtain ⟨m0, m1⟩ := HC.out _ H.out.below); (try simp only [Act.put, setIfInBounds_toArray, set_cons_zero, set_cons_succ]); have tk2 := hidp trivial) | (clear tk2; (go_at_call 30; refine (c1.out _).mono ?_; rintro e _ ⟨rfl, hb⟩; clear m0 m1; replace H := hidp (H.out.call hb); clear hb); (try simp only [Act.put, setIfInBounds_toArray, set_cons_zero, set_cons_succ]); have tk3 := hidp trivial) | (clear tk3; (refine Mm.new rtH H (some 9) rfl rfl rfl ?_; clear H; intro b9 _ H nw; clear nw); (try simp only [Act.put, setIfInBounds_toArray, set_cons_zero, set_cons_succ]); have tk4 := hidp trivial))
            try clear tk4
            refine Sl.region1 H (.take 0 (.take 1 (.take 2 (.take 3 (.one 4 .done))))) (by kernel_rfl) (by kernel_rfl) (by simp [Scr.depth]) (by kernel_rfl) ?_
            clear H
            intro _ H hb
            clear hb
            refine s_slc rfl rfl (.tmp 9) rfl b9 0 rfl ?_
            simp only [Act.put, getElem_toArray, getElem_cons_zero, getElem_cons_succ, setIfInBounds_toArray, set_cons_zero, set_cons_succ]
            apply s_val
            case ho | hw => rfl
            case hv => intro w hw; go_simp; first | done | rfl
            simp only [Act.put, getElem_toArray, getElem_cons_zero, getElem_cons_succ, setIfInBounds_toArray, set_cons_zero, set_cons_succ]
            apply s_val
            case ho | hw => rfl
            case hv => intro w hw; go_simp; first | done | rfl
            simp only [Act.put, getElem_toArray, getElem_cons_zero, getElem_cons_succ, setIfInBounds_toArray, set_cons_zero, set_cons_succ]
            apply s_val
            case ho | hw => rfl
            case hv => intro w hw; obtain ⟨m0, m1⟩ := HC.out w hw.below; clear m1; go_simp; first | done | rfl
            simp only [Act.put, getElem_toArray, getElem_cons_zero, getElem_cons_succ, setIfInBounds_toArray, set_cons_zero, set_cons_succ]
            refine o_cpH H rfl a HA.out (fun W h => h.tail) rfl rfl (.tmp 44) (.tmp 47) rfl rfl rfl ?_
            clear H
            intro _ H
            simp only [Act.put, getElem_toArray, getElem_cons_zero, getElem_cons_succ, setIfInBounds_toArray, set_cons_zero, set_cons_succ]
            refine NoPanic.normal ?_
            have tk0 := hidp trivial
            go_wp2_with (first | (clear tk0; (refine Mm.get0 rtH H rfl (.tmp 9) rfl rfl HQ.out ?_; replace H := hidp (Sl.join H0.out H.out)); (try simp only [Act.put, setIfInBounds_toArray, set_cons_zero, set_cons_succ]); have tk1 := hidp trivial) | (clear tk1; (refine Mm.put1 rtH H rfl (.tmp 2) (.tmp 49) (u8s a.data.toList) rfl rfl rfl HQ.out (u8_one _) rfl ?_; intro _ H2 st; clear st H; have H := H2; clear H2); (try simp only [Act.put, setIfInBounds_toArray, set_cons_zero, set_cons_succ]); have tk2 := hidp trivial))
            try clear tk2
            refine bodyPost_ret (ret_rowvv rtH Tryz.results17 _ b2 _ _ _ rfl rfl rfl H.out.at1 HQ.out) rfl ⟨by rw [HV.out, HD.out, HE.out]; first | done | rfl, H.out.below⟩
      · have e32 : ((a.size : Int) != 32) = true := by simp; omega
        have n32 : ¬ (a.size : Int) = 32 := by omega
        have hE6 : rjE s = 6 := by rw [hR, if_neg (fun g => by have g := g.1; unfold hsE at g; rw [if_neg h32] at g; cases g)]
        have HV := hidp (show rjH s = z32 from if_neg (by rw [hE6]; decide))
        have HD := hidp (show ((rjC s : Nat) : Int) = 0 from by unfold rjC; rw [if_neg (by rw [hE6]; decide)]; rfl)
        have HE := hidp hE6
        clear hE6
        clear hss h0 h6 hL hR hH hC a0 a1 hV1 h32
        go_enter Tryz.func17, Tryz.ntmps17
        have tk0 := hidp trivial
        go_wp2_with (first | (clear tk0; (refine Mm.new rtH H (some 2) rfl rfl rfl ?_; clear H; intro b2 _ H nw; have hb := nw.below; clear hb nw); (try simp only [Act.put, setIfInBounds_toArray, set_cons_zero, set_cons_succ]); have tk1 := hidp trivial) | (clear tk1; (go_at_call 29; refine (ca.out _).mono ?_; rintro e w1 ⟨v, rfl, hst, hb⟩; have H0 := hidp (H.out.call hb); obtain ⟨g, off, cv, rfl, hg, hcs⟩ := Sl.strs_pos hst (by simp); clear H hst hb ca; have HC := hidp (show ∀ W, Below w1.heap.size w1 W → W.cell? ⟨g, off, none⟩ = some (.string a) ∧ W.cell? ⟨g, off + 1, none⟩ = some (.string c) from fun W hW => ⟨(hW.cell (p := ⟨g, off, none⟩) hg).trans (hcs 0 (by simp)), (hW.cell (p := ⟨g, off + 1, none⟩) hg).trans (hcs 1 (by simp))⟩); clear hcs; have H := hidp (Mm.M.nil w1); obtain ⟨m0, m1⟩ := HC.out _ H.out.below; replace H := hidp (Sl.join H0.out H.out)); (try simp only [Act.put, setIfInBounds_toArray, set_cons_zero, set_cons_succ]); have tk2 := hidp trivial) | (clear tk2; (refine Rt.wpL_build rfl 34 _ rfl (u8s z32) (by kernel_rfl) ?_); (try simp only [Act.put, setIfInBounds_toArray, set_cons_zero, set_cons_succ]); have tk3 := hidp trivial) | (clear tk3; (refine Mm.put0 rtH H rfl (.tmp 2) (.tmp 29) (u8s z32) rfl rfl rfl rfl (u8_one z32) rfl ?_; intro _ H2 st; clear st H; have H := H2; clear H2); (try simp only [Act.put, setIfInBounds_toArray, set_cons_zero, set_cons_succ]); have tk4 := hidp trivial))
        try clear tk4
        refine bodyPost_ret (ret_rowvv rtH Tryz.results17 _ b2 _ _ _ rfl rfl rfl H.out.at0 rfl) rfl ⟨by rw [HV.out, HD.out, HE.out]; first | done | rfl, H.out.below⟩
    · 
      have hE6 : rjE s = 6 := if_neg (fun g => h6 g.2.1)
      have HV := hidp (show rjH s = z32 from if_neg (by rw [hE6]; decide))
      have HD := hidp (show ((rjC s : Nat) : Int) = 0 from by unfold rjC; rw [if_neg (by rw [hE6]; decide)]; rfl)
      have HE := hidp hE6
      clear hE6
      rw [h0] at ca
      obtain ⟨ss, hss⟩ : ∃ ss, (al s).1 = ss := ⟨_, rfl⟩
      rw [hss] at ca h6
      obtain ⟨n, hn⟩ : ∃ n, ss.length = n := ⟨_, rfl⟩
      have e1 : ((n : Int) != 2) = true := by simp; omega
      have g1 : ¬ n = 2 := by omega
      have g2 : (n != 2) = true := by simpa using g1
      clear hss h0
      have cb := hidp (fun W => (ca.out W).mono fun e w' ⟨v, h1, h2, h3⟩ => (⟨v, h1, ⟨Sl.strs_form h2, h3⟩⟩ : ∃ v, e = Ending.returned (.tuple #[v, .int .i64 ((0 : Nat) : Int)]) ∧ (∃ a c, v = Value.slice a ss.length c) ∧ Below W.heap.size W w'))
      rw [hn] at cb
      clear ca hn h6
      go_enter Tryz.func17, Tryz.ntmps17
      have tk0 := hidp trivial
      go_wp2_with (first | (clear tk0; (refine Mm.new rtH H (some 2) rfl rfl rfl ?_; clear H; intro b2 _ H nw; have hb := nw.below; clear hb nw); (try simp only [Act.put, setIfInBounds_toArray, set_cons_zero, set_cons_succ]); have tk1 := hidp trivial) | (clear tk1; (go_at_call 29; refine (cb.out _).mono ?_; rintro e _ ⟨v, rfl, ⟨av, cv, rfl⟩, hb⟩; replace H := hidp (H.out.call hb); clear hb cb); (try simp only [Act.put, setIfInBounds_toArray, set_cons_zero, set_cons_succ]); have tk2 := hidp trivial) | (clear tk2; (refine Rt.wpL_build rfl 34 _ rfl (u8s z32) (by kernel_rfl) ?_); (try simp only [Act.put, setIfInBounds_toArray, set_cons_zero, set_cons_succ]); have tk3 := hidp trivial) | (clear tk3; (refine Mm.put0 rtH H rfl (.tmp 2) (.tmp 29) (u8s z32) rfl rfl rfl rfl (u8_one z32) rfl ?_; intro _ H2 st; clear st H; have H := H2; clear H2); (try simp only [Act.put, setIfInBounds_toArray, set_cons_zero, set_cons_succ]); have tk4 := hidp trivial))
      try clear tk4
      refine bodyPost_ret (ret_rowvv rtH Tryz.results17 _ b2 _ _ _ rfl rfl rfl H.out.at0 rfl) rfl ⟨by rw [HV.out, HD.out, HE.out]; first | done | rfl, H.out.below⟩
  · 
    have hE6 : rjE s = 6 := if_neg (fun g => h0 g.1)
    have HV := hidp (show rjH s = z32 from if_neg (by rw [hE6]; decide))
    have HD := hidp (show ((rjC s : Nat) : Int) = 0 from by unfold rjC; rw [if_neg (by rw [hE6]; decide)]; rfl)
    have HE := hidp hE6
    clear hE6
    obtain ⟨E, hE⟩ : ∃ E, (al s).2 = E := ⟨_, rfl⟩
    rw [hE] at ca h0
    have e1 : ((E : Int) != 0) = true := by simp; omega
    have g1 : ¬ (E : Int) = 0 := by omega
    have g2 : ¬ E = 0 := h0
    clear hE h0
    go_enter Tryz.func17, Tryz.ntmps17
    have tk0 := hidp trivial
    go_wp2_with (first | (clear tk0; (refine Mm.new rtH H (some 2) rfl rfl rfl ?_; clear H; intro b2 _ H nw; have hb := nw.below; clear hb nw); (try simp only [Act.put, setIfInBounds_toArray, set_cons_zero, set_cons_succ]); have tk1 := hidp trivial) | (clear tk1; (go_at_call 29; refine (ca.out _).mono ?_; rintro e _ ⟨v, rfl, hst, hb⟩; replace H := hidp (H.out.call hb); obtain ⟨av, cv, rfl⟩ := Sl.strs_form hst; clear hst hb ca); (try simp only [Act.put, setIfInBounds_toArray, set_cons_zero, set_cons_succ]); have tk2 := hidp trivial) | (clear tk2; (refine Rt.wpL_build rfl 34 _ rfl (u8s z32) (by kernel_rfl) ?_); (try simp only [Act.put, setIfInBounds_toArray, set_cons_zero, set_cons_succ]); have tk3 := hidp trivial) | (clear tk3; (refine Mm.put0 rtH H rfl (.tmp 2) (.tmp 29) (u8s z32) rfl rfl rfl rfl (u8_one z32) rfl ?_; intro _ H2 st; clear st H; have H := H2; clear H2); (try simp only [Act.put, setIfInBounds_toArray, set_cons_zero, set_cons_succ]); have tk4 := hidp trivial))
    try clear tk4
    refine bodyPost_ret (ret_rowvv rtH Tryz.results17 _ b2 _ _ _ rfl rfl rfl H.out.at0 rfl) rfl ⟨by rw [HV.out, HD.out, HE.out]; first | done | rfl, H.out.below⟩

set_option maxHeartbeats 32000000 in
theorem walk_wireBodies (w : World) (sum : List UInt8) (hs : sum.length = 32) (c : Int) (hc : (Lit.int .i64 c).wf = true) (i : Int) (hi : (Lit.int .i64 i).wf = true) (b : ByteArray) (hb : b.size ≤ 140737488351232) (hAll : IT w ∧ WT w ∧ Ho.HT w ∧ MT w) :
    Calls Tryz.prog 4 #[.agg (u8s sum).toArray, .int .i64 c, .int .i64 i, .string b] w fun e w' => e = .returned (.bool true) ∧ Below w.heap.size w w' := by
  obtain ⟨hI, hW, hT, hMT⟩ := hAll
  have cv := hidp (fun W h1 h2 h3 h4 => lives25_any W h1 h2 h3 h4)
  have HI := hidp hI; have HW := hidp hW; have HT0 := hidp hT; have HM := hidp hMT; clear hI hW hT hMT
  have H := hidp (Mm.M.nil w)
  have HS := hidp (show (u8s sum).length = 32 from by rw [u8s_length]; exact hs)
  by_cases h9 : b.size ≤ 16384
  · have e9 : decide ((b.size : Int) > 16384) = false := by simp; omega
    have n9 : ¬ (16384 : Int) < (b.size : Int) := by omega
    have c1 := hidp (fun W => reject_any W sum hs c)
    have c2 := hidp (fun W => rreject_any W sum hs c)
    have c3 := hidp (fun W => ask_any W i)
    have c4 := hidp (fun W => rask_any W i)
    have c5 := hidp (fun W => rejected_any W b (by omega))
    have c6 := hidp (fun W => rrejected_any W b (by omega))
    have c7 := hidp (fun W => asked_any W b (by omega))
    have c8 := hidp (fun W => rasked_any W b (by omega))
    have hq := rjH_len b
    obtain ⟨Q, hQ⟩ : ∃ Q, rjH b = Q := ⟨_, rfl⟩
    obtain ⟨X1, hX1⟩ : ∃ x, rjB sum c = x := ⟨_, rfl⟩
    obtain ⟨X2, hX2⟩ : ∃ x, rjBE c = x := ⟨_, rfl⟩
    obtain ⟨X3, hX3⟩ : ∃ x, akB i = x := ⟨_, rfl⟩
    obtain ⟨X4, hX4⟩ : ∃ x, akBE i = x := ⟨_, rfl⟩
    obtain ⟨X5, hX5⟩ : ∃ x : Int, ((rjC b : Nat) : Int) = x := ⟨_, rfl⟩
    obtain ⟨X6, hX6⟩ : ∃ x, rjE b = x := ⟨_, rfl⟩
    obtain ⟨X7, hX7⟩ : ∃ x : Int, ((akV b : Nat) : Int) = x := ⟨_, rfl⟩
    obtain ⟨X8, hX8⟩ : ∃ x, akE b = x := ⟨_, rfl⟩
    rw [hX1, hX2] at c1 c2
    rw [hX3, hX4] at c3 c4
    rw [hQ, hX5, hX6] at c5 c6
    rw [hX7, hX8] at c7 c8
    have qh := fun W => eql_hash W Q Q (by rw [← hQ]; exact hq) (by rw [← hQ]; exact hq)
    simp only [decide_true] at qh
    have HQ := hidp (show (u8s Q).length = 32 from by rw [u8s_length, ← hQ]; exact hq)
    clear hq hQ hX1 hX2 hX3 hX4 hX5 hX6 hX7 hX8 hs hc hi h9 hb
    go_enter Tryz.func4, Tryz.ntmps4
    have tk0 := hidp trivial
    go_wp2_with (first | (clear tk0; (refine Mm.box 34 H rfl (.tmp 0) rfl (u8s sum) rfl ?_; clear H; intro b4 _ H nw; have hb := nw.below; clear hb nw); (try simp only [Act.put, setIfInBounds_toArray, set_cons_zero, set_cons_succ]); have tk1 := hidp trivial) | (clear tk1; (refine Mm.get0 rtH H rfl (.tmp 4) rfl rfl HS.out ?_); (try simp only [Act.put, setIfInBounds_toArray, set_cons_zero, set_cons_succ]); have tk2 := hidp trivial) | (clear tk2; (go_at_call 12; refine (c1.out _).mono ?_; rintro e _ ⟨rfl, hb⟩; replace H := hidp (H.out.call hb); clear c1; clear hb); (try simp only [Act.put, setIfInBounds_toArray, set_cons_zero, set_cons_succ]); have tk3 := hidp trivial) | (clear tk3; (refine Mm.get0 rtH H rfl (.tmp 4) rfl rfl HS.out ?_); (try simp only [Act.put, setIfInBounds_toArray, set_cons_zero, set_cons_succ]); have tk4 := hidp trivial) | (clear tk4; (go_at_call 13; refine (c2.out _).mono ?_; rintro e _ ⟨rfl, hb⟩; replace H := hidp (H.out.call hb); clear c2; clear hb); (try simp only [Act.put, setIfInBounds_toArray, set_cons_zero, set_cons_succ]); have tk5 := hidp trivial) | (clear tk5; (go_at_call 14; refine (c3.out _).mono ?_; rintro e _ ⟨rfl, hb⟩; replace H := hidp (H.out.call hb); clear c3; clear hb); (try simp only [Act.put, setIfInBounds_toArray, set_cons_zero, set_cons_succ]); have tk6 := hidp trivial) | (clear tk6; (go_at_call 15; refine (c4.out _).mono ?_; rintro e _ ⟨rfl, hb⟩; replace H := hidp (H.out.call hb); clear c4; clear hb); (try simp only [Act.put, setIfInBounds_toArray, set_cons_zero, set_cons_succ]); have tk7 := hidp trivial) | (clear tk7; (go_at_call 16; refine (c5.out _).mono ?_; rintro e _ ⟨rfl, hb⟩; replace H := hidp (H.out.call hb); clear c5; clear hb); (try simp only [Act.put, setIfInBounds_toArray, set_cons_zero, set_cons_succ]); have tk8 := hidp trivial) | (clear tk8; (refine Mm.new rtH H (some 17) rfl rfl rfl ?_; clear H; intro b17 _ H nw; have hb := nw.below; clear hb nw); (try simp only [Act.put, setIfInBounds_toArray, set_cons_zero, set_cons_succ]); have tk9 := hidp trivial) | (clear tk9; (refine Mm.put0 rtH H rfl (.tmp 17) (.tmp 56) (u8s Q) rfl rfl rfl HQ.out (u8_one _) rfl ?_; intro _ H2 st; clear st H; have H := H2; clear H2); (try simp only [Act.put, setIfInBounds_toArray, set_cons_zero, set_cons_succ]); have tk10 := hidp trivial) | (clear tk10; (go_at_call 17; refine (c6.out _).mono ?_; rintro e _ ⟨rfl, hb⟩; replace H := hidp (H.out.call hb); clear c6; clear hb); (try simp only [Act.put, setIfInBounds_toArray, set_cons_zero, set_cons_succ]); have tk11 := hidp trivial) | (clear tk11; (refine Mm.new rtH H (some 20) rfl rfl rfl ?_; clear H; intro b20 _ H nw; have hb := nw.below; clear hb nw); (try simp only [Act.put, setIfInBounds_toArray, set_cons_zero, set_cons_succ]); have tk12 := hidp trivial) | (clear tk12; (refine Mm.put0 rtH H rfl (.tmp 20) (.tmp 62) (u8s Q) rfl rfl rfl HQ.out (u8_one _) rfl ?_; intro _ H2 st; clear st H; have H := H2; clear H2); (try simp only [Act.put, setIfInBounds_toArray, set_cons_zero, set_cons_succ]); have tk13 := hidp trivial) | (clear tk13; (go_at_call 18; refine (c7.out _).mono ?_; rintro e _ ⟨rfl, hb⟩; replace H := hidp (H.out.call hb); clear c7; clear hb); (try simp only [Act.put, setIfInBounds_toArray, set_cons_zero, set_cons_succ]); have tk14 := hidp trivial) | (clear tk14; (go_at_call 19; refine (c8.out _).mono ?_; rintro e _ ⟨rfl, hb⟩; replace H := hidp (H.out.call hb); clear c8; clear hb); (try simp only [Act.put, setIfInBounds_toArray, set_cons_zero, set_cons_succ]); have tk15 := hidp trivial) | (clear tk15; (go_at_call 5; refine (cv.out _ (HI.out.below H.out.below (Nat.le_refl _)) (HW.out.below H.out.below (Nat.le_refl _)) (HT0.out.below H.out.below (Nat.le_refl _)) (HM.out.below H.out.below (Nat.le_refl _))).mono ?_; rintro e _ ⟨rfl, hb⟩; replace H := hidp (H.out.call hb); clear cv; clear hb); (try simp only [Act.put, setIfInBounds_toArray, set_cons_zero, set_cons_succ]); have tk16 := hidp trivial) | (clear tk16; (refine Mm.get1 rtH H rfl (.tmp 17) rfl rfl HQ.out ?_); (try simp only [Act.put, setIfInBounds_toArray, set_cons_zero, set_cons_succ]); have tk17 := hidp trivial) | (clear tk17; (refine Mm.get0 rtH H rfl (.tmp 20) rfl rfl HQ.out ?_); (try simp only [Act.put, setIfInBounds_toArray, set_cons_zero, set_cons_succ]); have tk18 := hidp trivial))
    try clear tk18
    go_ret
    exact ⟨rfl, H.out.below⟩
  · have e9 : decide ((b.size : Int) > 16384) = true := by simp; omega
    have n9 : (16384 : Int) < (b.size : Int) := by omega
    clear hs hc hi h9 hb
    go_enter Tryz.func4, Tryz.ntmps4
    have tk0 := hidp trivial
    go_wp2_with (first | (clear tk0; (refine Mm.box 34 H rfl (.tmp 0) rfl (u8s sum) rfl ?_; clear H; intro b4 _ H nw; have hb := nw.below; clear hb nw); (try simp only [Act.put, setIfInBounds_toArray, set_cons_zero, set_cons_succ]); have tk1 := hidp trivial) | (clear tk1; (go_at_call 5; refine (cv.out _ (HI.out.below H.out.below (Nat.le_refl _)) (HW.out.below H.out.below (Nat.le_refl _)) (HT0.out.below H.out.below (Nat.le_refl _)) (HM.out.below H.out.below (Nat.le_refl _))).mono ?_; rintro e _ ⟨rfl, hb⟩; replace H := hidp (H.out.call hb); clear cv; clear hb); (try simp only [Act.put, setIfInBounds_toArray, set_cons_zero, set_cons_succ]); have tk2 := hidp trivial))
    try clear tk2
    go_ret
    exact ⟨rfl, H.out.below⟩
end Go.Proofs.YtfenjincbhkodaaGreatDoor.Wi
