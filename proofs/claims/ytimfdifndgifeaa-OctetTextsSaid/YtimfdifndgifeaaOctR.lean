/-
  The walks of the laws on octet: texts, what is read, there and back.
-/
import Derived.Test.YtimfdifndgifeaaOctP
import Derived.Test.YtimfdifndgifeaaOctQ
namespace Go.Proofs.Ytimfdifndgifeaa
open Go.RowKit

set_option maxHeartbeats 2000000 in
set_option maxRecDepth 100000 in
theorem walk_octetTexts (w : World) (t : ByteArray) (ht : t.size ≤ 140737488351232) (v : Value) (ss : List ByteArray) (hat : StrsAt w v ss) (hn : ss.length ≤ 140737488351232) (hz : ∀ s ∈ ss, s.size ≤ 140737488351232) :
    Calls Try.prog 4 #[.string t, v] w fun e w' => e = .returned (.bool true) ∧ Below w.heap.size w w' := by
  have c1 := hidp fun w => text_any w t ht
  have c2 := hidp fun w => refText_any w t ht
  have HZ := hidp hz
  have HA := hidp hat
  clear hz
  obtain ⟨a, cap, rfl, -⟩ := hat
  go_enter Try.func4, Try.ntmps4
  go_wp2_with (first
    | (go_at_call 13; (refine (c1.out _).mono ?_); rintro e w1 ⟨rfl, hb1⟩; have hB1 := hidp hb1; have HA1 := hidp (HA.out.below hb1 (Nat.le_refl _)); clear hb1)
    | (go_at_call 14; (refine (c2.out _).mono ?_); rintro e w2 ⟨rfl, hb2⟩; have hB2 := hidp (hB1.out.trans (hb2.mono hB1.out.size)); have HA2 := hidp (HA1.out.below hb2 (Nat.le_refl _)); clear hb2)
    | (go_at_call 15; (refine (list_any _ _ ss HA2.out hn HZ.out).mono ?_); rintro e w3 ⟨rfl, hb3⟩; have hB3 := hidp (hB2.out.trans (hb3.mono hB2.out.size)); have HA3 := hidp (HA2.out.below hb3 (Nat.le_refl _)); clear hb3)
    | (go_at_call 16; (refine (refList_any _ _ ss HA3.out hn HZ.out).mono ?_); rintro e w4 ⟨rfl, hb4⟩; have hB4 := hidp (hB3.out.trans (hb4.mono hB3.out.size)); clear hb4)
    | (go_at_call 12; (refine (lives_any _).mono ?_); rintro e w5 ⟨rfl, hb5⟩; have hB5 := hidp (hB4.out.trans (hb5.mono hB4.out.size)); clear hb5))
  go_ret
  exact ⟨rfl, hB5.out⟩

set_option maxHeartbeats 4000000 in
set_option maxRecDepth 100000 in
theorem walk_octetReads (w : World) (s : ByteArray) (hs : s.size ≤ 140737488351232) :
    Calls Try.prog 5 #[.string s] w fun e w' => e = .returned (.bool true) ∧ Below w.heap.size w w' := by
  have c1 := hidp fun w => getText_any w s (by omega)
  have c2 := hidp fun w => refGetText_any w s (by omega)
  have c3 := hidp fun w => getList_any w s (by omega)
  have c4 := hidp fun w => refGetList_any w s (by omega)
  have c5 := hidp fun w => all_any w s (by omega)
  have c6 := hidp fun w => refAll_any w s (by omega)
  have hal : (al s).1.length ≤ 256 := by
    unfold al; split
    · simp
    · split
      · simp
      · exact (gl_bd s).2.2.1
  have h8 := hidp fun w v v' h h' => same_any w v v' (gl s).1 (gl s).1 h h' (by have := (gl_bd s).2.2.1; omega) (by have := (gl_bd s).2.2.1; omega)
  have h9 := hidp fun w v v' h h' => same_any w v v' (al s).1 (al s).1 h h' (by omega) (by omega)
  rw [sameB_self] at h8 h9
  clear hal
  go_enter Try.func5, Try.ntmps5
  go_wp2_with fail
  refine (c1.out _).mono ?_
  unfold tupT
  rintro e w1 ⟨rfl, hb1⟩
  have hB1 := hidp hb1; clear hb1
  go_wp2_with fail
  refine (c2.out _).mono ?_
  unfold tupT
  rintro e w2 ⟨rfl, hb2⟩
  have hB2 := hidp (hB1.out.trans (hb2.mono hB1.out.size)); clear hb2
  go_wp2_with fail
  refine (c3.out _).mono ?_
  rintro e w3 ⟨v3, rfl, hs3, hb3⟩
  have hB3 := hidp (hB2.out.trans (hb3.mono hB2.out.size)); have A3 := hidp hs3; clear hb3 hs3
  go_wp2_with fail
  refine (c4.out _).mono ?_
  rintro e w4 ⟨v4, rfl, hs4, hb4⟩
  have hB4 := hidp (hB3.out.trans (hb4.mono hB3.out.size)); have A4 := hidp (And.intro (A3.out.below hb4 (Nat.le_refl _)) hs4); clear hb4 hs4 A3
  go_wp2_with fail
  refine (c5.out _).mono ?_
  rintro e w5 ⟨v5, rfl, hs5, hb5⟩
  have hB5 := hidp (hB4.out.trans (hb5.mono hB4.out.size)); have A5 := hidp (And.intro (A4.out.1.below hb5 (Nat.le_refl _)) (And.intro (A4.out.2.below hb5 (Nat.le_refl _)) hs5)); clear hb5 hs5 A4
  go_wp2_with fail
  refine (c6.out _).mono ?_
  rintro e w6 ⟨v6, rfl, hs6, hb6⟩
  have hB6 := hidp (hB5.out.trans (hb6.mono hB5.out.size)); have A6 := hidp (And.intro (A5.out.1.below hb6 (Nat.le_refl _)) (And.intro (A5.out.2.1.below hb6 (Nat.le_refl _)) (And.intro (A5.out.2.2.below hb6 (Nat.le_refl _)) hs6))); clear hb6 hs6 A5
  go_wp2_with fail
  refine (lives_any _).mono ?_
  rintro e w7 ⟨rfl, hb7⟩
  have hB7 := hidp (hB6.out.trans (hb7.mono hB6.out.size)); have A7 := hidp (And.intro (A6.out.1.below hb7 (Nat.le_refl _)) (And.intro (A6.out.2.1.below hb7 (Nat.le_refl _)) (And.intro (A6.out.2.2.1.below hb7 (Nat.le_refl _)) (A6.out.2.2.2.below hb7 (Nat.le_refl _))))); clear hb7 A6
  go_wp2_with fail
  refine (h8.out _ _ _ A7.out.1 A7.out.2.1).mono ?_
  rintro e w8 ⟨rfl, hb8⟩
  have hB8 := hidp (hB7.out.trans (hb8.mono hB7.out.size)); have A8 := hidp (And.intro (A7.out.2.2.1.below hb8 (Nat.le_refl _)) (A7.out.2.2.2.below hb8 (Nat.le_refl _))); clear hb8 A7
  go_wp2_with fail
  refine (h9.out _ _ _ A8.out.1 A8.out.2).mono ?_
  rintro e w9 ⟨rfl, hb9⟩
  have hB9 := hidp (hB8.out.trans (hb9.mono hB8.out.size)); clear hb9
  go_wp2
  go_ret
  exact ⟨rfl, hB9.out⟩

theorem back1 (n : Nat) (hn : n < 18446744073709551616) (behind : ByteArray) (hb : behind.size ≤ 140737488351232) : ∃ (a : ByteArray) (e1 : Int) (x i e2 : Nat), a.size ≤ 10 ∧
    (∀ w, Calls Try.prog 8 #[.int .u64 n] w fun e w' => e = .returned (.tuple #[.string a, .int .i64 e1]) ∧ Below w.heap.size w w') ∧
    (∀ w, Calls Try.prog 10 #[.string (a ++ behind)] w fun e w' => e = .returned (.tuple #[.int .u64 x, .int .i64 i, .int .i64 e2]) ∧ w = w') ∧
    ((e1 != 0) = true ∨ ((e1 != 0) = false ∧ ((e2 : Int) == 0) = true ∧ ((x : Int) == (n : Int)) = true ∧ ((i : Int) == (a.size : Int)) = true)) := by
  by_cases h : n ≤ 281474976710656
  · refine ⟨mkS (encN n), 0, n, (mkS (encN n)).size, 0, ?_, fun w => ?_, fun w => ?_, .inr ⟨rfl, rfl, by simp, by simp⟩⟩
    · rw [mkS_size]; exact encN_len64 n hn
    · have := num_any w n hn; rw [numS_yes h, numE_yes h] at this; exact this
    · have := getNum_any w (mkS (encN n) ++ behind) (by simp only [ByteArray.size_append, mkS_size]; have := encN_len64 n hn; omega)
      rw [append_toList, mkS_data, gn_back n _ h] at this
      rw [mkS_size]; exact this
  · refine ⟨ByteArray.empty, 1, (gn behind.data.toList).1, (gn behind.data.toList).2.1, (gn behind.data.toList).2.2, by decide, fun w => ?_, fun w => ?_, .inl rfl⟩
    · have := num_any w n hn; rw [numS_no h, numE_no h] at this; exact this
    · have := getNum_any w (ByteArray.empty ++ behind) (by simp only [ByteArray.size_append]; have : ByteArray.empty.size = 0 := rfl; omega)
      rw [append_toList] at this; exact this

theorem back2 (t : ByteArray) (ht : t.size ≤ 140737488351232) (behind : ByteArray) (hb : behind.size ≤ 140737488351232) : ∃ (a : ByteArray) (e1 : Int) (x : ByteArray) (i e2 : Nat), a.size ≤ 8202 ∧
    (∀ w, Calls Try.prog 13 #[.string t] w fun e w' => e = .returned (.tuple #[.string a, .int .i64 e1]) ∧ Below w.heap.size w w') ∧
    (∀ w, Calls Try.prog 17 #[.string (a ++ behind)] w fun e w' => e = .returned (.tuple #[.string x, .int .i64 i, .int .i64 e2]) ∧ Below w.heap.size w w') ∧
    ((e1 != 0) = true ∨ ((e1 != 0) = false ∧ ((e2 : Int) == 0) = true ∧ (x.toList == t.toList) = true ∧ ((i : Int) == (a.size : Int)) = true)) := by
  by_cases h : t.size ≤ 8192
  · refine ⟨mkS (encT t), 0, t, (mkS (encT t)).size, 0, ?_, fun w => ?_, fun w => ?_, .inr ⟨rfl, rfl, by simp, by simp⟩⟩
    · rw [mkS_size]; exact encT_len t h
    · have := text_any w t ht; rw [textS_yes h, textE_yes h] at this; exact this
    · have := getText_any w (mkS (encT t) ++ behind) (by simp only [ByteArray.size_append, mkS_size]; have := encT_len t h; omega)
      have e : mkS (encT t) ++ behind = mkS (encT t ++ behind.data.toList) := by rw [← mkS_append, mkS_of]
      rw [e, gt_back t h] at this
      rw [e, mkS_size]; exact this
  · refine ⟨ByteArray.empty, 7, (gt (ByteArray.empty ++ behind)).1, (gt (ByteArray.empty ++ behind)).2.1, (gt (ByteArray.empty ++ behind)).2.2, by decide, fun w => ?_, fun w => ?_, .inl rfl⟩
    · have := text_any w t ht; rw [textS_no h, textE_no h] at this; exact this
    · have := getText_any w (ByteArray.empty ++ behind) (by simp only [ByteArray.size_append]; have : ByteArray.empty.size = 0 := rfl; omega)
      exact this

theorem back3 (ss : List ByteArray) (hn : ss.length ≤ 140737488351232) (hz : ∀ s ∈ ss, s.size ≤ 140737488351232) (behind : ByteArray) (hb : behind.size ≤ 140737488351232) : ∃ (a : ByteArray) (e1 : Int) (L : List ByteArray) (i e2 : Nat), a.size ≤ 10 + 8202 * 256 ∧ L.length ≤ 256 ∧
    (∀ w v, StrsAt w v ss → Calls Try.prog 15 #[v] w fun e w' => e = .returned (.tuple #[.string a, .int .i64 e1]) ∧ Below w.heap.size w w') ∧
    (∀ w, Calls Try.prog 19 #[.string (a ++ behind)] w fun e w' => ∃ v, e = .returned (.tuple #[v, .int .i64 i, .int .i64 e2]) ∧ StrsAt w' v L ∧ Below w.heap.size w w') ∧
    ((e1 != 0) = true ∨ ((e1 != 0) = false ∧ ((e2 : Int) == 0) = true ∧ L = ss ∧ ((i : Int) == (a.size : Int)) = true)) := by
  by_cases h : okL ss
  · have hl : (encL ss).length ≤ 10 + 8202 * 256 := by
      unfold encL; have := encN_len64 ss.length (by have := h.1; omega); have := encTs_len ss h.2; have := h.1; simp; omega
    refine ⟨mkS (encL ss), 0, ss, (mkS (encL ss)).size, 0, ?_, h.1, fun w v hv => ?_, fun w => ?_, .inr ⟨rfl, rfl, rfl, by simp⟩⟩
    · rw [mkS_size]; exact hl
    · have := list_any w v ss hv hn hz; rw [listS_yes h, listE_yes h] at this; exact this
    · have := getList_any w (mkS (encL ss) ++ behind) (by simp only [ByteArray.size_append, mkS_size]; omega)
      have e : mkS (encL ss) ++ behind = mkS (encL ss ++ behind.data.toList) := by rw [← mkS_append, mkS_of]
      rw [e, gl_back ss h] at this
      rw [e, mkS_size]; exact this
  · refine ⟨ByteArray.empty, 7, (gl (ByteArray.empty ++ behind)).1, (gl (ByteArray.empty ++ behind)).2.1, (gl (ByteArray.empty ++ behind)).2.2, by decide, (gl_bd _).2.2.1, fun w v hv => ?_, fun w => ?_, .inl rfl⟩
    · have := list_any w v ss hv hn hz; rw [listS_no h, listE_no h] at this; exact this
    · exact getList_any w (ByteArray.empty ++ behind) (by simp only [ByteArray.size_append]; have : ByteArray.empty.size = 0 := rfl; omega)

set_option maxHeartbeats 4000000 in
set_option maxRecDepth 100000 in
theorem walk_octetBack (w : World) (na : Int) (hna : (Lit.int .u64 na).wf = true) (t : ByteArray) (ht : t.size ≤ 140737488351232) (v : Value) (ss : List ByteArray) (hat : StrsAt w v ss) (hn : ss.length ≤ 140737488351232) (hz : ∀ s ∈ ss, s.size ≤ 140737488351232)
    (behind : ByteArray) (hbs : behind.size ≤ 140737488351232) :
    Calls Try.prog 6 #[.int .u64 na, .string t, v, .string behind] w fun e w' => e = .returned (.bool true) ∧ Below w.heap.size w w' := by
  obtain ⟨n, rfl, hnn⟩ := u64_nat hna
  clear hna
  obtain ⟨a1, e1, x1, i1, f1, hs1, c1, c2, hd1⟩ := back1 n hnn behind hbs
  obtain ⟨a2, e2, x2, i2, f2, hs2, c3, c4, hd2⟩ := back2 t ht behind hbs
  obtain ⟨a3, e3, L, i3, f3, hs3, hL, c5, c6, hd3⟩ := back3 ss hn hz behind hbs
  have HZ := hidp hz
  have HA := hidp hat
  have h8 := hidp fun w v v' h h' => same_any w v v' L ss h h' (by omega) hn
  have C1 := hidp c1; have C2 := hidp c2; have C3 := hidp c3; have C4 := hidp c4; have C5 := hidp c5; have C6 := hidp c6
  clear hz c1 c2 c3 c4 c5 c6
  obtain ⟨pa, pc, rfl, -⟩ := hat
  have hL2 := hidp hL; clear hL
  rcases hd1 with d1 | ⟨d1, d1a, d1b, d1c⟩
  all_goals rcases hd2 with d2 | ⟨d2, d2a, d2b, d2c⟩
  all_goals rcases hd3 with d3 | ⟨d3, d3a, d3b, d3c⟩
  all_goals try (have D3b := hidp d3b; clear d3b)
  all_goals
    go_enter Try.func6, Try.ntmps6
    go_wp2_with fail
    refine (lives_any _).mono ?_
    rintro e w1 ⟨rfl, hb1⟩
    have hB1 := hidp hb1; have A1 := hidp (HA.out.below hb1 (Nat.le_refl _)); clear hb1
    go_wp2_with fail
    refine (C1.out _).mono ?_
    rintro e w2 ⟨rfl, hb2⟩
    have hB2 := hidp (hB1.out.trans (hb2.mono hB1.out.size)); have A2 := hidp (A1.out.below hb2 (Nat.le_refl _)); clear hb2
    go_wp2_with fail
    refine (C2.out _).mono ?_
    rintro e w2' ⟨rfl, rfl⟩
    go_wp2_with fail
    refine (C3.out _).mono ?_
    rintro e w3 ⟨rfl, hb3⟩
    have hB3 := hidp (hB2.out.trans (hb3.mono hB2.out.size)); have A3 := hidp (A2.out.below hb3 (Nat.le_refl _)); clear hb3
    go_wp2_with fail
    refine (C4.out _).mono ?_
    rintro e w4 ⟨rfl, hb4⟩
    have hB4 := hidp (hB3.out.trans (hb4.mono hB3.out.size)); have A4 := hidp (A3.out.below hb4 (Nat.le_refl _)); clear hb4
    go_wp2_with fail
    refine (C5.out _ _ A4.out).mono ?_
    rintro e w5 ⟨rfl, hb5⟩
    have hB5 := hidp (hB4.out.trans (hb5.mono hB4.out.size)); have A5 := hidp (A4.out.below hb5 (Nat.le_refl _)); clear hb5
    go_wp2_with fail
    refine (C6.out _).mono ?_
    rintro e w6 ⟨v6, rfl, hs6, hb6⟩
    have hB6 := hidp (hB5.out.trans (hb6.mono hB5.out.size)); have A6 := hidp (And.intro hs6 (A5.out.below hb6 (Nat.le_refl _))); clear hb6 hs6
    first
      | (go_wp2
         go_ret
         exact ⟨rfl, hB6.out⟩)
      | (go_wp2_with fail
         have h9 := h8.out _ _ _ A6.out.1 A6.out.2
         rw [D3b.out, sameB_self] at h9
         refine h9.mono ?_
         clear h9
         rintro e w7 ⟨rfl, hb7⟩
         have hB7 := hidp (hB6.out.trans (hb7.mono hB6.out.size)); clear hb7
         go_wp2
         go_ret
         exact ⟨rfl, hB7.out⟩)

theorem again1 (s : ByteArray) (hs : s.size ≤ 140737488351232) : ∃ (n i f : Nat) (a : ByteArray) (e1 : Int), i ≤ s.size ∧
    (∀ w, Calls Try.prog 10 #[.string s] w fun e w' => e = .returned (.tuple #[.int .u64 n, .int .i64 i, .int .i64 f]) ∧ w = w') ∧
    (∀ w, Calls Try.prog 8 #[.int .u64 n] w fun e w' => e = .returned (.tuple #[.string a, .int .i64 e1]) ∧ Below w.heap.size w w') ∧
    (((f : Int) != 0) = true ∨ (((f : Int) != 0) = false ∧ (e1 == 0) = true ∧ (a.toList == (s.extract 0 i).toList) = true)) := by
  have hb := gn_bd s.data.toList
  refine ⟨(gn s.data.toList).1, (gn s.data.toList).2.1, (gn s.data.toList).2.2, _, _, by have := hb.2.2.1; simpa using this, fun w => getNum_any w s (by omega), fun w => num_any w _ (by omega), ?_⟩
  by_cases h : (gn s.data.toList).2.2 = 0
  · right
    obtain ⟨g1, g2, g3⟩ := gn_again s.data.toList _ _ (show gn s.data.toList = ((gn s.data.toList).1, (gn s.data.toList).2.1, 0) from by rw [← h])
    refine ⟨errB0 h, by rw [numE_yes g2]; rfl, ?_⟩
    apply toList_yes
    rw [numS_yes g2, g1]
    apply ba_ext
    rw [mkS_data, extract_toList]; simp
  · left; exact errB h

theorem again2 (s : ByteArray) (hs : s.size ≤ 140737488351232) : ∃ (t : ByteArray) (i f : Nat) (a : ByteArray) (e1 : Int), i ≤ s.size ∧
    (∀ w, Calls Try.prog 17 #[.string s] w fun e w' => e = .returned (.tuple #[.string t, .int .i64 i, .int .i64 f]) ∧ Below w.heap.size w w') ∧
    (∀ w, Calls Try.prog 13 #[.string t] w fun e w' => e = .returned (.tuple #[.string a, .int .i64 e1]) ∧ Below w.heap.size w w') ∧
    (((f : Int) != 0) = true ∨ (((f : Int) != 0) = false ∧ (e1 == 0) = true ∧ (a.toList == (s.extract 0 i).toList) = true)) := by
  have hb := gt_bd s
  refine ⟨(gt s).1, (gt s).2.1, (gt s).2.2, _, _, hb.1, fun w => getText_any w s (by omega), fun w => text_any w _ (by have := hb.2.2; omega), ?_⟩
  by_cases h : (gt s).2.2 = 0
  · right
    obtain ⟨g1, g2, g3⟩ := gt_again s _ _ (show gt s = ((gt s).1, (gt s).2.1, 0) from by rw [← h])
    refine ⟨errB0 h, by rw [textE_yes g2]; rfl, ?_⟩
    apply toList_yes
    rw [textS_yes g2, g1]
    apply ba_ext
    rw [mkS_data, extract_toList]; simp
  · left; exact errB h

theorem again3 (s : ByteArray) (hs : s.size ≤ 140737488351232) : ∃ (L : List ByteArray) (i f : Nat) (a : ByteArray) (e1 : Int), i ≤ s.size ∧
    (∀ w, Calls Try.prog 19 #[.string s] w fun e w' => ∃ v, e = .returned (.tuple #[v, .int .i64 i, .int .i64 f]) ∧ StrsAt w' v L ∧ Below w.heap.size w w') ∧
    (∀ w v, StrsAt w v L → Calls Try.prog 15 #[v] w fun e w' => e = .returned (.tuple #[.string a, .int .i64 e1]) ∧ Below w.heap.size w w') ∧
    (((f : Int) != 0) = true ∨ (((f : Int) != 0) = false ∧ (e1 == 0) = true ∧ (a.toList == (s.extract 0 i).toList) = true)) := by
  have hb := gl_bd s
  refine ⟨(gl s).1, (gl s).2.1, (gl s).2.2, _, _, hb.1, fun w => getList_any w s (by omega), fun w v hv => list_any w v _ hv (by have := hb.2.2.1; omega) (fun t ht => by have := hb.2.2.2 t ht; omega), ?_⟩
  by_cases h : (gl s).2.2 = 0
  · right
    obtain ⟨g1, g2, g3⟩ := gl_again s _ _ (show gl s = ((gl s).1, (gl s).2.1, 0) from by rw [← h])
    refine ⟨errB0 h, by rw [listE_yes g2]; rfl, ?_⟩
    apply toList_yes
    rw [listS_yes g2, g1]
    apply ba_ext
    rw [mkS_data, extract_toList]; simp
  · left; exact errB h

set_option maxHeartbeats 4000000 in
set_option maxRecDepth 100000 in
theorem walk_octetAgain (w : World) (s : ByteArray) (hs : s.size ≤ 140737488351232) :
    Calls Try.prog 7 #[.string s] w fun e w' => e = .returned (.bool true) ∧ Below w.heap.size w w' := by
  obtain ⟨n, i1, f1, a1, e1, hi1, c1, c2, hd1⟩ := again1 s hs
  obtain ⟨t, i2, f2, a2, e2, hi2, c3, c4, hd2⟩ := again2 s hs
  obtain ⟨L, i3, f3, a3, e3, hi3, c5, c6, hd3⟩ := again3 s hs
  have C1 := hidp c1; have C2 := hidp c2; have C3 := hidp c3; have C4 := hidp c4; have C5 := hidp c5; have C6 := hidp c6
  clear c1 c2 c3 c4 c5 c6
  rcases hd1 with d1 | ⟨d1, d1a, d1b⟩
  all_goals rcases hd2 with d2 | ⟨d2, d2a, d2b⟩
  all_goals rcases hd3 with d3 | ⟨d3, d3a, d3b⟩
  all_goals
    go_enter Try.func7, Try.ntmps7
    go_wp2_with fail
    refine (lives_any _).mono ?_
    rintro e w1 ⟨rfl, hb1⟩
    have hB1 := hidp hb1; clear hb1
    go_wp2_with fail
    refine (C1.out _).mono ?_
    rintro e w1' ⟨rfl, rfl⟩
    go_wp2_with fail
    refine (C2.out _).mono ?_
    rintro e w2 ⟨rfl, hb2⟩
    have hB2 := hidp (hB1.out.trans (hb2.mono hB1.out.size)); clear hb2
    go_wp2_with fail
    refine (C3.out _).mono ?_
    rintro e w3 ⟨rfl, hb3⟩
    have hB3 := hidp (hB2.out.trans (hb3.mono hB2.out.size)); clear hb3
    go_wp2_with fail
    refine (C4.out _).mono ?_
    rintro e w4 ⟨rfl, hb4⟩
    have hB4 := hidp (hB3.out.trans (hb4.mono hB3.out.size)); clear hb4
    go_wp2_with fail
    refine (C5.out _).mono ?_
    rintro e w5 ⟨v5, rfl, hs5, hb5⟩
    have hB5 := hidp (hB4.out.trans (hb5.mono hB4.out.size)); have A5 := hidp hs5; clear hb5 hs5
    go_wp2_with fail
    refine (C6.out _ _ A5.out).mono ?_
    rintro e w6 ⟨rfl, hb6⟩
    have hB6 := hidp (hB5.out.trans (hb6.mono hB5.out.size)); clear hb6
    go_wp2
    go_ret
    exact ⟨rfl, hB6.out⟩
end Go.Proofs.Ytimfdifndgifeaa
