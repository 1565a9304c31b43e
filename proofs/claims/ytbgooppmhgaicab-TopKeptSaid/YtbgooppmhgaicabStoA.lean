
/-
  store: records of entries and counts, PutEntry, PutCount, of both sides.
-/
import Derived.Test.YtbgooppmhgaicabAiN
import Derived.Test.YtbgooppmhgaicabStoM
import Derived.Test.YtbgooppmhgaicabJrnE
namespace Go.Proofs.Ytbgooppmhgaicab
set_option maxRecDepth 100000
set_option linter.unusedVariables false
set_option linter.unusedSimpArgs false
open Go.RowKit

theorem two_below {B : Nat} {a w : World} (h : Below B a w) (o : Obj) (hB : B ≤ w.heap.size) : Below B a (w.alloc o) := h.alloc hB o

set_option maxHeartbeats 4000000 in
theorem sowned_any (w : World) (s : ByteArray) (y r : Int) (hs : s.size ≤ 281474976710656) :
    Calls Try.prog 16 #[.agg #[.string s, .int .i64 y, .int .i64 r]] w fun e w' => e = .returned (.agg #[.string s, .int .i64 y, .int .i64 r]) ∧ Below w.heap.size w w' := by
  go_enter Try.func16, Try.ntmps16
  go_wp2_with fail
  refine (clone_any s _ hs).mono ?_
  rintro e w1 ⟨rfl, hb1⟩
  obtain ⟨hA, hR, hB⟩ := after2 [.string s, .int .i64 y, .int .i64 r] [.string ⟨#[]⟩, .int .i64 0, .int .i64 0] _ _ hb1
  have HA := hidp hA; have HR := hidp hR; have HB := hidp hB
  clear hb1 hA hR hB
  obtain ⟨a0, a1, a2, af⟩ := arr3 HA.out
  obtain ⟨r0, r1, r2, rf⟩ := arr3 HR.out
  have f0 := af 0; have f1 := af 1; have f2 := af 2
  have g0 := rf 0; have g1 := rf 1; have g2 := rf 2
  clear af rf
  go_wp2_with fail
  refine bodyPost_ret (v := .agg #[.string s, .int .i64 y, .int .i64 r]) (by simp [results, Try.results16, go_sem, r0, r1, r2]) rfl ⟨rfl, ?_⟩
  repeat (refine Below.setCell ?_ (by simp) _)
  exact HB.out

set_option maxHeartbeats 4000000 in
theorem cnt_no (w : World) (n : Int) (h : n < 0 ∨ 1048576 < n) :
    Calls Try.prog 18 #[.int .i64 n] w fun e w' => e = .returned (.tuple #[.string ⟨#[]⟩, .int .i64 1]) ∧ Below w.heap.size w w' := by
  by_cases h1 : n < 0
  · have e1 : decide (n < 0) = true := by simpa using h1
    clear h
    go_enter Try.func18, Try.ntmps18
    go_wp2
    go_ret2
    exact ⟨rfl, Below.refl _ _⟩
  · have e1 : decide (n < 0) = false := by simpa using h1
    have e2 : decide (1048576 < n) = true := by simp; omega
    clear h
    go_enter Try.func18, Try.ntmps18
    go_wp2
    go_ret2
    exact ⟨rfl, Below.refl _ _⟩
set_option maxHeartbeats 4000000 in
theorem cnt_ok (w : World) (n : Nat) (h : n ≤ 1048576) :
    Calls Try.prog 18 #[.int .i64 (n : Int)] w fun e w' => e = .returned (.tuple #[.string (cntR n), .int .i64 0]) ∧ Below w.heap.size w w' := by
  have c0 := hidp (fun W => num_any W n (by omega))
  rw [numS_yes (by omega), numE_yes (by omega)] at c0
  have hok := okC h
  obtain ⟨S, hS⟩ : ∃ S, mkS (encN n) = S := ⟨_, rfl⟩
  have hSs : S.size ≤ 10 := by rw [← hS, mkS_size]; exact encN_len64 n (by omega)
  have hcr : cntR n = mkS (encL [tC, S]) := by unfold cntR; rw [hS]
  rw [hS] at c0 hok
  clear hS
  have c1 := hidp (fun (W : World) => list_any (W.alloc (.cells #[.string tC, .string S] 9)) _ [tC, S] (strsLit2 W tC S 9) (by simp) (by intro s hs; simp at hs; rcases hs with rfl | rfl; decide; omega))
  rw [listS_yes hok, listE_yes hok] at c1
  rw [hcr]
  obtain ⟨X, hX⟩ : ∃ X, mkS (encL [tC, S]) = X := ⟨_, rfl⟩
  rw [hX] at c1 ⊢
  unfold tC at c1
  clear hX hcr hok
  have e1 : decide ((n : Int) < 0) = false := by simp
  have e2 : decide (1048576 < (n : Int)) = false := by simp; omega
  have e3 : IntKind.u64.wrap (n : Int) = (n : Int) := IntWalk.u64_in _ ⟨by omega, by omega⟩
  go_enter Try.func18, Try.ntmps18
  go_wp2_with fail
  refine (c0.out _).mono ?_
  rintro e w1 ⟨rfl, hb1⟩
  have HB1 := hidp (hb1.alloc hb1.size (.cells #[.string ⟨#[99]⟩, .string S] 9)); clear hb1
  go_wp2_with fail
  refine (c1.out _).mono ?_
  rintro e w2 ⟨rfl, hb2⟩
  have HB2 := hidp (HB1.out.trans (hb2.mono HB1.out.size)); clear hb2
  go_wp2_with fail
  go_ret2
  exact ⟨rfl, HB2.out⟩

theorem cn_ai (s : ByteArray) : ((cnE s : Nat) : Int) = (if Ai.inE s 1048576 = 0 then 0 else 6) ∧ cnN s = Ai.inV s 1048576 := by
  obtain ⟨⟨n, k, e⟩, hr⟩ : ∃ r, gn s.data.toList = r := ⟨_, rfl⟩
  have hcE : cnE s = if e ≠ 0 then 6 else if k < s.size then 6 else if 1048576 < n then 6 else 0 := by unfold cnE; rw [hr]
  have hcN : cnN s = if cnE s = 0 then n else 0 := by unfold cnN; rw [hr]
  have dE : Ai.nmE s = if e ≠ 0 then (e : Int) else if k < s.size then 6 else 0 := by unfold Ai.nmE; rw [hr]
  have dV : Ai.nmV s = if Ai.nmE s = 0 then n else 0 := by unfold Ai.nmV; rw [hr]
  have iE : Ai.inE s 1048576 = if Ai.nmE s = 0 then (if 1048576 < Ai.nmV s then 1 else 0) else Ai.nmE s := rfl
  have iV : Ai.inV s 1048576 = if Ai.inE s 1048576 = 0 then Ai.nmV s else 0 := rfl
  clear hr
  by_cases he : e = 0
  · subst he
    rw [if_neg (by simp)] at hcE dE
    by_cases hk : k < s.size
    · rw [if_pos hk] at hcE dE
      rw [dE, if_neg (by decide)] at iE
      rw [iE, if_neg (by decide)] at iV
      rw [hcE, if_neg (by decide)] at hcN
      rw [hcE, hcN, iE, iV]; exact ⟨rfl, rfl⟩
    · rw [if_neg hk] at hcE dE
      rw [dE, if_pos rfl] at dV
      rw [dE, if_pos rfl, dV] at iE
      by_cases hn : 1048576 < n
      · rw [if_pos hn] at hcE iE
        rw [iE, if_neg (by decide)] at iV
        rw [hcE, if_neg (by decide)] at hcN
        rw [hcE, hcN, iE, iV]; exact ⟨rfl, rfl⟩
      · rw [if_neg hn] at hcE iE
        rw [iE, if_pos rfl, dV] at iV
        rw [hcE, if_pos rfl] at hcN
        rw [hcE, hcN, iE, iV]; exact ⟨rfl, rfl⟩
  · have hz : ¬ ((e : Nat) : Int) = 0 := by omega
    rw [if_pos he] at hcE dE
    rw [dE, if_neg hz] at iE
    rw [iE, if_neg hz] at iV
    rw [hcE, if_neg (by decide)] at hcN
    rw [hcE, hcN, iE, iV, if_neg hz]; exact ⟨rfl, rfl⟩
set_option maxHeartbeats 4000000 in
theorem count_any (w : World) (s : ByteArray) (hs : s.size ≤ 281474976710656) :
    Calls Try.prog 25 #[.string s] w fun e w' => e = .returned (.tuple #[.int .i64 ((cnN s : Nat) : Int), .int .i64 ((cnE s : Nat) : Int)]) ∧ Below w.heap.size w w' := by
  have cg := hidp (show ∀ W, Calls Try.prog 35 #[.string s, .int .i64 1048576] W (fun e w' => e = .returned (.tuple #[.int .i64 (Ai.inV s 1048576 : Nat), .int .i64 (Ai.inE s 1048576)]) ∧ Below W.heap.size W w') from fun W => Ai.allInt_any W s 1048576 (by omega) hs)
  obtain ⟨h1, h2⟩ := cn_ai s
  rw [h1, h2]
  obtain ⟨E, hE⟩ : ∃ E, Ai.inE s 1048576 = E := ⟨_, rfl⟩
  have hz : E ≠ 0 → Ai.inV s 1048576 = 0 := by intro h; unfold Ai.inV; rw [hE, if_neg h]
  obtain ⟨V, hV⟩ : ∃ V, Ai.inV s 1048576 = V := ⟨_, rfl⟩
  rw [hE, hV] at cg
  rw [hV] at hz
  rw [hE, hV]
  clear h1 h2 hE hV
  by_cases h0 : E = 0
  · subst h0
    rw [if_pos rfl]
    clear hz
    go_enter Try.func25, Try.ntmps25
    go_wp2_with (go_at_call 35; refine (cg.out _).mono ?_; rintro e w' ⟨rfl, hb⟩; have HB := hidp hb; clear hb)
    go_ret2
    exact ⟨rfl, HB.out⟩
  · rw [if_neg h0, hz h0]
    have e0 : (E != 0) = true := by simpa using h0
    clear hz
    go_enter Try.func25, Try.ntmps25
    go_wp2_with (go_at_call 35; refine (cg.out _).mono ?_; rintro e w' ⟨rfl, hb⟩; have HB := hidp hb; clear hb)
    go_ret2
    exact ⟨rfl, HB.out⟩

set_option maxHeartbeats 4000000 in
theorem pute_no (w : World) (s : ByteArray) (y r : Int) (t : ByteArray) (hs : s.size ≤ 281474976710656) (ht : ¬ t.size ≤ 8192) (htz : t.size ≤ 140737488351232) :
    Calls Try.prog 6 #[.agg #[.string s, .int .i64 y, .int .i64 r], .string t] w fun e w' => e = .returned (.tuple #[.agg #[.string s, .int .i64 y, .int .i64 r], .int .i64 7]) ∧ Below w.heap.size w w' := by
  have c2 := hidp (list_any (((w.alloc (.cells #[.string s, .int .i64 y, .int .i64 r] 26)).alloc (.cells #[.string ⟨#[]⟩, .int .i64 0, .int .i64 0] 26)).alloc (.cells #[.string tE, .string t] 9)) (.slice (some ⟨w.heap.size + 1 + 1, 0, none⟩) 2 2) [tE, t] (by have h := strsLit2 ((w.alloc (.cells #[.string s, .int .i64 y, .int .i64 r] 26)).alloc (.cells #[.string ⟨#[]⟩, .int .i64 0, .int .i64 0] 26)) tE t 9; rw [heap_size_alloc, heap_size_alloc] at h; exact h) (by simp) (by intro s hs; simp at hs; rcases hs with rfl | rfl; decide; exact htz))
  rw [listS_no (okE_no ht), listE_no (okE_no ht)] at c2
  unfold tE at c2
  have c3 := hidp (fun W => sowned_any W s y r hs)
  have HB0 := hidp ((((Below.refl _ w).alloc (Nat.le_refl _) (.cells #[.string s, .int .i64 y, .int .i64 r] 26)).alloc (by simp) (.cells #[.string ⟨#[]⟩, .int .i64 0, .int .i64 0] 26)).alloc (by simp; omega) (.cells #[.string ⟨#[101]⟩, .string t] 9))
  have HA0 := hidp (((Arr.new w 26 [.string s, .int .i64 y, .int .i64 r]).alloc (.cells #[.string ⟨#[]⟩, .int .i64 0, .int .i64 0] 26)).alloc (.cells #[.string ⟨#[101]⟩, .string t] 9))
  have HR0 := hidp (show Arr _ (w.heap.size + 1) 26 _ from by
    have h := Arr.new (w.alloc (.cells #[.string s, .int .i64 y, .int .i64 r] 26)) 26 [.string ⟨#[]⟩, .int .i64 0, .int .i64 0]
    rw [heap_size_alloc] at h
    exact h.alloc (.cells #[.string ⟨#[101]⟩, .string t] 9))
  clear ht
  go_enter Try.func6, Try.ntmps6
  go_wp2_with fail
  refine (c2.out).mono ?_
  rintro e w1 ⟨rfl, hb1⟩
  have HA := hidp (HA0.out.below hb1 HA0.out.lt); have HR := hidp (HR0.out.below hb1 HR0.out.lt); have HB := hidp (HB0.out.trans (hb1.mono HB0.out.size))
  clear hb1 HA0 HR0 HB0
  obtain ⟨a0, a1, a2, af⟩ := arr3 HA.out
  clear af
  go_wp2_with fail
  refine (c3.out _).mono ?_
  rintro e w2 ⟨rfl, hb2⟩
  have HR2 := hidp (HR.out.below hb2 HR.out.lt); have HB2 := hidp (HB.out.trans (hb2.mono HB.out.size))
  clear hb2 a0 a1 a2
  obtain ⟨r0, r1, r2, rf⟩ := arr3 HR2.out
  have g0 := rf 0; have g1 := rf 1; have g2 := rf 2
  clear rf
  go_wp2_with fail
  refine bodyPost_ret (v := .tuple #[.agg #[.string s, .int .i64 y, .int .i64 r], .int .i64 7]) (by simp [results, Try.results6, go_sem, r0, r1, r2]) rfl ⟨rfl, ?_⟩
  repeat (refine Below.setCell ?_ (by simp) _)
  exact HB2.out
set_option maxHeartbeats 4000000 in
theorem pute_add (w : World) (s : ByteArray) (y r : Int) (t : ByteArray) (ht : t.size ≤ 8192) (D : ByteArray) (Y R E : Int)
    (c3 : ∀ W, Calls Try.prog 17 #[.agg #[.string s, .int .i64 y, .int .i64 r], .string (entR t)] W fun e w' => e = .returned (.tuple #[.agg #[.string D, .int .i64 Y, .int .i64 R], .int .i64 E]) ∧ Below W.heap.size W w') :
    Calls Try.prog 6 #[.agg #[.string s, .int .i64 y, .int .i64 r], .string t] w fun e w' => e = .returned (.tuple #[.agg #[.string D, .int .i64 Y, .int .i64 R], .int .i64 E]) ∧ Below w.heap.size w w' := by
  have c2 := hidp (list_any (((w.alloc (.cells #[.string s, .int .i64 y, .int .i64 r] 26)).alloc (.cells #[.string ⟨#[]⟩, .int .i64 0, .int .i64 0] 26)).alloc (.cells #[.string tE, .string t] 9)) (.slice (some ⟨w.heap.size + 1 + 1, 0, none⟩) 2 2) [tE, t] (by have h := strsLit2 ((w.alloc (.cells #[.string s, .int .i64 y, .int .i64 r] 26)).alloc (.cells #[.string ⟨#[]⟩, .int .i64 0, .int .i64 0] 26)) tE t 9; rw [heap_size_alloc, heap_size_alloc] at h; exact h) (by simp) (by intro s hs; simp at hs; rcases hs with rfl | rfl; decide; omega))
  rw [listS_yes (okE ht), listE_yes (okE ht)] at c2
  have c3 := hidp c3
  rw [show mkS (encL [tE, t]) = entR t from rfl] at c2
  obtain ⟨X, hX⟩ : ∃ X, entR t = X := ⟨_, rfl⟩
  rw [hX] at c2 c3
  unfold tE at c2
  have HB0 := hidp ((((Below.refl _ w).alloc (Nat.le_refl _) (.cells #[.string s, .int .i64 y, .int .i64 r] 26)).alloc (by simp) (.cells #[.string ⟨#[]⟩, .int .i64 0, .int .i64 0] 26)).alloc (by simp; omega) (.cells #[.string ⟨#[101]⟩, .string t] 9))
  have HA0 := hidp (((Arr.new w 26 [.string s, .int .i64 y, .int .i64 r]).alloc (.cells #[.string ⟨#[]⟩, .int .i64 0, .int .i64 0] 26)).alloc (.cells #[.string ⟨#[101]⟩, .string t] 9))
  have HR0 := hidp (show Arr _ (w.heap.size + 1) 26 _ from by
    have h := Arr.new (w.alloc (.cells #[.string s, .int .i64 y, .int .i64 r] 26)) 26 [.string ⟨#[]⟩, .int .i64 0, .int .i64 0]
    rw [heap_size_alloc] at h
    exact h.alloc (.cells #[.string ⟨#[101]⟩, .string t] 9))
  clear hX
  go_enter Try.func6, Try.ntmps6
  go_wp2_with fail
  refine (c2.out).mono ?_
  rintro e w1 ⟨rfl, hb1⟩
  have HA := hidp (HA0.out.below hb1 HA0.out.lt); have HR := hidp (HR0.out.below hb1 HR0.out.lt); have HB := hidp (HB0.out.trans (hb1.mono HB0.out.size))
  clear hb1 HA0 HR0 HB0
  obtain ⟨a0, a1, a2, af⟩ := arr3 HA.out
  clear af
  go_wp2_with fail
  refine (c3.out _).mono ?_
  rintro e w2 ⟨rfl, hb2⟩
  have HR2 := hidp (HR.out.below hb2 HR.out.lt); have HB2 := hidp (HB.out.trans (hb2.mono HB.out.size))
  clear hb2 a0 a1 a2
  obtain ⟨r0, r1, r2, rf⟩ := arr3 HR2.out
  have g0 := rf 0; have g1 := rf 1; have g2 := rf 2
  clear rf
  go_wp2_with fail
  refine bodyPost_ret (v := .tuple #[.agg #[.string D, .int .i64 Y, .int .i64 R], .int .i64 E]) (by simp [results, Try.results6, go_sem, r0, r1, r2]) rfl ⟨rfl, ?_⟩
  repeat (refine Below.setCell ?_ (by simp) _)
  exact HB2.out

set_option maxHeartbeats 4000000 in
theorem putc_no (w : World) (s : ByteArray) (y r : Int) (n : Int) (hs : s.size ≤ 281474976710656) (hn : n < 0 ∨ 1048576 < n) :
    Calls Try.prog 7 #[.agg #[.string s, .int .i64 y, .int .i64 r], .int .i64 n] w fun e w' => e = .returned (.tuple #[.agg #[.string s, .int .i64 y, .int .i64 r], .int .i64 1]) ∧ Below w.heap.size w w' := by
  have c2 := hidp (fun W => cnt_no W n hn)
  have c3 := hidp (fun W => sowned_any W s y r hs)
  have HB0 := hidp ((((Below.refl _ w).alloc (Nat.le_refl _) (.cells #[.string s, .int .i64 y, .int .i64 r] 26)).alloc (by simp) (.cells #[.string ⟨#[]⟩, .int .i64 0, .int .i64 0] 26)))
  have HA0 := hidp (((Arr.new w 26 [.string s, .int .i64 y, .int .i64 r]).alloc (.cells #[.string ⟨#[]⟩, .int .i64 0, .int .i64 0] 26)))
  have HR0 := hidp (show Arr _ (w.heap.size + 1) 26 _ from by
    have h := Arr.new (w.alloc (.cells #[.string s, .int .i64 y, .int .i64 r] 26)) 26 [.string ⟨#[]⟩, .int .i64 0, .int .i64 0]
    rw [heap_size_alloc] at h
    exact h)
  clear hn
  go_enter Try.func7, Try.ntmps7
  go_wp2_with fail
  refine (c2.out _).mono ?_
  rintro e w1 ⟨rfl, hb1⟩
  have HA := hidp (HA0.out.below hb1 HA0.out.lt); have HR := hidp (HR0.out.below hb1 HR0.out.lt); have HB := hidp (HB0.out.trans (hb1.mono HB0.out.size))
  clear hb1 HA0 HR0 HB0
  obtain ⟨a0, a1, a2, af⟩ := arr3 HA.out
  clear af
  go_wp2_with fail
  refine (c3.out _).mono ?_
  rintro e w2 ⟨rfl, hb2⟩
  have HR2 := hidp (HR.out.below hb2 HR.out.lt); have HB2 := hidp (HB.out.trans (hb2.mono HB.out.size))
  clear hb2 a0 a1 a2
  obtain ⟨r0, r1, r2, rf⟩ := arr3 HR2.out
  have g0 := rf 0; have g1 := rf 1; have g2 := rf 2
  clear rf
  go_wp2_with fail
  refine bodyPost_ret (v := .tuple #[.agg #[.string s, .int .i64 y, .int .i64 r], .int .i64 1]) (by simp [results, Try.results7, go_sem, r0, r1, r2]) rfl ⟨rfl, ?_⟩
  repeat (refine Below.setCell ?_ (by simp) _)
  exact HB2.out
set_option maxHeartbeats 4000000 in
theorem putc_add (w : World) (s : ByteArray) (y r : Int) (n : Int) (m : Nat) (hm : m ≤ 1048576) (hn : n = m) (D : ByteArray) (Y R E : Int)
    (c3 : ∀ W, Calls Try.prog 17 #[.agg #[.string s, .int .i64 y, .int .i64 r], .string (cntR m)] W fun e w' => e = .returned (.tuple #[.agg #[.string D, .int .i64 Y, .int .i64 R], .int .i64 E]) ∧ Below W.heap.size W w') :
    Calls Try.prog 7 #[.agg #[.string s, .int .i64 y, .int .i64 r], .int .i64 n] w fun e w' => e = .returned (.tuple #[.agg #[.string D, .int .i64 Y, .int .i64 R], .int .i64 E]) ∧ Below w.heap.size w w' := by
  have c2 := hidp (fun W => cnt_ok W m hm)
  subst hn
  have c3 := hidp c3
  obtain ⟨X, hX⟩ : ∃ X, cntR m = X := ⟨_, rfl⟩
  rw [hX] at c2 c3
  have HB0 := hidp ((((Below.refl _ w).alloc (Nat.le_refl _) (.cells #[.string s, .int .i64 y, .int .i64 r] 26)).alloc (by simp) (.cells #[.string ⟨#[]⟩, .int .i64 0, .int .i64 0] 26)))
  have HA0 := hidp (((Arr.new w 26 [.string s, .int .i64 y, .int .i64 r]).alloc (.cells #[.string ⟨#[]⟩, .int .i64 0, .int .i64 0] 26)))
  have HR0 := hidp (show Arr _ (w.heap.size + 1) 26 _ from by
    have h := Arr.new (w.alloc (.cells #[.string s, .int .i64 y, .int .i64 r] 26)) 26 [.string ⟨#[]⟩, .int .i64 0, .int .i64 0]
    rw [heap_size_alloc] at h
    exact h)
  clear hX
  go_enter Try.func7, Try.ntmps7
  go_wp2_with fail
  refine (c2.out _).mono ?_
  rintro e w1 ⟨rfl, hb1⟩
  have HA := hidp (HA0.out.below hb1 HA0.out.lt); have HR := hidp (HR0.out.below hb1 HR0.out.lt); have HB := hidp (HB0.out.trans (hb1.mono HB0.out.size))
  clear hb1 HA0 HR0 HB0
  obtain ⟨a0, a1, a2, af⟩ := arr3 HA.out
  clear af
  go_wp2_with fail
  refine (c3.out _).mono ?_
  rintro e w2 ⟨rfl, hb2⟩
  have HR2 := hidp (HR.out.below hb2 HR.out.lt); have HB2 := hidp (HB.out.trans (hb2.mono HB.out.size))
  clear hb2 a0 a1 a2
  obtain ⟨r0, r1, r2, rf⟩ := arr3 HR2.out
  have g0 := rf 0; have g1 := rf 1; have g2 := rf 2
  clear rf
  go_wp2_with fail
  refine bodyPost_ret (v := .tuple #[.agg #[.string D, .int .i64 Y, .int .i64 R], .int .i64 E]) (by simp [results, Try.results7, go_sem, r0, r1, r2]) rfl ⟨rfl, ?_⟩
  repeat (refine Below.setCell ?_ (by simp) _)
  exact HB2.out

end Go.Proofs.Ytbgooppmhgaicab
