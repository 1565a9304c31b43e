/-
  IdentBack: the walk.
-/
import Derived.Test.YthcmabaplaejnaaDoorIdI
namespace Go.Proofs.YthcmabaplaejnaaDoor
set_option maxRecDepth 100000
set_option linter.unusedVariables false
set_option linter.unusedSimpArgs false
open Go.RowKit

set_option maxHeartbeats 16000000 in
theorem walk_identBack (w : World) (k : Nat) (hk : k < 256) (nm : ByteArray) (hnm : nm.size ≤ 140737488351232) (s : Int) (t : ByteArray) (hs : t.size ≤ 140737488351232) (hI : IT w) :
    Calls Tryd.prog 4 #[.agg #[.int .u8 (k : Int), .string nm, .int .i64 s], .string t] w fun e w' => e = .returned (.bool true) ∧ Below w.heap.size w w' := by
  have L := hidp (fun W (h : IT W) => lives11_any W h)
  have HI := hidp hI
  clear hI
  have c1 := hidp (fun W (h : IT W) => idText_any W k hk nm (by omega) s h)
  have c3 := hidp (fun W (h : IT W) => parse_any W t (by omega) h)
  have c5 := hidp (fun W (h : IT W) => user_any W t (by omega) h)
  have c6 := hidp (fun W (h : IT W) => room_any W t (by omega) h)
  have q1 := fun W => neq_ident W k nm s
  by_cases hok : idOk k nm s = true
  · have h0 := (idOk_name hok).2.1
    have hsz := idOk_size hok
    obtain ⟨S, hS⟩ : ∃ S, mkS (idL k nm s.toNat) = S := ⟨_, rfl⟩
    have hSs : S.size ≤ 20 := by rw [← hS, mkS_size]; have := idL_len k nm s.toNat; omega
    have hP : idP S = some (k, nm, s.toNat) := by rw [← hS]; exact idP_back (by rw [Int.toNat_of_nonneg h0]; exact hok)
    rw [idT_eq ⟨hok, hS⟩, idE_ok hok] at c1
    have c2 := hidp (fun W (h : IT W) => parse_any W S (by omega) h)
    have hv : idV (some (k, nm, s.toNat)) = .agg #[.int .u8 (k : Int), .string nm, .int .i64 s] := by
      show Value.agg #[.int .u8 (k : Int), .string nm, .int .i64 ((s.toNat : Nat) : Int)] = _
      rw [Int.toNat_of_nonneg h0]
    rw [hP, hv] at c2
    unfold idX at c2
    clear hP hS hok hsz h0 hv
    cases hp : idP t with
    | none =>
      rw [hp] at c3
      rw [who_no hp] at c5
      rw [who_no hp] at c6
      unfold idV idX at c3
      unfold whoV at c5 c6
      have c4 := hidp (show ∀ W, IT W → Calls Tryd.prog 9 #[.agg #[.int .u8 0, .string ⟨#[]⟩, .int .i64 0]] W fun e w' => e = .returned (.tuple #[.string ⟨#[]⟩, .int .i64 2]) ∧ Below W.heap.size W w' from fun W h => by
        have := idText_any W 0 (by omega) ⟨#[]⟩ (by simp [ByteArray.size]) 0 h
        rw [show idT 0 ⟨#[]⟩ 0 = ⟨#[]⟩ from by decide +kernel, show idE 0 ⟨#[]⟩ 0 = 2 from by decide +kernel] at this
        exact this)
      clear hp
      go_enter Tryd.func4, Tryd.ntmps4
      go_wp2_with fail
      have HX0d := hidp ((Below.refl w.heap.size w).alloc (Nat.le_refl _) (.cells #[.int .u8 (k : Int), .string nm, .int .i64 s] 24))
      have Ad0d := hidp (Arr.new w 24 [.int .u8 (k : Int), .string nm, .int .i64 s])
      obtain ⟨bd, hbd⟩ : ∃ b, w.heap.size = b := ⟨_, rfl⟩
      generalize hWW : (w.alloc (.cells #[.int .u8 (k : Int), .string nm, .int .i64 s] 24)) = W0d at HX0d Ad0d ⊢
      rw [hbd] at Ad0d ⊢
      have hged : w.heap.size ≤ bd := by omega
      clear hWW hbd
      refine (L.out _ (HI.out.below HX0d.out (Nat.le_refl _))).mono ?_
      rintro e w1 ⟨rfl, hb1⟩
      have HB1 := hidp (HX0d.out.trans (hb1.mono HX0d.out.size))
      have hle1 := HB1.out.size
      have Ad1 := hidp (Ad0d.out.below hb1 Ad0d.out.lt)
      have hltd := Ad1.out.lt
      clear hb1
      obtain ⟨d0, d1, d2, df⟩ := arr3 Ad1.out
      clear df
      go_wp2_with fail
      clear d0 d1 d2
      refine (c1.out _ (HI.out.below HB1.out (Nat.le_refl _))).mono ?_
      rintro e w2 ⟨rfl, hb2⟩
      have HB2 := hidp (HB1.out.trans (hb2.mono HB1.out.size))
      have hle2 := HB2.out.size
      have Ad2 := hidp (Ad1.out.below hb2 Ad1.out.lt)
      have hltd := Ad2.out.lt
      clear hb2
      go_wp2_with fail
      refine (c2.out _ (HI.out.below HB2.out (Nat.le_refl _))).mono ?_
      rintro e w3 ⟨rfl, hb3⟩
      have HB3 := hidp (HB2.out.trans (hb3.mono HB2.out.size))
      have hle3 := HB3.out.size
      have Ad3 := hidp (Ad2.out.below hb3 Ad2.out.lt)
      have hltd := Ad3.out.lt
      clear hb3
      go_wp2_with fail
      have HX3x := hidp (HB3.out.alloc hle3 (.cells #[.int .u8 (k : Int), .string nm, .int .i64 s] 24))
      have Ad3x := hidp (Ad3.out.alloc (.cells #[.int .u8 (k : Int), .string nm, .int .i64 s] 24))
      have Ax3x := hidp (Arr.new w3 24 [.int .u8 (k : Int), .string nm, .int .i64 s])
      obtain ⟨bx, hbx⟩ : ∃ b, w3.heap.size = b := ⟨_, rfl⟩
      generalize hWW : (w3.alloc (.cells #[.int .u8 (k : Int), .string nm, .int .i64 s] 24)) = W3x at HX3x Ad3x Ax3x ⊢
      rw [hbx] at Ax3x ⊢
      have hgex : w.heap.size ≤ bx := by rw [← hbx]; exact hle3
      clear hWW hbx
      refine (c3.out _ (HI.out.below HX3x.out (Nat.le_refl _))).mono ?_
      rintro e w4 ⟨rfl, hb4⟩
      have HB4 := hidp (HX3x.out.trans (hb4.mono HX3x.out.size))
      have hle4 := HB4.out.size
      have Ad4 := hidp (Ad3x.out.below hb4 Ad3x.out.lt)
      have hltd := Ad4.out.lt
      have Ax4 := hidp (Ax3x.out.below hb4 Ax3x.out.lt)
      have hltx := Ax4.out.lt
      clear hb4
      go_wp2_with fail
      have HX4z := hidp (HB4.out.alloc hle4 (.cells #[.int .u8 0, .string ⟨#[]⟩, .int .i64 0] 24))
      have Ad4z := hidp (Ad4.out.alloc (.cells #[.int .u8 0, .string ⟨#[]⟩, .int .i64 0] 24))
      have Ax4z := hidp (Ax4.out.alloc (.cells #[.int .u8 0, .string ⟨#[]⟩, .int .i64 0] 24))
      have Az4z := hidp (Arr.new w4 24 [.int .u8 0, .string ⟨#[]⟩, .int .i64 0])
      obtain ⟨bz, hbz⟩ : ∃ b, w4.heap.size = b := ⟨_, rfl⟩
      generalize hWW : (w4.alloc (.cells #[.int .u8 0, .string ⟨#[]⟩, .int .i64 0] 24)) = W4z at HX4z Ad4z Ax4z Az4z ⊢
      rw [hbz] at Az4z ⊢
      have hgez : w.heap.size ≤ bz := by rw [← hbz]; exact hle4
      clear hWW hbz
      refine (c4.out _ (HI.out.below HX4z.out (Nat.le_refl _))).mono ?_
      rintro e w5 ⟨rfl, hb5⟩
      have HB5 := hidp (HX4z.out.trans (hb5.mono HX4z.out.size))
      have hle5 := HB5.out.size
      have Ad5 := hidp (Ad4z.out.below hb5 Ad4z.out.lt)
      have hltd := Ad5.out.lt
      have Ax5 := hidp (Ax4z.out.below hb5 Ax4z.out.lt)
      have hltx := Ax5.out.lt
      have Az5 := hidp (Az4z.out.below hb5 Az4z.out.lt)
      have hltz := Az5.out.lt
      clear hb5
      go_wp2_with fail
      refine (c5.out _ (HI.out.below HB5.out (Nat.le_refl _))).mono ?_
      rintro e w6 ⟨rfl, hb6⟩
      have HB6 := hidp (HB5.out.trans (hb6.mono HB5.out.size))
      have hle6 := HB6.out.size
      have Ad6 := hidp (Ad5.out.below hb6 Ad5.out.lt)
      have hltd := Ad6.out.lt
      have Ax6 := hidp (Ax5.out.below hb6 Ax5.out.lt)
      have hltx := Ax6.out.lt
      have Az6 := hidp (Az5.out.below hb6 Az5.out.lt)
      have hltz := Az6.out.lt
      clear hb6
      go_wp2_with fail
      refine (c6.out _ (HI.out.below HB6.out (Nat.le_refl _))).mono ?_
      rintro e w7 ⟨rfl, hb7⟩
      have HB7 := hidp (HB6.out.trans (hb7.mono HB6.out.size))
      have hle7 := HB7.out.size
      have Ad7 := hidp (Ad6.out.below hb7 Ad6.out.lt)
      have hltd := Ad7.out.lt
      have Ax7 := hidp (Ax6.out.below hb7 Ax6.out.lt)
      have hltx := Ax7.out.lt
      have Az7 := hidp (Az6.out.below hb7 Az6.out.lt)
      have hltz := Az7.out.lt
      clear hb7
      obtain ⟨d0, d1, d2, df⟩ := arr3 Ad7.out
      clear df
      obtain ⟨x0, x1, x2, xf⟩ := arr3 Ax7.out
      clear xf
      go_wp2_with fail
      go_ret
      exact ⟨rfl, HB7.out⟩
    | some y =>
      obtain ⟨q, nm2, n⟩ := y
      obtain ⟨hq1, hq2⟩ := idP_some hp
      obtain ⟨-, -, -, hq3⟩ := idOk_name hq1
      have hq4 := idOk_size hq1
      rcases hq3 with rfl | rfl
      · rw [hp] at c3
        rw [who_yes hp] at c5
        rw [who_other hp (by omega)] at c6
        unfold idV idX at c3
        unfold whoV at c5 c6
        have c4 := hidp (show ∀ W, IT W → Calls Tryd.prog 9 #[.agg #[.int .u8 1, .string nm2, .int .i64 (n : Int)]] W fun e w' => e = .returned (.tuple #[.string t, .int .i64 0]) ∧ Below W.heap.size W w' from fun W h => by
          have := idText_any W 1 (by omega) nm2 (by omega) n h
          rw [idT_eq (t := t) (by simpa using ⟨hq1, hq2⟩), idE_ok hq1] at this
          exact this)
        clear hp hq1 hq2
        go_enter Tryd.func4, Tryd.ntmps4
        go_wp2_with fail
        have HX0d := hidp ((Below.refl w.heap.size w).alloc (Nat.le_refl _) (.cells #[.int .u8 (k : Int), .string nm, .int .i64 s] 24))
        have Ad0d := hidp (Arr.new w 24 [.int .u8 (k : Int), .string nm, .int .i64 s])
        obtain ⟨bd, hbd⟩ : ∃ b, w.heap.size = b := ⟨_, rfl⟩
        generalize hWW : (w.alloc (.cells #[.int .u8 (k : Int), .string nm, .int .i64 s] 24)) = W0d at HX0d Ad0d ⊢
        rw [hbd] at Ad0d ⊢
        have hged : w.heap.size ≤ bd := by omega
        clear hWW hbd
        refine (L.out _ (HI.out.below HX0d.out (Nat.le_refl _))).mono ?_
        rintro e w1 ⟨rfl, hb1⟩
        have HB1 := hidp (HX0d.out.trans (hb1.mono HX0d.out.size))
        have hle1 := HB1.out.size
        have Ad1 := hidp (Ad0d.out.below hb1 Ad0d.out.lt)
        have hltd := Ad1.out.lt
        clear hb1
        obtain ⟨d0, d1, d2, df⟩ := arr3 Ad1.out
        clear df
        go_wp2_with fail
        clear d0 d1 d2
        refine (c1.out _ (HI.out.below HB1.out (Nat.le_refl _))).mono ?_
        rintro e w2 ⟨rfl, hb2⟩
        have HB2 := hidp (HB1.out.trans (hb2.mono HB1.out.size))
        have hle2 := HB2.out.size
        have Ad2 := hidp (Ad1.out.below hb2 Ad1.out.lt)
        have hltd := Ad2.out.lt
        clear hb2
        go_wp2_with fail
        refine (c2.out _ (HI.out.below HB2.out (Nat.le_refl _))).mono ?_
        rintro e w3 ⟨rfl, hb3⟩
        have HB3 := hidp (HB2.out.trans (hb3.mono HB2.out.size))
        have hle3 := HB3.out.size
        have Ad3 := hidp (Ad2.out.below hb3 Ad2.out.lt)
        have hltd := Ad3.out.lt
        clear hb3
        go_wp2_with fail
        have HX3x := hidp (HB3.out.alloc hle3 (.cells #[.int .u8 (k : Int), .string nm, .int .i64 s] 24))
        have Ad3x := hidp (Ad3.out.alloc (.cells #[.int .u8 (k : Int), .string nm, .int .i64 s] 24))
        have Ax3x := hidp (Arr.new w3 24 [.int .u8 (k : Int), .string nm, .int .i64 s])
        obtain ⟨bx, hbx⟩ : ∃ b, w3.heap.size = b := ⟨_, rfl⟩
        generalize hWW : (w3.alloc (.cells #[.int .u8 (k : Int), .string nm, .int .i64 s] 24)) = W3x at HX3x Ad3x Ax3x ⊢
        rw [hbx] at Ax3x ⊢
        have hgex : w.heap.size ≤ bx := by rw [← hbx]; exact hle3
        clear hWW hbx
        refine (c3.out _ (HI.out.below HX3x.out (Nat.le_refl _))).mono ?_
        rintro e w4 ⟨rfl, hb4⟩
        have HB4 := hidp (HX3x.out.trans (hb4.mono HX3x.out.size))
        have hle4 := HB4.out.size
        have Ad4 := hidp (Ad3x.out.below hb4 Ad3x.out.lt)
        have hltd := Ad4.out.lt
        have Ax4 := hidp (Ax3x.out.below hb4 Ax3x.out.lt)
        have hltx := Ax4.out.lt
        clear hb4
        go_wp2_with fail
        have HX4z := hidp (HB4.out.alloc hle4 (.cells #[.int .u8 1, .string nm2, .int .i64 (n : Int)] 24))
        have Ad4z := hidp (Ad4.out.alloc (.cells #[.int .u8 1, .string nm2, .int .i64 (n : Int)] 24))
        have Ax4z := hidp (Ax4.out.alloc (.cells #[.int .u8 1, .string nm2, .int .i64 (n : Int)] 24))
        have Az4z := hidp (Arr.new w4 24 [.int .u8 1, .string nm2, .int .i64 (n : Int)])
        obtain ⟨bz, hbz⟩ : ∃ b, w4.heap.size = b := ⟨_, rfl⟩
        generalize hWW : (w4.alloc (.cells #[.int .u8 1, .string nm2, .int .i64 (n : Int)] 24)) = W4z at HX4z Ad4z Ax4z Az4z ⊢
        rw [hbz] at Az4z ⊢
        have hgez : w.heap.size ≤ bz := by rw [← hbz]; exact hle4
        clear hWW hbz
        refine (c4.out _ (HI.out.below HX4z.out (Nat.le_refl _))).mono ?_
        rintro e w5 ⟨rfl, hb5⟩
        have HB5 := hidp (HX4z.out.trans (hb5.mono HX4z.out.size))
        have hle5 := HB5.out.size
        have Ad5 := hidp (Ad4z.out.below hb5 Ad4z.out.lt)
        have hltd := Ad5.out.lt
        have Ax5 := hidp (Ax4z.out.below hb5 Ax4z.out.lt)
        have hltx := Ax5.out.lt
        have Az5 := hidp (Az4z.out.below hb5 Az4z.out.lt)
        have hltz := Az5.out.lt
        clear hb5
        go_wp2_with fail
        refine (c5.out _ (HI.out.below HB5.out (Nat.le_refl _))).mono ?_
        rintro e w6 ⟨rfl, hb6⟩
        have HB6 := hidp (HB5.out.trans (hb6.mono HB5.out.size))
        have hle6 := HB6.out.size
        have Ad6 := hidp (Ad5.out.below hb6 Ad5.out.lt)
        have hltd := Ad6.out.lt
        have Ax6 := hidp (Ax5.out.below hb6 Ax5.out.lt)
        have hltx := Ax6.out.lt
        have Az6 := hidp (Az5.out.below hb6 Az5.out.lt)
        have hltz := Az6.out.lt
        clear hb6
        go_wp2_with fail
        refine (c6.out _ (HI.out.below HB6.out (Nat.le_refl _))).mono ?_
        rintro e w7 ⟨rfl, hb7⟩
        have HB7 := hidp (HB6.out.trans (hb7.mono HB6.out.size))
        have hle7 := HB7.out.size
        have Ad7 := hidp (Ad6.out.below hb7 Ad6.out.lt)
        have hltd := Ad7.out.lt
        have Ax7 := hidp (Ax6.out.below hb7 Ax6.out.lt)
        have hltx := Ax7.out.lt
        have Az7 := hidp (Az6.out.below hb7 Az6.out.lt)
        have hltz := Az7.out.lt
        clear hb7
        obtain ⟨d0, d1, d2, df⟩ := arr3 Ad7.out
        clear df
        obtain ⟨x0, x1, x2, xf⟩ := arr3 Ax7.out
        clear xf
        go_wp2_with fail
        go_ret
        exact ⟨rfl, HB7.out⟩
      · rw [hp] at c3
        rw [who_other hp (by omega)] at c5
        rw [who_yes hp] at c6
        unfold idV idX at c3
        unfold whoV at c5 c6
        have c4 := hidp (show ∀ W, IT W → Calls Tryd.prog 9 #[.agg #[.int .u8 2, .string nm2, .int .i64 (n : Int)]] W fun e w' => e = .returned (.tuple #[.string t, .int .i64 0]) ∧ Below W.heap.size W w' from fun W h => by
          have := idText_any W 2 (by omega) nm2 (by omega) n h
          rw [idT_eq (t := t) (by simpa using ⟨hq1, hq2⟩), idE_ok hq1] at this
          exact this)
        clear hp hq1 hq2
        go_enter Tryd.func4, Tryd.ntmps4
        go_wp2_with fail
        have HX0d := hidp ((Below.refl w.heap.size w).alloc (Nat.le_refl _) (.cells #[.int .u8 (k : Int), .string nm, .int .i64 s] 24))
        have Ad0d := hidp (Arr.new w 24 [.int .u8 (k : Int), .string nm, .int .i64 s])
        obtain ⟨bd, hbd⟩ : ∃ b, w.heap.size = b := ⟨_, rfl⟩
        generalize hWW : (w.alloc (.cells #[.int .u8 (k : Int), .string nm, .int .i64 s] 24)) = W0d at HX0d Ad0d ⊢
        rw [hbd] at Ad0d ⊢
        have hged : w.heap.size ≤ bd := by omega
        clear hWW hbd
        refine (L.out _ (HI.out.below HX0d.out (Nat.le_refl _))).mono ?_
        rintro e w1 ⟨rfl, hb1⟩
        have HB1 := hidp (HX0d.out.trans (hb1.mono HX0d.out.size))
        have hle1 := HB1.out.size
        have Ad1 := hidp (Ad0d.out.below hb1 Ad0d.out.lt)
        have hltd := Ad1.out.lt
        clear hb1
        obtain ⟨d0, d1, d2, df⟩ := arr3 Ad1.out
        clear df
        go_wp2_with fail
        clear d0 d1 d2
        refine (c1.out _ (HI.out.below HB1.out (Nat.le_refl _))).mono ?_
        rintro e w2 ⟨rfl, hb2⟩
        have HB2 := hidp (HB1.out.trans (hb2.mono HB1.out.size))
        have hle2 := HB2.out.size
        have Ad2 := hidp (Ad1.out.below hb2 Ad1.out.lt)
        have hltd := Ad2.out.lt
        clear hb2
        go_wp2_with fail
        refine (c2.out _ (HI.out.below HB2.out (Nat.le_refl _))).mono ?_
        rintro e w3 ⟨rfl, hb3⟩
        have HB3 := hidp (HB2.out.trans (hb3.mono HB2.out.size))
        have hle3 := HB3.out.size
        have Ad3 := hidp (Ad2.out.below hb3 Ad2.out.lt)
        have hltd := Ad3.out.lt
        clear hb3
        go_wp2_with fail
        have HX3x := hidp (HB3.out.alloc hle3 (.cells #[.int .u8 (k : Int), .string nm, .int .i64 s] 24))
        have Ad3x := hidp (Ad3.out.alloc (.cells #[.int .u8 (k : Int), .string nm, .int .i64 s] 24))
        have Ax3x := hidp (Arr.new w3 24 [.int .u8 (k : Int), .string nm, .int .i64 s])
        obtain ⟨bx, hbx⟩ : ∃ b, w3.heap.size = b := ⟨_, rfl⟩
        generalize hWW : (w3.alloc (.cells #[.int .u8 (k : Int), .string nm, .int .i64 s] 24)) = W3x at HX3x Ad3x Ax3x ⊢
        rw [hbx] at Ax3x ⊢
        have hgex : w.heap.size ≤ bx := by rw [← hbx]; exact hle3
        clear hWW hbx
        refine (c3.out _ (HI.out.below HX3x.out (Nat.le_refl _))).mono ?_
        rintro e w4 ⟨rfl, hb4⟩
        have HB4 := hidp (HX3x.out.trans (hb4.mono HX3x.out.size))
        have hle4 := HB4.out.size
        have Ad4 := hidp (Ad3x.out.below hb4 Ad3x.out.lt)
        have hltd := Ad4.out.lt
        have Ax4 := hidp (Ax3x.out.below hb4 Ax3x.out.lt)
        have hltx := Ax4.out.lt
        clear hb4
        go_wp2_with fail
        have HX4z := hidp (HB4.out.alloc hle4 (.cells #[.int .u8 2, .string nm2, .int .i64 (n : Int)] 24))
        have Ad4z := hidp (Ad4.out.alloc (.cells #[.int .u8 2, .string nm2, .int .i64 (n : Int)] 24))
        have Ax4z := hidp (Ax4.out.alloc (.cells #[.int .u8 2, .string nm2, .int .i64 (n : Int)] 24))
        have Az4z := hidp (Arr.new w4 24 [.int .u8 2, .string nm2, .int .i64 (n : Int)])
        obtain ⟨bz, hbz⟩ : ∃ b, w4.heap.size = b := ⟨_, rfl⟩
        generalize hWW : (w4.alloc (.cells #[.int .u8 2, .string nm2, .int .i64 (n : Int)] 24)) = W4z at HX4z Ad4z Ax4z Az4z ⊢
        rw [hbz] at Az4z ⊢
        have hgez : w.heap.size ≤ bz := by rw [← hbz]; exact hle4
        clear hWW hbz
        refine (c4.out _ (HI.out.below HX4z.out (Nat.le_refl _))).mono ?_
        rintro e w5 ⟨rfl, hb5⟩
        have HB5 := hidp (HX4z.out.trans (hb5.mono HX4z.out.size))
        have hle5 := HB5.out.size
        have Ad5 := hidp (Ad4z.out.below hb5 Ad4z.out.lt)
        have hltd := Ad5.out.lt
        have Ax5 := hidp (Ax4z.out.below hb5 Ax4z.out.lt)
        have hltx := Ax5.out.lt
        have Az5 := hidp (Az4z.out.below hb5 Az4z.out.lt)
        have hltz := Az5.out.lt
        clear hb5
        go_wp2_with fail
        refine (c5.out _ (HI.out.below HB5.out (Nat.le_refl _))).mono ?_
        rintro e w6 ⟨rfl, hb6⟩
        have HB6 := hidp (HB5.out.trans (hb6.mono HB5.out.size))
        have hle6 := HB6.out.size
        have Ad6 := hidp (Ad5.out.below hb6 Ad5.out.lt)
        have hltd := Ad6.out.lt
        have Ax6 := hidp (Ax5.out.below hb6 Ax5.out.lt)
        have hltx := Ax6.out.lt
        have Az6 := hidp (Az5.out.below hb6 Az5.out.lt)
        have hltz := Az6.out.lt
        clear hb6
        go_wp2_with fail
        refine (c6.out _ (HI.out.below HB6.out (Nat.le_refl _))).mono ?_
        rintro e w7 ⟨rfl, hb7⟩
        have HB7 := hidp (HB6.out.trans (hb7.mono HB6.out.size))
        have hle7 := HB7.out.size
        have Ad7 := hidp (Ad6.out.below hb7 Ad6.out.lt)
        have hltd := Ad7.out.lt
        have Ax7 := hidp (Ax6.out.below hb7 Ax6.out.lt)
        have hltx := Ax7.out.lt
        have Az7 := hidp (Az6.out.below hb7 Az6.out.lt)
        have hltz := Az7.out.lt
        clear hb7
        obtain ⟨d0, d1, d2, df⟩ := arr3 Ad7.out
        clear df
        obtain ⟨x0, x1, x2, xf⟩ := arr3 Ax7.out
        clear xf
        go_wp2_with fail
        go_ret
        exact ⟨rfl, HB7.out⟩
  · have hT : idT k nm s = ⟨#[]⟩ := by unfold idT; rw [if_neg hok]; rfl
    rw [hT, idE_no hok] at c1
    have c2 := hidp (fun W (h : IT W) => parse_any W ⟨#[]⟩ (by simp [ByteArray.size]) h)
    rw [idP_nil (t := ⟨#[]⟩) rfl] at c2
    unfold idV idX at c2
    clear hT hok
    cases hp : idP t with
    | none =>
      rw [hp] at c3
      rw [who_no hp] at c5
      rw [who_no hp] at c6
      unfold idV idX at c3
      unfold whoV at c5 c6
      have c4 := hidp (show ∀ W, IT W → Calls Tryd.prog 9 #[.agg #[.int .u8 0, .string ⟨#[]⟩, .int .i64 0]] W fun e w' => e = .returned (.tuple #[.string ⟨#[]⟩, .int .i64 2]) ∧ Below W.heap.size W w' from fun W h => by
        have := idText_any W 0 (by omega) ⟨#[]⟩ (by simp [ByteArray.size]) 0 h
        rw [show idT 0 ⟨#[]⟩ 0 = ⟨#[]⟩ from by decide +kernel, show idE 0 ⟨#[]⟩ 0 = 2 from by decide +kernel] at this
        exact this)
      clear hp
      go_enter Tryd.func4, Tryd.ntmps4
      go_wp2_with fail
      have HX0d := hidp ((Below.refl w.heap.size w).alloc (Nat.le_refl _) (.cells #[.int .u8 (k : Int), .string nm, .int .i64 s] 24))
      have Ad0d := hidp (Arr.new w 24 [.int .u8 (k : Int), .string nm, .int .i64 s])
      obtain ⟨bd, hbd⟩ : ∃ b, w.heap.size = b := ⟨_, rfl⟩
      generalize hWW : (w.alloc (.cells #[.int .u8 (k : Int), .string nm, .int .i64 s] 24)) = W0d at HX0d Ad0d ⊢
      rw [hbd] at Ad0d ⊢
      have hged : w.heap.size ≤ bd := by omega
      clear hWW hbd
      refine (L.out _ (HI.out.below HX0d.out (Nat.le_refl _))).mono ?_
      rintro e w1 ⟨rfl, hb1⟩
      have HB1 := hidp (HX0d.out.trans (hb1.mono HX0d.out.size))
      have hle1 := HB1.out.size
      have Ad1 := hidp (Ad0d.out.below hb1 Ad0d.out.lt)
      have hltd := Ad1.out.lt
      clear hb1
      obtain ⟨d0, d1, d2, df⟩ := arr3 Ad1.out
      clear df
      go_wp2_with fail
      clear d0 d1 d2
      refine (c1.out _ (HI.out.below HB1.out (Nat.le_refl _))).mono ?_
      rintro e w2 ⟨rfl, hb2⟩
      have HB2 := hidp (HB1.out.trans (hb2.mono HB1.out.size))
      have hle2 := HB2.out.size
      have Ad2 := hidp (Ad1.out.below hb2 Ad1.out.lt)
      have hltd := Ad2.out.lt
      clear hb2
      go_wp2_with fail
      refine (c2.out _ (HI.out.below HB2.out (Nat.le_refl _))).mono ?_
      rintro e w3 ⟨rfl, hb3⟩
      have HB3 := hidp (HB2.out.trans (hb3.mono HB2.out.size))
      have hle3 := HB3.out.size
      have Ad3 := hidp (Ad2.out.below hb3 Ad2.out.lt)
      have hltd := Ad3.out.lt
      clear hb3
      go_wp2_with fail
      have HX3x := hidp (HB3.out.alloc hle3 (.cells #[.int .u8 0, .string ⟨#[]⟩, .int .i64 0] 24))
      have Ad3x := hidp (Ad3.out.alloc (.cells #[.int .u8 0, .string ⟨#[]⟩, .int .i64 0] 24))
      have Ax3x := hidp (Arr.new w3 24 [.int .u8 0, .string ⟨#[]⟩, .int .i64 0])
      obtain ⟨bx, hbx⟩ : ∃ b, w3.heap.size = b := ⟨_, rfl⟩
      generalize hWW : (w3.alloc (.cells #[.int .u8 0, .string ⟨#[]⟩, .int .i64 0] 24)) = W3x at HX3x Ad3x Ax3x ⊢
      rw [hbx] at Ax3x ⊢
      have hgex : w.heap.size ≤ bx := by rw [← hbx]; exact hle3
      clear hWW hbx
      refine (c3.out _ (HI.out.below HX3x.out (Nat.le_refl _))).mono ?_
      rintro e w4 ⟨rfl, hb4⟩
      have HB4 := hidp (HX3x.out.trans (hb4.mono HX3x.out.size))
      have hle4 := HB4.out.size
      have Ad4 := hidp (Ad3x.out.below hb4 Ad3x.out.lt)
      have hltd := Ad4.out.lt
      have Ax4 := hidp (Ax3x.out.below hb4 Ax3x.out.lt)
      have hltx := Ax4.out.lt
      clear hb4
      go_wp2_with fail
      have HX4z := hidp (HB4.out.alloc hle4 (.cells #[.int .u8 0, .string ⟨#[]⟩, .int .i64 0] 24))
      have Ad4z := hidp (Ad4.out.alloc (.cells #[.int .u8 0, .string ⟨#[]⟩, .int .i64 0] 24))
      have Ax4z := hidp (Ax4.out.alloc (.cells #[.int .u8 0, .string ⟨#[]⟩, .int .i64 0] 24))
      have Az4z := hidp (Arr.new w4 24 [.int .u8 0, .string ⟨#[]⟩, .int .i64 0])
      obtain ⟨bz, hbz⟩ : ∃ b, w4.heap.size = b := ⟨_, rfl⟩
      generalize hWW : (w4.alloc (.cells #[.int .u8 0, .string ⟨#[]⟩, .int .i64 0] 24)) = W4z at HX4z Ad4z Ax4z Az4z ⊢
      rw [hbz] at Az4z ⊢
      have hgez : w.heap.size ≤ bz := by rw [← hbz]; exact hle4
      clear hWW hbz
      refine (c4.out _ (HI.out.below HX4z.out (Nat.le_refl _))).mono ?_
      rintro e w5 ⟨rfl, hb5⟩
      have HB5 := hidp (HX4z.out.trans (hb5.mono HX4z.out.size))
      have hle5 := HB5.out.size
      have Ad5 := hidp (Ad4z.out.below hb5 Ad4z.out.lt)
      have hltd := Ad5.out.lt
      have Ax5 := hidp (Ax4z.out.below hb5 Ax4z.out.lt)
      have hltx := Ax5.out.lt
      have Az5 := hidp (Az4z.out.below hb5 Az4z.out.lt)
      have hltz := Az5.out.lt
      clear hb5
      go_wp2_with fail
      refine (c5.out _ (HI.out.below HB5.out (Nat.le_refl _))).mono ?_
      rintro e w6 ⟨rfl, hb6⟩
      have HB6 := hidp (HB5.out.trans (hb6.mono HB5.out.size))
      have hle6 := HB6.out.size
      have Ad6 := hidp (Ad5.out.below hb6 Ad5.out.lt)
      have hltd := Ad6.out.lt
      have Ax6 := hidp (Ax5.out.below hb6 Ax5.out.lt)
      have hltx := Ax6.out.lt
      have Az6 := hidp (Az5.out.below hb6 Az5.out.lt)
      have hltz := Az6.out.lt
      clear hb6
      go_wp2_with fail
      refine (c6.out _ (HI.out.below HB6.out (Nat.le_refl _))).mono ?_
      rintro e w7 ⟨rfl, hb7⟩
      have HB7 := hidp (HB6.out.trans (hb7.mono HB6.out.size))
      have hle7 := HB7.out.size
      have Ad7 := hidp (Ad6.out.below hb7 Ad6.out.lt)
      have hltd := Ad7.out.lt
      have Ax7 := hidp (Ax6.out.below hb7 Ax6.out.lt)
      have hltx := Ax7.out.lt
      have Az7 := hidp (Az6.out.below hb7 Az6.out.lt)
      have hltz := Az7.out.lt
      clear hb7
      obtain ⟨d0, d1, d2, df⟩ := arr3 Ad7.out
      clear df
      obtain ⟨x0, x1, x2, xf⟩ := arr3 Ax7.out
      clear xf
      go_wp2_with fail
      go_ret
      exact ⟨rfl, HB7.out⟩
    | some y =>
      obtain ⟨q, nm2, n⟩ := y
      obtain ⟨hq1, hq2⟩ := idP_some hp
      obtain ⟨-, -, -, hq3⟩ := idOk_name hq1
      have hq4 := idOk_size hq1
      rcases hq3 with rfl | rfl
      · rw [hp] at c3
        rw [who_yes hp] at c5
        rw [who_other hp (by omega)] at c6
        unfold idV idX at c3
        unfold whoV at c5 c6
        have c4 := hidp (show ∀ W, IT W → Calls Tryd.prog 9 #[.agg #[.int .u8 1, .string nm2, .int .i64 (n : Int)]] W fun e w' => e = .returned (.tuple #[.string t, .int .i64 0]) ∧ Below W.heap.size W w' from fun W h => by
          have := idText_any W 1 (by omega) nm2 (by omega) n h
          rw [idT_eq (t := t) (by simpa using ⟨hq1, hq2⟩), idE_ok hq1] at this
          exact this)
        clear hp hq1 hq2
        go_enter Tryd.func4, Tryd.ntmps4
        go_wp2_with fail
        have HX0d := hidp ((Below.refl w.heap.size w).alloc (Nat.le_refl _) (.cells #[.int .u8 (k : Int), .string nm, .int .i64 s] 24))
        have Ad0d := hidp (Arr.new w 24 [.int .u8 (k : Int), .string nm, .int .i64 s])
        obtain ⟨bd, hbd⟩ : ∃ b, w.heap.size = b := ⟨_, rfl⟩
        generalize hWW : (w.alloc (.cells #[.int .u8 (k : Int), .string nm, .int .i64 s] 24)) = W0d at HX0d Ad0d ⊢
        rw [hbd] at Ad0d ⊢
        have hged : w.heap.size ≤ bd := by omega
        clear hWW hbd
        refine (L.out _ (HI.out.below HX0d.out (Nat.le_refl _))).mono ?_
        rintro e w1 ⟨rfl, hb1⟩
        have HB1 := hidp (HX0d.out.trans (hb1.mono HX0d.out.size))
        have hle1 := HB1.out.size
        have Ad1 := hidp (Ad0d.out.below hb1 Ad0d.out.lt)
        have hltd := Ad1.out.lt
        clear hb1
        obtain ⟨d0, d1, d2, df⟩ := arr3 Ad1.out
        clear df
        go_wp2_with fail
        clear d0 d1 d2
        refine (c1.out _ (HI.out.below HB1.out (Nat.le_refl _))).mono ?_
        rintro e w2 ⟨rfl, hb2⟩
        have HB2 := hidp (HB1.out.trans (hb2.mono HB1.out.size))
        have hle2 := HB2.out.size
        have Ad2 := hidp (Ad1.out.below hb2 Ad1.out.lt)
        have hltd := Ad2.out.lt
        clear hb2
        go_wp2_with fail
        refine (c2.out _ (HI.out.below HB2.out (Nat.le_refl _))).mono ?_
        rintro e w3 ⟨rfl, hb3⟩
        have HB3 := hidp (HB2.out.trans (hb3.mono HB2.out.size))
        have hle3 := HB3.out.size
        have Ad3 := hidp (Ad2.out.below hb3 Ad2.out.lt)
        have hltd := Ad3.out.lt
        clear hb3
        go_wp2_with fail
        have HX3x := hidp (HB3.out.alloc hle3 (.cells #[.int .u8 0, .string ⟨#[]⟩, .int .i64 0] 24))
        have Ad3x := hidp (Ad3.out.alloc (.cells #[.int .u8 0, .string ⟨#[]⟩, .int .i64 0] 24))
        have Ax3x := hidp (Arr.new w3 24 [.int .u8 0, .string ⟨#[]⟩, .int .i64 0])
        obtain ⟨bx, hbx⟩ : ∃ b, w3.heap.size = b := ⟨_, rfl⟩
        generalize hWW : (w3.alloc (.cells #[.int .u8 0, .string ⟨#[]⟩, .int .i64 0] 24)) = W3x at HX3x Ad3x Ax3x ⊢
        rw [hbx] at Ax3x ⊢
        have hgex : w.heap.size ≤ bx := by rw [← hbx]; exact hle3
        clear hWW hbx
        refine (c3.out _ (HI.out.below HX3x.out (Nat.le_refl _))).mono ?_
        rintro e w4 ⟨rfl, hb4⟩
        have HB4 := hidp (HX3x.out.trans (hb4.mono HX3x.out.size))
        have hle4 := HB4.out.size
        have Ad4 := hidp (Ad3x.out.below hb4 Ad3x.out.lt)
        have hltd := Ad4.out.lt
        have Ax4 := hidp (Ax3x.out.below hb4 Ax3x.out.lt)
        have hltx := Ax4.out.lt
        clear hb4
        go_wp2_with fail
        have HX4z := hidp (HB4.out.alloc hle4 (.cells #[.int .u8 1, .string nm2, .int .i64 (n : Int)] 24))
        have Ad4z := hidp (Ad4.out.alloc (.cells #[.int .u8 1, .string nm2, .int .i64 (n : Int)] 24))
        have Ax4z := hidp (Ax4.out.alloc (.cells #[.int .u8 1, .string nm2, .int .i64 (n : Int)] 24))
        have Az4z := hidp (Arr.new w4 24 [.int .u8 1, .string nm2, .int .i64 (n : Int)])
        obtain ⟨bz, hbz⟩ : ∃ b, w4.heap.size = b := ⟨_, rfl⟩
        generalize hWW : (w4.alloc (.cells #[.int .u8 1, .string nm2, .int .i64 (n : Int)] 24)) = W4z at HX4z Ad4z Ax4z Az4z ⊢
        rw [hbz] at Az4z ⊢
        have hgez : w.heap.size ≤ bz := by rw [← hbz]; exact hle4
        clear hWW hbz
        refine (c4.out _ (HI.out.below HX4z.out (Nat.le_refl _))).mono ?_
        rintro e w5 ⟨rfl, hb5⟩
        have HB5 := hidp (HX4z.out.trans (hb5.mono HX4z.out.size))
        have hle5 := HB5.out.size
        have Ad5 := hidp (Ad4z.out.below hb5 Ad4z.out.lt)
        have hltd := Ad5.out.lt
        have Ax5 := hidp (Ax4z.out.below hb5 Ax4z.out.lt)
        have hltx := Ax5.out.lt
        have Az5 := hidp (Az4z.out.below hb5 Az4z.out.lt)
        have hltz := Az5.out.lt
        clear hb5
        go_wp2_with fail
        refine (c5.out _ (HI.out.below HB5.out (Nat.le_refl _))).mono ?_
        rintro e w6 ⟨rfl, hb6⟩
        have HB6 := hidp (HB5.out.trans (hb6.mono HB5.out.size))
        have hle6 := HB6.out.size
        have Ad6 := hidp (Ad5.out.below hb6 Ad5.out.lt)
        have hltd := Ad6.out.lt
        have Ax6 := hidp (Ax5.out.below hb6 Ax5.out.lt)
        have hltx := Ax6.out.lt
        have Az6 := hidp (Az5.out.below hb6 Az5.out.lt)
        have hltz := Az6.out.lt
        clear hb6
        go_wp2_with fail
        refine (c6.out _ (HI.out.below HB6.out (Nat.le_refl _))).mono ?_
        rintro e w7 ⟨rfl, hb7⟩
        have HB7 := hidp (HB6.out.trans (hb7.mono HB6.out.size))
        have hle7 := HB7.out.size
        have Ad7 := hidp (Ad6.out.below hb7 Ad6.out.lt)
        have hltd := Ad7.out.lt
        have Ax7 := hidp (Ax6.out.below hb7 Ax6.out.lt)
        have hltx := Ax7.out.lt
        have Az7 := hidp (Az6.out.below hb7 Az6.out.lt)
        have hltz := Az7.out.lt
        clear hb7
        obtain ⟨d0, d1, d2, df⟩ := arr3 Ad7.out
        clear df
        obtain ⟨x0, x1, x2, xf⟩ := arr3 Ax7.out
        clear xf
        go_wp2_with fail
        go_ret
        exact ⟨rfl, HB7.out⟩
      · rw [hp] at c3
        rw [who_other hp (by omega)] at c5
        rw [who_yes hp] at c6
        unfold idV idX at c3
        unfold whoV at c5 c6
        have c4 := hidp (show ∀ W, IT W → Calls Tryd.prog 9 #[.agg #[.int .u8 2, .string nm2, .int .i64 (n : Int)]] W fun e w' => e = .returned (.tuple #[.string t, .int .i64 0]) ∧ Below W.heap.size W w' from fun W h => by
          have := idText_any W 2 (by omega) nm2 (by omega) n h
          rw [idT_eq (t := t) (by simpa using ⟨hq1, hq2⟩), idE_ok hq1] at this
          exact this)
        clear hp hq1 hq2
        go_enter Tryd.func4, Tryd.ntmps4
        go_wp2_with fail
        have HX0d := hidp ((Below.refl w.heap.size w).alloc (Nat.le_refl _) (.cells #[.int .u8 (k : Int), .string nm, .int .i64 s] 24))
        have Ad0d := hidp (Arr.new w 24 [.int .u8 (k : Int), .string nm, .int .i64 s])
        obtain ⟨bd, hbd⟩ : ∃ b, w.heap.size = b := ⟨_, rfl⟩
        generalize hWW : (w.alloc (.cells #[.int .u8 (k : Int), .string nm, .int .i64 s] 24)) = W0d at HX0d Ad0d ⊢
        rw [hbd] at Ad0d ⊢
        have hged : w.heap.size ≤ bd := by omega
        clear hWW hbd
        refine (L.out _ (HI.out.below HX0d.out (Nat.le_refl _))).mono ?_
        rintro e w1 ⟨rfl, hb1⟩
        have HB1 := hidp (HX0d.out.trans (hb1.mono HX0d.out.size))
        have hle1 := HB1.out.size
        have Ad1 := hidp (Ad0d.out.below hb1 Ad0d.out.lt)
        have hltd := Ad1.out.lt
        clear hb1
        obtain ⟨d0, d1, d2, df⟩ := arr3 Ad1.out
        clear df
        go_wp2_with fail
        clear d0 d1 d2
        refine (c1.out _ (HI.out.below HB1.out (Nat.le_refl _))).mono ?_
        rintro e w2 ⟨rfl, hb2⟩
        have HB2 := hidp (HB1.out.trans (hb2.mono HB1.out.size))
        have hle2 := HB2.out.size
        have Ad2 := hidp (Ad1.out.below hb2 Ad1.out.lt)
        have hltd := Ad2.out.lt
        clear hb2
        go_wp2_with fail
        refine (c2.out _ (HI.out.below HB2.out (Nat.le_refl _))).mono ?_
        rintro e w3 ⟨rfl, hb3⟩
        have HB3 := hidp (HB2.out.trans (hb3.mono HB2.out.size))
        have hle3 := HB3.out.size
        have Ad3 := hidp (Ad2.out.below hb3 Ad2.out.lt)
        have hltd := Ad3.out.lt
        clear hb3
        go_wp2_with fail
        have HX3x := hidp (HB3.out.alloc hle3 (.cells #[.int .u8 0, .string ⟨#[]⟩, .int .i64 0] 24))
        have Ad3x := hidp (Ad3.out.alloc (.cells #[.int .u8 0, .string ⟨#[]⟩, .int .i64 0] 24))
        have Ax3x := hidp (Arr.new w3 24 [.int .u8 0, .string ⟨#[]⟩, .int .i64 0])
        obtain ⟨bx, hbx⟩ : ∃ b, w3.heap.size = b := ⟨_, rfl⟩
        generalize hWW : (w3.alloc (.cells #[.int .u8 0, .string ⟨#[]⟩, .int .i64 0] 24)) = W3x at HX3x Ad3x Ax3x ⊢
        rw [hbx] at Ax3x ⊢
        have hgex : w.heap.size ≤ bx := by rw [← hbx]; exact hle3
        clear hWW hbx
        refine (c3.out _ (HI.out.below HX3x.out (Nat.le_refl _))).mono ?_
        rintro e w4 ⟨rfl, hb4⟩
        have HB4 := hidp (HX3x.out.trans (hb4.mono HX3x.out.size))
        have hle4 := HB4.out.size
        have Ad4 := hidp (Ad3x.out.below hb4 Ad3x.out.lt)
        have hltd := Ad4.out.lt
        have Ax4 := hidp (Ax3x.out.below hb4 Ax3x.out.lt)
        have hltx := Ax4.out.lt
        clear hb4
        go_wp2_with fail
        have HX4z := hidp (HB4.out.alloc hle4 (.cells #[.int .u8 2, .string nm2, .int .i64 (n : Int)] 24))
        have Ad4z := hidp (Ad4.out.alloc (.cells #[.int .u8 2, .string nm2, .int .i64 (n : Int)] 24))
        have Ax4z := hidp (Ax4.out.alloc (.cells #[.int .u8 2, .string nm2, .int .i64 (n : Int)] 24))
        have Az4z := hidp (Arr.new w4 24 [.int .u8 2, .string nm2, .int .i64 (n : Int)])
        obtain ⟨bz, hbz⟩ : ∃ b, w4.heap.size = b := ⟨_, rfl⟩
        generalize hWW : (w4.alloc (.cells #[.int .u8 2, .string nm2, .int .i64 (n : Int)] 24)) = W4z at HX4z Ad4z Ax4z Az4z ⊢
        rw [hbz] at Az4z ⊢
        have hgez : w.heap.size ≤ bz := by rw [← hbz]; exact hle4
        clear hWW hbz
        refine (c4.out _ (HI.out.below HX4z.out (Nat.le_refl _))).mono ?_
        rintro e w5 ⟨rfl, hb5⟩
        have HB5 := hidp (HX4z.out.trans (hb5.mono HX4z.out.size))
        have hle5 := HB5.out.size
        have Ad5 := hidp (Ad4z.out.below hb5 Ad4z.out.lt)
        have hltd := Ad5.out.lt
        have Ax5 := hidp (Ax4z.out.below hb5 Ax4z.out.lt)
        have hltx := Ax5.out.lt
        have Az5 := hidp (Az4z.out.below hb5 Az4z.out.lt)
        have hltz := Az5.out.lt
        clear hb5
        go_wp2_with fail
        refine (c5.out _ (HI.out.below HB5.out (Nat.le_refl _))).mono ?_
        rintro e w6 ⟨rfl, hb6⟩
        have HB6 := hidp (HB5.out.trans (hb6.mono HB5.out.size))
        have hle6 := HB6.out.size
        have Ad6 := hidp (Ad5.out.below hb6 Ad5.out.lt)
        have hltd := Ad6.out.lt
        have Ax6 := hidp (Ax5.out.below hb6 Ax5.out.lt)
        have hltx := Ax6.out.lt
        have Az6 := hidp (Az5.out.below hb6 Az5.out.lt)
        have hltz := Az6.out.lt
        clear hb6
        go_wp2_with fail
        refine (c6.out _ (HI.out.below HB6.out (Nat.le_refl _))).mono ?_
        rintro e w7 ⟨rfl, hb7⟩
        have HB7 := hidp (HB6.out.trans (hb7.mono HB6.out.size))
        have hle7 := HB7.out.size
        have Ad7 := hidp (Ad6.out.below hb7 Ad6.out.lt)
        have hltd := Ad7.out.lt
        have Ax7 := hidp (Ax6.out.below hb7 Ax6.out.lt)
        have hltx := Ax7.out.lt
        have Az7 := hidp (Az6.out.below hb7 Az6.out.lt)
        have hltz := Az7.out.lt
        clear hb7
        obtain ⟨d0, d1, d2, df⟩ := arr3 Ad7.out
        clear df
        obtain ⟨x0, x1, x2, xf⟩ := arr3 Ax7.out
        clear xf
        go_wp2_with fail
        go_ret
        exact ⟨rfl, HB7.out⟩
end Go.Proofs.YthcmabaplaejnaaDoor
