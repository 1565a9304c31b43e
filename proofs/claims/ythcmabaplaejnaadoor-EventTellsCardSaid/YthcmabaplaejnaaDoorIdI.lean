/-
  The laws on ident: two identifiers compared; the answers asked for first; the walks.
-/
import Derived.Test.YthcmabaplaejnaaDoorIdH
namespace Go.Proofs.YthcmabaplaejnaaDoor
set_option maxRecDepth 100000
set_option linter.unusedVariables false
set_option linter.unusedSimpArgs false
open Go.RowKit

theorem eqin_ident (W : World) (k : Int) (s : ByteArray) (r : Int) :
    (Op.equalIn 10000 24 (.agg #[.int .u8 k, .string s, .int .i64 r]) (.agg #[.int .u8 k, .string s, .int .i64 r])).run Tryd.prog W = .ok true W := by
  have ht : Tryd.prog.underlying 24 = some (.struct (Tryd.prog.fieldsOf 24)) := by kernel_rfl
  have hp : Tryd.prog.stoodInHeld 24 = false := by kernel_rfl
  have hu := Tryd.underlying24
  have hus := Tryd.underlying9
  have hui := Tryd.underlying3
  have huk := Tryd.underlying22
  rw [run_equalIn_agg W 9999 _ _ _ ht hp]
  unfold Program.fieldsOf
  rw [hu]
  go_simp
theorem eq_ident (W : World) (k : Int) (s : ByteArray) (r : Int) :
    (binOp .eql 24 (.agg #[.int .u8 k, .string s, .int .i64 r]) (.agg #[.int .u8 k, .string s, .int .i64 r])).run Tryd.prog W = .ok (.bool true) W := by
  rw [run_eql_struct, eqin_ident]; rfl
theorem neq_ident (W : World) (k : Int) (s : ByteArray) (r : Int) :
    (binOp .neq 24 (.agg #[.int .u8 k, .string s, .int .i64 r]) (.agg #[.int .u8 k, .string s, .int .i64 r])).run Tryd.prog W = .ok (.bool false) W := by
  rw [run_neq_struct, eqin_ident]; rfl
theorem whoV_form (o : Option Nat) : ∃ a b, whoV o = .tuple #[.int .i64 a, .bool b] := by cases o with
  | none => exact ⟨_, _, rfl⟩
  | some n => exact ⟨_, _, rfl⟩
theorem idV_form (o : Option (Nat × ByteArray × Nat)) : ∃ (k : Nat) (s : ByteArray) (n : Int), idV o = .agg #[.int .u8 (k : Int), .string s, .int .i64 n] ∧ k < 256 ∧ s.size ≤ 281474976710656 ∨ ¬ (∀ k s n, o = some (k, s, n) → k < 256 ∧ s.size ≤ 281474976710656) := by
  cases o with
  | none => exact ⟨0, ⟨#[]⟩, 0, .inl ⟨rfl, by omega, by simp [ByteArray.size]⟩⟩
  | some x =>
    obtain ⟨k, s, n⟩ := x
    by_cases h : k < 256 ∧ s.size ≤ 281474976710656
    · exact ⟨k, s, n, .inl ⟨rfl, h.1, h.2⟩⟩
    · exact ⟨k, s, n, .inr fun hh => h (hh k s n rfl)⟩
/-- What a parse hands back, as a value. -/
theorem idP_form (t : ByteArray) : ∃ (k : Nat) (s : ByteArray) (n : Int), idV (idP t) = .agg #[.int .u8 (k : Int), .string s, .int .i64 n] ∧ k < 256 ∧ s.size ≤ 281474976710656 := by
  obtain ⟨k, s, n, h | h⟩ := idV_form (idP t)
  · exact ⟨k, s, n, h⟩
  · exfalso; apply h
    intro k s n hp
    obtain ⟨h1, -⟩ := idP_some hp
    have h2 := idOk_size h1
    obtain ⟨-, -, -, h3⟩ := idOk_name h1
    exact ⟨by omega, by omega⟩

set_option maxHeartbeats 8000000 in
theorem lives11_any (w : World) (hI : IT w) : Calls Tryd.prog 8 #[] w fun e w' => e = .returned (.bool true) ∧ Below w.heap.size w w' := by
  have c1 := hidp (show ∀ W, IT W → Calls Tryd.prog 9 #[.agg #[.int .u8 1, .string ⟨#[97, 110, 110]⟩, .int .i64 3]] W fun e w' => e = .returned (.tuple #[.string ⟨#[64, 97, 110, 110, 58, 51]⟩, .int .i64 0]) ∧ Below W.heap.size W w' from fun W h => by
    have := idText_any W 1 (by omega) ⟨#[97, 110, 110]⟩ (by decide) 3 h
    rw [show idT 1 ⟨#[97, 110, 110]⟩ 3 = ⟨#[64, 97, 110, 110, 58, 51]⟩ from by decide +kernel, show idE 1 ⟨#[97, 110, 110]⟩ 3 = 0 from by decide +kernel] at this
    exact this)
  have c2 := hidp (show ∀ W, IT W → Calls Tryd.prog 11 #[.string ⟨#[33, 104, 97, 108, 108, 58, 48]⟩] W fun e w' => e = .returned (.tuple #[.agg #[.int .u8 2, .string ⟨#[104, 97, 108, 108]⟩, .int .i64 0], .int .i64 0]) ∧ Below W.heap.size W w' from fun W h => by
    have := parse_any W ⟨#[33, 104, 97, 108, 108, 58, 48]⟩ (by decide) h
    rw [show idP ⟨#[33, 104, 97, 108, 108, 58, 48]⟩ = some (2, ⟨#[104, 97, 108, 108]⟩, 0) from by decide +kernel] at this
    exact this)
  have c3 := hidp (show ∀ W, IT W → Calls Tryd.prog 11 #[.string ⟨#[64, 97, 110, 110, 58, 48, 51]⟩] W fun e w' => e = .returned (.tuple #[.agg #[.int .u8 0, .string ⟨#[]⟩, .int .i64 0], .int .i64 6]) ∧ Below W.heap.size W w' from fun W h => by
    have := parse_any W ⟨#[64, 97, 110, 110, 58, 48, 51]⟩ (by decide) h
    rw [show idP ⟨#[64, 97, 110, 110, 58, 48, 51]⟩ = none from by decide +kernel] at this
    exact this)
  have c4 := hidp (show ∀ W, IT W → Calls Tryd.prog 9 #[.agg #[.int .u8 1, .string ⟨#[]⟩, .int .i64 0]] W fun e w' => e = .returned (.tuple #[.string ⟨#[]⟩, .int .i64 2]) ∧ Below W.heap.size W w' from fun W h => by
    have := idText_any W 1 (by omega) ⟨#[]⟩ (by decide) 0 h
    rw [show idT 1 ⟨#[]⟩ 0 = ⟨#[]⟩ from by decide +kernel, show idE 1 ⟨#[]⟩ 0 = 2 from by decide +kernel] at this
    exact this)
  have c5 := hidp (show ∀ W, IT W → Calls Tryd.prog 13 #[.string ⟨#[64, 97, 110, 110, 58, 51]⟩] W fun e w' => e = .returned (.tuple #[.int .i64 3, .bool true]) ∧ Below W.heap.size W w' from fun W h => by
    have := user_any W ⟨#[64, 97, 110, 110, 58, 51]⟩ (by decide) h
    rw [show who 1 ⟨#[64, 97, 110, 110, 58, 51]⟩ = some 3 from by decide +kernel] at this
    exact this)
  have c6 := hidp (show ∀ W, IT W → Calls Tryd.prog 15 #[.string ⟨#[64, 97, 110, 110, 58, 51]⟩] W fun e w' => e = .returned (.tuple #[.int .i64 0, .bool false]) ∧ Below W.heap.size W w' from fun W h => by
    have := room_any W ⟨#[64, 97, 110, 110, 58, 51]⟩ (by decide) h
    rw [show who 2 ⟨#[64, 97, 110, 110, 58, 51]⟩ = none from by decide +kernel] at this
    exact this)
  have q1 := fun W => eq_ident W 2 ⟨#[104, 97, 108, 108]⟩ 0
  have HI := hidp hI
  clear hI
  go_enter Tryd.func8, Tryd.ntmps8
  go_wp2_with fail
  refine (c1.out _ (HI.out.below (Below.refl w.heap.size w) (Nat.le_refl _))).mono ?_
  rintro e w1 ⟨rfl, hb1⟩
  have HB1 := hidp ((Below.refl w.heap.size w).trans (hb1.mono (Below.refl w.heap.size w).size))
  have hle1 := HB1.out.size
  clear hb1
  go_wp2_with fail
  refine (c2.out _ (HI.out.below HB1.out (Nat.le_refl _))).mono ?_
  rintro e w2 ⟨rfl, hb2⟩
  have HB2 := hidp (HB1.out.trans (hb2.mono HB1.out.size))
  have hle2 := HB2.out.size
  clear hb2
  go_wp2_with fail
  have HX2x := hidp (HB2.out.alloc hle2 (.cells #[.int .u8 2, .string ⟨#[104, 97, 108, 108]⟩, .int .i64 0] 24))
  have Ax2x := hidp (Arr.new w2 24 [.int .u8 2, .string ⟨#[104, 97, 108, 108]⟩, .int .i64 0])
  obtain ⟨bx, hbx⟩ : ∃ b, w2.heap.size = b := ⟨_, rfl⟩
  generalize hWW : (w2.alloc (.cells #[.int .u8 2, .string ⟨#[104, 97, 108, 108]⟩, .int .i64 0] 24)) = W2x at HX2x Ax2x ⊢
  rw [hbx] at Ax2x ⊢
  have hgex : w.heap.size ≤ bx := by rw [← hbx]; exact hle2
  clear hWW hbx
  refine (c3.out _ (HI.out.below HX2x.out (Nat.le_refl _))).mono ?_
  rintro e w3 ⟨rfl, hb3⟩
  have HB3 := hidp (HX2x.out.trans (hb3.mono HX2x.out.size))
  have hle3 := HB3.out.size
  have Ax3 := hidp (Ax2x.out.below hb3 Ax2x.out.lt)
  have hltx := Ax3.out.lt
  clear hb3
  go_wp2_with fail
  have HX3z := hidp (HB3.out.alloc hle3 (.cells #[.int .u8 0, .string ⟨#[]⟩, .int .i64 0] 24))
  have Ax3z := hidp (Ax3.out.alloc (.cells #[.int .u8 0, .string ⟨#[]⟩, .int .i64 0] 24))
  have Az3z := hidp (Arr.new w3 24 [.int .u8 0, .string ⟨#[]⟩, .int .i64 0])
  obtain ⟨bz, hbz⟩ : ∃ b, w3.heap.size = b := ⟨_, rfl⟩
  generalize hWW : (w3.alloc (.cells #[.int .u8 0, .string ⟨#[]⟩, .int .i64 0] 24)) = W3z at HX3z Ax3z Az3z ⊢
  rw [hbz] at Az3z ⊢
  have hgez : w.heap.size ≤ bz := by rw [← hbz]; exact hle3
  clear hWW hbz
  refine (c4.out _ (HI.out.below HX3z.out (Nat.le_refl _))).mono ?_
  rintro e w4 ⟨rfl, hb4⟩
  have HB4 := hidp (HX3z.out.trans (hb4.mono HX3z.out.size))
  have hle4 := HB4.out.size
  have Ax4 := hidp (Ax3z.out.below hb4 Ax3z.out.lt)
  have hltx := Ax4.out.lt
  have Az4 := hidp (Az3z.out.below hb4 Az3z.out.lt)
  have hltz := Az4.out.lt
  clear hb4
  go_wp2_with fail
  refine (c5.out _ (HI.out.below HB4.out (Nat.le_refl _))).mono ?_
  rintro e w5 ⟨rfl, hb5⟩
  have HB5 := hidp (HB4.out.trans (hb5.mono HB4.out.size))
  have hle5 := HB5.out.size
  have Ax5 := hidp (Ax4.out.below hb5 Ax4.out.lt)
  have hltx := Ax5.out.lt
  have Az5 := hidp (Az4.out.below hb5 Az4.out.lt)
  have hltz := Az5.out.lt
  clear hb5
  go_wp2_with fail
  refine (c6.out _ (HI.out.below HB5.out (Nat.le_refl _))).mono ?_
  rintro e w6 ⟨rfl, hb6⟩
  have HB6 := hidp (HB5.out.trans (hb6.mono HB5.out.size))
  have hle6 := HB6.out.size
  have Ax6 := hidp (Ax5.out.below hb6 Ax5.out.lt)
  have hltx := Ax6.out.lt
  have Az6 := hidp (Az5.out.below hb6 Az5.out.lt)
  have hltz := Az6.out.lt
  clear hb6
  obtain ⟨x0, x1, x2, xf⟩ := arr3 Ax6.out
  clear xf
  go_wp2_with fail
  go_ret
  exact ⟨rfl, HB6.out⟩

set_option maxHeartbeats 8000000 in
theorem walk_identTells (w : World) (k : Nat) (hk : k < 256) (nm : ByteArray) (hnm : nm.size ≤ 140737488351232) (s : Int) (t : ByteArray) (hs : t.size ≤ 140737488351232) (hI : IT w) :
    Calls Tryd.prog 3 #[.agg #[.int .u8 (k : Int), .string nm, .int .i64 s], .string t] w fun e w' => e = .returned (.bool true) ∧ Below w.heap.size w w' := by
  have L := hidp (fun W (h : IT W) => lives11_any W h)
  have HI := hidp hI
  clear hI
  have c1 := hidp (fun W (h : IT W) => idText_any W k hk nm (by omega) s h)
  have c2 := hidp (fun W => rtext_any W k hk nm (by omega) s)
  have c3 := hidp (fun W (h : IT W) => parse_any W t (by omega) h)
  have c4 := hidp (fun W => rparse_any W t (by omega))
  have c5 := hidp (fun W (h : IT W) => user_any W t (by omega) h)
  have c6 := hidp (fun W => ruser_any W t (by omega))
  have c7 := hidp (fun W (h : IT W) => room_any W t (by omega) h)
  have c8 := hidp (fun W => rroom_any W t (by omega))
  obtain ⟨S, hS⟩ : ∃ x, idT k nm s = x := ⟨_, rfl⟩
  obtain ⟨E, hE⟩ : ∃ x, idE k nm s = x := ⟨_, rfl⟩
  obtain ⟨pk, ps, pn, hp, -, -⟩ := idP_form t
  obtain ⟨X, hX⟩ : ∃ x, idX (idP t) = x := ⟨_, rfl⟩
  obtain ⟨a1, b1, h1⟩ := whoV_form (who 1 t)
  obtain ⟨a2, b2, h2⟩ := whoV_form (who 2 t)
  rw [hS, hE] at c1 c2
  rw [hp, hX] at c3 c4
  rw [h1] at c5 c6
  rw [h2] at c7 c8
  clear hS hE hp hX h1 h2
  have q1 := fun W => eq_ident W pk ps pn
  by_cases hbig : 4096 < t.size
  · have e0 : decide ((4096 : Int) < (t.size : Int)) = true := by simp; omega
    have x0 : (4096 : Int) < (t.size : Int) := by omega
    clear hbig
    go_enter Tryd.func3, Tryd.ntmps3
    go_wp2_with fail
    have HX0d := hidp ((Below.refl w.heap.size w).alloc (Nat.le_refl _) (.cells #[.int .u8 (k : Int), .string nm, .int .i64 s] 24))
    have Ad0d := hidp (Arr.new w 24 [.int .u8 (k : Int), .string nm, .int .i64 s])
    obtain ⟨bd, hbd⟩ : ∃ b, w.heap.size = b := ⟨_, rfl⟩
    generalize hWW : (w.alloc (.cells #[.int .u8 (k : Int), .string nm, .int .i64 s] 24)) = W0d at HX0d Ad0d ⊢
    rw [hbd] at Ad0d ⊢
    have hged : w.heap.size ≤ bd := by omega
    clear hWW hbd
    refine (L.out _ (HI.out.below HX0d.out (Nat.le_refl _))).mono ?_
    rintro e w1 ⟨rfl, hb1⟩
    have HB1 := hidp (HX0d.out.trans (hb1.mono HX0d.out.size))
    have hle1 := HB1.out.size
    have Ad1 := hidp (Ad0d.out.below hb1 Ad0d.out.lt)
    have hltd := Ad1.out.lt
    clear hb1
    go_wp2_with fail
    go_ret
    exact ⟨rfl, HB1.out⟩
  · have e0 : decide ((4096 : Int) < (t.size : Int)) = false := by simp; omega
    have x0 : ¬ (4096 : Int) < (t.size : Int) := by omega
    clear hbig
    go_enter Tryd.func3, Tryd.ntmps3
    go_wp2_with fail
    have HX0d := hidp ((Below.refl w.heap.size w).alloc (Nat.le_refl _) (.cells #[.int .u8 (k : Int), .string nm, .int .i64 s] 24))
    have Ad0d := hidp (Arr.new w 24 [.int .u8 (k : Int), .string nm, .int .i64 s])
    obtain ⟨bd, hbd⟩ : ∃ b, w.heap.size = b := ⟨_, rfl⟩
    generalize hWW : (w.alloc (.cells #[.int .u8 (k : Int), .string nm, .int .i64 s] 24)) = W0d at HX0d Ad0d ⊢
    rw [hbd] at Ad0d ⊢
    have hged : w.heap.size ≤ bd := by omega
    clear hWW hbd
    refine (c1.out _ (HI.out.below HX0d.out (Nat.le_refl _))).mono ?_
    rintro e w1 ⟨rfl, hb1⟩
    have HB1 := hidp (HX0d.out.trans (hb1.mono HX0d.out.size))
    have hle1 := HB1.out.size
    have Ad1 := hidp (Ad0d.out.below hb1 Ad0d.out.lt)
    have hltd := Ad1.out.lt
    clear hb1
    obtain ⟨d0, d1, d2, df⟩ := arr3 Ad1.out
    clear df
    go_wp2_with fail
    clear d0 d1 d2
    refine (c2.out _).mono ?_
    rintro e w2 ⟨rfl, hb2⟩
    have HB2 := hidp (HB1.out.trans (hb2.mono HB1.out.size))
    have hle2 := HB2.out.size
    have Ad2 := hidp (Ad1.out.below hb2 Ad1.out.lt)
    have hltd := Ad2.out.lt
    clear hb2
    go_wp2_with fail
    refine (c3.out _ (HI.out.below HB2.out (Nat.le_refl _))).mono ?_
    rintro e w3 ⟨rfl, hb3⟩
    have HB3 := hidp (HB2.out.trans (hb3.mono HB2.out.size))
    have hle3 := HB3.out.size
    have Ad3 := hidp (Ad2.out.below hb3 Ad2.out.lt)
    have hltd := Ad3.out.lt
    clear hb3
    go_wp2_with fail
    have HX3x := hidp (HB3.out.alloc hle3 (.cells #[.int .u8 (pk : Int), .string ps, .int .i64 pn] 24))
    have Ad3x := hidp (Ad3.out.alloc (.cells #[.int .u8 (pk : Int), .string ps, .int .i64 pn] 24))
    have Ax3x := hidp (Arr.new w3 24 [.int .u8 (pk : Int), .string ps, .int .i64 pn])
    obtain ⟨bx, hbx⟩ : ∃ b, w3.heap.size = b := ⟨_, rfl⟩
    generalize hWW : (w3.alloc (.cells #[.int .u8 (pk : Int), .string ps, .int .i64 pn] 24)) = W3x at HX3x Ad3x Ax3x ⊢
    rw [hbx] at Ax3x ⊢
    have hgex : w.heap.size ≤ bx := by rw [← hbx]; exact hle3
    clear hWW hbx
    refine (c4.out _).mono ?_
    rintro e w4 ⟨rfl, hb4⟩
    have HB4 := hidp (HX3x.out.trans (hb4.mono HX3x.out.size))
    have hle4 := HB4.out.size
    have Ad4 := hidp (Ad3x.out.below hb4 Ad3x.out.lt)
    have hltd := Ad4.out.lt
    have Ax4 := hidp (Ax3x.out.below hb4 Ax3x.out.lt)
    have hltx := Ax4.out.lt
    clear hb4
    go_wp2_with fail
    have HX4z := hidp (HB4.out.alloc hle4 (.cells #[.int .u8 (pk : Int), .string ps, .int .i64 pn] 24))
    have Ad4z := hidp (Ad4.out.alloc (.cells #[.int .u8 (pk : Int), .string ps, .int .i64 pn] 24))
    have Ax4z := hidp (Ax4.out.alloc (.cells #[.int .u8 (pk : Int), .string ps, .int .i64 pn] 24))
    have Az4z := hidp (Arr.new w4 24 [.int .u8 (pk : Int), .string ps, .int .i64 pn])
    obtain ⟨bz, hbz⟩ : ∃ b, w4.heap.size = b := ⟨_, rfl⟩
    generalize hWW : (w4.alloc (.cells #[.int .u8 (pk : Int), .string ps, .int .i64 pn] 24)) = W4z at HX4z Ad4z Ax4z Az4z ⊢
    rw [hbz] at Az4z ⊢
    have hgez : w.heap.size ≤ bz := by rw [← hbz]; exact hle4
    clear hWW hbz
    refine (c5.out _ (HI.out.below HX4z.out (Nat.le_refl _))).mono ?_
    rintro e w5 ⟨rfl, hb5⟩
    have HB5 := hidp (HX4z.out.trans (hb5.mono HX4z.out.size))
    have hle5 := HB5.out.size
    have Ad5 := hidp (Ad4z.out.below hb5 Ad4z.out.lt)
    have hltd := Ad5.out.lt
    have Ax5 := hidp (Ax4z.out.below hb5 Ax4z.out.lt)
    have hltx := Ax5.out.lt
    have Az5 := hidp (Az4z.out.below hb5 Az4z.out.lt)
    have hltz := Az5.out.lt
    clear hb5
    go_wp2_with fail
    refine (c6.out _).mono ?_
    rintro e w6 ⟨rfl, hb6⟩
    have HB6 := hidp (HB5.out.trans (hb6.mono HB5.out.size))
    have hle6 := HB6.out.size
    have Ad6 := hidp (Ad5.out.below hb6 Ad5.out.lt)
    have hltd := Ad6.out.lt
    have Ax6 := hidp (Ax5.out.below hb6 Ax5.out.lt)
    have hltx := Ax6.out.lt
    have Az6 := hidp (Az5.out.below hb6 Az5.out.lt)
    have hltz := Az6.out.lt
    clear hb6
    go_wp2_with fail
    refine (c7.out _ (HI.out.below HB6.out (Nat.le_refl _))).mono ?_
    rintro e w7 ⟨rfl, hb7⟩
    have HB7 := hidp (HB6.out.trans (hb7.mono HB6.out.size))
    have hle7 := HB7.out.size
    have Ad7 := hidp (Ad6.out.below hb7 Ad6.out.lt)
    have hltd := Ad7.out.lt
    have Ax7 := hidp (Ax6.out.below hb7 Ax6.out.lt)
    have hltx := Ax7.out.lt
    have Az7 := hidp (Az6.out.below hb7 Az6.out.lt)
    have hltz := Az7.out.lt
    clear hb7
    go_wp2_with fail
    refine (c8.out _).mono ?_
    rintro e w8 ⟨rfl, hb8⟩
    have HB8 := hidp (HB7.out.trans (hb8.mono HB7.out.size))
    have hle8 := HB8.out.size
    have Ad8 := hidp (Ad7.out.below hb8 Ad7.out.lt)
    have hltd := Ad8.out.lt
    have Ax8 := hidp (Ax7.out.below hb8 Ax7.out.lt)
    have hltx := Ax8.out.lt
    have Az8 := hidp (Az7.out.below hb8 Az7.out.lt)
    have hltz := Az8.out.lt
    clear hb8
    go_wp2_with fail
    refine (L.out _ (HI.out.below HB8.out (Nat.le_refl _))).mono ?_
    rintro e w9 ⟨rfl, hb9⟩
    have HB9 := hidp (HB8.out.trans (hb9.mono HB8.out.size))
    have hle9 := HB9.out.size
    have Ad9 := hidp (Ad8.out.below hb9 Ad8.out.lt)
    have hltd := Ad9.out.lt
    have Ax9 := hidp (Ax8.out.below hb9 Ax8.out.lt)
    have hltx := Ax9.out.lt
    have Az9 := hidp (Az8.out.below hb9 Az8.out.lt)
    have hltz := Az9.out.lt
    clear hb9
    obtain ⟨x0, x1, x2, xf⟩ := arr3 Ax9.out
    clear xf
    obtain ⟨z0, z1, z2, zf⟩ := arr3 Az9.out
    clear zf
    go_wp2_with fail
    go_ret
    exact ⟨rfl, HB9.out⟩
end Go.Proofs.YthcmabaplaejnaaDoor
