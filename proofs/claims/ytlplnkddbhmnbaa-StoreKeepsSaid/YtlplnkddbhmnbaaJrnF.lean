/-
  journal: the answers that the laws ask for first; the walks of JournalReads and JournalAdds.
-/
import Derived.Test.YtlplnkddbhmnbaaJrnE
import Derived.Test.YtlplnkddbhmnbaaDskE
namespace Go.Proofs.Ytlplnkddbhmnbaa
set_option maxRecDepth 100000
set_option linter.unusedVariables false
set_option linter.unusedSimpArgs false
open Go.RowKit

theorem encT_ab : encT ⟨#[97, 98]⟩ = [2, 97, 98] := by
  unfold encT; rw [show (ByteArray.mk #[97, 98]).size = 2 from rfl, encN_lt (by omega)]; rfl
theorem encT_c : encT ⟨#[99]⟩ = [1, 99] := by
  unfold encT; rw [show (ByteArray.mk #[99]).size = 1 from rfl, encN_lt (by omega)]; rfl
theorem byt_ab : bytesL (sumL [2, 97, 98]) = [162, 14, 66, 65] := by decide +kernel
theorem byt_c : bytesL (sumL [1, 99]) = [115, 72, 69, 239] := by decide +kernel
theorem rec_ab : recB ⟨#[97, 98]⟩ = [2, 97, 98, 162, 14, 66, 65] := by unfold recB; rw [encT_ab, byt_ab]; rfl
theorem rec_c : recB ⟨#[99]⟩ = [1, 99, 115, 72, 69, 239] := by unfold recB; rw [encT_c, byt_c]; rfl
theorem cat_abc : cat [⟨#[97, 98]⟩, ⟨#[99]⟩] = [2, 97, 98, 162, 14, 66, 65, 1, 99, 115, 72, 69, 239] := by
  rw [cat_cons, cat_cons, cat_nil, rec_ab, rec_c]; rfl
theorem small_abc : ∀ t ∈ [(⟨#[97, 98]⟩ : ByteArray), ⟨#[99]⟩], t.size ≤ 8192 := by
  intro t ht; simp at ht; rcases ht with rfl | rfl <;> decide
theorem rd1 : rdT [2, 97, 98, 162, 14, 66, 65, 1, 99, 115, 72, 69, 239, 1] = [⟨#[97, 98]⟩, ⟨#[99]⟩] := by
  have h := rdT_cat [⟨#[97, 98]⟩, ⟨#[99]⟩] small_abc [1]
  rw [cat_abc, rdT_none (l := [1]) (by decide +kernel)] at h
  exact h
theorem rd2 : rdT [2, 97, 98, 162, 14, 66, 65, 1, 99, 115, 72, 69, 239, 1, 100] = [⟨#[97, 98]⟩, ⟨#[99]⟩] := by
  have h := rdT_cat [⟨#[97, 98]⟩, ⟨#[99]⟩] small_abc [1, 100]
  rw [cat_abc, rdT_none (l := [1, 100]) (by decide +kernel)] at h
  exact h

set_option maxHeartbeats 8000000 in
theorem lives9_any (w : World) : Calls Try.prog 10 #[] w fun e w' => e = .returned (.bool true) ∧ Below w.heap.size w w' := by
  have c1 := hidp (show ∀ W, Calls Try.prog 13 #[.string ⟨#[97, 98]⟩] W fun e w' => e = .returned (.tuple #[.string ⟨#[2, 97, 98, 162, 14, 66, 65]⟩, .int .i64 0]) ∧ Below W.heap.size W w' from fun W => by
    have := jbytes_any W ⟨#[97, 98]⟩ (by decide)
    rw [jbS_yes (by decide), textE_yes (by decide), rec_ab] at this
    exact this)
  have c2 := hidp (show ∀ W, Calls Try.prog 20 #[.int .i64 100] W fun e w' => e = .returned (.tuple #[.agg #[.string ⟨#[]⟩, .int .i64 0, .int .i64 100], .int .i64 0]) ∧ Below W.heap.size W w' from fun W => by
    exact new_ok W 100 (by omega) (by omega))
  have c3 := hidp (show ∀ W, Calls Try.prog 16 #[.agg #[.string ⟨#[]⟩, .int .i64 0, .int .i64 100], .string ⟨#[97, 98]⟩] W fun e w' => e = .returned (.tuple #[.agg #[.string ⟨#[2, 97, 98, 162, 14, 66, 65]⟩, .int .i64 0, .int .i64 100], .int .i64 0]) ∧ Below W.heap.size W w' from fun W => by
    have := add_ok W ⟨#[]⟩ 0 100 ⟨#[97, 98]⟩ (by decide) (by decide) (by rw [rec_ab]; decide)
    rw [rec_ab] at this
    exact this)
  have c4 := hidp (show ∀ W, Calls Try.prog 16 #[.agg #[.string ⟨#[2, 97, 98, 162, 14, 66, 65]⟩, .int .i64 0, .int .i64 100], .string ⟨#[99]⟩] W fun e w' => e = .returned (.tuple #[.agg #[.string ⟨#[2, 97, 98, 162, 14, 66, 65, 1, 99, 115, 72, 69, 239]⟩, .int .i64 0, .int .i64 100], .int .i64 0]) ∧ Below W.heap.size W w' from fun W => by
    have := add_ok W ⟨#[2, 97, 98, 162, 14, 66, 65]⟩ 0 100 ⟨#[99]⟩ (by decide) (by decide) (by rw [rec_c]; decide)
    rw [rec_c, show (ByteArray.mk #[2, 97, 98, 162, 14, 66, 65]) ++ mkS [1, 99, 115, 72, 69, 239] = ⟨#[2, 97, 98, 162, 14, 66, 65, 1, 99, 115, 72, 69, 239]⟩ from mkS_append [2, 97, 98, 162, 14, 66, 65] [1, 99, 115, 72, 69, 239]] at this
    exact this)
  have c5 := hidp (show ∀ W, Calls Try.prog 11 #[.string ⟨#[2, 97, 98, 162, 14, 66, 65, 1, 99, 115, 72, 69, 239, 1]⟩] W fun e w' => ∃ v, e = .returned (.tuple #[v, .int .i64 13]) ∧ OwnV w' W.heap.size 9 v (strV [⟨#[97, 98]⟩, ⟨#[99]⟩]) ∧ Below W.heap.size W w' from fun W => by
    have := read_any W ⟨#[2, 97, 98, 162, 14, 66, 65, 1, 99, 115, 72, 69, 239, 1]⟩ (by decide)
    unfold rdN at this
    rw [show (ByteArray.mk #[2, 97, 98, 162, 14, 66, 65, 1, 99, 115, 72, 69, 239, 1]).data.toList = [2, 97, 98, 162, 14, 66, 65, 1, 99, 115, 72, 69, 239, 1] from rfl, rd1, cat_abc] at this
    exact this)
  have c6 := hidp (show ∀ W, Calls Try.prog 36 #[.agg #[.string ⟨#[2, 97, 98, 162, 14, 66, 65, 1, 99, 115, 72, 69, 239]⟩, .int .i64 0, .int .i64 100], .string ⟨#[1, 100]⟩] W fun e w' => e = .returned (.tuple #[.agg #[.string ⟨#[2, 97, 98, 162, 14, 66, 65, 1, 99, 115, 72, 69, 239, 1, 100]⟩, .int .i64 0, .int .i64 100], .int .i64 0]) ∧ Below W.heap.size W w' from fun W => by
    exact write_ok W ⟨#[2, 97, 98, 162, 14, 66, 65, 1, 99, 115, 72, 69, 239]⟩ 0 100 ⟨#[1, 100]⟩ (by decide) (by decide))
  have c7 := hidp (show ∀ W, Calls Try.prog 18 #[.agg #[.string ⟨#[2, 97, 98, 162, 14, 66, 65, 1, 99, 115, 72, 69, 239, 1, 100]⟩, .int .i64 0, .int .i64 100]] W fun e w' => e = .returned (.tuple #[.agg #[.string ⟨#[2, 97, 98, 162, 14, 66, 65, 1, 99, 115, 72, 69, 239]⟩, .int .i64 13, .int .i64 100], .int .i64 0]) ∧ Below W.heap.size W w' from fun W => by
    have := mend_ok W ⟨#[2, 97, 98, 162, 14, 66, 65, 1, 99, 115, 72, 69, 239, 1, 100]⟩ 0 100 (by decide)
    unfold rdN at this
    rw [show (ByteArray.mk #[2, 97, 98, 162, 14, 66, 65, 1, 99, 115, 72, 69, 239, 1, 100]).data.toList = [2, 97, 98, 162, 14, 66, 65, 1, 99, 115, 72, 69, 239, 1, 100] from rfl, rd2, cat_abc] at this
    exact this)
  have c8 := hidp (show ∀ W, Calls Try.prog 37 #[.string ⟨#[2, 97, 98]⟩] W fun e w' => e = .returned (.string ⟨#[162, 14, 66, 65]⟩) ∧ Below W.heap.size W w' from fun W => by
    have := cbytes_any W ⟨#[2, 97, 98]⟩ (by decide)
    rw [show (ByteArray.mk #[2, 97, 98]).data.toList = [2, 97, 98] from rfl, byt_ab] at this
    exact this)
  have q1 := fun W => eq_disk W ⟨#[2, 97, 98, 162, 14, 66, 65, 1, 99, 115, 72, 69, 239]⟩ 13 100
  have q2 : ((⟨#[2, 97, 98]⟩ : ByteArray) ++ (⟨#[162, 14, 66, 65]⟩ : ByteArray)).toList = [2, 97, 98, 162, 14, 66, 65] := by rw [ByteArray.toList_eq]; rfl
  go_enter Try.func10, Try.ntmps10
  go_wp2_with fail
  refine (c1.out _).mono ?_
  rintro e w1 ⟨rfl, hb1⟩
  have HB1 := hidp ((Below.refl w.heap.size w).trans (hb1.mono (Below.refl w.heap.size w).size))
  have hle1 := HB1.out.size
  clear hb1
  go_wp2_with fail
  refine (c2.out _).mono ?_
  rintro e w2 ⟨rfl, hb2⟩
  have HB2 := hidp (HB1.out.trans (hb2.mono HB1.out.size))
  have hle2 := HB2.out.size
  clear hb2
  go_wp2_with fail
  have HX2a := hidp (HB2.out.alloc hle2 (.cells #[.string ⟨#[]⟩, .int .i64 0, .int .i64 100] 32))
  have Aa2a := hidp (Arr.new w2 32 [.string ⟨#[]⟩, .int .i64 0, .int .i64 100])
  obtain ⟨ba, hba⟩ : ∃ b, w2.heap.size = b := ⟨_, rfl⟩
  generalize hWW : (w2.alloc (.cells #[.string ⟨#[]⟩, .int .i64 0, .int .i64 100] 32)) = W2a at HX2a Aa2a ⊢
  rw [hba] at Aa2a ⊢
  have hgea : w.heap.size ≤ ba := by rw [← hba]; exact hle2
  clear hWW hba
  refine (c3.out _).mono ?_
  rintro e w3 ⟨rfl, hb3⟩
  have HB3 := hidp (HX2a.out.trans (hb3.mono HX2a.out.size))
  have hle3 := HB3.out.size
  have Aa3 := hidp (Aa2a.out.below hb3 Aa2a.out.lt)
  have hlta := Aa3.out.lt
  clear hb3
  obtain ⟨a0, a1, a2, af⟩ := arr3 Aa3.out
  have af0 := af 0; have af1 := af 1; have af2 := af 2
  clear af
  go_wp2_with fail
  clear a0 a1 a2 af0 af1 af2
  have HX3a := hidp (((HB3.out.setCell (p := ⟨ba, 0, none⟩) hgea (.string ⟨#[2, 97, 98, 162, 14, 66, 65]⟩)).setCell (p := ⟨ba, 1, none⟩) hgea (.int .i64 0)).setCell (p := ⟨ba, 2, none⟩) hgea (.int .i64 100))
  have Aa3a := hidp (arr3_set Aa3.out (.string ⟨#[2, 97, 98, 162, 14, 66, 65]⟩) (.int .i64 0) (.int .i64 100))
  generalize hWW : (((w3.setCell ⟨ba, 0, none⟩ (.string ⟨#[2, 97, 98, 162, 14, 66, 65]⟩)).setCell ⟨ba, 1, none⟩ (.int .i64 0)).setCell ⟨ba, 2, none⟩ (.int .i64 100)) = W3a at HX3a Aa3a ⊢
  clear hWW
  refine (c4.out _).mono ?_
  rintro e w4 ⟨rfl, hb4⟩
  have HB4 := hidp (HX3a.out.trans (hb4.mono HX3a.out.size))
  have hle4 := HB4.out.size
  have Aa4 := hidp (Aa3a.out.below hb4 Aa3a.out.lt)
  have hlta := Aa4.out.lt
  clear hb4
  obtain ⟨a0, a1, a2, af⟩ := arr3 Aa4.out
  have af0 := af 0; have af1 := af 1; have af2 := af 2
  clear af
  go_wp2_with fail
  clear a0 a1 a2 af0 af1 af2
  have HX4a := hidp (((HB4.out.setCell (p := ⟨ba, 0, none⟩) hgea (.string ⟨#[2, 97, 98, 162, 14, 66, 65, 1, 99, 115, 72, 69, 239]⟩)).setCell (p := ⟨ba, 1, none⟩) hgea (.int .i64 0)).setCell (p := ⟨ba, 2, none⟩) hgea (.int .i64 100))
  have Aa4a := hidp (arr3_set Aa4.out (.string ⟨#[2, 97, 98, 162, 14, 66, 65, 1, 99, 115, 72, 69, 239]⟩) (.int .i64 0) (.int .i64 100))
  generalize hWW : (((w4.setCell ⟨ba, 0, none⟩ (.string ⟨#[2, 97, 98, 162, 14, 66, 65, 1, 99, 115, 72, 69, 239]⟩)).setCell ⟨ba, 1, none⟩ (.int .i64 0)).setCell ⟨ba, 2, none⟩ (.int .i64 100)) = W4a at HX4a Aa4a ⊢
  clear hWW
  refine (c5.out _).mono ?_
  rintro e w5 ⟨vl, rfl, hv5, hb5⟩
  have HB5 := hidp (HX4a.out.trans (hb5.mono HX4a.out.size))
  have hle5 := HB5.out.size
  have Aa5 := hidp (Aa4a.out.below hb5 Aa4a.out.lt)
  have hlta := Aa5.out.lt
  have Ol5 := hidp hv5
  clear hb5 hv5
  obtain ⟨a0, a1, a2, af⟩ := arr3 Aa5.out
  clear af
  go_wp2_with fail
  clear a0 a1 a2
  refine (c6.out _).mono ?_
  rintro e w6 ⟨rfl, hb6⟩
  have HB6 := hidp (HB5.out.trans (hb6.mono HB5.out.size))
  have hle6 := HB6.out.size
  have Aa6 := hidp (Aa5.out.below hb6 Aa5.out.lt)
  have hlta := Aa6.out.lt
  have Ol6 := hidp (Ol5.out.kept hb6 (Nat.le_refl _))
  clear hb6
  obtain ⟨a0, a1, a2, af⟩ := arr3 Aa6.out
  clear af
  go_wp2_with fail
  clear a0 a1 a2
  have HX6e := hidp (HB6.out.alloc hle6 (.cells #[.string ⟨#[2, 97, 98, 162, 14, 66, 65, 1, 99, 115, 72, 69, 239, 1, 100]⟩, .int .i64 0, .int .i64 100] 32))
  have Aa6e := hidp (Aa6.out.alloc (.cells #[.string ⟨#[2, 97, 98, 162, 14, 66, 65, 1, 99, 115, 72, 69, 239, 1, 100]⟩, .int .i64 0, .int .i64 100] 32))
  have Ol6e := hidp (Ol6.out.alloc (.cells #[.string ⟨#[2, 97, 98, 162, 14, 66, 65, 1, 99, 115, 72, 69, 239, 1, 100]⟩, .int .i64 0, .int .i64 100] 32))
  have Ae6e := hidp (Arr.new w6 32 [.string ⟨#[2, 97, 98, 162, 14, 66, 65, 1, 99, 115, 72, 69, 239, 1, 100]⟩, .int .i64 0, .int .i64 100])
  obtain ⟨be, hbe⟩ : ∃ b, w6.heap.size = b := ⟨_, rfl⟩
  generalize hWW : (w6.alloc (.cells #[.string ⟨#[2, 97, 98, 162, 14, 66, 65, 1, 99, 115, 72, 69, 239, 1, 100]⟩, .int .i64 0, .int .i64 100] 32)) = W6e at HX6e Aa6e Ol6e Ae6e ⊢
  rw [hbe] at Ae6e ⊢
  have hgee : w.heap.size ≤ be := by rw [← hbe]; exact hle6
  clear hWW hbe
  refine (c7.out _).mono ?_
  rintro e w7 ⟨rfl, hb7⟩
  have HB7 := hidp (HX6e.out.trans (hb7.mono HX6e.out.size))
  have hle7 := HB7.out.size
  have Aa7 := hidp (Aa6e.out.below hb7 Aa6e.out.lt)
  have hlta := Aa7.out.lt
  have Ae7 := hidp (Ae6e.out.below hb7 Ae6e.out.lt)
  have hlte := Ae7.out.lt
  have Ol7 := hidp (Ol6e.out.kept hb7 (Nat.le_refl _))
  clear hb7
  obtain ⟨a0, a1, a2, af⟩ := arr3 Aa7.out
  clear af
  go_wp2_with fail
  clear a0 a1 a2
  have HX7f := hidp (HB7.out.alloc hle7 (.cells #[.string ⟨#[2, 97, 98, 162, 14, 66, 65, 1, 99, 115, 72, 69, 239]⟩, .int .i64 13, .int .i64 100] 32))
  have Aa7f := hidp (Aa7.out.alloc (.cells #[.string ⟨#[2, 97, 98, 162, 14, 66, 65, 1, 99, 115, 72, 69, 239]⟩, .int .i64 13, .int .i64 100] 32))
  have Ae7f := hidp (Ae7.out.alloc (.cells #[.string ⟨#[2, 97, 98, 162, 14, 66, 65, 1, 99, 115, 72, 69, 239]⟩, .int .i64 13, .int .i64 100] 32))
  have Ol7f := hidp (Ol7.out.alloc (.cells #[.string ⟨#[2, 97, 98, 162, 14, 66, 65, 1, 99, 115, 72, 69, 239]⟩, .int .i64 13, .int .i64 100] 32))
  have Af7f := hidp (Arr.new w7 32 [.string ⟨#[2, 97, 98, 162, 14, 66, 65, 1, 99, 115, 72, 69, 239]⟩, .int .i64 13, .int .i64 100])
  obtain ⟨bf, hbf⟩ : ∃ b, w7.heap.size = b := ⟨_, rfl⟩
  generalize hWW : (w7.alloc (.cells #[.string ⟨#[2, 97, 98, 162, 14, 66, 65, 1, 99, 115, 72, 69, 239]⟩, .int .i64 13, .int .i64 100] 32)) = W7f at HX7f Aa7f Ae7f Ol7f Af7f ⊢
  rw [hbf] at Af7f ⊢
  have hgef : w.heap.size ≤ bf := by rw [← hbf]; exact hle7
  clear hWW hbf
  refine (c8.out _).mono ?_
  rintro e w8 ⟨rfl, hb8⟩
  have HB8 := hidp (HX7f.out.trans (hb8.mono HX7f.out.size))
  have hle8 := HB8.out.size
  have Aa8 := hidp (Aa7f.out.below hb8 Aa7f.out.lt)
  have hlta := Aa8.out.lt
  have Ae8 := hidp (Ae7f.out.below hb8 Ae7f.out.lt)
  have hlte := Ae8.out.lt
  have Af8 := hidp (Af7f.out.below hb8 Af7f.out.lt)
  have hltf := Af8.out.lt
  have Ol8 := hidp (Ol7f.out.kept hb8 (Nat.le_refl _))
  clear hb8
  obtain ⟨a0, a1, a2, af⟩ := arr3 Aa8.out
  clear af
  obtain ⟨f0, f1, f2, ff⟩ := arr3 Af8.out
  clear ff
  have HS := hidp (fun (e : Nat) => same_any (w8.alloc (.cells #[.string ⟨#[97, 98]⟩, .string ⟨#[99]⟩] e)) _ _ _ _ (OwnV.strs (Ol8.out.alloc (.cells #[.string ⟨#[97, 98]⟩, .string ⟨#[99]⟩] e))) (strsLit2 w8 ⟨#[97, 98]⟩ ⟨#[99]⟩ e) (by simp) (by simp))
  rw [sameB_self] at HS
  have HY := hidp (fun (e : Nat) => HB8.out.alloc hle8 (.cells #[.string ⟨#[97, 98]⟩, .string ⟨#[99]⟩] e))
  have ha9 := hidp (fun (e : Nat) => Aa8.out.alloc (.cells #[.string ⟨#[97, 98]⟩, .string ⟨#[99]⟩] e))
  have hf9 := hidp (fun (e : Nat) => Af8.out.alloc (.cells #[.string ⟨#[97, 98]⟩, .string ⟨#[99]⟩] e))
  go_wp2_with fail
  refine (HS.out _).mono ?_
  rintro e w9 ⟨rfl, hb9⟩
  have HB9 := hidp ((HY.out _).trans (hb9.mono (HY.out 9).size))
  have Ha := hidp ((ha9.out _).below hb9 (ha9.out 9).lt)
  have Hf := hidp ((hf9.out _).below hb9 (hf9.out 9).lt)
  clear hb9 a0 a1 a2 f0 f1 f2
  obtain ⟨a0, a1, a2, af⟩ := arr3 Ha.out
  obtain ⟨f0, f1, f2, ff⟩ := arr3 Hf.out
  clear af ff
  go_wp2_with fail
  go_ret
  exact ⟨rfl, HB9.out⟩

set_option maxHeartbeats 8000000 in
theorem walk_journalReads (w : World) (s : ByteArray) (hs : s.size ≤ 140737488351232) (t : ByteArray) (ht : t.size ≤ 140737488351232) :
    Calls Try.prog 3 #[.string s, .string t] w fun e w' => e = .returned (.bool true) ∧ Below w.heap.size w w' := by
  have c0 := hidp lives9_any
  by_cases h18 : s.size ≤ 262144
  · have hd : decide ((262144 : Int) < (s.size : Int)) = false := by simp; omega
    have c1 := hidp (fun W => read_any W s (by omega))
    have c2 := hidp (fun W => rread_any W s (by omega))
    have c3 := hidp (fun W => jbytes_any W t ht)
    have c4 := hidp (fun W => rjbytes_any W t ht)
    have hcl := rdT_small s.data.toList
    have hln : (rdT s.data.toList).length ≤ 140737488351232 := by have := rcs_len s; have := rcs_count s; omega
    obtain ⟨L, hL⟩ : ∃ L, rdT s.data.toList = L := ⟨_, rfl⟩
    obtain ⟨N, hN⟩ : ∃ N, rdN s.data.toList = N := ⟨_, rfl⟩
    obtain ⟨X, hX⟩ : ∃ X, jbS t = X := ⟨_, rfl⟩
    obtain ⟨E, hE⟩ : ∃ E, textE t = E := ⟨_, rfl⟩
    rw [hL] at c1 c2 hln
    rw [hN] at c1 c2
    rw [hX, hE] at c3 c4
    have qE : (E == E) = true := by simp
    have qN : ((N : Int) == (N : Int)) = true := by simp
    have qX : (X.toList == X.toList) = true := by simp
    clear hL hN hX hE hcl
    go_enter Try.func3, Try.ntmps3
    go_wp2_with fail
    refine (c1.out _).mono ?_
    rintro e w1 ⟨v1, rfl, hv1, hb1⟩
    have HB1 := hidp ((Below.refl w.heap.size w).trans (hb1.mono (Below.refl w.heap.size w).size))
    have hle1 := HB1.out.size
    have Ol1 := hidp hv1
    clear hb1 hv1
    go_wp2_with fail
    refine (c2.out _).mono ?_
    rintro e w2 ⟨v2, rfl, hv2, hb2⟩
    have HB2 := hidp (HB1.out.trans (hb2.mono HB1.out.size))
    have hle2 := HB2.out.size
    have Ol2 := hidp (Ol1.out.kept hb2 (Nat.le_refl _))
    have Om2 := hidp hv2
    clear hb2 hv2
    go_wp2_with fail
    refine (c3.out _).mono ?_
    rintro e w3 ⟨rfl, hb3⟩
    have HB3 := hidp (HB2.out.trans (hb3.mono HB2.out.size))
    have hle3 := HB3.out.size
    have Ol3 := hidp (Ol2.out.kept hb3 (Nat.le_refl _))
    have Om3 := hidp (Om2.out.kept hb3 (Nat.le_refl _))
    clear hb3
    go_wp2_with fail
    refine (c4.out _).mono ?_
    rintro e w4 ⟨rfl, hb4⟩
    have HB4 := hidp (HB3.out.trans (hb4.mono HB3.out.size))
    have hle4 := HB4.out.size
    have Ol4 := hidp (Ol3.out.kept hb4 (Nat.le_refl _))
    have Om4 := hidp (Om3.out.kept hb4 (Nat.le_refl _))
    clear hb4
    go_wp2_with fail
    refine (c0.out _).mono ?_
    rintro e w5 ⟨rfl, hb5⟩
    have HB5 := hidp (HB4.out.trans (hb5.mono HB4.out.size))
    have hle5 := HB5.out.size
    have Ol5 := hidp (Ol4.out.kept hb5 (Nat.le_refl _))
    have Om5 := hidp (Om4.out.kept hb5 (Nat.le_refl _))
    clear hb5
    go_wp2_with fail
    have HS := hidp (same_any w5 _ _ _ _ (OwnV.strs Ol5.out) (OwnV.strs Om5.out) hln hln)
    rw [sameB_self] at HS
    refine (HS.out).mono ?_
    rintro e w6 ⟨rfl, hb6⟩
    have HB6 := hidp (HB5.out.trans (hb6.mono HB5.out.size))
    have hle6 := HB6.out.size
    clear hb6
    go_wp2_with fail
    go_ret
    exact ⟨rfl, HB6.out⟩
  · have hd : decide ((262144 : Int) < (s.size : Int)) = true := by simp; omega
    go_enter Try.func3, Try.ntmps3
    go_wp2_with fail
    refine (c0.out _).mono ?_
    rintro e w1 ⟨rfl, hb1⟩
    have HB1 := hidp hb1; clear hb1
    go_wp2_with fail
    go_ret
    exact ⟨rfl, HB1.out⟩

set_option maxHeartbeats 8000000 in
theorem adds_walk (w : World) (s : ByteArray) (y r : Int) (t : ByteArray) (hs : s.size ≤ 262144) (D1 D2 : ByteArray) (Y1 R1 E1 Y2 R2 E2 : Int)
    (c1 : Hid (∀ W, Calls Try.prog 16 #[.agg #[.string s, .int .i64 y, .int .i64 r], .string t] W fun e w' => e = .returned (.tuple #[.agg #[.string D1, .int .i64 Y1, .int .i64 R1], .int .i64 E1]) ∧ Below W.heap.size W w'))
    (c2 : Hid (∀ W, Calls Try.prog 17 #[.agg #[.string s, .int .i64 y, .int .i64 r], .string t] W fun e w' => e = .returned (.tuple #[.agg #[.string D1, .int .i64 Y1, .int .i64 R1], .int .i64 E1]) ∧ Below W.heap.size W w'))
    (c3 : Hid (∀ W, Calls Try.prog 18 #[.agg #[.string s, .int .i64 y, .int .i64 r]] W fun e w' => e = .returned (.tuple #[.agg #[.string D2, .int .i64 Y2, .int .i64 R2], .int .i64 E2]) ∧ Below W.heap.size W w'))
    (c4 : Hid (∀ W, Calls Try.prog 19 #[.agg #[.string s, .int .i64 y, .int .i64 r]] W fun e w' => e = .returned (.tuple #[.agg #[.string D2, .int .i64 Y2, .int .i64 R2], .int .i64 E2]) ∧ Below W.heap.size W w')) :
    Calls Try.prog 4 #[.agg #[.string s, .int .i64 y, .int .i64 r], .string t] w fun e w' => e = .returned (.bool true) ∧ Below w.heap.size w w' := by
  have c0 := hidp lives9_any
  have hd : decide ((262144 : Int) < (s.size : Int)) = false := by simp; omega
  have q1 := fun W => eq_disk W D1 Y1 R1
  have q2 := fun W => eq_disk W D2 Y2 R2
  have qE1 : (E1 == E1) = true := by simp
  have qE2 : (E2 == E2) = true := by simp
  go_enter Try.func4, Try.ntmps4
  go_wp2_with fail
  have HX0d := hidp ((Below.refl w.heap.size w).alloc (Nat.le_refl _) (.cells #[.string s, .int .i64 y, .int .i64 r] 32))
  have Ad0d := hidp (Arr.new w 32 [.string s, .int .i64 y, .int .i64 r])
  obtain ⟨bd, hbd⟩ : ∃ b, w.heap.size = b := ⟨_, rfl⟩
  generalize hWW : (w.alloc (.cells #[.string s, .int .i64 y, .int .i64 r] 32)) = W0d at HX0d Ad0d ⊢
  rw [hbd] at Ad0d ⊢
  have hged : w.heap.size ≤ bd := by omega
  clear hWW hbd
  refine (c1.out _).mono ?_
  rintro e w1 ⟨rfl, hb1⟩
  have HB1 := hidp (HX0d.out.trans (hb1.mono HX0d.out.size))
  have hle1 := HB1.out.size
  have Ad1 := hidp (Ad0d.out.below hb1 Ad0d.out.lt)
  have hltd := Ad1.out.lt
  clear hb1
  obtain ⟨d0, d1, d2, df⟩ := arr3 Ad1.out
  clear df
  go_wp2_with fail
  clear d0 d1 d2
  have HX1a := hidp (HB1.out.alloc hle1 (.cells #[.string D1, .int .i64 Y1, .int .i64 R1] 32))
  have Ad1a := hidp (Ad1.out.alloc (.cells #[.string D1, .int .i64 Y1, .int .i64 R1] 32))
  have Aa1a := hidp (Arr.new w1 32 [.string D1, .int .i64 Y1, .int .i64 R1])
  obtain ⟨ba, hba⟩ : ∃ b, w1.heap.size = b := ⟨_, rfl⟩
  generalize hWW : (w1.alloc (.cells #[.string D1, .int .i64 Y1, .int .i64 R1] 32)) = W1a at HX1a Ad1a Aa1a ⊢
  rw [hba] at Aa1a ⊢
  have hgea : w.heap.size ≤ ba := by rw [← hba]; exact hle1
  clear hWW hba
  refine (c2.out _).mono ?_
  rintro e w2 ⟨rfl, hb2⟩
  have HB2 := hidp (HX1a.out.trans (hb2.mono HX1a.out.size))
  have hle2 := HB2.out.size
  have Ad2 := hidp (Ad1a.out.below hb2 Ad1a.out.lt)
  have hltd := Ad2.out.lt
  have Aa2 := hidp (Aa1a.out.below hb2 Aa1a.out.lt)
  have hlta := Aa2.out.lt
  clear hb2
  obtain ⟨d0, d1, d2, df⟩ := arr3 Ad2.out
  clear df
  go_wp2_with fail
  clear d0 d1 d2
  have HX2b := hidp (HB2.out.alloc hle2 (.cells #[.string D1, .int .i64 Y1, .int .i64 R1] 32))
  have Ad2b := hidp (Ad2.out.alloc (.cells #[.string D1, .int .i64 Y1, .int .i64 R1] 32))
  have Aa2b := hidp (Aa2.out.alloc (.cells #[.string D1, .int .i64 Y1, .int .i64 R1] 32))
  have Ab2b := hidp (Arr.new w2 32 [.string D1, .int .i64 Y1, .int .i64 R1])
  obtain ⟨bb, hbb⟩ : ∃ b, w2.heap.size = b := ⟨_, rfl⟩
  generalize hWW : (w2.alloc (.cells #[.string D1, .int .i64 Y1, .int .i64 R1] 32)) = W2b at HX2b Ad2b Aa2b Ab2b ⊢
  rw [hbb] at Ab2b ⊢
  have hgeb : w.heap.size ≤ bb := by rw [← hbb]; exact hle2
  clear hWW hbb
  refine (c3.out _).mono ?_
  rintro e w3 ⟨rfl, hb3⟩
  have HB3 := hidp (HX2b.out.trans (hb3.mono HX2b.out.size))
  have hle3 := HB3.out.size
  have Ad3 := hidp (Ad2b.out.below hb3 Ad2b.out.lt)
  have hltd := Ad3.out.lt
  have Aa3 := hidp (Aa2b.out.below hb3 Aa2b.out.lt)
  have hlta := Aa3.out.lt
  have Ab3 := hidp (Ab2b.out.below hb3 Ab2b.out.lt)
  have hltb := Ab3.out.lt
  clear hb3
  obtain ⟨d0, d1, d2, df⟩ := arr3 Ad3.out
  clear df
  go_wp2_with fail
  clear d0 d1 d2
  have HX3x := hidp (HB3.out.alloc hle3 (.cells #[.string D2, .int .i64 Y2, .int .i64 R2] 32))
  have Ad3x := hidp (Ad3.out.alloc (.cells #[.string D2, .int .i64 Y2, .int .i64 R2] 32))
  have Aa3x := hidp (Aa3.out.alloc (.cells #[.string D2, .int .i64 Y2, .int .i64 R2] 32))
  have Ab3x := hidp (Ab3.out.alloc (.cells #[.string D2, .int .i64 Y2, .int .i64 R2] 32))
  have Ax3x := hidp (Arr.new w3 32 [.string D2, .int .i64 Y2, .int .i64 R2])
  obtain ⟨bx, hbx⟩ : ∃ b, w3.heap.size = b := ⟨_, rfl⟩
  generalize hWW : (w3.alloc (.cells #[.string D2, .int .i64 Y2, .int .i64 R2] 32)) = W3x at HX3x Ad3x Aa3x Ab3x Ax3x ⊢
  rw [hbx] at Ax3x ⊢
  have hgex : w.heap.size ≤ bx := by rw [← hbx]; exact hle3
  clear hWW hbx
  refine (c4.out _).mono ?_
  rintro e w4 ⟨rfl, hb4⟩
  have HB4 := hidp (HX3x.out.trans (hb4.mono HX3x.out.size))
  have hle4 := HB4.out.size
  have Ad4 := hidp (Ad3x.out.below hb4 Ad3x.out.lt)
  have hltd := Ad4.out.lt
  have Aa4 := hidp (Aa3x.out.below hb4 Aa3x.out.lt)
  have hlta := Aa4.out.lt
  have Ab4 := hidp (Ab3x.out.below hb4 Ab3x.out.lt)
  have hltb := Ab4.out.lt
  have Ax4 := hidp (Ax3x.out.below hb4 Ax3x.out.lt)
  have hltx := Ax4.out.lt
  clear hb4
  go_wp2_with fail
  have HX4z := hidp (HB4.out.alloc hle4 (.cells #[.string D2, .int .i64 Y2, .int .i64 R2] 32))
  have Ad4z := hidp (Ad4.out.alloc (.cells #[.string D2, .int .i64 Y2, .int .i64 R2] 32))
  have Aa4z := hidp (Aa4.out.alloc (.cells #[.string D2, .int .i64 Y2, .int .i64 R2] 32))
  have Ab4z := hidp (Ab4.out.alloc (.cells #[.string D2, .int .i64 Y2, .int .i64 R2] 32))
  have Ax4z := hidp (Ax4.out.alloc (.cells #[.string D2, .int .i64 Y2, .int .i64 R2] 32))
  have Az4z := hidp (Arr.new w4 32 [.string D2, .int .i64 Y2, .int .i64 R2])
  obtain ⟨bz, hbz⟩ : ∃ b, w4.heap.size = b := ⟨_, rfl⟩
  generalize hWW : (w4.alloc (.cells #[.string D2, .int .i64 Y2, .int .i64 R2] 32)) = W4z at HX4z Ad4z Aa4z Ab4z Ax4z Az4z ⊢
  rw [hbz] at Az4z ⊢
  have hgez : w.heap.size ≤ bz := by rw [← hbz]; exact hle4
  clear hWW hbz
  refine (c0.out _).mono ?_
  rintro e w5 ⟨rfl, hb5⟩
  have HB5 := hidp (HX4z.out.trans (hb5.mono HX4z.out.size))
  have hle5 := HB5.out.size
  have Ad5 := hidp (Ad4z.out.below hb5 Ad4z.out.lt)
  have hltd := Ad5.out.lt
  have Aa5 := hidp (Aa4z.out.below hb5 Aa4z.out.lt)
  have hlta := Aa5.out.lt
  have Ab5 := hidp (Ab4z.out.below hb5 Ab4z.out.lt)
  have hltb := Ab5.out.lt
  have Ax5 := hidp (Ax4z.out.below hb5 Ax4z.out.lt)
  have hltx := Ax5.out.lt
  have Az5 := hidp (Az4z.out.below hb5 Az4z.out.lt)
  have hltz := Az5.out.lt
  clear hb5
  obtain ⟨qa0, qa1, qa2, qaf⟩ := arr3 Aa5.out
  clear qaf
  obtain ⟨qb0, qb1, qb2, qbf⟩ := arr3 Ab5.out
  clear qbf
  obtain ⟨qx0, qx1, qx2, qxf⟩ := arr3 Ax5.out
  clear qxf
  obtain ⟨qz0, qz1, qz2, qzf⟩ := arr3 Az5.out
  clear qzf
  go_wp2_with fail
  go_ret
  exact ⟨rfl, HB5.out⟩

theorem walk_journalAdds (w : World) (s : ByteArray) (y r : Int) (hy : (Lit.int .i64 y).wf = true) (hr : (Lit.int .i64 r).wf = true) (t : ByteArray) (ht : t.size ≤ 140737488351232) :
    Calls Try.prog 4 #[.agg #[.string s, .int .i64 y, .int .i64 r], .string t] w fun e w' => e = .returned (.bool true) ∧ Below w.heap.size w w' := by
  by_cases h18 : s.size ≤ 262144
  · by_cases h : okD s y r
    · by_cases h8 : t.size ≤ 8192
      · by_cases hf : (recB t).length ≤ r - s.size
        · exact adds_walk w s y r t h18 _ _ _ _ _ _ _ _ (hidp fun W => add_ok W s y r t h h8 hf) (hidp fun W => radd_ok W s y r t h h8 hf) (hidp fun W => mend_ok W s y r h) (hidp fun W => rmend_ok W s y r h)
        · exact adds_walk w s y r t h18 _ _ _ _ _ _ _ _ (hidp fun W => add_full W s y r t h h8 (by omega)) (hidp fun W => radd_full W s y r t h h8 (by omega)) (hidp fun W => mend_ok W s y r h) (hidp fun W => rmend_ok W s y r h)
      · exact adds_walk w s y r t h18 _ _ _ _ _ _ _ _ (hidp fun W => add_long W s y r t h h8 ht) (hidp fun W => radd_long W s y r t h h8 ht) (hidp fun W => mend_ok W s y r h) (hidp fun W => rmend_ok W s y r h)
    · exact adds_walk w s y r t h18 _ _ _ _ _ _ _ _ (hidp fun W => add_no W s y r t h) (hidp fun W => radd_no W s y r t h) (hidp fun W => mend_no W s y r h) (hidp fun W => rmend_no W s y r h)
  · have c0 := hidp lives9_any
    have hd : decide ((262144 : Int) < (s.size : Int)) = true := by simp; omega
    go_enter Try.func4, Try.ntmps4
    go_wp2_with fail
    refine (c0.out _).mono ?_
    rintro e w1 ⟨rfl, hb1⟩
    have HB1 := hidp (((Below.refl _ w).alloc (Nat.le_refl _) (.cells #[.string s, .int .i64 y, .int .i64 r] 32)).trans (hb1.mono (by simp))); clear hb1
    go_wp2_with fail
    go_ret
    exact ⟨rfl, HB1.out⟩
end Go.Proofs.Ytlplnkddbhmnbaa
