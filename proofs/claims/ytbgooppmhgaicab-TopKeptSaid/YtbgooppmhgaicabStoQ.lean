
/-
  store.PutEntry of a text that is too long, however long it is; two disks in their boxes.
-/
import Derived.Test.YtbgooppmhgaicabStoF
import Derived.Test.YtbgooppmhgaicabStoP
namespace Go.Proofs.Ytbgooppmhgaicab
set_option maxRecDepth 100000
set_option linter.unusedVariables false
set_option linter.unusedSimpArgs false
open Go.RowKit

set_option maxHeartbeats 4000000 in
theorem list2_long (w : World) (B : Nat) (t : ByteArray) (h : ¬ t.size ≤ 8192) (h0 : w.cell? ⟨B, 0, none⟩ = some (.string ⟨#[101]⟩)) (h1 : w.cell? ⟨B, 1, none⟩ = some (.string t)) :
    Calls Try.prog 15 #[.slice (some ⟨B, 0, none⟩) 2 2] w fun e w' => e = .returned (.tuple #[.string ByteArray.empty, .int .i64 7]) ∧ Below w.heap.size w w' := by
  have hd : decide ((8192 : Int) < (t.size : Int)) = true := by simp; omega
  go_enter Try.func15, Try.ntmps15
  go_wp2
  go_loop [14] (fun t14 => ∃ k : Nat, t14 = .int .i64 k ∧ k ≤ 1) (fun t14 => 2 - (intOf t14).toNat)
  case atStart => exact ⟨0, rfl, by omega⟩
  case round =>
    obtain ⟨k, rfl, hk⟩ := hrel
    rcases (by omega : k = 0 ∨ k = 1) with rfl | rfl
    · go_wp2
      exact ⟨⟨1, rfl, by omega⟩, by simp [intOf]⟩
    · go_wp2
      go_ret2
      exact ⟨rfl, Below.refl _ _⟩
set_option maxHeartbeats 4000000 in
theorem pute_longer (w : World) (s : ByteArray) (y r : Int) (t : ByteArray) (hs : s.size ≤ 281474976710656) (ht : ¬ t.size ≤ 8192) :
    Calls Try.prog 6 #[.agg #[.string s, .int .i64 y, .int .i64 r], .string t] w fun e w' => e = .returned (.tuple #[.agg #[.string s, .int .i64 y, .int .i64 r], .int .i64 7]) ∧ Below w.heap.size w w' := by
  have hst : StrsAt (((w.alloc (.cells #[.string s, .int .i64 y, .int .i64 r] 26)).alloc (.cells #[.string ⟨#[]⟩, .int .i64 0, .int .i64 0] 26)).alloc (.cells #[.string ⟨#[101]⟩, .string t] 9)) (.slice (some ⟨w.heap.size + 1 + 1, 0, none⟩) 2 2) [⟨#[101]⟩, t] := by
    have h := strsLit2 ((w.alloc (.cells #[.string s, .int .i64 y, .int .i64 r] 26)).alloc (.cells #[.string ⟨#[]⟩, .int .i64 0, .int .i64 0] 26)) ⟨#[101]⟩ t 9
    rw [heap_size_alloc, heap_size_alloc] at h; exact h
  obtain ⟨bl, ol, cl, el, l0, l1⟩ := hst.two
  simp only [Value.slice.injEq, Option.some.injEq, Addr.mk.injEq, and_true] at el
  obtain ⟨⟨rfl, rfl⟩, -, -⟩ := el
  have c2 := hidp (list2_long (((w.alloc (.cells #[.string s, .int .i64 y, .int .i64 r] 26)).alloc (.cells #[.string ⟨#[]⟩, .int .i64 0, .int .i64 0] 26)).alloc (.cells #[.string ⟨#[101]⟩, .string t] 9)) (w.heap.size + 1 + 1) t ht l0 l1)
  clear l0 l1 hst
  have c3 := hidp (fun W => sowned_any W s y r hs)
  have HB0 := hidp ((((Below.refl _ w).alloc (Nat.le_refl _) (.cells #[.string s, .int .i64 y, .int .i64 r] 26)).alloc (by simp) (.cells #[.string ⟨#[]⟩, .int .i64 0, .int .i64 0] 26)).alloc (by simp; omega) (.cells #[.string ⟨#[101]⟩, .string t] 9))
  have HA0 := hidp (((Arr.new w 26 [.string s, .int .i64 y, .int .i64 r]).alloc (.cells #[.string ⟨#[]⟩, .int .i64 0, .int .i64 0] 26)).alloc (.cells #[.string ⟨#[101]⟩, .string t] 9))
  have HR0 := hidp (show Arr _ (w.heap.size + 1) 26 _ from by
    have h := Arr.new (w.alloc (.cells #[.string s, .int .i64 y, .int .i64 r] 26)) 26 [.string ⟨#[]⟩, .int .i64 0, .int .i64 0]
    rw [heap_size_alloc] at h
    exact h.alloc (.cells #[.string ⟨#[101]⟩, .string t] 9))
  clear ht
  go_enter Try.func6, Try.ntmps6
  go_wp2_with fail
  refine (c2.out).mono ?_
  rintro e w1 ⟨rfl, hb1⟩
  have HA := hidp (HA0.out.below hb1 HA0.out.lt); have HR := hidp (HR0.out.below hb1 HR0.out.lt); have HB := hidp (HB0.out.trans (hb1.mono HB0.out.size))
  clear hb1 HA0 HR0 HB0
  obtain ⟨a0, a1, a2, af⟩ := arr3 HA.out
  clear af
  go_wp2_with fail
  refine (c3.out _).mono ?_
  rintro e w2 ⟨rfl, hb2⟩
  have HR2 := hidp (HR.out.below hb2 HR.out.lt); have HB2 := hidp (HB.out.trans (hb2.mono HB.out.size))
  clear hb2 a0 a1 a2
  obtain ⟨r0, r1, r2, rf⟩ := arr3 HR2.out
  have g0 := rf 0; have g1 := rf 1; have g2 := rf 2
  clear rf
  go_wp2_with fail
  refine bodyPost_ret (v := .tuple #[.agg #[.string s, .int .i64 y, .int .i64 r], .int .i64 7]) (by simp [results, Try.results6, go_sem, r0, r1, r2]) rfl ⟨rfl, ?_⟩
  repeat (refine Below.setCell ?_ (by simp) _)
  exact HB2.out
theorem pute_longer' (w : World) (s : ByteArray) (y r : Int) (t : ByteArray) (h : okD s y r) (ht : t.size ≤ 8192) (hl : ¬ (entR t).size ≤ 8192) :
    Calls Try.prog 6 #[.agg #[.string s, .int .i64 y, .int .i64 r], .string t] w fun e w' => e = .returned (.tuple #[.agg #[.string s, .int .i64 y, .int .i64 r], .int .i64 7]) ∧ Below w.heap.size w w' :=
  pute_add w s y r t ht s y r 7 (fun W => add_longer W s y r (entR t) h hl)
theorem load_rs (W : World) (rs : List ByteArray) (h8 : ∀ t ∈ rs, t.size ≤ 8192) (es : List ByteArray) (c : Nat) (hR : ld rs = (es, c, 0)) (Z : ByteArray) (hZ : mkS (cat rs) = Z) (hs : Z.size ≤ 1048576) :
    Calls Try.prog 12 #[.string Z] W fun e w' => ∃ v, e = .returned (.tuple #[.agg #[v, .int .i64 (c : Int)], .int .i64 0]) ∧ OwnV w' W.heap.size 9 v (strV es) ∧ Below W.heap.size W w' :=
  load_cat W rs h8 (es, c, 0) hR Z hZ (load_any W Z (by omega))
end Go.Proofs.Ytbgooppmhgaicab
