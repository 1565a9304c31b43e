
/-
  octet.All; and the answers that the laws ask for first.
-/
import Derived.Test.YtbgooppmhgaicabOctK
namespace Go.Proofs.Ytbgooppmhgaicab
set_option linter.unusedVariables false
set_option linter.unusedSimpArgs false
set_option maxRecDepth 100000
open Go.RowKit

theorem getList_any (w : World) (s : ByteArray) (hs : s.size ≤ 281474976710656) :
    Calls Try.prog 34 #[.string s] w fun e w' => ∃ v, e = .returned (.tuple #[v, .int .i64 (gl s).2.1, .int .i64 (gl s).2.2]) ∧ StrsAt w' v (gl s).1 ∧ Below w.heap.size w w' :=
  callsIn_wide.1 (getList_in 6 (by omega) w s hs)

set_option maxHeartbeats 1000000 in
set_option maxRecDepth 20000 in
theorem all_any (w : World) (s : ByteArray) (hs : s.size ≤ 281474976710656) :
    Calls Try.prog 24 #[.string s] w fun e w' => ∃ v, e = .returned (.tuple #[v, .int .i64 (al s).2]) ∧ StrsAt w' v (al s).1 ∧ Below w.heap.size w w' := by
  have hG := getList_any w s hs
  have hbd := gl_bd s
  unfold al
  obtain ⟨⟨L, k, e⟩, hr⟩ : ∃ r, r = gl s := ⟨_, rfl⟩
  rw [← hr] at hG hbd ⊢
  clear hr
  simp only at hG hbd ⊢
  obtain ⟨h1, h2, h3, h4⟩ := hbd
  have HG := hidp hG; have H4 := hidp h4; clear hG h4
  by_cases he : e = 0
  · have heb := errB0 he
    rw [if_neg (by simpa using he)]
    have H0 := hidp he; clear he
    by_cases hsz : k < s.size
    · rw [if_pos hsz]
      go_enter Try.func24, Try.ntmps24
      go_wp2_with (go_at_call 34; (refine HG.out.mono ?_); rintro e1 w1 ⟨v1, rfl, hst, hb1⟩)
      go_ret2
      exact ⟨_, rfl, strsNil _, hb1⟩
    · rw [if_neg hsz]
      go_enter Try.func24, Try.ntmps24
      go_wp2_with (go_at_call 34; (refine HG.out.mono ?_); rintro e1 w1 ⟨v1, rfl, hst, hb1⟩; have HST := hidp hst; clear hst)
      go_ret2
      exact ⟨_, rfl, HST.out, hb1⟩
  · have heb := errB he
    rw [if_pos he]
    have H0 := hidp he; clear he
    go_enter Try.func24, Try.ntmps24
    go_wp2_with (go_at_call 34; (refine HG.out.mono ?_); rintro e1 w1 ⟨v1, rfl, hst, hb1⟩)
    go_ret2
    exact ⟨_, rfl, strsNil _, hb1⟩

theorem strsLit2 (w : World) (a b : ByteArray) (e : Nat) : StrsAt (w.alloc (.cells #[.string a, .string b] e)) (.slice (some ⟨w.heap.size, 0, none⟩) 2 2) [a, b] := by
  refine ⟨_, _, rfl, fun k hk => ⟨w.heap.size, 0, rfl, ?_⟩⟩
  have h : (w.alloc (.cells #[.string a, .string b] e)).heap[w.heap.size]? = some (.cells #[.string a, .string b] e) := heap_alloc_new w _
  match k, hk with
  | 0, _ => unfold World.cell?; dsimp only; rw [h]; rfl
  | 1, _ => unfold World.cell?; dsimp only; rw [h]; rfl
theorem e300 : mkS (encN 300) = ⟨#[172, 2]⟩ := by rw [encN_ge (by omega), encN_lt (by omega)]; rfl
def sab : List ByteArray := [⟨#[97, 98]⟩, ⟨#[]⟩]
theorem esab : listS sab = ⟨#[2, 2, 97, 98, 0]⟩ ∧ listE sab = 0 := by
  have hok : okL sab := by refine ⟨by decide, ?_⟩; intro s hs; simp [sab] at hs; rcases hs with rfl | rfl <;> decide
  rw [listS_yes hok, listE_yes hok]
  refine ⟨?_, rfl⟩
  have h0 : encN 0 = [0] := by rw [encN_lt (by omega)]; rfl
  have h2 : encN 2 = [2] := by rw [encN_lt (by omega)]; rfl
  unfold encL encTs encT sab
  simp only [List.length_cons, List.length_nil, List.flatMap_cons, List.flatMap_nil]
  rw [show (ByteArray.mk #[97, 98]).size = 2 from rfl, show (ByteArray.mk #[]).size = 0 from rfl, h0, show 0 + 1 + 1 = 2 from rfl, h2]
  rfl
theorem al1 : al ⟨#[2, 2, 97, 98, 0]⟩ = (sab, 0) := by decide +kernel
theorem al2 : al ⟨#[2, 2, 97, 98, 0, 33]⟩ = ([], 6) := by decide +kernel
theorem gn1 : gn [172, 2, 33] = (300, 2, 0) := by decide +kernel
theorem gn2 : gn [128, 0] = (0, 0, 6) := by decide +kernel
theorem gn3 : gn [128] = (0, 0, 5) := by decide +kernel
theorem gt1 : gt ⟨#[1, 97, 98]⟩ = (⟨#[97]⟩, 2, 0) := by decide +kernel

end Go.Proofs.Ytbgooppmhgaicab
