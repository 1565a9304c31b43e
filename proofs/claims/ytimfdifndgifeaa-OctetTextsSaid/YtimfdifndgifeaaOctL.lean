/-
  octet.All; and the answers that the laws ask for first.
-/
import Derived.Test.YtimfdifndgifeaaOctK
namespace Go.Proofs.Ytimfdifndgifeaa
open Go.RowKit

theorem getList_any (w : World) (s : ByteArray) (hs : s.size ≤ 281474976710656) :
    Calls Try.prog 19 #[.string s] w fun e w' => ∃ v, e = .returned (.tuple #[v, .int .i64 (gl s).2.1, .int .i64 (gl s).2.2]) ∧ StrsAt w' v (gl s).1 ∧ Below w.heap.size w w' :=
  callsIn_wide.1 (getList_in 6 (by omega) w s hs)

set_option maxHeartbeats 1000000 in
set_option maxRecDepth 20000 in
theorem all_any (w : World) (s : ByteArray) (hs : s.size ≤ 281474976710656) :
    Calls Try.prog 21 #[.string s] w fun e w' => ∃ v, e = .returned (.tuple #[v, .int .i64 (al s).2]) ∧ StrsAt w' v (al s).1 ∧ Below w.heap.size w w' := by
  have hG := getList_any w s hs
  have hbd := gl_bd s
  unfold al
  obtain ⟨⟨L, k, e⟩, hr⟩ : ∃ r, r = gl s := ⟨_, rfl⟩
  rw [← hr] at hG hbd ⊢
  clear hr
  simp only at hG hbd ⊢
  obtain ⟨h1, h2, h3, h4⟩ := hbd
  have HG := hidp hG; have H4 := hidp h4; clear hG h4
  by_cases he : e = 0
  · have heb := errB0 he
    rw [if_neg (by simpa using he)]
    have H0 := hidp he; clear he
    by_cases hsz : k < s.size
    · rw [if_pos hsz]
      go_enter Try.func21, Try.ntmps21
      go_wp2_with (go_at_call 19; (refine HG.out.mono ?_); rintro e1 w1 ⟨v1, rfl, hst, hb1⟩)
      go_ret2
      exact ⟨_, rfl, strsNil _, hb1⟩
    · rw [if_neg hsz]
      go_enter Try.func21, Try.ntmps21
      go_wp2_with (go_at_call 19; (refine HG.out.mono ?_); rintro e1 w1 ⟨v1, rfl, hst, hb1⟩; have HST := hidp hst; clear hst)
      go_ret2
      exact ⟨_, rfl, HST.out, hb1⟩
  · have heb := errB he
    rw [if_pos he]
    have H0 := hidp he; clear he
    go_enter Try.func21, Try.ntmps21
    go_wp2_with (go_at_call 19; (refine HG.out.mono ?_); rintro e1 w1 ⟨v1, rfl, hst, hb1⟩)
    go_ret2
    exact ⟨_, rfl, strsNil _, hb1⟩

theorem strsLit2 (w : World) (a b : ByteArray) (e : Nat) : StrsAt (w.alloc (.cells #[.string a, .string b] e)) (.slice (some ⟨w.heap.size, 0, none⟩) 2 2) [a, b] := by
  refine ⟨_, _, rfl, fun k hk => ⟨w.heap.size, 0, rfl, ?_⟩⟩
  have h : (w.alloc (.cells #[.string a, .string b] e)).heap[w.heap.size]? = some (.cells #[.string a, .string b] e) := heap_alloc_new w _
  match k, hk with
  | 0, _ => unfold World.cell?; dsimp only; rw [h]; rfl
  | 1, _ => unfold World.cell?; dsimp only; rw [h]; rfl
theorem e300 : mkS (encN 300) = ⟨#[172, 2]⟩ := by rw [encN_ge (by omega), encN_lt (by omega)]; rfl
def sab : List ByteArray := [⟨#[97, 98]⟩, ⟨#[]⟩]
theorem esab : listS sab = ⟨#[2, 2, 97, 98, 0]⟩ ∧ listE sab = 0 := by
  have hok : okL sab := by refine ⟨by decide, ?_⟩; intro s hs; simp [sab] at hs; rcases hs with rfl | rfl <;> decide
  rw [listS_yes hok, listE_yes hok]
  refine ⟨?_, rfl⟩
  have h0 : encN 0 = [0] := by rw [encN_lt (by omega)]; rfl
  have h2 : encN 2 = [2] := by rw [encN_lt (by omega)]; rfl
  unfold encL encTs encT sab
  simp only [List.length_cons, List.length_nil, List.flatMap_cons, List.flatMap_nil]
  rw [show (ByteArray.mk #[97, 98]).size = 2 from rfl, show (ByteArray.mk #[]).size = 0 from rfl, h0, show 0 + 1 + 1 = 2 from rfl, h2]
  rfl
theorem al1 : al ⟨#[2, 2, 97, 98, 0]⟩ = (sab, 0) := by decide +kernel
theorem al2 : al ⟨#[2, 2, 97, 98, 0, 33]⟩ = ([], 6) := by decide +kernel
theorem gn1 : gn [172, 2, 33] = (300, 2, 0) := by decide +kernel
theorem gn2 : gn [128, 0] = (0, 0, 6) := by decide +kernel
theorem gn3 : gn [128] = (0, 0, 5) := by decide +kernel
theorem gt1 : gt ⟨#[1, 97, 98]⟩ = (⟨#[97]⟩, 2, 0) := by decide +kernel

set_option maxHeartbeats 4000000 in
set_option maxRecDepth 100000 in
theorem lives_any (w : World) : Calls Try.prog 12 #[] w fun e w' => e = .returned (.bool true) ∧ Below w.heap.size w w' := by
  have c1 : Hid (∀ w, Calls Try.prog 8 #[.int .u64 300] w fun e w' => e = .returned (.tuple #[.string ⟨#[172, 2]⟩, .int .i64 0]) ∧ Below w.heap.size w w') := fun w => by
    have := num_any w 300 (by omega); rw [numS_yes (by omega), numE_yes (by omega), e300] at this; exact this
  have c2 : Hid (∀ w, Calls Try.prog 10 #[.string ⟨#[172, 2, 33]⟩] w fun e w' => e = .returned (.tuple #[.int .u64 300, .int .i64 2, .int .i64 0]) ∧ w = w') := fun w => by
    have := getNum_any w ⟨#[172, 2, 33]⟩ (by decide); rw [show (ByteArray.mk #[172, 2, 33]).data.toList = [172, 2, 33] from rfl, gn1] at this; exact this
  have c3 : Hid (∀ w, Calls Try.prog 10 #[.string ⟨#[128, 0]⟩] w fun e w' => e = .returned (.tuple #[.int .u64 0, .int .i64 0, .int .i64 6]) ∧ w = w') := fun w => by
    have := getNum_any w ⟨#[128, 0]⟩ (by decide); rw [show (ByteArray.mk #[128, 0]).data.toList = [128, 0] from rfl, gn2] at this; exact this
  have c4 : Hid (∀ w, Calls Try.prog 10 #[.string ⟨#[128]⟩] w fun e w' => e = .returned (.tuple #[.int .u64 0, .int .i64 0, .int .i64 5]) ∧ w = w') := fun w => by
    have := getNum_any w ⟨#[128]⟩ (by decide); rw [show (ByteArray.mk #[128]).data.toList = [128] from rfl, gn3] at this; exact this
  have c6 : Hid (∀ w, Calls Try.prog 21 #[.string ⟨#[2, 2, 97, 98, 0]⟩] w fun e w' => ∃ v, e = .returned (.tuple #[v, .int .i64 0]) ∧ StrsAt w' v sab ∧ Below w.heap.size w w') := fun w => by
    have := all_any w ⟨#[2, 2, 97, 98, 0]⟩ (by decide); rw [al1] at this; exact this
  have c7 : Hid (∀ w, Calls Try.prog 21 #[.string ⟨#[2, 2, 97, 98, 0, 33]⟩] w fun e w' => ∃ v, e = .returned (.tuple #[v, .int .i64 6]) ∧ StrsAt w' v [] ∧ Below w.heap.size w w') := fun w => by
    have := all_any w ⟨#[2, 2, 97, 98, 0, 33]⟩ (by decide); rw [al2] at this; exact this
  have c8 : Hid (∀ w, Calls Try.prog 17 #[.string ⟨#[1, 97, 98]⟩] w fun e w' => e = .returned (.tuple #[.string ⟨#[97]⟩, .int .i64 2, .int .i64 0]) ∧ Below w.heap.size w w') := fun w => by
    have := getText_any w ⟨#[1, 97, 98]⟩ (by decide); rw [gt1] at this; exact this
  have c9 : Hid (∀ w, Calls Try.prog 8 #[.int .u64 281474976710657] w fun e w' => e = .returned (.tuple #[.string ByteArray.empty, .int .i64 1]) ∧ Below w.heap.size w w') := fun w => by
    have := num_any w 281474976710657 (by omega); rw [numS_no (by omega), numE_no (by omega)] at this; exact this
  go_enter Try.func12, Try.ntmps12
  go_wp2_with fail
  refine (c1.out _).mono ?_
  rintro e w1 ⟨rfl, hb1⟩
  go_wp2_with fail
  refine (c2.out _).mono ?_
  rintro e w1' ⟨rfl, rfl⟩
  go_wp2_with fail
  refine (c3.out _).mono ?_
  rintro e w1' ⟨rfl, rfl⟩
  go_wp2_with fail
  refine (c4.out _).mono ?_
  rintro e w1' ⟨rfl, rfl⟩
  go_wp2_with fail
  have h5 := list_any (w1.alloc (.cells #[.string ⟨#[97, 98]⟩, .string ⟨#[]⟩] 9)) (.slice (some ⟨w1.heap.size, 0, none⟩) 2 2) sab (strsLit2 _ _ _ _) (by decide) (by intro s hs; simp [sab] at hs; rcases hs with rfl | rfl <;> decide)
  rw [esab.1, esab.2] at h5
  refine h5.mono ?_
  clear h5
  rintro e w2 ⟨rfl, hb2⟩
  have hB2 := hidp (hb1.trans ((((Below.refl _ w1).alloc (Nat.le_refl _) _).trans (hb2.mono (by simp))).mono hb1.size))
  clear hb1 hb2
  go_wp2_with fail
  refine (c6.out _).mono ?_
  rintro e w3 ⟨v3, rfl, hs3, hb3⟩
  have hB3 := hidp (hB2.out.trans (hb3.mono hB2.out.size))
  clear hb3
  have HS3 := hidp hs3; clear hs3
  have hsz : (ByteArray.mk #[2, 2, 97, 98, 0]).size ≤ 5 := by decide
  go_wp2_with fail
  refine (c7.out _).mono ?_
  rintro e w4 ⟨v4, rfl, hs4, hb4⟩
  have hB4 := hidp (hB3.out.trans (hb4.mono hB3.out.size))
  have HS4 := hidp (HS3.out.below hb4 (Nat.le_refl _))
  clear hb4 hs4
  go_wp2_with fail
  refine (c8.out _).mono ?_
  rintro e w5 ⟨rfl, hb5⟩
  have hB5 := hidp (hB4.out.trans (hb5.mono hB4.out.size))
  have HS5 := hidp (HS4.out.below hb5 (Nat.le_refl _))
  clear hb5
  go_wp2_with fail
  refine (c9.out _).mono ?_
  rintro e w6 ⟨rfl, hb6⟩
  have hB6 := hidp (hB5.out.trans (hb6.mono hB5.out.size))
  have HS6 := hidp (HS5.out.below hb6 (Nat.le_refl _))
  clear hb6
  go_wp2_with fail
  have h10 := same_any (w6.alloc (.cells #[.string ⟨#[97, 98]⟩, .string ⟨#[]⟩] 9)) v3 (.slice (some ⟨w6.heap.size, 0, none⟩) 2 2) sab sab (HS6.out.below ((Below.refl _ w6).alloc (Nat.le_refl _) _) (Nat.le_refl _)) (strsLit2 _ _ _ _) (by decide) (by decide)
  rw [sameB_self] at h10
  refine h10.mono ?_
  clear h10
  rintro e w7 ⟨rfl, hb7⟩
  have hB7 := hidp (hB6.out.trans ((((Below.refl _ w6).alloc (Nat.le_refl _) _).trans (hb7.mono (by simp))).mono hB6.out.size))
  clear hb7
  go_wp2
  go_ret
  exact ⟨rfl, hB7.out⟩
end Go.Proofs.Ytimfdifndgifeaa
