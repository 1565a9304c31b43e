
/-
  The document's GetNum.
-/
import Derived.Test.YtglfdenlgglccaaDoorOctC
namespace Go.Proofs.YtglfdenlgglccaaDoor
set_option linter.unusedVariables false
set_option linter.unusedSimpArgs false
set_option maxRecDepth 100000
open Go.RowKit

/-- What is read of bytes that are a number's is written by these, just if it is not too long, and not too great. -/
theorem gn_last (s : ByteArray) (i acc : Nat) (hi : i < s.size) (hp : ∀ x ∈ s.data.toList.take i, 128 ≤ x.toNat) (hacc : acc = valN (s.data.toList.take i)) (b : Nat) (hb : (s[i]'hi).toNat = b) (hb1 : b < 128) :
    mkS (encN (acc + b % 128 * 128 ^ i)) = s.extract 0 (i + 1) ↔ ¬ (0 < i ∧ b = 0) := by
  have e1 : s.extract 0 (i + 1) = mkS (s.data.toList.take i ++ [s[i]'hi]) := by
    apply ByteArray.ext
    rw [ByteArray.data_extract]
    apply Array.toList_inj.1
    have e := List.take_succ_eq_append_getElem (l := s.data.toList) (i := i) (by simpa using hi)
    exact (by simp [List.extract] : _ = List.take (i + 1) s.data.toList).trans e
  have hl : (s.data.toList.take i).length = i := by simp; have : s.data.size = s.size := rfl; omega
  have e2 : acc + b % 128 * 128 ^ i = valN (s.data.toList.take i ++ [s[i]'hi]) := by rw [valN_snoc, hl, hb, hacc]
  rw [e1, e2]
  constructor
  · intro h ⟨h1, h2⟩
    have := encN_last _ _ _ (mkS_inj h) (by rw [hb]; exact h2)
    rw [this] at hl; simp at hl; omega
  · intro h
    congr 1
    refine enc_val _ _ hp (by omega) ?_
    by_cases h0 : i = 0
    · left; subst h0; simp
    · right; rw [hb]; omega

theorem valN_take (s : ByteArray) (i : Nat) (hi : i < s.size) (b : Nat) (hb : (s[i]'hi).toNat = b) : valN (s.data.toList.take (i + 1)) = valN (s.data.toList.take i) + b % 128 * 128 ^ i := by
  have hl : (s.data.toList.take i).length = i := by simp; have : s.data.size = s.size := rfl; omega
  rw [List.take_succ_eq_append_getElem (by simpa using hi), valN_snoc, hl]
  subst hb; rfl
theorem take_all (s : ByteArray) (i : Nat) (hi : i < s.size) (hp : ∀ x ∈ s.data.toList.take i, 128 ≤ x.toNat) (hb : 128 ≤ (s[i]'hi).toNat) : ∀ x ∈ s.data.toList.take (i + 1), 128 ≤ x.toNat := by
  intro x hx
  rw [List.take_succ_eq_append_getElem (by simpa using hi)] at hx
  rcases List.mem_append.1 hx with h | h
  · exact hp x h
  · simp at h; subst h; exact hb

theorem toList_yes {a b : ByteArray} (h : a = b) : (a.toList == b.toList) = true := by subst h; simp
theorem toList_no {a b : ByteArray} (h : a ≠ b) : (a.toList == b.toList) = false := by
  rw [beq_eq_false_iff_ne, ByteArray.toList_eq, ByteArray.toList_eq]
  intro e; exact h (ByteArray.ext (Array.toList_inj.1 e))
theorem pow7 : (128 : Nat) ^ 7 = 562949953421312 := by decide

set_option maxRecDepth 20000 in
set_option maxHeartbeats 1000000 in
theorem refGetNum_any (w : World) (s : ByteArray) (hs : s.size ≤ 281474976710656) :
    Calls Tryd.prog 29 #[.string s] w fun e w' => e = .returned (tup3 (gn s.data.toList)) ∧ Below w.heap.size w w' := by
  obtain ⟨r, hr⟩ : ∃ r, r = gn s.data.toList := ⟨_, rfl⟩
  rw [← hr]
  go_enter Tryd.func29, Tryd.ntmps29
  go_wp2
  go_loopw [5, 6, 7] (fun t5 t6 t7 wr => ∃ (i acc u : Nat), t7 = .int .i64 i ∧ i ≤ 7 ∧ i ≤ s.size ∧ t5 = .int .u64 acc ∧ t6 = .int .u64 u ∧ u = 128 ^ i ∧ acc = valN (s.data.toList.take i) ∧ (∀ x ∈ s.data.toList.take i, 128 ≤ x.toNat) ∧
      gnAux (7 - i) i acc (s.data.toList.drop i) = r ∧ wr = w)
      (fun _ _ t7 _ => 8 - (intOf t7).toNat)
  case atStart => exact ⟨0, 0, 1, rfl, by omega, by omega, rfl, rfl, rfl, by simp [valN], by simp, by rw [hr]; rfl, rfl⟩
  case round =>
    obtain ⟨i, acc, u, rfl, hi, his, rfl, rfl, hu, hacc, hall, heq, rfl⟩ := hrel
    have hal : acc < 128 ^ i := by
      have h1 := valN_lt (s.data.toList.take i)
      have h2 : (s.data.toList.take i).length = i := by simp; have : s.data.size = s.size := rfl; omega
      rw [h2] at h1; omega
    have hp7 : 128 ^ i ≤ 562949953421312 := by rw [← pow7]; exact pow128_le hi
    have hup : u ≤ 562949953421312 := by omega
    have hua : acc < u := by omega
    have HU := hidp hu; have HC := hidp hacc; have HALL := hidp hall; clear hu hacc hall hal hp7
    by_cases hl : i < s.size
    · by_cases h7 : i < 7
      · have h7' : ((i : Int) == 7) = false := by simp; omega
        have e1 := hidp (drop_byte s i hl)
        obtain ⟨bn, hbn⟩ : ∃ bn, (s[i]'hl).toNat = bn := ⟨_, rfl⟩
        have hb : bn < 256 := by rw [← hbn]; exact UInt8.toNat_lt _
        obtain ⟨k, hk⟩ : ∃ k, 7 - i = k + 1 := ⟨6 - i, by omega⟩
        obtain ⟨acc', hacc'⟩ : ∃ a, acc + bn % 128 * 128 ^ i = a := ⟨_, rfl⟩
        have hst : gnAux (7 - i) i acc (s.data.toList.drop i) = if 128 ≤ bn then gnAux k (i + 1) acc' (s.data.toList.drop (i + 1)) else if 0 < i ∧ bn = 0 ∨ 281474976710656 < acc' then (0, 0, 6) else (acc', i + 1, 0) := by
          rw [e1.out, hk, gnAux, hbn, hacc']
        have HE := hidp (heq.symm.trans hst); have HR := hidp hr; clear heq hr hst
        have hv : acc' = valN (s.data.toList.take (i + 1)) := by rw [← hacc', valN_take s i hl bn hbn, HC.out]
        obtain ⟨c, hc⟩ : ∃ c, bn % 128 * u = c := ⟨_, rfl⟩
        have hc1 : c ≤ 562949953421312 * 128 := by rw [← hc, Nat.mul_comm]; exact Nat.mul_le_mul hup (by omega)
        have hcw : IntKind.u64.wrap ((bn : Int) % 128 * (u : Int)) = (c : Int) := by
          rw [← hc, show ((bn : Int) % 128 * (u : Int)) = ((bn % 128 * u : Nat) : Int) from by simp]
          exact IntWalk.u64_in _ ⟨by omega, by rw [hc]; omega⟩
        have hsum : (acc : Int) + (c : Int) = (acc' : Int) := by rw [← hacc', ← hc, HU.out]; simp
        have hacn : acc' ≤ 562949953421312 + 562949953421312 * 128 := by omega
        obtain ⟨u', hu'⟩ : ∃ u', u * 128 = u' := ⟨_, rfl⟩
        have hu2 : (u : Int) * 128 = (u' : Int) := by omega
        have HU' := hidp (show u' = 128 ^ (i + 1) from by rw [← hu', HU.out, Nat.pow_succ])
        have hul : u' ≤ 562949953421312 * 128 := by omega
        have HV := hidp hv
        have Hacc := hidp hacc'
        clear hacc' hc hu' hv
        have HK := hidp hk
        clear hk
        by_cases hbig : 128 ≤ bn
        · have HF := hidp (HE.out.trans (if_pos hbig)); clear HE
          have HT := hidp (take_all s i hl HALL.out (by rw [hbn]; exact hbig))
          go_wp2
          exact ⟨⟨i + 1, acc', u', by go_num, by omega, by omega, rfl, rfl, HU'.out, HV.out, HT.out, by rw [HF.out, show 7 - (i + 1) = k from by have := HK.out; omega], trivial⟩, by simp [intOf]; omega⟩
        · have HF := hidp (HE.out.trans (if_neg hbig)); clear HE
          have HG := hidp (gn_last s i acc hl HALL.out HC.out bn hbn (by omega))
          have Hacc2 := hidp (Hacc.out ▸ HG.out); clear HG
          by_cases hov : acc' ≤ 281474976710656
          · have hN := fun w => refNum_any w acc' (by omega)
            rw [numS_yes hov, numE_yes hov] at hN
            have HN := hidp hN; clear hN
            by_cases hg : 0 < i ∧ bn = 0
            · have ht := toList_no (fun e => Hacc2.out.1 e hg)
              have HQ := hidp (HF.out.trans (if_pos (.inl hg))); clear HF hg
              go_wp2_with (go_at_call 24; (refine (HN.out _).mono ?_); rintro e w1 ⟨rfl, hb1⟩)
              go_ret3
              exact ⟨by rw [HQ.out]; rfl, hb1⟩
            · have ht := toList_yes (Hacc2.out.2 hg)
              have HQ := hidp (HF.out.trans (if_neg (by omega))); clear HF hg
              go_wp2_with (go_at_call 24; (refine (HN.out _).mono ?_); rintro e w1 ⟨rfl, hb1⟩)
              go_ret3
              exact ⟨by rw [HQ.out]; rfl, hb1⟩
          · have hN := fun w => refNum_any w acc' (by omega)
            rw [numS_no hov, numE_no hov] at hN
            have HN := hidp hN; clear hN
            have HQ := hidp (HF.out.trans (if_pos (.inr (by omega)))); clear HF
            go_wp2_with (go_at_call 24; (refine (HN.out _).mono ?_); rintro e w1 ⟨rfl, hb1⟩)
            go_ret3
            exact ⟨by rw [HQ.out]; rfl, hb1⟩
      · have : i = 7 := by omega
        subst this
        have HE := hidp heq; have HR := hidp hr; clear heq hr
        go_wp2
        go_ret3
        exact ⟨by rw [← HE.out]; rfl, Below.refl _ _⟩
    · rw [drop_end s i (by omega)] at heq
      have HE := hidp heq; have HR := hidp hr; clear heq hr
      by_cases h7 : i < 7
      · obtain ⟨k, hk⟩ : ∃ k, 7 - i = k + 1 := ⟨6 - i, by omega⟩
        have HE2 := hidp (show (0, 0, 5) = r from by rw [← HE.out, hk]; rfl)
        clear hk
        go_wp2
        go_ret3
        exact ⟨by rw [← HE2.out]; rfl, Below.refl _ _⟩
      · have HE2 := hidp (show (0, 0, 6) = r from by rw [← HE.out, show 7 - i = 0 from by omega]; rfl)
        go_wp2
        go_ret3
        exact ⟨by rw [← HE2.out]; rfl, Below.refl _ _⟩
end Go.Proofs.YtglfdenlgglccaaDoor
