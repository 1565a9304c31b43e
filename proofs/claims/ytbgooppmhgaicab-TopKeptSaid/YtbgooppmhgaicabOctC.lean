
/-
  octet.GetNum and the document's: the number that bytes begin with.
-/
import Derived.Test.YtbgooppmhgaicabOctB
namespace Go.Proofs.Ytbgooppmhgaicab
set_option linter.unusedVariables false
set_option linter.unusedSimpArgs false
set_option maxRecDepth 100000
open Go.RowKit

def tup3 (r : Nat × Nat × Nat) : Value := .tuple #[.int .u64 r.1, .int .i64 r.2.1, .int .i64 r.2.2]

set_option maxRecDepth 20000 in
set_option maxHeartbeats 1000000 in
theorem getNum_any (w : World) (s : ByteArray) (hs : s.size ≤ 281474976710656) :
    Calls Try.prog 43 #[.string s] w fun e w' => e = .returned (tup3 (gn s.data.toList)) ∧ w = w' := by
  obtain ⟨r, hr⟩ : ∃ r, r = gn s.data.toList := ⟨_, rfl⟩
  rw [← hr]
  go_enter Try.func43, Try.ntmps43
  go_wp2
  go_loop [5, 8] (fun t5 t8 => ∃ (i acc : Nat), t8 = .int .i64 i ∧ i ≤ 7 ∧ i ≤ s.size ∧ t5 = .int .u64 acc ∧ acc < 128 ^ i ∧ gnAux (7 - i) i acc (s.data.toList.drop i) = r)
      (fun _ t8 => 7 - (intOf t8).toNat)
  case atStart => exact ⟨0, 0, rfl, by omega, by omega, rfl, by simp, by rw [hr]; rfl⟩
  case round =>
    obtain ⟨i, acc, rfl, hi, his, rfl, hacc, heq⟩ := hrel
    have HA := hidp hacc; clear hacc
    by_cases h7 : i < 7
    · by_cases hl : i < s.size
      · have e1 := hidp (drop_byte s i hl)
        obtain ⟨bn, hbn⟩ : ∃ bn, (s[i]'hl).toNat = bn := ⟨_, rfl⟩
        have hb : bn < 256 := by rw [← hbn]; exact UInt8.toNat_lt _
        obtain ⟨k, hk⟩ : ∃ k, 7 - i = k + 1 := ⟨6 - i, by omega⟩
        obtain ⟨acc', hacc'⟩ : ∃ a, acc + bn % 128 * 128 ^ i = a := ⟨_, rfl⟩
        have hst : gnAux (7 - i) i acc (s.data.toList.drop i) = if 128 ≤ bn then gnAux k (i + 1) acc' (s.data.toList.drop (i + 1)) else if 0 < i ∧ bn = 0 ∨ 281474976710656 < acc' then (0, 0, 6) else (acc', i + 1, 0) := by
          rw [e1.out, hk, gnAux, hbn, hacc']
        have HE := hidp (heq.symm.trans hst); have HR := hidp hr; clear heq hr hst
        have hor : bits .or .u64 (acc : Int) (IntKind.u64.wrap (IntKind.u64.wrap (bits .and .u8 (bn : Int) 127) * 2 ^ (7 * i))) = (acc' : Int) := by rw [← hacc']; exact or_step acc bn i hb h7 HA.out
        have HL := hidp (hacc' ▸ acc_lt acc bn i HA.out)
        have HK := hidp hk
        clear hacc' hk
        by_cases hbig : 128 ≤ bn
        · have hc := and128_yes bn hb hbig
          have HF := hidp (HE.out.trans (if_pos hbig)); clear HE
          go_wp2
          exact ⟨⟨i + 1, acc', by go_num, by omega, by omega, rfl, HL.out, by rw [HF.out, show 7 - (i + 1) = k from by have := HK.out; omega]⟩, by simp [intOf]; omega⟩
        · have hc := and128_no bn (by omega)
          have HF := hidp (HE.out.trans (if_neg hbig)); clear HE
          by_cases hi0 : 0 < i
          · by_cases hb0 : bn = 0
            · have hz : ((bn : Int) == 0) = true := by simp [hb0]
              have HG := hidp (HF.out.trans (if_pos (.inl ⟨hi0, hb0⟩))); clear HF
              have Hb := hidp hb0; clear hb0
              go_wp2
              go_ret3
              exact ⟨by rw [HG.out]; rfl, rfl⟩
            · have hz : ((bn : Int) == 0) = false := by simp; omega
              by_cases hov : 281474976710656 < acc'
              · have HG := hidp (HF.out.trans (if_pos (.inr hov))); clear HF
                go_wp2
                go_ret3
                exact ⟨by rw [HG.out]; rfl, rfl⟩
              · have HG := hidp (HF.out.trans (if_neg (by omega))); clear HF
                go_wp2
                go_ret3
                exact ⟨by rw [HG.out]; rfl, rfl⟩
          · by_cases hov : 281474976710656 < acc'
            · have HG := hidp (HF.out.trans (if_pos (.inr hov))); clear HF
              go_wp2
              go_ret3
              exact ⟨by rw [HG.out]; rfl, rfl⟩
            · have HG := hidp (HF.out.trans (if_neg (by omega))); clear HF
              go_wp2
              go_ret3
              exact ⟨by rw [HG.out]; rfl, rfl⟩
      · obtain ⟨k, hk⟩ : ∃ k, 7 - i = k + 1 := ⟨6 - i, by omega⟩
        rw [drop_end s i (by omega), hk, gnAux] at heq
        have HE := hidp heq; have HR := hidp hr; clear heq hr hk
        have hq' : ((i : Int) == (s.size : Int)) = true := by simp; omega
        go_wp2
        go_ret3
        exact ⟨by rw [← HE.out]; rfl, rfl⟩
    · have : i = 7 := by omega
      subst this
      have HE := hidp heq; have HR := hidp hr; clear heq hr
      go_wp2
      go_ret3
      exact ⟨by rw [← HE.out]; rfl, rfl⟩
end Go.Proofs.Ytbgooppmhgaicab
