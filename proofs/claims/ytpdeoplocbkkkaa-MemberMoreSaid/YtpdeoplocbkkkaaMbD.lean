
/-
  member: the document's answer.
-/
import Derived.Test.YtpdeoplocbkkkaaMbC
namespace Go.Proofs.Ytpdeoplocbkkkaa
set_option maxRecDepth 100000
set_option linter.unusedVariables false
set_option linter.unusedSimpArgs false
open Go.RowKit

set_option maxHeartbeats 16000000 in
theorem ral_0 (w : World) (r s a t : ByteArray) (sf iv ki bn ab : Bool) (hO : One t 0) (hck : ckE r s a t = 0) :
    Calls Try.prog 11 #[.agg #[.string r, .string s, .string a, .string t, .bool sf, .bool iv, .bool ki, .bool bn, .bool ab]] w fun e w' => e = .returned (.int .i64 (alE r s a t sf iv ki bn ab)) ∧ Below w.heap.size w w' := by
  obtain ⟨o0, o1, o2, o3, o4⟩ := hO
  simp only [decide_true, show decide ((0 : Nat) = 0) = true from rfl, show decide ((0 : Nat) = 1) = false from rfl, show decide ((0 : Nat) = 2) = false from rfl, show decide ((0 : Nat) = 3) = false from rfl, show decide ((0 : Nat) = 4) = false from rfl] at o0 o1 o2 o3 o4
  have ck := hidp (fun W => rcheck_any W r s a t sf iv ki bn ab)
  cases sf with
  | false =>
    have HF := hidp (show (alE r s a t false iv ki bn ab) = 12 from by unfold alE mayB entB byB remB anyW; simp [o0, o1, o2, o3, o4, hck])
    rw [hck] at ck
    go_enter Try.func11, Try.ntmps11
    go_wp2_with (first | (refine wpL_boxT 23 rfl _ rfl [.string r, .string s, .string a, .string t, .bool false, .bool iv, .bool ki, .bool bn, .bool ab] rfl ?_; intro b1 w1 n1; have HB := hidp n1.below; have HA := hidp n1.arr; clear n1; obtain ⟨x0, x1, x2, x3, x4, x5, x6, x7, x8⟩ := arr9 HA.out) | (refine wpL_getM rfl (.tmp 1) rfl b1 [.string r, .string s, .string a, .string t, .bool false, .bool iv, .bool ki, .bool bn, .bool ab] rfl rfl HA.out ?_) | (go_at_call 9; refine (ck.out _).mono ?_; rintro e w1 ⟨rfl, hb⟩; clear x0 x1 x2 x3 x4 x5 x6 x7 x8; replace HB := hidp (HB.out.trans (hb.mono HB.out.size)); replace HA := hidp (HA.out.below hb HA.out.lt); clear hb; obtain ⟨x0, x1, x2, x3, x4, x5, x6, x7, x8⟩ := arr9 HA.out; go_wp2_with (go_at_call 17; refine (rin_any _ _).mono ?_; rintro e w1 ⟨rfl, rfl⟩)))
    go_ret
    exact ⟨by rw [HF.out]; rfl, HB.out⟩
  | true =>
    cases q1 : (a.toList == ([106, 111, 105, 110] : List UInt8)) with
    | false =>
      cases q2 : (a.toList == ([98, 97, 110] : List UInt8)) with
      | false =>
        cases q3 : (r.toList == ([112, 117, 98, 108, 105, 99] : List UInt8)) with
        | false =>
          cases q4 : (a.toList == ([105, 110, 118, 105, 116, 101] : List UInt8)) with
          | false =>
            have HF := hidp (show (alE r s a t true iv ki bn ab) = 12 from by unfold alE mayB entB byB remB anyW; simp [o0, o1, o2, o3, o4, q1, q2, q3, q4, hck])
            have m1 : (a.toList != ([106, 111, 105, 110] : List UInt8)) = true := by rw [bne, q1]; rfl
            have m2 : (a.toList != ([98, 97, 110] : List UInt8)) = true := by rw [bne, q2]; rfl
            have m3 : (r.toList != ([112, 117, 98, 108, 105, 99] : List UInt8)) = true := by rw [bne, q3]; rfl
            have m4 : (a.toList != ([105, 110, 118, 105, 116, 101] : List UInt8)) = true := by rw [bne, q4]; rfl
            rw [hck] at ck
            go_enter Try.func11, Try.ntmps11
            go_wp2_with (first | (refine wpL_boxT 23 rfl _ rfl [.string r, .string s, .string a, .string t, .bool true, .bool iv, .bool ki, .bool bn, .bool ab] rfl ?_; intro b1 w1 n1; have HB := hidp n1.below; have HA := hidp n1.arr; clear n1; obtain ⟨x0, x1, x2, x3, x4, x5, x6, x7, x8⟩ := arr9 HA.out) | (refine wpL_getM rfl (.tmp 1) rfl b1 [.string r, .string s, .string a, .string t, .bool true, .bool iv, .bool ki, .bool bn, .bool ab] rfl rfl HA.out ?_) | (go_at_call 9; refine (ck.out _).mono ?_; rintro e w1 ⟨rfl, hb⟩; clear x0 x1 x2 x3 x4 x5 x6 x7 x8; replace HB := hidp (HB.out.trans (hb.mono HB.out.size)); replace HA := hidp (HA.out.below hb HA.out.lt); clear hb; obtain ⟨x0, x1, x2, x3, x4, x5, x6, x7, x8⟩ := arr9 HA.out; go_wp2_with (go_at_call 17; refine (rin_any _ _).mono ?_; rintro e w1 ⟨rfl, rfl⟩)))
            go_ret
            exact ⟨by rw [HF.out]; rfl, HB.out⟩
          | true =>
            have HF := hidp (show (alE r s a t true iv ki bn ab) = 0 from by unfold alE mayB entB byB remB anyW; simp [o0, o1, o2, o3, o4, q1, q2, q3, q4, hck])
            have m1 : (a.toList != ([106, 111, 105, 110] : List UInt8)) = true := by rw [bne, q1]; rfl
            have m2 : (a.toList != ([98, 97, 110] : List UInt8)) = true := by rw [bne, q2]; rfl
            have m3 : (r.toList != ([112, 117, 98, 108, 105, 99] : List UInt8)) = true := by rw [bne, q3]; rfl
            have m4 : (a.toList != ([105, 110, 118, 105, 116, 101] : List UInt8)) = false := by rw [bne, q4]; rfl
            rw [hck] at ck
            go_enter Try.func11, Try.ntmps11
            go_wp2_with (first | (refine wpL_boxT 23 rfl _ rfl [.string r, .string s, .string a, .string t, .bool true, .bool iv, .bool ki, .bool bn, .bool ab] rfl ?_; intro b1 w1 n1; have HB := hidp n1.below; have HA := hidp n1.arr; clear n1; obtain ⟨x0, x1, x2, x3, x4, x5, x6, x7, x8⟩ := arr9 HA.out) | (refine wpL_getM rfl (.tmp 1) rfl b1 [.string r, .string s, .string a, .string t, .bool true, .bool iv, .bool ki, .bool bn, .bool ab] rfl rfl HA.out ?_) | (go_at_call 9; refine (ck.out _).mono ?_; rintro e w1 ⟨rfl, hb⟩; clear x0 x1 x2 x3 x4 x5 x6 x7 x8; replace HB := hidp (HB.out.trans (hb.mono HB.out.size)); replace HA := hidp (HA.out.below hb HA.out.lt); clear hb; obtain ⟨x0, x1, x2, x3, x4, x5, x6, x7, x8⟩ := arr9 HA.out; go_wp2_with (go_at_call 17; refine (rin_any _ _).mono ?_; rintro e w1 ⟨rfl, rfl⟩)))
            go_ret
            exact ⟨by rw [HF.out]; rfl, HB.out⟩
        | true =>
          have HF := hidp (show (alE r s a t true iv ki bn ab) = 0 from by unfold alE mayB entB byB remB anyW; simp [o0, o1, o2, o3, o4, q1, q2, q3, hck])
          have m1 : (a.toList != ([106, 111, 105, 110] : List UInt8)) = true := by rw [bne, q1]; rfl
          have m2 : (a.toList != ([98, 97, 110] : List UInt8)) = true := by rw [bne, q2]; rfl
          have m3 : (r.toList != ([112, 117, 98, 108, 105, 99] : List UInt8)) = false := by rw [bne, q3]; rfl
          rw [hck] at ck
          go_enter Try.func11, Try.ntmps11
          go_wp2_with (first | (refine wpL_boxT 23 rfl _ rfl [.string r, .string s, .string a, .string t, .bool true, .bool iv, .bool ki, .bool bn, .bool ab] rfl ?_; intro b1 w1 n1; have HB := hidp n1.below; have HA := hidp n1.arr; clear n1; obtain ⟨x0, x1, x2, x3, x4, x5, x6, x7, x8⟩ := arr9 HA.out) | (refine wpL_getM rfl (.tmp 1) rfl b1 [.string r, .string s, .string a, .string t, .bool true, .bool iv, .bool ki, .bool bn, .bool ab] rfl rfl HA.out ?_) | (go_at_call 9; refine (ck.out _).mono ?_; rintro e w1 ⟨rfl, hb⟩; clear x0 x1 x2 x3 x4 x5 x6 x7 x8; replace HB := hidp (HB.out.trans (hb.mono HB.out.size)); replace HA := hidp (HA.out.below hb HA.out.lt); clear hb; obtain ⟨x0, x1, x2, x3, x4, x5, x6, x7, x8⟩ := arr9 HA.out; go_wp2_with (go_at_call 17; refine (rin_any _ _).mono ?_; rintro e w1 ⟨rfl, rfl⟩)))
          go_ret
          exact ⟨by rw [HF.out]; rfl, HB.out⟩
      | true =>
        cases q3 : (a.toList == ([105, 110, 118, 105, 116, 101] : List UInt8)) with
        | false =>
          have HF := hidp (show (alE r s a t true iv ki bn ab) = 12 from by unfold alE mayB entB byB remB anyW; simp [o0, o1, o2, o3, o4, q1, q2, q3, hck])
          have m1 : (a.toList != ([106, 111, 105, 110] : List UInt8)) = true := by rw [bne, q1]; rfl
          have m2 : (a.toList != ([98, 97, 110] : List UInt8)) = false := by rw [bne, q2]; rfl
          have m3 : (a.toList != ([105, 110, 118, 105, 116, 101] : List UInt8)) = true := by rw [bne, q3]; rfl
          rw [hck] at ck
          go_enter Try.func11, Try.ntmps11
          go_wp2_with (first | (refine wpL_boxT 23 rfl _ rfl [.string r, .string s, .string a, .string t, .bool true, .bool iv, .bool ki, .bool bn, .bool ab] rfl ?_; intro b1 w1 n1; have HB := hidp n1.below; have HA := hidp n1.arr; clear n1; obtain ⟨x0, x1, x2, x3, x4, x5, x6, x7, x8⟩ := arr9 HA.out) | (refine wpL_getM rfl (.tmp 1) rfl b1 [.string r, .string s, .string a, .string t, .bool true, .bool iv, .bool ki, .bool bn, .bool ab] rfl rfl HA.out ?_) | (go_at_call 9; refine (ck.out _).mono ?_; rintro e w1 ⟨rfl, hb⟩; clear x0 x1 x2 x3 x4 x5 x6 x7 x8; replace HB := hidp (HB.out.trans (hb.mono HB.out.size)); replace HA := hidp (HA.out.below hb HA.out.lt); clear hb; obtain ⟨x0, x1, x2, x3, x4, x5, x6, x7, x8⟩ := arr9 HA.out; go_wp2_with (go_at_call 17; refine (rin_any _ _).mono ?_; rintro e w1 ⟨rfl, rfl⟩)))
          go_ret
          exact ⟨by rw [HF.out]; rfl, HB.out⟩
        | true =>
          have HF := hidp (show (alE r s a t true iv ki bn ab) = 0 from by unfold alE mayB entB byB remB anyW; simp [o0, o1, o2, o3, o4, q1, q2, q3, hck])
          have m1 : (a.toList != ([106, 111, 105, 110] : List UInt8)) = true := by rw [bne, q1]; rfl
          have m2 : (a.toList != ([98, 97, 110] : List UInt8)) = false := by rw [bne, q2]; rfl
          have m3 : (a.toList != ([105, 110, 118, 105, 116, 101] : List UInt8)) = false := by rw [bne, q3]; rfl
          rw [hck] at ck
          go_enter Try.func11, Try.ntmps11
          go_wp2_with (first | (refine wpL_boxT 23 rfl _ rfl [.string r, .string s, .string a, .string t, .bool true, .bool iv, .bool ki, .bool bn, .bool ab] rfl ?_; intro b1 w1 n1; have HB := hidp n1.below; have HA := hidp n1.arr; clear n1; obtain ⟨x0, x1, x2, x3, x4, x5, x6, x7, x8⟩ := arr9 HA.out) | (refine wpL_getM rfl (.tmp 1) rfl b1 [.string r, .string s, .string a, .string t, .bool true, .bool iv, .bool ki, .bool bn, .bool ab] rfl rfl HA.out ?_) | (go_at_call 9; refine (ck.out _).mono ?_; rintro e w1 ⟨rfl, hb⟩; clear x0 x1 x2 x3 x4 x5 x6 x7 x8; replace HB := hidp (HB.out.trans (hb.mono HB.out.size)); replace HA := hidp (HA.out.below hb HA.out.lt); clear hb; obtain ⟨x0, x1, x2, x3, x4, x5, x6, x7, x8⟩ := arr9 HA.out; go_wp2_with (go_at_call 17; refine (rin_any _ _).mono ?_; rintro e w1 ⟨rfl, rfl⟩)))
          go_ret
          exact ⟨by rw [HF.out]; rfl, HB.out⟩
    | true =>
      have HF := hidp (show (alE r s a t true iv ki bn ab) = 0 from by unfold alE mayB entB byB remB anyW; simp [o0, o1, o2, o3, o4, q1, hck])
      have m1 : (a.toList != ([106, 111, 105, 110] : List UInt8)) = false := by rw [bne, q1]; rfl
      rw [hck] at ck
      go_enter Try.func11, Try.ntmps11
      go_wp2_with (first | (refine wpL_boxT 23 rfl _ rfl [.string r, .string s, .string a, .string t, .bool true, .bool iv, .bool ki, .bool bn, .bool ab] rfl ?_; intro b1 w1 n1; have HB := hidp n1.below; have HA := hidp n1.arr; clear n1; obtain ⟨x0, x1, x2, x3, x4, x5, x6, x7, x8⟩ := arr9 HA.out) | (refine wpL_getM rfl (.tmp 1) rfl b1 [.string r, .string s, .string a, .string t, .bool true, .bool iv, .bool ki, .bool bn, .bool ab] rfl rfl HA.out ?_) | (go_at_call 9; refine (ck.out _).mono ?_; rintro e w1 ⟨rfl, hb⟩; clear x0 x1 x2 x3 x4 x5 x6 x7 x8; replace HB := hidp (HB.out.trans (hb.mono HB.out.size)); replace HA := hidp (HA.out.below hb HA.out.lt); clear hb; obtain ⟨x0, x1, x2, x3, x4, x5, x6, x7, x8⟩ := arr9 HA.out; go_wp2_with (go_at_call 17; refine (rin_any _ _).mono ?_; rintro e w1 ⟨rfl, rfl⟩)))
      go_ret
      exact ⟨by rw [HF.out]; rfl, HB.out⟩
set_option maxHeartbeats 16000000 in
theorem ral_1 (w : World) (r s a t : ByteArray) (sf iv ki bn ab : Bool) (hO : One t 1) (hck : ckE r s a t = 0) :
    Calls Try.prog 11 #[.agg #[.string r, .string s, .string a, .string t, .bool sf, .bool iv, .bool ki, .bool bn, .bool ab]] w fun e w' => e = .returned (.int .i64 (alE r s a t sf iv ki bn ab)) ∧ Below w.heap.size w w' := by
  obtain ⟨o0, o1, o2, o3, o4⟩ := hO
  simp only [decide_true, show decide ((1 : Nat) = 0) = false from rfl, show decide ((1 : Nat) = 1) = true from rfl, show decide ((1 : Nat) = 2) = false from rfl, show decide ((1 : Nat) = 3) = false from rfl, show decide ((1 : Nat) = 4) = false from rfl] at o0 o1 o2 o3 o4
  have ck := hidp (fun W => rcheck_any W r s a t sf iv ki bn ab)
  cases sf with
  | false =>
    cases q1 : (s.toList == ([106, 111, 105, 110] : List UInt8)) with
    | false =>
      have HF := hidp (show (alE r s a t false iv ki bn ab) = 12 from by unfold alE mayB entB byB remB anyW; simp [o0, o1, o2, o3, o4, q1, hck])
      have m1 : (s.toList != ([106, 111, 105, 110] : List UInt8)) = true := by rw [bne, q1]; rfl
      rw [hck] at ck
      go_enter Try.func11, Try.ntmps11
      go_wp2_with (first | (refine wpL_boxT 23 rfl _ rfl [.string r, .string s, .string a, .string t, .bool false, .bool iv, .bool ki, .bool bn, .bool ab] rfl ?_; intro b1 w1 n1; have HB := hidp n1.below; have HA := hidp n1.arr; clear n1; obtain ⟨x0, x1, x2, x3, x4, x5, x6, x7, x8⟩ := arr9 HA.out) | (refine wpL_getM rfl (.tmp 1) rfl b1 [.string r, .string s, .string a, .string t, .bool false, .bool iv, .bool ki, .bool bn, .bool ab] rfl rfl HA.out ?_) | (go_at_call 9; refine (ck.out _).mono ?_; rintro e w1 ⟨rfl, hb⟩; clear x0 x1 x2 x3 x4 x5 x6 x7 x8; replace HB := hidp (HB.out.trans (hb.mono HB.out.size)); replace HA := hidp (HA.out.below hb HA.out.lt); clear hb; obtain ⟨x0, x1, x2, x3, x4, x5, x6, x7, x8⟩ := arr9 HA.out; go_wp2_with (go_at_call 17; refine (rin_any _ _).mono ?_; rintro e w1 ⟨rfl, rfl⟩)))
      go_ret
      exact ⟨by rw [HF.out]; rfl, HB.out⟩
    | true =>
      cases q2 : (a.toList == ([106, 111, 105, 110] : List UInt8)) with
      | false =>
        cases q3 : (a.toList == ([98, 97, 110] : List UInt8)) with
        | false =>
          cases iv with
          | false =>
            have HF := hidp (show (alE r s a t false false ki bn ab) = 12 from by unfold alE mayB entB byB remB anyW; simp [o0, o1, o2, o3, o4, q1, q2, q3, hck])
            have m1 : (s.toList != ([106, 111, 105, 110] : List UInt8)) = false := by rw [bne, q1]; rfl
            have m2 : (a.toList != ([106, 111, 105, 110] : List UInt8)) = true := by rw [bne, q2]; rfl
            have m3 : (a.toList != ([98, 97, 110] : List UInt8)) = true := by rw [bne, q3]; rfl
            rw [hck] at ck
            go_enter Try.func11, Try.ntmps11
            go_wp2_with (first | (refine wpL_boxT 23 rfl _ rfl [.string r, .string s, .string a, .string t, .bool false, .bool false, .bool ki, .bool bn, .bool ab] rfl ?_; intro b1 w1 n1; have HB := hidp n1.below; have HA := hidp n1.arr; clear n1; obtain ⟨x0, x1, x2, x3, x4, x5, x6, x7, x8⟩ := arr9 HA.out) | (refine wpL_getM rfl (.tmp 1) rfl b1 [.string r, .string s, .string a, .string t, .bool false, .bool false, .bool ki, .bool bn, .bool ab] rfl rfl HA.out ?_) | (go_at_call 9; refine (ck.out _).mono ?_; rintro e w1 ⟨rfl, hb⟩; clear x0 x1 x2 x3 x4 x5 x6 x7 x8; replace HB := hidp (HB.out.trans (hb.mono HB.out.size)); replace HA := hidp (HA.out.below hb HA.out.lt); clear hb; obtain ⟨x0, x1, x2, x3, x4, x5, x6, x7, x8⟩ := arr9 HA.out; go_wp2_with (go_at_call 17; refine (rin_any _ _).mono ?_; rintro e w1 ⟨rfl, rfl⟩)))
            go_ret
            exact ⟨by rw [HF.out]; rfl, HB.out⟩
          | true =>
            have HF := hidp (show (alE r s a t false true ki bn ab) = 0 from by unfold alE mayB entB byB remB anyW; simp [o0, o1, o2, o3, o4, q1, q2, q3, hck])
            have m1 : (s.toList != ([106, 111, 105, 110] : List UInt8)) = false := by rw [bne, q1]; rfl
            have m2 : (a.toList != ([106, 111, 105, 110] : List UInt8)) = true := by rw [bne, q2]; rfl
            have m3 : (a.toList != ([98, 97, 110] : List UInt8)) = true := by rw [bne, q3]; rfl
            rw [hck] at ck
            go_enter Try.func11, Try.ntmps11
            go_wp2_with (first | (refine wpL_boxT 23 rfl _ rfl [.string r, .string s, .string a, .string t, .bool false, .bool true, .bool ki, .bool bn, .bool ab] rfl ?_; intro b1 w1 n1; have HB := hidp n1.below; have HA := hidp n1.arr; clear n1; obtain ⟨x0, x1, x2, x3, x4, x5, x6, x7, x8⟩ := arr9 HA.out) | (refine wpL_getM rfl (.tmp 1) rfl b1 [.string r, .string s, .string a, .string t, .bool false, .bool true, .bool ki, .bool bn, .bool ab] rfl rfl HA.out ?_) | (go_at_call 9; refine (ck.out _).mono ?_; rintro e w1 ⟨rfl, hb⟩; clear x0 x1 x2 x3 x4 x5 x6 x7 x8; replace HB := hidp (HB.out.trans (hb.mono HB.out.size)); replace HA := hidp (HA.out.below hb HA.out.lt); clear hb; obtain ⟨x0, x1, x2, x3, x4, x5, x6, x7, x8⟩ := arr9 HA.out; go_wp2_with (go_at_call 17; refine (rin_any _ _).mono ?_; rintro e w1 ⟨rfl, rfl⟩)))
            go_ret
            exact ⟨by rw [HF.out]; rfl, HB.out⟩
        | true =>
          have HF := hidp (show (alE r s a t false iv ki bn ab) = 12 from by unfold alE mayB entB byB remB anyW; simp [o0, o1, o2, o3, o4, q1, q2, q3, hck])
          have m1 : (s.toList != ([106, 111, 105, 110] : List UInt8)) = false := by rw [bne, q1]; rfl
          have m2 : (a.toList != ([106, 111, 105, 110] : List UInt8)) = true := by rw [bne, q2]; rfl
          have m3 : (a.toList != ([98, 97, 110] : List UInt8)) = false := by rw [bne, q3]; rfl
          rw [hck] at ck
          go_enter Try.func11, Try.ntmps11
          go_wp2_with (first | (refine wpL_boxT 23 rfl _ rfl [.string r, .string s, .string a, .string t, .bool false, .bool iv, .bool ki, .bool bn, .bool ab] rfl ?_; intro b1 w1 n1; have HB := hidp n1.below; have HA := hidp n1.arr; clear n1; obtain ⟨x0, x1, x2, x3, x4, x5, x6, x7, x8⟩ := arr9 HA.out) | (refine wpL_getM rfl (.tmp 1) rfl b1 [.string r, .string s, .string a, .string t, .bool false, .bool iv, .bool ki, .bool bn, .bool ab] rfl rfl HA.out ?_) | (go_at_call 9; refine (ck.out _).mono ?_; rintro e w1 ⟨rfl, hb⟩; clear x0 x1 x2 x3 x4 x5 x6 x7 x8; replace HB := hidp (HB.out.trans (hb.mono HB.out.size)); replace HA := hidp (HA.out.below hb HA.out.lt); clear hb; obtain ⟨x0, x1, x2, x3, x4, x5, x6, x7, x8⟩ := arr9 HA.out; go_wp2_with (go_at_call 17; refine (rin_any _ _).mono ?_; rintro e w1 ⟨rfl, rfl⟩)))
          go_ret
          exact ⟨by rw [HF.out]; rfl, HB.out⟩
      | true =>
        have HF := hidp (show (alE r s a t false iv ki bn ab) = 12 from by unfold alE mayB entB byB remB anyW; simp [o0, o1, o2, o3, o4, q1, q2, hck])
        have m1 : (s.toList != ([106, 111, 105, 110] : List UInt8)) = false := by rw [bne, q1]; rfl
        have m2 : (a.toList != ([106, 111, 105, 110] : List UInt8)) = false := by rw [bne, q2]; rfl
        rw [hck] at ck
        go_enter Try.func11, Try.ntmps11
        go_wp2_with (first | (refine wpL_boxT 23 rfl _ rfl [.string r, .string s, .string a, .string t, .bool false, .bool iv, .bool ki, .bool bn, .bool ab] rfl ?_; intro b1 w1 n1; have HB := hidp n1.below; have HA := hidp n1.arr; clear n1; obtain ⟨x0, x1, x2, x3, x4, x5, x6, x7, x8⟩ := arr9 HA.out) | (refine wpL_getM rfl (.tmp 1) rfl b1 [.string r, .string s, .string a, .string t, .bool false, .bool iv, .bool ki, .bool bn, .bool ab] rfl rfl HA.out ?_) | (go_at_call 9; refine (ck.out _).mono ?_; rintro e w1 ⟨rfl, hb⟩; clear x0 x1 x2 x3 x4 x5 x6 x7 x8; replace HB := hidp (HB.out.trans (hb.mono HB.out.size)); replace HA := hidp (HA.out.below hb HA.out.lt); clear hb; obtain ⟨x0, x1, x2, x3, x4, x5, x6, x7, x8⟩ := arr9 HA.out; go_wp2_with (go_at_call 17; refine (rin_any _ _).mono ?_; rintro e w1 ⟨rfl, rfl⟩)))
        go_ret
        exact ⟨by rw [HF.out]; rfl, HB.out⟩
  | true =>
    have HF := hidp (show (alE r s a t true iv ki bn ab) = 12 from by unfold alE mayB entB byB remB anyW; simp [o0, o1, o2, o3, o4, hck])
    rw [hck] at ck
    go_enter Try.func11, Try.ntmps11
    go_wp2_with (first | (refine wpL_boxT 23 rfl _ rfl [.string r, .string s, .string a, .string t, .bool true, .bool iv, .bool ki, .bool bn, .bool ab] rfl ?_; intro b1 w1 n1; have HB := hidp n1.below; have HA := hidp n1.arr; clear n1; obtain ⟨x0, x1, x2, x3, x4, x5, x6, x7, x8⟩ := arr9 HA.out) | (refine wpL_getM rfl (.tmp 1) rfl b1 [.string r, .string s, .string a, .string t, .bool true, .bool iv, .bool ki, .bool bn, .bool ab] rfl rfl HA.out ?_) | (go_at_call 9; refine (ck.out _).mono ?_; rintro e w1 ⟨rfl, hb⟩; clear x0 x1 x2 x3 x4 x5 x6 x7 x8; replace HB := hidp (HB.out.trans (hb.mono HB.out.size)); replace HA := hidp (HA.out.below hb HA.out.lt); clear hb; obtain ⟨x0, x1, x2, x3, x4, x5, x6, x7, x8⟩ := arr9 HA.out; go_wp2_with (go_at_call 17; refine (rin_any _ _).mono ?_; rintro e w1 ⟨rfl, rfl⟩)))
    go_ret
    exact ⟨by rw [HF.out]; rfl, HB.out⟩
set_option maxHeartbeats 16000000 in
theorem ral_2 (w : World) (r s a t : ByteArray) (sf iv ki bn ab : Bool) (hO : One t 2) (hck : ckE r s a t = 0) :
    Calls Try.prog 11 #[.agg #[.string r, .string s, .string a, .string t, .bool sf, .bool iv, .bool ki, .bool bn, .bool ab]] w fun e w' => e = .returned (.int .i64 (alE r s a t sf iv ki bn ab)) ∧ Below w.heap.size w w' := by
  obtain ⟨o0, o1, o2, o3, o4⟩ := hO
  simp only [decide_true, show decide ((2 : Nat) = 0) = false from rfl, show decide ((2 : Nat) = 1) = false from rfl, show decide ((2 : Nat) = 2) = true from rfl, show decide ((2 : Nat) = 3) = false from rfl, show decide ((2 : Nat) = 4) = false from rfl] at o0 o1 o2 o3 o4
  have ck := hidp (fun W => rcheck_any W r s a t sf iv ki bn ab)
  cases sf with
  | false =>
    cases q1 : (s.toList == ([106, 111, 105, 110] : List UInt8)) with
    | false =>
      have HF := hidp (show (alE r s a t false iv ki bn ab) = 12 from by unfold alE mayB entB byB remB anyW; simp [o0, o1, o2, o3, o4, q1, hck])
      have m1 : (s.toList != ([106, 111, 105, 110] : List UInt8)) = true := by rw [bne, q1]; rfl
      rw [hck] at ck
      go_enter Try.func11, Try.ntmps11
      go_wp2_with (first | (refine wpL_boxT 23 rfl _ rfl [.string r, .string s, .string a, .string t, .bool false, .bool iv, .bool ki, .bool bn, .bool ab] rfl ?_; intro b1 w1 n1; have HB := hidp n1.below; have HA := hidp n1.arr; clear n1; obtain ⟨x0, x1, x2, x3, x4, x5, x6, x7, x8⟩ := arr9 HA.out) | (refine wpL_getM rfl (.tmp 1) rfl b1 [.string r, .string s, .string a, .string t, .bool false, .bool iv, .bool ki, .bool bn, .bool ab] rfl rfl HA.out ?_) | (go_at_call 9; refine (ck.out _).mono ?_; rintro e w1 ⟨rfl, hb⟩; clear x0 x1 x2 x3 x4 x5 x6 x7 x8; replace HB := hidp (HB.out.trans (hb.mono HB.out.size)); replace HA := hidp (HA.out.below hb HA.out.lt); clear hb; obtain ⟨x0, x1, x2, x3, x4, x5, x6, x7, x8⟩ := arr9 HA.out; go_wp2_with (go_at_call 17; refine (rin_any _ _).mono ?_; rintro e w1 ⟨rfl, rfl⟩)))
      go_ret
      exact ⟨by rw [HF.out]; rfl, HB.out⟩
    | true =>
      cases ab with
      | false =>
        have HF := hidp (show (alE r s a t false iv ki bn false) = 12 from by unfold alE mayB entB byB remB anyW; simp [o0, o1, o2, o3, o4, q1, hck])
        have m1 : (s.toList != ([106, 111, 105, 110] : List UInt8)) = false := by rw [bne, q1]; rfl
        rw [hck] at ck
        go_enter Try.func11, Try.ntmps11
        go_wp2_with (first | (refine wpL_boxT 23 rfl _ rfl [.string r, .string s, .string a, .string t, .bool false, .bool iv, .bool ki, .bool bn, .bool false] rfl ?_; intro b1 w1 n1; have HB := hidp n1.below; have HA := hidp n1.arr; clear n1; obtain ⟨x0, x1, x2, x3, x4, x5, x6, x7, x8⟩ := arr9 HA.out) | (refine wpL_getM rfl (.tmp 1) rfl b1 [.string r, .string s, .string a, .string t, .bool false, .bool iv, .bool ki, .bool bn, .bool false] rfl rfl HA.out ?_) | (go_at_call 9; refine (ck.out _).mono ?_; rintro e w1 ⟨rfl, hb⟩; clear x0 x1 x2 x3 x4 x5 x6 x7 x8; replace HB := hidp (HB.out.trans (hb.mono HB.out.size)); replace HA := hidp (HA.out.below hb HA.out.lt); clear hb; obtain ⟨x0, x1, x2, x3, x4, x5, x6, x7, x8⟩ := arr9 HA.out; go_wp2_with (go_at_call 17; refine (rin_any _ _).mono ?_; rintro e w1 ⟨rfl, rfl⟩)))
        go_ret
        exact ⟨by rw [HF.out]; rfl, HB.out⟩
      | true =>
        cases q3 : (a.toList == ([98, 97, 110] : List UInt8)) with
        | false =>
          cases q4 : (inB a) with
          | false =>
            have HF := hidp (show (alE r s a t false iv ki bn true) = 12 from by unfold alE mayB entB byB remB anyW; simp [o0, o1, o2, o3, o4, q1, q3, q4, hck])
            have m1 : (s.toList != ([106, 111, 105, 110] : List UInt8)) = false := by rw [bne, q1]; rfl
            have m3 : (a.toList != ([98, 97, 110] : List UInt8)) = true := by rw [bne, q3]; rfl
            rw [hck] at ck
            go_enter Try.func11, Try.ntmps11
            go_wp2_with (first | (refine wpL_boxT 23 rfl _ rfl [.string r, .string s, .string a, .string t, .bool false, .bool iv, .bool ki, .bool bn, .bool true] rfl ?_; intro b1 w1 n1; have HB := hidp n1.below; have HA := hidp n1.arr; clear n1; obtain ⟨x0, x1, x2, x3, x4, x5, x6, x7, x8⟩ := arr9 HA.out) | (refine wpL_getM rfl (.tmp 1) rfl b1 [.string r, .string s, .string a, .string t, .bool false, .bool iv, .bool ki, .bool bn, .bool true] rfl rfl HA.out ?_) | (go_at_call 9; refine (ck.out _).mono ?_; rintro e w1 ⟨rfl, hb⟩; clear x0 x1 x2 x3 x4 x5 x6 x7 x8; replace HB := hidp (HB.out.trans (hb.mono HB.out.size)); replace HA := hidp (HA.out.below hb HA.out.lt); clear hb; obtain ⟨x0, x1, x2, x3, x4, x5, x6, x7, x8⟩ := arr9 HA.out; go_wp2_with (go_at_call 17; refine (rin_any _ _).mono ?_; rintro e w1 ⟨rfl, rfl⟩)))
            go_ret
            exact ⟨by rw [HF.out]; rfl, HB.out⟩
          | true =>
            cases ki with
            | false =>
              have HF := hidp (show (alE r s a t false iv false bn true) = 12 from by unfold alE mayB entB byB remB anyW; simp [o0, o1, o2, o3, o4, q1, q3, q4, hck])
              have m1 : (s.toList != ([106, 111, 105, 110] : List UInt8)) = false := by rw [bne, q1]; rfl
              have m3 : (a.toList != ([98, 97, 110] : List UInt8)) = true := by rw [bne, q3]; rfl
              rw [hck] at ck
              go_enter Try.func11, Try.ntmps11
              go_wp2_with (first | (refine wpL_boxT 23 rfl _ rfl [.string r, .string s, .string a, .string t, .bool false, .bool iv, .bool false, .bool bn, .bool true] rfl ?_; intro b1 w1 n1; have HB := hidp n1.below; have HA := hidp n1.arr; clear n1; obtain ⟨x0, x1, x2, x3, x4, x5, x6, x7, x8⟩ := arr9 HA.out) | (refine wpL_getM rfl (.tmp 1) rfl b1 [.string r, .string s, .string a, .string t, .bool false, .bool iv, .bool false, .bool bn, .bool true] rfl rfl HA.out ?_) | (go_at_call 9; refine (ck.out _).mono ?_; rintro e w1 ⟨rfl, hb⟩; clear x0 x1 x2 x3 x4 x5 x6 x7 x8; replace HB := hidp (HB.out.trans (hb.mono HB.out.size)); replace HA := hidp (HA.out.below hb HA.out.lt); clear hb; obtain ⟨x0, x1, x2, x3, x4, x5, x6, x7, x8⟩ := arr9 HA.out; go_wp2_with (go_at_call 17; refine (rin_any _ _).mono ?_; rintro e w1 ⟨rfl, rfl⟩)))
              go_ret
              exact ⟨by rw [HF.out]; rfl, HB.out⟩
            | true =>
              have HF := hidp (show (alE r s a t false iv true bn true) = 0 from by unfold alE mayB entB byB remB anyW; simp [o0, o1, o2, o3, o4, q1, q3, q4, hck])
              have m1 : (s.toList != ([106, 111, 105, 110] : List UInt8)) = false := by rw [bne, q1]; rfl
              have m3 : (a.toList != ([98, 97, 110] : List UInt8)) = true := by rw [bne, q3]; rfl
              rw [hck] at ck
              go_enter Try.func11, Try.ntmps11
              go_wp2_with (first | (refine wpL_boxT 23 rfl _ rfl [.string r, .string s, .string a, .string t, .bool false, .bool iv, .bool true, .bool bn, .bool true] rfl ?_; intro b1 w1 n1; have HB := hidp n1.below; have HA := hidp n1.arr; clear n1; obtain ⟨x0, x1, x2, x3, x4, x5, x6, x7, x8⟩ := arr9 HA.out) | (refine wpL_getM rfl (.tmp 1) rfl b1 [.string r, .string s, .string a, .string t, .bool false, .bool iv, .bool true, .bool bn, .bool true] rfl rfl HA.out ?_) | (go_at_call 9; refine (ck.out _).mono ?_; rintro e w1 ⟨rfl, hb⟩; clear x0 x1 x2 x3 x4 x5 x6 x7 x8; replace HB := hidp (HB.out.trans (hb.mono HB.out.size)); replace HA := hidp (HA.out.below hb HA.out.lt); clear hb; obtain ⟨x0, x1, x2, x3, x4, x5, x6, x7, x8⟩ := arr9 HA.out; go_wp2_with (go_at_call 17; refine (rin_any _ _).mono ?_; rintro e w1 ⟨rfl, rfl⟩)))
              go_ret
              exact ⟨by rw [HF.out]; rfl, HB.out⟩
        | true =>
          cases bn with
          | false =>
            cases q5 : (inB a) with
            | false =>
              have HF := hidp (show (alE r s a t false iv ki false true) = 12 from by unfold alE mayB entB byB remB anyW; simp [o0, o1, o2, o3, o4, q1, q3, q5, hck])
              have m1 : (s.toList != ([106, 111, 105, 110] : List UInt8)) = false := by rw [bne, q1]; rfl
              have m3 : (a.toList != ([98, 97, 110] : List UInt8)) = false := by rw [bne, q3]; rfl
              rw [hck] at ck
              go_enter Try.func11, Try.ntmps11
              go_wp2_with (first | (refine wpL_boxT 23 rfl _ rfl [.string r, .string s, .string a, .string t, .bool false, .bool iv, .bool ki, .bool false, .bool true] rfl ?_; intro b1 w1 n1; have HB := hidp n1.below; have HA := hidp n1.arr; clear n1; obtain ⟨x0, x1, x2, x3, x4, x5, x6, x7, x8⟩ := arr9 HA.out) | (refine wpL_getM rfl (.tmp 1) rfl b1 [.string r, .string s, .string a, .string t, .bool false, .bool iv, .bool ki, .bool false, .bool true] rfl rfl HA.out ?_) | (go_at_call 9; refine (ck.out _).mono ?_; rintro e w1 ⟨rfl, hb⟩; clear x0 x1 x2 x3 x4 x5 x6 x7 x8; replace HB := hidp (HB.out.trans (hb.mono HB.out.size)); replace HA := hidp (HA.out.below hb HA.out.lt); clear hb; obtain ⟨x0, x1, x2, x3, x4, x5, x6, x7, x8⟩ := arr9 HA.out; go_wp2_with (go_at_call 17; refine (rin_any _ _).mono ?_; rintro e w1 ⟨rfl, rfl⟩)))
              go_ret
              exact ⟨by rw [HF.out]; rfl, HB.out⟩
            | true =>
              cases ki with
              | false =>
                have HF := hidp (show (alE r s a t false iv false false true) = 12 from by unfold alE mayB entB byB remB anyW; simp [o0, o1, o2, o3, o4, q1, q3, q5, hck])
                have m1 : (s.toList != ([106, 111, 105, 110] : List UInt8)) = false := by rw [bne, q1]; rfl
                have m3 : (a.toList != ([98, 97, 110] : List UInt8)) = false := by rw [bne, q3]; rfl
                rw [hck] at ck
                go_enter Try.func11, Try.ntmps11
                go_wp2_with (first | (refine wpL_boxT 23 rfl _ rfl [.string r, .string s, .string a, .string t, .bool false, .bool iv, .bool false, .bool false, .bool true] rfl ?_; intro b1 w1 n1; have HB := hidp n1.below; have HA := hidp n1.arr; clear n1; obtain ⟨x0, x1, x2, x3, x4, x5, x6, x7, x8⟩ := arr9 HA.out) | (refine wpL_getM rfl (.tmp 1) rfl b1 [.string r, .string s, .string a, .string t, .bool false, .bool iv, .bool false, .bool false, .bool true] rfl rfl HA.out ?_) | (go_at_call 9; refine (ck.out _).mono ?_; rintro e w1 ⟨rfl, hb⟩; clear x0 x1 x2 x3 x4 x5 x6 x7 x8; replace HB := hidp (HB.out.trans (hb.mono HB.out.size)); replace HA := hidp (HA.out.below hb HA.out.lt); clear hb; obtain ⟨x0, x1, x2, x3, x4, x5, x6, x7, x8⟩ := arr9 HA.out; go_wp2_with (go_at_call 17; refine (rin_any _ _).mono ?_; rintro e w1 ⟨rfl, rfl⟩)))
                go_ret
                exact ⟨by rw [HF.out]; rfl, HB.out⟩
              | true =>
                have HF := hidp (show (alE r s a t false iv true false true) = 0 from by unfold alE mayB entB byB remB anyW; simp [o0, o1, o2, o3, o4, q1, q3, q5, hck])
                have m1 : (s.toList != ([106, 111, 105, 110] : List UInt8)) = false := by rw [bne, q1]; rfl
                have m3 : (a.toList != ([98, 97, 110] : List UInt8)) = false := by rw [bne, q3]; rfl
                rw [hck] at ck
                go_enter Try.func11, Try.ntmps11
                go_wp2_with (first | (refine wpL_boxT 23 rfl _ rfl [.string r, .string s, .string a, .string t, .bool false, .bool iv, .bool true, .bool false, .bool true] rfl ?_; intro b1 w1 n1; have HB := hidp n1.below; have HA := hidp n1.arr; clear n1; obtain ⟨x0, x1, x2, x3, x4, x5, x6, x7, x8⟩ := arr9 HA.out) | (refine wpL_getM rfl (.tmp 1) rfl b1 [.string r, .string s, .string a, .string t, .bool false, .bool iv, .bool true, .bool false, .bool true] rfl rfl HA.out ?_) | (go_at_call 9; refine (ck.out _).mono ?_; rintro e w1 ⟨rfl, hb⟩; clear x0 x1 x2 x3 x4 x5 x6 x7 x8; replace HB := hidp (HB.out.trans (hb.mono HB.out.size)); replace HA := hidp (HA.out.below hb HA.out.lt); clear hb; obtain ⟨x0, x1, x2, x3, x4, x5, x6, x7, x8⟩ := arr9 HA.out; go_wp2_with (go_at_call 17; refine (rin_any _ _).mono ?_; rintro e w1 ⟨rfl, rfl⟩)))
                go_ret
                exact ⟨by rw [HF.out]; rfl, HB.out⟩
          | true =>
            have HF := hidp (show (alE r s a t false iv ki true true) = 0 from by unfold alE mayB entB byB remB anyW; simp [o0, o1, o2, o3, o4, q1, q3, hck])
            have m1 : (s.toList != ([106, 111, 105, 110] : List UInt8)) = false := by rw [bne, q1]; rfl
            have m3 : (a.toList != ([98, 97, 110] : List UInt8)) = false := by rw [bne, q3]; rfl
            rw [hck] at ck
            go_enter Try.func11, Try.ntmps11
            go_wp2_with (first | (refine wpL_boxT 23 rfl _ rfl [.string r, .string s, .string a, .string t, .bool false, .bool iv, .bool ki, .bool true, .bool true] rfl ?_; intro b1 w1 n1; have HB := hidp n1.below; have HA := hidp n1.arr; clear n1; obtain ⟨x0, x1, x2, x3, x4, x5, x6, x7, x8⟩ := arr9 HA.out) | (refine wpL_getM rfl (.tmp 1) rfl b1 [.string r, .string s, .string a, .string t, .bool false, .bool iv, .bool ki, .bool true, .bool true] rfl rfl HA.out ?_) | (go_at_call 9; refine (ck.out _).mono ?_; rintro e w1 ⟨rfl, hb⟩; clear x0 x1 x2 x3 x4 x5 x6 x7 x8; replace HB := hidp (HB.out.trans (hb.mono HB.out.size)); replace HA := hidp (HA.out.below hb HA.out.lt); clear hb; obtain ⟨x0, x1, x2, x3, x4, x5, x6, x7, x8⟩ := arr9 HA.out; go_wp2_with (go_at_call 17; refine (rin_any _ _).mono ?_; rintro e w1 ⟨rfl, rfl⟩)))
            go_ret
            exact ⟨by rw [HF.out]; rfl, HB.out⟩
  | true =>
    cases q1 : (inB a) with
    | false =>
      have HF := hidp (show (alE r s a t true iv ki bn ab) = 12 from by unfold alE mayB entB byB remB anyW; simp [o0, o1, o2, o3, o4, q1, hck])
      rw [hck] at ck
      go_enter Try.func11, Try.ntmps11
      go_wp2_with (first | (refine wpL_boxT 23 rfl _ rfl [.string r, .string s, .string a, .string t, .bool true, .bool iv, .bool ki, .bool bn, .bool ab] rfl ?_; intro b1 w1 n1; have HB := hidp n1.below; have HA := hidp n1.arr; clear n1; obtain ⟨x0, x1, x2, x3, x4, x5, x6, x7, x8⟩ := arr9 HA.out) | (refine wpL_getM rfl (.tmp 1) rfl b1 [.string r, .string s, .string a, .string t, .bool true, .bool iv, .bool ki, .bool bn, .bool ab] rfl rfl HA.out ?_) | (go_at_call 9; refine (ck.out _).mono ?_; rintro e w1 ⟨rfl, hb⟩; clear x0 x1 x2 x3 x4 x5 x6 x7 x8; replace HB := hidp (HB.out.trans (hb.mono HB.out.size)); replace HA := hidp (HA.out.below hb HA.out.lt); clear hb; obtain ⟨x0, x1, x2, x3, x4, x5, x6, x7, x8⟩ := arr9 HA.out; go_wp2_with (go_at_call 17; refine (rin_any _ _).mono ?_; rintro e w1 ⟨rfl, rfl⟩)))
      go_ret
      exact ⟨by rw [HF.out]; rfl, HB.out⟩
    | true =>
      have HF := hidp (show (alE r s a t true iv ki bn ab) = 0 from by unfold alE mayB entB byB remB anyW; simp [o0, o1, o2, o3, o4, q1, hck])
      rw [hck] at ck
      go_enter Try.func11, Try.ntmps11
      go_wp2_with (first | (refine wpL_boxT 23 rfl _ rfl [.string r, .string s, .string a, .string t, .bool true, .bool iv, .bool ki, .bool bn, .bool ab] rfl ?_; intro b1 w1 n1; have HB := hidp n1.below; have HA := hidp n1.arr; clear n1; obtain ⟨x0, x1, x2, x3, x4, x5, x6, x7, x8⟩ := arr9 HA.out) | (refine wpL_getM rfl (.tmp 1) rfl b1 [.string r, .string s, .string a, .string t, .bool true, .bool iv, .bool ki, .bool bn, .bool ab] rfl rfl HA.out ?_) | (go_at_call 9; refine (ck.out _).mono ?_; rintro e w1 ⟨rfl, hb⟩; clear x0 x1 x2 x3 x4 x5 x6 x7 x8; replace HB := hidp (HB.out.trans (hb.mono HB.out.size)); replace HA := hidp (HA.out.below hb HA.out.lt); clear hb; obtain ⟨x0, x1, x2, x3, x4, x5, x6, x7, x8⟩ := arr9 HA.out; go_wp2_with (go_at_call 17; refine (rin_any _ _).mono ?_; rintro e w1 ⟨rfl, rfl⟩)))
      go_ret
      exact ⟨by rw [HF.out]; rfl, HB.out⟩
set_option maxHeartbeats 16000000 in
theorem ral_3 (w : World) (r s a t : ByteArray) (sf iv ki bn ab : Bool) (hO : One t 3) (hck : ckE r s a t = 0) :
    Calls Try.prog 11 #[.agg #[.string r, .string s, .string a, .string t, .bool sf, .bool iv, .bool ki, .bool bn, .bool ab]] w fun e w' => e = .returned (.int .i64 (alE r s a t sf iv ki bn ab)) ∧ Below w.heap.size w w' := by
  obtain ⟨o0, o1, o2, o3, o4⟩ := hO
  simp only [decide_true, show decide ((3 : Nat) = 0) = false from rfl, show decide ((3 : Nat) = 1) = false from rfl, show decide ((3 : Nat) = 2) = false from rfl, show decide ((3 : Nat) = 3) = true from rfl, show decide ((3 : Nat) = 4) = false from rfl] at o0 o1 o2 o3 o4
  have ck := hidp (fun W => rcheck_any W r s a t sf iv ki bn ab)
  cases sf with
  | false =>
    cases q1 : (s.toList == ([106, 111, 105, 110] : List UInt8)) with
    | false =>
      have HF := hidp (show (alE r s a t false iv ki bn ab) = 12 from by unfold alE mayB entB byB remB anyW; simp [o0, o1, o2, o3, o4, q1, hck])
      have m1 : (s.toList != ([106, 111, 105, 110] : List UInt8)) = true := by rw [bne, q1]; rfl
      rw [hck] at ck
      go_enter Try.func11, Try.ntmps11
      go_wp2_with (first | (refine wpL_boxT 23 rfl _ rfl [.string r, .string s, .string a, .string t, .bool false, .bool iv, .bool ki, .bool bn, .bool ab] rfl ?_; intro b1 w1 n1; have HB := hidp n1.below; have HA := hidp n1.arr; clear n1; obtain ⟨x0, x1, x2, x3, x4, x5, x6, x7, x8⟩ := arr9 HA.out) | (refine wpL_getM rfl (.tmp 1) rfl b1 [.string r, .string s, .string a, .string t, .bool false, .bool iv, .bool ki, .bool bn, .bool ab] rfl rfl HA.out ?_) | (go_at_call 9; refine (ck.out _).mono ?_; rintro e w1 ⟨rfl, hb⟩; clear x0 x1 x2 x3 x4 x5 x6 x7 x8; replace HB := hidp (HB.out.trans (hb.mono HB.out.size)); replace HA := hidp (HA.out.below hb HA.out.lt); clear hb; obtain ⟨x0, x1, x2, x3, x4, x5, x6, x7, x8⟩ := arr9 HA.out; go_wp2_with (go_at_call 17; refine (rin_any _ _).mono ?_; rintro e w1 ⟨rfl, rfl⟩)))
      go_ret
      exact ⟨by rw [HF.out]; rfl, HB.out⟩
    | true =>
      cases ab with
      | false =>
        have HF := hidp (show (alE r s a t false iv ki bn false) = 12 from by unfold alE mayB entB byB remB anyW; simp [o0, o1, o2, o3, o4, q1, hck])
        have m1 : (s.toList != ([106, 111, 105, 110] : List UInt8)) = false := by rw [bne, q1]; rfl
        rw [hck] at ck
        go_enter Try.func11, Try.ntmps11
        go_wp2_with (first | (refine wpL_boxT 23 rfl _ rfl [.string r, .string s, .string a, .string t, .bool false, .bool iv, .bool ki, .bool bn, .bool false] rfl ?_; intro b1 w1 n1; have HB := hidp n1.below; have HA := hidp n1.arr; clear n1; obtain ⟨x0, x1, x2, x3, x4, x5, x6, x7, x8⟩ := arr9 HA.out) | (refine wpL_getM rfl (.tmp 1) rfl b1 [.string r, .string s, .string a, .string t, .bool false, .bool iv, .bool ki, .bool bn, .bool false] rfl rfl HA.out ?_) | (go_at_call 9; refine (ck.out _).mono ?_; rintro e w1 ⟨rfl, hb⟩; clear x0 x1 x2 x3 x4 x5 x6 x7 x8; replace HB := hidp (HB.out.trans (hb.mono HB.out.size)); replace HA := hidp (HA.out.below hb HA.out.lt); clear hb; obtain ⟨x0, x1, x2, x3, x4, x5, x6, x7, x8⟩ := arr9 HA.out; go_wp2_with (go_at_call 17; refine (rin_any _ _).mono ?_; rintro e w1 ⟨rfl, rfl⟩)))
        go_ret
        exact ⟨by rw [HF.out]; rfl, HB.out⟩
      | true =>
        cases bn with
        | false =>
          have HF := hidp (show (alE r s a t false iv ki false true) = 12 from by unfold alE mayB entB byB remB anyW; simp [o0, o1, o2, o3, o4, q1, hck])
          have m1 : (s.toList != ([106, 111, 105, 110] : List UInt8)) = false := by rw [bne, q1]; rfl
          rw [hck] at ck
          go_enter Try.func11, Try.ntmps11
          go_wp2_with (first | (refine wpL_boxT 23 rfl _ rfl [.string r, .string s, .string a, .string t, .bool false, .bool iv, .bool ki, .bool false, .bool true] rfl ?_; intro b1 w1 n1; have HB := hidp n1.below; have HA := hidp n1.arr; clear n1; obtain ⟨x0, x1, x2, x3, x4, x5, x6, x7, x8⟩ := arr9 HA.out) | (refine wpL_getM rfl (.tmp 1) rfl b1 [.string r, .string s, .string a, .string t, .bool false, .bool iv, .bool ki, .bool false, .bool true] rfl rfl HA.out ?_) | (go_at_call 9; refine (ck.out _).mono ?_; rintro e w1 ⟨rfl, hb⟩; clear x0 x1 x2 x3 x4 x5 x6 x7 x8; replace HB := hidp (HB.out.trans (hb.mono HB.out.size)); replace HA := hidp (HA.out.below hb HA.out.lt); clear hb; obtain ⟨x0, x1, x2, x3, x4, x5, x6, x7, x8⟩ := arr9 HA.out; go_wp2_with (go_at_call 17; refine (rin_any _ _).mono ?_; rintro e w1 ⟨rfl, rfl⟩)))
          go_ret
          exact ⟨by rw [HF.out]; rfl, HB.out⟩
        | true =>
          have HF := hidp (show (alE r s a t false iv ki true true) = 0 from by unfold alE mayB entB byB remB anyW; simp [o0, o1, o2, o3, o4, q1, hck])
          have m1 : (s.toList != ([106, 111, 105, 110] : List UInt8)) = false := by rw [bne, q1]; rfl
          rw [hck] at ck
          go_enter Try.func11, Try.ntmps11
          go_wp2_with (first | (refine wpL_boxT 23 rfl _ rfl [.string r, .string s, .string a, .string t, .bool false, .bool iv, .bool ki, .bool true, .bool true] rfl ?_; intro b1 w1 n1; have HB := hidp n1.below; have HA := hidp n1.arr; clear n1; obtain ⟨x0, x1, x2, x3, x4, x5, x6, x7, x8⟩ := arr9 HA.out) | (refine wpL_getM rfl (.tmp 1) rfl b1 [.string r, .string s, .string a, .string t, .bool false, .bool iv, .bool ki, .bool true, .bool true] rfl rfl HA.out ?_) | (go_at_call 9; refine (ck.out _).mono ?_; rintro e w1 ⟨rfl, hb⟩; clear x0 x1 x2 x3 x4 x5 x6 x7 x8; replace HB := hidp (HB.out.trans (hb.mono HB.out.size)); replace HA := hidp (HA.out.below hb HA.out.lt); clear hb; obtain ⟨x0, x1, x2, x3, x4, x5, x6, x7, x8⟩ := arr9 HA.out; go_wp2_with (go_at_call 17; refine (rin_any _ _).mono ?_; rintro e w1 ⟨rfl, rfl⟩)))
          go_ret
          exact ⟨by rw [HF.out]; rfl, HB.out⟩
  | true =>
    have HF := hidp (show (alE r s a t true iv ki bn ab) = 12 from by unfold alE mayB entB byB remB anyW; simp [o0, o1, o2, o3, o4, hck])
    rw [hck] at ck
    go_enter Try.func11, Try.ntmps11
    go_wp2_with (first | (refine wpL_boxT 23 rfl _ rfl [.string r, .string s, .string a, .string t, .bool true, .bool iv, .bool ki, .bool bn, .bool ab] rfl ?_; intro b1 w1 n1; have HB := hidp n1.below; have HA := hidp n1.arr; clear n1; obtain ⟨x0, x1, x2, x3, x4, x5, x6, x7, x8⟩ := arr9 HA.out) | (refine wpL_getM rfl (.tmp 1) rfl b1 [.string r, .string s, .string a, .string t, .bool true, .bool iv, .bool ki, .bool bn, .bool ab] rfl rfl HA.out ?_) | (go_at_call 9; refine (ck.out _).mono ?_; rintro e w1 ⟨rfl, hb⟩; clear x0 x1 x2 x3 x4 x5 x6 x7 x8; replace HB := hidp (HB.out.trans (hb.mono HB.out.size)); replace HA := hidp (HA.out.below hb HA.out.lt); clear hb; obtain ⟨x0, x1, x2, x3, x4, x5, x6, x7, x8⟩ := arr9 HA.out; go_wp2_with (go_at_call 17; refine (rin_any _ _).mono ?_; rintro e w1 ⟨rfl, rfl⟩)))
    go_ret
    exact ⟨by rw [HF.out]; rfl, HB.out⟩
set_option maxHeartbeats 16000000 in
theorem ral_4 (w : World) (r s a t : ByteArray) (sf iv ki bn ab : Bool) (hO : One t 4) (hck : ckE r s a t = 0) :
    Calls Try.prog 11 #[.agg #[.string r, .string s, .string a, .string t, .bool sf, .bool iv, .bool ki, .bool bn, .bool ab]] w fun e w' => e = .returned (.int .i64 (alE r s a t sf iv ki bn ab)) ∧ Below w.heap.size w w' := by
  obtain ⟨o0, o1, o2, o3, o4⟩ := hO
  simp only [decide_true, show decide ((4 : Nat) = 0) = false from rfl, show decide ((4 : Nat) = 1) = false from rfl, show decide ((4 : Nat) = 2) = false from rfl, show decide ((4 : Nat) = 3) = false from rfl, show decide ((4 : Nat) = 4) = true from rfl] at o0 o1 o2 o3 o4
  have ck := hidp (fun W => rcheck_any W r s a t sf iv ki bn ab)
  cases sf with
  | false =>
    have HF := hidp (show (alE r s a t false iv ki bn ab) = 12 from by unfold alE mayB entB byB remB anyW; simp [o0, o1, o2, o3, o4, hck])
    rw [hck] at ck
    go_enter Try.func11, Try.ntmps11
    go_wp2_with (first | (refine wpL_boxT 23 rfl _ rfl [.string r, .string s, .string a, .string t, .bool false, .bool iv, .bool ki, .bool bn, .bool ab] rfl ?_; intro b1 w1 n1; have HB := hidp n1.below; have HA := hidp n1.arr; clear n1; obtain ⟨x0, x1, x2, x3, x4, x5, x6, x7, x8⟩ := arr9 HA.out) | (refine wpL_getM rfl (.tmp 1) rfl b1 [.string r, .string s, .string a, .string t, .bool false, .bool iv, .bool ki, .bool bn, .bool ab] rfl rfl HA.out ?_) | (go_at_call 9; refine (ck.out _).mono ?_; rintro e w1 ⟨rfl, hb⟩; clear x0 x1 x2 x3 x4 x5 x6 x7 x8; replace HB := hidp (HB.out.trans (hb.mono HB.out.size)); replace HA := hidp (HA.out.below hb HA.out.lt); clear hb; obtain ⟨x0, x1, x2, x3, x4, x5, x6, x7, x8⟩ := arr9 HA.out; go_wp2_with (go_at_call 17; refine (rin_any _ _).mono ?_; rintro e w1 ⟨rfl, rfl⟩)))
    go_ret
    exact ⟨by rw [HF.out]; rfl, HB.out⟩
  | true =>
    cases q1 : (r.toList == ([107, 110, 111, 99, 107] : List UInt8)) with
    | false =>
      have HF := hidp (show (alE r s a t true iv ki bn ab) = 12 from by unfold alE mayB entB byB remB anyW; simp [o0, o1, o2, o3, o4, q1, hck])
      have m1 : (r.toList != ([107, 110, 111, 99, 107] : List UInt8)) = true := by rw [bne, q1]; rfl
      rw [hck] at ck
      go_enter Try.func11, Try.ntmps11
      go_wp2_with (first | (refine wpL_boxT 23 rfl _ rfl [.string r, .string s, .string a, .string t, .bool true, .bool iv, .bool ki, .bool bn, .bool ab] rfl ?_; intro b1 w1 n1; have HB := hidp n1.below; have HA := hidp n1.arr; clear n1; obtain ⟨x0, x1, x2, x3, x4, x5, x6, x7, x8⟩ := arr9 HA.out) | (refine wpL_getM rfl (.tmp 1) rfl b1 [.string r, .string s, .string a, .string t, .bool true, .bool iv, .bool ki, .bool bn, .bool ab] rfl rfl HA.out ?_) | (go_at_call 9; refine (ck.out _).mono ?_; rintro e w1 ⟨rfl, hb⟩; clear x0 x1 x2 x3 x4 x5 x6 x7 x8; replace HB := hidp (HB.out.trans (hb.mono HB.out.size)); replace HA := hidp (HA.out.below hb HA.out.lt); clear hb; obtain ⟨x0, x1, x2, x3, x4, x5, x6, x7, x8⟩ := arr9 HA.out; go_wp2_with (go_at_call 17; refine (rin_any _ _).mono ?_; rintro e w1 ⟨rfl, rfl⟩)))
      go_ret
      exact ⟨by rw [HF.out]; rfl, HB.out⟩
    | true =>
      cases q2 : (a.toList == ([108, 101, 97, 118, 101] : List UInt8)) with
      | false =>
        have HF := hidp (show (alE r s a t true iv ki bn ab) = 12 from by unfold alE mayB entB byB remB anyW; simp [o0, o1, o2, o3, o4, q1, q2, hck])
        have m1 : (r.toList != ([107, 110, 111, 99, 107] : List UInt8)) = false := by rw [bne, q1]; rfl
        have m2 : (a.toList != ([108, 101, 97, 118, 101] : List UInt8)) = true := by rw [bne, q2]; rfl
        rw [hck] at ck
        go_enter Try.func11, Try.ntmps11
        go_wp2_with (first | (refine wpL_boxT 23 rfl _ rfl [.string r, .string s, .string a, .string t, .bool true, .bool iv, .bool ki, .bool bn, .bool ab] rfl ?_; intro b1 w1 n1; have HB := hidp n1.below; have HA := hidp n1.arr; clear n1; obtain ⟨x0, x1, x2, x3, x4, x5, x6, x7, x8⟩ := arr9 HA.out) | (refine wpL_getM rfl (.tmp 1) rfl b1 [.string r, .string s, .string a, .string t, .bool true, .bool iv, .bool ki, .bool bn, .bool ab] rfl rfl HA.out ?_) | (go_at_call 9; refine (ck.out _).mono ?_; rintro e w1 ⟨rfl, hb⟩; clear x0 x1 x2 x3 x4 x5 x6 x7 x8; replace HB := hidp (HB.out.trans (hb.mono HB.out.size)); replace HA := hidp (HA.out.below hb HA.out.lt); clear hb; obtain ⟨x0, x1, x2, x3, x4, x5, x6, x7, x8⟩ := arr9 HA.out; go_wp2_with (go_at_call 17; refine (rin_any _ _).mono ?_; rintro e w1 ⟨rfl, rfl⟩)))
        go_ret
        exact ⟨by rw [HF.out]; rfl, HB.out⟩
      | true =>
        have HF := hidp (show (alE r s a t true iv ki bn ab) = 0 from by unfold alE mayB entB byB remB anyW; simp [o0, o1, o2, o3, o4, q1, q2, hck])
        have m1 : (r.toList != ([107, 110, 111, 99, 107] : List UInt8)) = false := by rw [bne, q1]; rfl
        have m2 : (a.toList != ([108, 101, 97, 118, 101] : List UInt8)) = false := by rw [bne, q2]; rfl
        rw [hck] at ck
        go_enter Try.func11, Try.ntmps11
        go_wp2_with (first | (refine wpL_boxT 23 rfl _ rfl [.string r, .string s, .string a, .string t, .bool true, .bool iv, .bool ki, .bool bn, .bool ab] rfl ?_; intro b1 w1 n1; have HB := hidp n1.below; have HA := hidp n1.arr; clear n1; obtain ⟨x0, x1, x2, x3, x4, x5, x6, x7, x8⟩ := arr9 HA.out) | (refine wpL_getM rfl (.tmp 1) rfl b1 [.string r, .string s, .string a, .string t, .bool true, .bool iv, .bool ki, .bool bn, .bool ab] rfl rfl HA.out ?_) | (go_at_call 9; refine (ck.out _).mono ?_; rintro e w1 ⟨rfl, hb⟩; clear x0 x1 x2 x3 x4 x5 x6 x7 x8; replace HB := hidp (HB.out.trans (hb.mono HB.out.size)); replace HA := hidp (HA.out.below hb HA.out.lt); clear hb; obtain ⟨x0, x1, x2, x3, x4, x5, x6, x7, x8⟩ := arr9 HA.out; go_wp2_with (go_at_call 17; refine (rin_any _ _).mono ?_; rintro e w1 ⟨rfl, rfl⟩)))
        go_ret
        exact ⟨by rw [HF.out]; rfl, HB.out⟩
set_option maxHeartbeats 16000000 in
theorem ral_5 (w : World) (r s a t : ByteArray) (sf iv ki bn ab : Bool) (hO : One t 5) (hck : ckE r s a t = 0) :
    Calls Try.prog 11 #[.agg #[.string r, .string s, .string a, .string t, .bool sf, .bool iv, .bool ki, .bool bn, .bool ab]] w fun e w' => e = .returned (.int .i64 (alE r s a t sf iv ki bn ab)) ∧ Below w.heap.size w w' := by
  obtain ⟨o0, o1, o2, o3, o4⟩ := hO
  simp only [decide_true, show decide ((5 : Nat) = 0) = false from rfl, show decide ((5 : Nat) = 1) = false from rfl, show decide ((5 : Nat) = 2) = false from rfl, show decide ((5 : Nat) = 3) = false from rfl, show decide ((5 : Nat) = 4) = false from rfl] at o0 o1 o2 o3 o4
  have ck := hidp (fun W => rcheck_any W r s a t sf iv ki bn ab)
  have HF := hidp (show (alE r s a t sf iv ki bn ab) = 12 from by unfold alE mayB entB byB remB anyW; simp [o0, o1, o2, o3, o4, hck])
  rw [hck] at ck
  go_enter Try.func11, Try.ntmps11
  go_wp2_with (first | (refine wpL_boxT 23 rfl _ rfl [.string r, .string s, .string a, .string t, .bool sf, .bool iv, .bool ki, .bool bn, .bool ab] rfl ?_; intro b1 w1 n1; have HB := hidp n1.below; have HA := hidp n1.arr; clear n1; obtain ⟨x0, x1, x2, x3, x4, x5, x6, x7, x8⟩ := arr9 HA.out) | (refine wpL_getM rfl (.tmp 1) rfl b1 [.string r, .string s, .string a, .string t, .bool sf, .bool iv, .bool ki, .bool bn, .bool ab] rfl rfl HA.out ?_) | (go_at_call 9; refine (ck.out _).mono ?_; rintro e w1 ⟨rfl, hb⟩; clear x0 x1 x2 x3 x4 x5 x6 x7 x8; replace HB := hidp (HB.out.trans (hb.mono HB.out.size)); replace HA := hidp (HA.out.below hb HA.out.lt); clear hb; obtain ⟨x0, x1, x2, x3, x4, x5, x6, x7, x8⟩ := arr9 HA.out; go_wp2_with (go_at_call 17; refine (rin_any _ _).mono ?_; rintro e w1 ⟨rfl, rfl⟩)))
  go_ret
  exact ⟨by rw [HF.out]; rfl, HB.out⟩
theorem ral_any (w : World) (r s a t : ByteArray) (sf iv ki bn ab : Bool) (hck : ckE r s a t = 0) :
    Calls Try.prog 11 #[.agg #[.string r, .string s, .string a, .string t, .bool sf, .bool iv, .bool ki, .bool bn, .bool ab]] w fun e w' => e = .returned (.int .i64 (alE r s a t sf iv ki bn ab)) ∧ Below w.heap.size w w' := by
  obtain ⟨k, hk, hO⟩ := one_of t
  match k, hk with
  | 0, _ => exact ral_0 w r s a t sf iv ki bn ab hO hck
  | 1, _ => exact ral_1 w r s a t sf iv ki bn ab hO hck
  | 2, _ => exact ral_2 w r s a t sf iv ki bn ab hO hck
  | 3, _ => exact ral_3 w r s a t sf iv ki bn ab hO hck
  | 4, _ => exact ral_4 w r s a t sf iv ki bn ab hO hck
  | 5, _ => exact ral_5 w r s a t sf iv ki bn ab hO hck
set_option maxHeartbeats 16000000 in
theorem rallowed_any (w : World) (r s a t : ByteArray) (sf iv ki bn ab : Bool) :
    Calls Try.prog 11 #[.agg #[.string r, .string s, .string a, .string t, .bool sf, .bool iv, .bool ki, .bool bn, .bool ab]] w fun e w' => e = .returned (.int .i64 (alE r s a t sf iv ki bn ab)) ∧ Below w.heap.size w w' := by
  by_cases hck : ckE r s a t = 0
  · exact ral_any w r s a t sf iv ki bn ab hck
  · have ck := hidp (fun W => rcheck_any W r s a t sf iv ki bn ab)
    have h2 : ckE r s a t = 2 := by unfold ckE at hck ⊢; split <;> simp_all
    have HF := hidp (show alE r s a t sf iv ki bn ab = 2 from by unfold alE; rw [if_neg hck])
    rw [h2] at ck
    clear hck h2
    go_enter Try.func11, Try.ntmps11
    go_wp2_with (first | (refine wpL_boxT 23 rfl _ rfl [.string r, .string s, .string a, .string t, .bool sf, .bool iv, .bool ki, .bool bn, .bool ab] rfl ?_; intro b1 w1 n1; have HB := hidp n1.below; have HA := hidp n1.arr; clear n1; obtain ⟨x0, x1, x2, x3, x4, x5, x6, x7, x8⟩ := arr9 HA.out) | (refine wpL_getM rfl (.tmp 1) rfl b1 [.string r, .string s, .string a, .string t, .bool sf, .bool iv, .bool ki, .bool bn, .bool ab] rfl rfl HA.out ?_) | (go_at_call 9; refine (ck.out _).mono ?_; rintro e w1 ⟨rfl, hb⟩; clear x0 x1 x2 x3 x4 x5 x6 x7 x8; replace HB := hidp (HB.out.trans (hb.mono HB.out.size)); replace HA := hidp (HA.out.below hb HA.out.lt); clear hb; obtain ⟨x0, x1, x2, x3, x4, x5, x6, x7, x8⟩ := arr9 HA.out))
    go_ret
    exact ⟨by rw [HF.out]; rfl, HB.out⟩
end Go.Proofs.Ytpdeoplocbkkkaa
