
/-
  sha: words turned.
-/
import Derived.Test.YtgfdhgnkanekhaaDoorRows
import Derived.Test.YtgfdhgnkanekhaaDoorShaM
import Derived.WalkSpells
import Derived.WalkLawsBesides
import Derived.Handy
import Derived.BigQuiet
import Derived.Deep.QuietTactic
namespace Go.Proofs.YtgfdhgnkanekhaaDoor
set_option linter.unusedVariables false
set_option linter.unusedSimpArgs false
open Go.RowKit

def IsRot (N : Int) : Prop := N = 2 ∨ N = 6 ∨ N = 7 ∨ N = 11 ∨ N = 13 ∨ N = 17 ∨ N = 18 ∨ N = 19 ∨ N = 22 ∨ N = 25

theorem right_2 (x : Nat) (hx : x < 4294967296) (w : World) : Calls Tryd.prog 114 #[.int .u32 x, .int .i64 2] w fun e w' => e = .returned (.int .u32 (rotr 2 x : Nat)) ∧ w = w' := by
  have ha : bits .and .u64 (IntKind.u64.wrap (-2)) 31 = 30 := by decide
  have H := hidp (rot_eq' 2 x 4 1073741824 (by decide) (by decide) hx)
  go_enter Tryd.func114, Tryd.ntmps114
  go_wp2
  go_ret
  exact ⟨by rw [← H.out]; rfl, rfl⟩
theorem right_6 (x : Nat) (hx : x < 4294967296) (w : World) : Calls Tryd.prog 114 #[.int .u32 x, .int .i64 6] w fun e w' => e = .returned (.int .u32 (rotr 6 x : Nat)) ∧ w = w' := by
  have ha : bits .and .u64 (IntKind.u64.wrap (-6)) 31 = 26 := by decide
  have H := hidp (rot_eq' 6 x 64 67108864 (by decide) (by decide) hx)
  go_enter Tryd.func114, Tryd.ntmps114
  go_wp2
  go_ret
  exact ⟨by rw [← H.out]; rfl, rfl⟩
theorem right_7 (x : Nat) (hx : x < 4294967296) (w : World) : Calls Tryd.prog 114 #[.int .u32 x, .int .i64 7] w fun e w' => e = .returned (.int .u32 (rotr 7 x : Nat)) ∧ w = w' := by
  have ha : bits .and .u64 (IntKind.u64.wrap (-7)) 31 = 25 := by decide
  have H := hidp (rot_eq' 7 x 128 33554432 (by decide) (by decide) hx)
  go_enter Tryd.func114, Tryd.ntmps114
  go_wp2
  go_ret
  exact ⟨by rw [← H.out]; rfl, rfl⟩
theorem right_11 (x : Nat) (hx : x < 4294967296) (w : World) : Calls Tryd.prog 114 #[.int .u32 x, .int .i64 11] w fun e w' => e = .returned (.int .u32 (rotr 11 x : Nat)) ∧ w = w' := by
  have ha : bits .and .u64 (IntKind.u64.wrap (-11)) 31 = 21 := by decide
  have H := hidp (rot_eq' 11 x 2048 2097152 (by decide) (by decide) hx)
  go_enter Tryd.func114, Tryd.ntmps114
  go_wp2
  go_ret
  exact ⟨by rw [← H.out]; rfl, rfl⟩
theorem right_13 (x : Nat) (hx : x < 4294967296) (w : World) : Calls Tryd.prog 114 #[.int .u32 x, .int .i64 13] w fun e w' => e = .returned (.int .u32 (rotr 13 x : Nat)) ∧ w = w' := by
  have ha : bits .and .u64 (IntKind.u64.wrap (-13)) 31 = 19 := by decide
  have H := hidp (rot_eq' 13 x 8192 524288 (by decide) (by decide) hx)
  go_enter Tryd.func114, Tryd.ntmps114
  go_wp2
  go_ret
  exact ⟨by rw [← H.out]; rfl, rfl⟩
theorem right_17 (x : Nat) (hx : x < 4294967296) (w : World) : Calls Tryd.prog 114 #[.int .u32 x, .int .i64 17] w fun e w' => e = .returned (.int .u32 (rotr 17 x : Nat)) ∧ w = w' := by
  have ha : bits .and .u64 (IntKind.u64.wrap (-17)) 31 = 15 := by decide
  have H := hidp (rot_eq' 17 x 131072 32768 (by decide) (by decide) hx)
  go_enter Tryd.func114, Tryd.ntmps114
  go_wp2
  go_ret
  exact ⟨by rw [← H.out]; rfl, rfl⟩
theorem right_18 (x : Nat) (hx : x < 4294967296) (w : World) : Calls Tryd.prog 114 #[.int .u32 x, .int .i64 18] w fun e w' => e = .returned (.int .u32 (rotr 18 x : Nat)) ∧ w = w' := by
  have ha : bits .and .u64 (IntKind.u64.wrap (-18)) 31 = 14 := by decide
  have H := hidp (rot_eq' 18 x 262144 16384 (by decide) (by decide) hx)
  go_enter Tryd.func114, Tryd.ntmps114
  go_wp2
  go_ret
  exact ⟨by rw [← H.out]; rfl, rfl⟩
theorem right_19 (x : Nat) (hx : x < 4294967296) (w : World) : Calls Tryd.prog 114 #[.int .u32 x, .int .i64 19] w fun e w' => e = .returned (.int .u32 (rotr 19 x : Nat)) ∧ w = w' := by
  have ha : bits .and .u64 (IntKind.u64.wrap (-19)) 31 = 13 := by decide
  have H := hidp (rot_eq' 19 x 524288 8192 (by decide) (by decide) hx)
  go_enter Tryd.func114, Tryd.ntmps114
  go_wp2
  go_ret
  exact ⟨by rw [← H.out]; rfl, rfl⟩
theorem right_22 (x : Nat) (hx : x < 4294967296) (w : World) : Calls Tryd.prog 114 #[.int .u32 x, .int .i64 22] w fun e w' => e = .returned (.int .u32 (rotr 22 x : Nat)) ∧ w = w' := by
  have ha : bits .and .u64 (IntKind.u64.wrap (-22)) 31 = 10 := by decide
  have H := hidp (rot_eq' 22 x 4194304 1024 (by decide) (by decide) hx)
  go_enter Tryd.func114, Tryd.ntmps114
  go_wp2
  go_ret
  exact ⟨by rw [← H.out]; rfl, rfl⟩
theorem right_25 (x : Nat) (hx : x < 4294967296) (w : World) : Calls Tryd.prog 114 #[.int .u32 x, .int .i64 25] w fun e w' => e = .returned (.int .u32 (rotr 25 x : Nat)) ∧ w = w' := by
  have ha : bits .and .u64 (IntKind.u64.wrap (-25)) 31 = 7 := by decide
  have H := hidp (rot_eq' 25 x 33554432 128 (by decide) (by decide) hx)
  go_enter Tryd.func114, Tryd.ntmps114
  go_wp2
  go_ret
  exact ⟨by rw [← H.out]; rfl, rfl⟩
theorem right_any (x : Nat) (N : Int) (hx : x < 4294967296) (hN : IsRot N) (w : World) : Calls Tryd.prog 114 #[.int .u32 x, .int .i64 N] w fun e w' => e = .returned (.int .u32 (rotr N.toNat x : Nat)) ∧ w = w' := by
  rcases hN with rfl | rfl | rfl | rfl | rfl | rfl | rfl | rfl | rfl | rfl
  · exact right_2 x hx w
  · exact right_6 x hx w
  · exact right_7 x hx w
  · exact right_11 x hx w
  · exact right_13 x hx w
  · exact right_17 x hx w
  · exact right_18 x hx w
  · exact right_19 x hx w
  · exact right_22 x hx w
  · exact right_25 x hx w

set_option maxHeartbeats 4000000 in
theorem turned_any (x : Nat) (N : Int) (hx : x < 4294967296) (hN : IsRot N) (w : World) : Calls Tryd.prog 111 #[.int .u32 x, .int .i64 N] w fun e w' => e = .returned (.int .u32 (rotr N.toNat x : Nat)) ∧ ∃ n, w' = w.drewN n := by
  rcases hN with rfl | rfl | rfl | rfl | rfl | rfl | rfl | rfl | rfl | rfl
  all_goals
    (go_enter Tryd.func111, Tryd.ntmps111
     go_wp2
     go_quiet (fail)
     go_wp2
     go_ret
     refine ⟨?_, _, rfl⟩)
  · rw [rot_eq 2 x 4 1073741824 (by decide) (by decide) hx]; rfl
  · rw [rot_eq 6 x 64 67108864 (by decide) (by decide) hx]; rfl
  · rw [rot_eq 7 x 128 33554432 (by decide) (by decide) hx]; rfl
  · rw [rot_eq 11 x 2048 2097152 (by decide) (by decide) hx]; rfl
  · rw [rot_eq 13 x 8192 524288 (by decide) (by decide) hx]; rfl
  · rw [rot_eq 17 x 131072 32768 (by decide) (by decide) hx]; rfl
  · rw [rot_eq 18 x 262144 16384 (by decide) (by decide) hx]; rfl
  · rw [rot_eq 19 x 524288 8192 (by decide) (by decide) hx]; rfl
  · rw [rot_eq 22 x 4194304 1024 (by decide) (by decide) hx]; rfl
  · rw [rot_eq 25 x 33554432 128 (by decide) (by decide) hx]; rfl

theorem shifted_any (x : Nat) (N : Int) (hx : x < 4294967296) (hN : N = 3 ∨ N = 10) (w : World) : Calls Tryd.prog 115 #[.int .u32 x, .int .i64 N] w fun e w' => e = .returned (.int .u32 (x / 2 ^ N.toNat : Nat)) ∧ w = w' := by
  rcases hN with rfl | rfl
  all_goals
    (go_enter Tryd.func115, Tryd.ntmps115
     go_wp2
     go_ret
     exact ⟨by simp, rfl⟩)
theorem right_q (x : Nat) (N : Int) (hx : x < 4294967296) (hN : IsRot N) (w : World) : Calls Tryd.prog 114 #[.int .u32 x, .int .i64 N] w fun e w' => e = .returned (.int .u32 (rotr N.toNat x : Nat)) ∧ w' = w :=
  (right_any x N hx hN w).mono fun _ _ ⟨h, k⟩ => ⟨h, k.symm⟩
end Go.Proofs.YtgfdhgnkanekhaaDoor
