
/-
  state: what is asked.
-/
import Derived.Test.YtiakfopdohcigaaGreatDoorStW
import Derived.Test.YtiakfopdohcigaaGreatDoorStV
namespace Go.Proofs.YtiakfopdohcigaaGreatDoor
set_option maxRecDepth 100000
set_option linter.unusedVariables false
set_option linter.unusedSimpArgs false
open Go.RowKit Rw
open List (getElem_toArray getElem_cons_zero getElem_cons_succ setIfInBounds_toArray set_cons_zero set_cons_succ)

set_option maxHeartbeats 16000000 in
theorem stateAsks_nat (w : World) (v : Value) (cs : List Ce) (hv : CsAt w v cs) (hn : cs.length ≤ 1400000000000) (k : Nat) (y : ByteArray) (hI : IT w) :
    Calls Tryz.prog 3 #[v, .int .u8 (k : Int), .string y] w fun x w' => x = .returned (.bool true) ∧ Below w.heap.size w w' := by
  have HI := hidp hI; have HV := hidp hv
  have li := hidp (fun W h => lives14_any W h)
  have g1 := hidp (fun W h h' => get_any W v cs h k y h'); have g2 := hidp (fun W h => rget_any W v cs h k y)
  have k1 := hidp (fun W h => keys_any W v cs h k hn); have k2 := hidp (fun W h => rkeys_any W v cs h k hn)
  have m1 := hidp (fun W h => mem_any W v cs h y); have m2 := hidp (fun W h => rmem_any W v cs h y)
  have hkl : (kyL cs k).length ≤ 140737488351232 := by have h1 := kiT_len cs k cs.length; have h2 : (kyL cs k).length = (kiT cs k cs.length).length := (by unfold kyL kiL; rw [List.length_map]); omega
  have k01 := hidp (fun W v v' h h' => (show Calls Tryz.prog 12 #[v, v'] W fun e w' => e = .returned (.bool true) ∧ Below W.heap.size W w' from by
    have := same01_any W v v' (kyL cs k) (kyL cs k) h h' hkl hkl; rw [show sameB (kyL cs k) (kyL cs k) = true from by simp [sameB]] at this; exact this))
  obtain ⟨G, hG⟩ : ∃ z, geV cs k y = z := ⟨_, rfl⟩
  obtain ⟨E, hE⟩ : ∃ z, geE cs k y = z := ⟨_, rfl⟩
  obtain ⟨M, hM⟩ : ∃ z, memS cs y = z := ⟨_, rfl⟩
  rw [hG, hE] at g1 g2
  rw [hM] at m1 m2
  have q1 := fun W => eq_ev W G
  have q2 := fun W => eqin_ev W G
  have eE : (E == E) = true := by simp
  have eM : (M.toList == M.toList) = true := by simp
  clear hv hI hG hE hM hkl hn
  have H := hidp (Mm.M.nil w)
  go_enter Tryz.func3, Tryz.ntmps3
  have tk0 := hidp trivial
  go_wp2_with (first | (clear tk0; (go_at_call 9; refine (g1.out _ (HV.out.to H.out.below) (HI.out.below H.out.below (Nat.le_refl _))).mono ?_; rintro e _ ⟨rfl, hb⟩; replace H := hidp (H.out.call hb); clear g1; clear hb); (try simp only [Act.put, setIfInBounds_toArray, set_cons_zero, set_cons_succ]); have tk1 := hidp trivial) | (clear tk1; (refine Mm.new rtE H (some 7) rfl rfl rfl ?_; clear H; intro b7 _ H nw; have hb := nw.below; clear hb nw); (try simp only [Act.put, setIfInBounds_toArray, set_cons_zero, set_cons_succ]); have tk2 := hidp trivial) | (clear tk2; (refine Mm.put0 rtE H rfl (.tmp 7) (.tmp 16) G.row rfl rfl rfl rfl (Ev.one _) rfl ?_; intro _ H2 st; clear st H; have H := H2; clear H2); (try simp only [Act.put, setIfInBounds_toArray, set_cons_zero, set_cons_succ]); have tk3 := hidp trivial) | (clear tk3; (go_at_call 10; refine (g2.out _ (HV.out.to H.out.below)).mono ?_; rintro e _ ⟨rfl, hb⟩; replace H := hidp (H.out.call hb); clear g2; clear hb); (try simp only [Act.put, setIfInBounds_toArray, set_cons_zero, set_cons_succ]); have tk4 := hidp trivial) | (clear tk4; (refine Mm.new rtE H (some 9) rfl rfl rfl ?_; clear H; intro b9 _ H nw; have hb := nw.below; clear hb nw); (try simp only [Act.put, setIfInBounds_toArray, set_cons_zero, set_cons_succ]); have tk5 := hidp trivial) | (clear tk5; (refine Mm.put0 rtE H rfl (.tmp 9) (.tmp 23) G.row rfl rfl rfl rfl (Ev.one _) rfl ?_; intro _ H2 st; clear st H; have H := H2; clear H2); (try simp only [Act.put, setIfInBounds_toArray, set_cons_zero, set_cons_succ]); have tk6 := hidp trivial) | (clear tk6; (go_at_call 11; refine (li.out _ (HI.out.below H.out.below (Nat.le_refl _))).mono ?_; rintro e _ ⟨rfl, hb⟩; replace H := hidp (H.out.call hb); clear li; clear hb); (try simp only [Act.put, setIfInBounds_toArray, set_cons_zero, set_cons_succ]); have tk7 := hidp trivial) | (clear tk7; (refine Mm.get1 rtE H rfl (.tmp 7) rfl rfl rfl ?_); (try simp only [Act.put, setIfInBounds_toArray, set_cons_zero, set_cons_succ]); have tk8 := hidp trivial) | (clear tk8; (refine Mm.get0 rtE H rfl (.tmp 9) rfl rfl rfl ?_); (try simp only [Act.put, setIfInBounds_toArray, set_cons_zero, set_cons_succ]); have tk9 := hidp trivial) | (clear tk9; (go_at_call 13; refine (k1.out _ (HV.out.to H.out.below)).mono ?_; rintro x _ ⟨v1, rfl, hks, hb⟩; replace H := hidp (H.out.call hb); have HK1 := hidp hks; clear hks hb k1); (try simp only [Act.put, setIfInBounds_toArray, set_cons_zero, set_cons_succ]); have tk10 := hidp trivial) | (clear tk10; (go_at_call 14; refine (k2.out _ (HV.out.to H.out.below)).mono ?_; rintro x _ ⟨v2, rfl, hks, hb⟩; replace H := hidp (H.out.call hb); replace HK1 := hidp (HK1.out.below hb (Nat.le_refl _)); have HK2 := hidp hks; clear hks hb k2); (try simp only [Act.put, setIfInBounds_toArray, set_cons_zero, set_cons_succ]); have tk11 := hidp trivial) | (clear tk11; (go_at_call 12; refine (k01.out _ _ _ HK1.out HK2.out).mono ?_; rintro e _ ⟨rfl, hb⟩; replace H := hidp (H.out.call hb); clear k01; clear hb); (try simp only [Act.put, setIfInBounds_toArray, set_cons_zero, set_cons_succ]); have tk12 := hidp trivial) | (clear tk12; (go_at_call 15; refine (m1.out _ (HV.out.to H.out.below)).mono ?_; rintro e _ ⟨rfl, hb⟩; replace H := hidp (H.out.call hb); clear m1; clear hb); (try simp only [Act.put, setIfInBounds_toArray, set_cons_zero, set_cons_succ]); have tk13 := hidp trivial) | (clear tk13; (go_at_call 16; refine (m2.out _ (HV.out.to H.out.below)).mono ?_; rintro e _ ⟨rfl, hb⟩; replace H := hidp (H.out.call hb); clear m2; clear hb); (try simp only [Act.put, setIfInBounds_toArray, set_cons_zero, set_cons_succ]); have tk14 := hidp trivial))
  try clear tk14
  go_ret
  exact ⟨rfl, H.out.below⟩
theorem walk_stateAsks (w : World) (v : Value) (cs : List Ce) (hv : CsAt w v cs) (n0 : cs.length ≤ 1400000000000 ∧ ∀ c ∈ cs, c.e.body.size ≤ 140737488351232 ∧ c.e.sender.size ≤ 140737488351232) (a : Int) (wa : (Lit.int .u8 a).wf = true) (y : ByteArray) (hy : y.size ≤ 140737488351232) (hI : IT w) :
    Calls Tryz.prog 3 #[v, .int .u8 a, .string y] w fun x w' => x = .returned (.bool true) ∧ Below w.heap.size w w' := by
  obtain ⟨k, rfl, -⟩ := u8_nat wa
  exact stateAsks_nat w v cs hv n0.1 k y hI
end Go.Proofs.YtiakfopdohcigaaGreatDoor
