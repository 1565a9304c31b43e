
/-
  sha.joined: the checksum out of the values.
-/
import Derived.Test.YtgfdhgnkanekhaaDoorShaC
namespace Go.Proofs.YtgfdhgnkanekhaaDoor
set_option linter.unusedVariables false
set_option linter.unusedSimpArgs false
open Go.RowKit

/-- The bytes of a checksum. -/
def be4 (x : Nat) : List UInt8 := [UInt8.ofNat (x / 16777216), UInt8.ofNat (x / 65536), UInt8.ofNat (x / 256), UInt8.ofNat x]
def joinL (s : S8) : List UInt8 := be4 s.a ++ be4 s.b ++ be4 s.c ++ be4 s.d ++ be4 s.e ++ be4 s.f ++ be4 s.g ++ be4 s.h
theorem joinL_len (s : S8) : (joinL s).length = 32 := rfl
theorem joinL_get (s : S8) (i j : Nat) (hi : i < 8) (hj : j < 4) : ((joinL s).getD (4 * i + j) 0).toNat = s.list.getD i 0 / 2 ^ (24 - 8 * j) % 256 := by
  rcases (by omega : i = 0 ∨ i = 1 ∨ i = 2 ∨ i = 3 ∨ i = 4 ∨ i = 5 ∨ i = 6 ∨ i = 7) with rfl | rfl | rfl | rfl | rfl | rfl | rfl | rfl <;>
  rcases (by omega : j = 0 ∨ j = 1 ∨ j = 2 ∨ j = 3) with rfl | rfl | rfl | rfl <;>
  simp [joinL, be4, S8.list, UInt8.toNat_ofNat']
/-- The first k bytes of l, and noughts. -/
def fillB (l : List UInt8) (k : Nat) : List UInt8 := l.take k ++ List.replicate (l.length - k) 0
theorem fillB_len (l : List UInt8) (k : Nat) (h : k ≤ l.length) : (fillB l k).length = l.length := by simp [fillB]; omega
theorem fillB_set (l : List UInt8) (k : Nat) (h : k < l.length) : (fillB l k).set k (l.getD k 0) = fillB l (k + 1) := by
  unfold fillB
  have hl : (l.take k).length = k := by simp; omega
  have e : l.length - k = (l.length - (k + 1)) + 1 := by omega
  have hs := List.set_append_right (i := k) (s := l.take k) (t := List.replicate (l.length - k) 0) (x := l.getD k 0) (by omega)
  rw [hs, hl, Nat.sub_self, e, List.replicate_succ, List.set_cons_zero, List.take_succ_eq_append_getElem h, List.append_assoc]
  simp [List.getD_eq_getElem?_getD, h]
theorem fillB_zero (l : List UInt8) : fillB l 0 = List.replicate l.length 0 := by simp [fillB]
theorem fillB_all (l : List UInt8) : fillB l l.length = l := by simp [fillB]
theorem u8s_set (l : List UInt8) (i : Nat) (b : UInt8) : (u8s l).set i (.int .u8 b.toNat) = u8s (l.set i b) := by simp [u8s, List.map_set]
attribute [irreducible] joinL fillB

set_option maxRecDepth 100000 in
set_option maxHeartbeats 4000000 in
theorem joined_any (w : World) (s : S8) (hs : s.ok) :
    Calls Tryd.prog 107 #[.agg (u32s s.list).toArray] w fun e w' => e = .returned (.agg (u8s (joinL s)).toArray) ∧ Below w.heap.size w w' := by
  have hlist := hidp (show (u32s s.list).toArray = #[.int .u32 s.a, .int .u32 s.b, .int .u32 s.c, .int .u32 s.d, .int .u32 s.e, .int .u32 s.f, .int .u32 s.g, .int .u32 s.h] from rfl)
  rw [hlist.out]
  have hok := hs
  unfold S8.ok S8.list at hok
  simp only [List.mem_cons, List.not_mem_nil, or_false, forall_eq_or_imp, forall_eq] at hok
  have hidx := hidp (show ∀ (i : Nat) (W : World), i < 8 → (Instr.index 117 (.agg #[.int .u32 s.a, .int .u32 s.b, .int .u32 s.c, .int .u32 s.d, .int .u32 s.e, .int .u32 s.f, .int .u32 s.g, .int .u32 s.h]) (.int .i64 (i : Int))).run Tryd.prog W = .ok (.int .u32 ((s.list.getD i 0 : Nat) : Int)) W from by
    intro i W hi
    rcases (by omega : i = 0 ∨ i = 1 ∨ i = 2 ∨ i = 3 ∨ i = 4 ∨ i = 5 ∨ i = 6 ∨ i = 7) with rfl | rfl | rfl | rfl | rfl | rfl | rfl | rfl <;> kernel_rfl)
  have HS := hidp hs; clear hs hok hlist
  go_enter Tryd.func107, Tryd.ntmps107
  go_wp2
  go_loopw [8] (fun t8 wr => ∃ i : Nat, t8 = .int .i64 i ∧ i ≤ 8 ∧ Arr wr (w.heap.size + 1 + 1) 26 (u8s (fillB (joinL s) (4 * i))) ∧ Arr wr (w.heap.size + 1) 26 (u8s (List.replicate 32 0)) ∧ Below w.heap.size w wr) (fun t8 _ => 8 - (intOf t8).toNat)
  case atStart =>
    have hz : fillB (joinL s) (4 * 0) = List.replicate 32 0 := by rw [Nat.mul_zero, fillB_zero, joinL_len]
    refine ⟨0, rfl, by omega, ?_, ?_, (((Below.refl _ w).alloc (Nat.le_refl _) _).alloc (by simp) _).alloc (by simp; omega) _⟩
    · rw [hz]
      have h := Arr.new ((w.alloc (.cells #[.int .u32 s.a, .int .u32 s.b, .int .u32 s.c, .int .u32 s.d, .int .u32 s.e, .int .u32 s.f, .int .u32 s.g, .int .u32 s.h] 117)).alloc (.cells (u8s (List.replicate 32 0)).toArray 26)) 26 (u8s (List.replicate 32 0))
      rw [heap_size_alloc, heap_size_alloc] at h; exact h
    · have h := (Arr.new (w.alloc (.cells #[.int .u32 s.a, .int .u32 s.b, .int .u32 s.c, .int .u32 s.d, .int .u32 s.e, .int .u32 s.f, .int .u32 s.g, .int .u32 s.h] 117)) 26 (u8s (List.replicate 32 0))).alloc (.cells (u8s (List.replicate 32 0)).toArray 26)
      rw [heap_size_alloc] at h; exact h
  case round =>
    obtain ⟨i, rfl, hi, hA, hZ, hb⟩ := hrel
    have HA := hidp hA; have HZ := hidp hZ; clear hA hZ
    by_cases h8 : i < 8
    · have hix := fun W => hidx.out i W h8
      have hxl := list_getD_lt s HS.out i h8
      have hJ := hidp (fun j hj => joinL_get s i j h8 hj)
      obtain ⟨x, hx⟩ : ∃ x, s.list.getD i 0 = x := ⟨_, rfl⟩
      rw [hx] at hix hxl
      have hJ2 := hidp (show ∀ j, j < 4 → ((joinL s).getD (4 * i + j) 0).toNat = x / 2 ^ (24 - 8 * j) % 256 from fun j hj => by rw [← hx]; exact hJ.out j hj)
      clear hx
      go_wp2
      go_loopw [12] (fun t12 wr => ∃ j : Nat, t12 = .int .i64 j ∧ j ≤ 4 ∧ Arr wr (w.heap.size + 1 + 1) 26 (u8s (fillB (joinL s) (4 * i + j))) ∧ Arr wr (w.heap.size + 1) 26 (u8s (List.replicate 32 0)) ∧ Below w.heap.size w wr) (fun t12 _ => 4 - (intOf t12).toNat)
      case atStart => exact ⟨0, rfl, by omega, HA.out, HZ.out, hb⟩
      case round =>
        obtain ⟨j, rfl, hj, hA, hZ, hb2⟩ := hrel
        have HA2 := hidp hA; have HZ2 := hidp hZ; clear hA hZ
        by_cases h4 : j < 4
        · have hlen : (u8s (fillB (joinL s) (4 * i + j))).length = 32 := by rw [u8s_length, fillB_len _ _ (by rw [joinL_len]; omega), joinL_len]
          have hc := HA2.out.cell (4 * i + j) (by rw [hlen]; omega)
          obtain ⟨vo, hvo⟩ : ∃ vo, (u8s (fillB (joinL s) (4 * i + j)))[4 * i + j]'(by rw [hlen]; omega) = vo := ⟨_, rfl⟩
          rw [hvo] at hc
          clear hvo hlen
          have hfz := HA2.out.frozen (4 * i + j)
          have i1 : (0 : Int) ≤ 4 * (i : Int) + (j : Int) := by omega
          have i2 : 4 * (i : Int) + (j : Int) < 32 := by omega
          have i3 : (4 * (i : Int) + (j : Int)).toNat = 4 * i + j := by omega
          have hval := hidp (show (x : Int) / 2 ^ (24 - 8 * j) % 256 = ((((joinL s).getD (4 * i + j) 0).toNat : Nat) : Int) from by rw [hJ2.out j h4]; simp)
          have hset := HA2.out.set (4 * i + j) (.int .u8 (((joinL s).getD (4 * i + j) 0).toNat : Nat))
          rw [u8s_set, fillB_set _ _ (by rw [joinL_len]; omega), ← hval.out] at hset
          have HSET := hidp hset
          clear hset
          go_wp2
          exact ⟨⟨j + 1, by go_num, by omega, HSET.out, HZ2.out.other _ (by simp) _, hb2.setCell (p := ⟨w.heap.size + 1 + 1, 4 * i + j, none⟩) (by simp; omega) _⟩, by simp [intOf]; omega⟩
        · obtain rfl : j = 4 := by omega
          go_wp2
          exact ⟨⟨i + 1, by go_num, by omega, HA2.out, HZ2.out, hb2⟩, by simp [intOf]; omega⟩
    · have hfull := HA.out
      have h32 : 4 * i = (joinL s).length := by rw [joinL_len]; omega
      rw [h32, fillB_all] at hfull
      have hi32 : (Tryd.prog.info? 26).map (·.size) = some (u8s (joinL s)).toArray.size := by
        have h1 : (Tryd.prog.info? 26).map (·.size) = some 32 := by kernel_rfl
        rw [h1]; simp [u8s, joinL_len]
      obtain ⟨xs, hxs⟩ : ∃ xs, (u8s (joinL s)).toArray = xs := ⟨_, rfl⟩
      have hg1 := hfull
      have hg2 := HZ.out
      unfold Arr at hg1 hg2
      rw [hxs] at hg1 hi32
      have HXS := hidp hxs
      have hlenx := hidp (show (u8s (List.replicate 32 0)).toArray.size = xs.size from by rw [← hxs]; simp [u8s, joinL_len])
      have hone := hidp (show xs.all (·.oneCell') = true from by rw [← hxs]; simp [u8s, Value.oneCell'])
      clear hxs hfull h32
      have H1 := hidp hg1; have H2 := hidp hg2; have HI := hidp hi32
      clear hg1 hg2 hi32
      go_wp2_with (first
        | (refine wpList_load_row rfl 26 (.tmp 3) rfl (w.heap.size + 1 + 1) rfl 26 xs (0, 0) _ H1.out Tryd.underlying26 rfl HI.out ?_)
        | (refine wpList_store_row rfl 26 (.tmp 2) (.tmp 28) rfl (w.heap.size + 1) xs rfl rfl 26 _ H2.out HI.out hlenx.out hone.out ?_))
      have hfin : (wr.setRow (w.heap.size + 1) xs).heap[w.heap.size + 1]? = some (.cells xs 26 (0, 0)) := setRow_heap _ _ _ _ _ _ H2.out
      refine bodyPost_ret (results_cell_row (P := Tryd.prog) (p := 2) (ty := 26) Tryd.results107 _ _ (w.heap.size + 1) 26 xs (0, 0) _ rfl hfin Tryd.underlying26 rfl HI.out) rfl ?_
      exact ⟨by rw [HXS.out], below_setRow hb (by simp) _⟩
end Go.Proofs.YtgfdhgnkanekhaaDoor
