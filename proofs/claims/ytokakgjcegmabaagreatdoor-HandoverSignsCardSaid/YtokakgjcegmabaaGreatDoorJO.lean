import Derived.Test.YtokakgjcegmabaaGreatDoorJC
import Derived.Test.YtokakgjcegmabaaGreatDoorJA
import Derived.Test.YtokakgjcegmabaaGreatDoorJB
set_option linter.unusedVariables false
set_option linter.unusedSimpArgs false
set_option maxHeartbeats 64000000
set_option maxRecDepth 100000
namespace Go.Proofs.YtokakgjcegmabaaGreatDoor.Ho
open Go.RowKit
structure De where
 k : Nat
 r : ByteArray
 e : Int
 i : Int
 h : Int
 n : Int
 g : ByteArray
def De.row (d : De) : List Value := [.int .u8 (d.k : Int), .string d.r, .int .i64 d.e, .int .i64 d.i, .int .i64 d.h, .int .i64 d.n, .string d.g]
def De.ok (d : De) : Prop := d.k < 256 ∧ d.r.size ≤ 140737488351232 ∧ d.g.size ≤ 140737488351232
def zD : De := ⟨0, ⟨#[]⟩, 0, 0, 0, 0, ⟨#[]⟩⟩
def hWords : List (List UInt8) := [[], [111, 102, 102, 101, 114], [97, 99, 99, 101, 112, 116]]
def dwd (k : Nat) : ByteArray := mkS (hWords.getD k [])
def kOf (t : ByteArray) : Nat := if t = dwd 1 then 1 else if t = dwd 2 then 2 else 0
def prm (e i h n : Int) : Bool := decide ((0 ≤ e ∧ e ≤ 4096) ∧ (0 ≤ i ∧ i ≤ 4096) ∧ (0 ≤ h ∧ h ≤ 63) ∧ (0 ≤ n ∧ n ≤ 63))
def dOk (d : De) : Bool := decide (1 ≤ d.k ∧ d.k ≤ 2) && (who 2 d.r).isSome && prm d.e d.i d.h d.n && decide (d.h ≠ d.n) && decide (d.g.size ≤ 8192)
def dE (d : De) : Int := if dOk d = true then 0 else 2
def dL (d : De) : List ByteArray := [dwd d.k, d.r, mkS (encN d.e.toNat), mkS (encN d.i.toNat), mkS (encN d.h.toNat), mkS (encN d.n.toNat)]
def dT (d : De) : ByteArray := if dOk d = true then mkS (encL (dL d)) else ByteArray.empty
def dB (d : De) : ByteArray := if dOk d = true then mkS (encL [dT d, d.g]) else ByteArray.empty
def rdL : List ByteArray → Option De
 | [a, b, c, d, e, f] => match numOf c, numOf d, numOf e, numOf f with
   | some w, some x, some y, some z => if dOk ⟨kOf a, b, w, x, y, z, ⟨#[]⟩⟩ = true then some ⟨kOf a, b, w, x, y, z, ⟨#[]⟩⟩ else none
   | _, _, _, _ => none
 | _ => none
def rd (t : ByteArray) : Option De := if (al t).2 = 0 then rdL (al t).1 else none
def wSig (d : De) (g : ByteArray) : De := ⟨d.k, d.r, d.e, d.i, d.h, d.n, g⟩
def dPL : List ByteArray → Option De
 | [t, g] => (rd t).map fun d => wSig d g
 | _ => none
def dP (s : ByteArray) : Option De := if (al s).2 = 0 then dPL (al s).1 else none
def anV (d : De) : De := if dOk d = true ∧ d.k = 1 then ⟨2, d.r, d.e, d.i, d.h, d.n, ⟨#[]⟩⟩ else zD
def anE (d : De) : Int := if dOk d = true then (if d.k = 1 then 0 else 11) else 2
def fits (d e : De) : Bool := dOk d && dOk e && decide (d.k = 1) && decide (e.k = 2) && (d.r.toList == e.r.toList) && decide (d.e = e.e) && decide (d.i = e.i) && decide (d.h = e.h) && decide (d.n = e.n)
def sgn (d : De) : Int := if d.k = 1 then d.h else d.n
theorem dE_yes {d : De} (h : dOk d = true) : dE d = 0 := by unfold dE; rw [if_pos h]
theorem dE_no {d : De} (h : dOk d = false) : dE d = 2 := by unfold dE; rw [h]; rfl
theorem dT_yes {d : De} (h : dOk d = true) : dT d = mkS (encL (dL d)) := by unfold dT; rw [if_pos h]
theorem dT_no {d : De} (h : dOk d = false) : dT d = ByteArray.empty := by unfold dT; rw [h]; rfl
theorem dB_yes {d : De} (h : dOk d = true) : dB d = mkS (encL [dT d, d.g]) := by unfold dB; rw [if_pos h]
theorem dB_no {d : De} (h : dOk d = false) : dB d = ByteArray.empty := by unfold dB; rw [h]; rfl
theorem dOk_parts {d : De} (h : dOk d = true) : (d.k = 1 ∨ d.k = 2) ∧ (∃ n, who 2 d.r = some n) ∧ (0 ≤ d.e ∧ d.e ≤ 4096) ∧ (0 ≤ d.i ∧ d.i ≤ 4096) ∧ (0 ≤ d.h ∧ d.h ≤ 63) ∧ (0 ≤ d.n ∧ d.n ≤ 63) ∧ d.h ≠ d.n ∧ d.g.size ≤ 8192 := by
 unfold dOk prm at h
 simp only [Bool.and_eq_true, decide_eq_true_eq] at h
 obtain ⟨⟨⟨⟨h1, h2⟩, h3⟩, h4⟩, h5⟩ := h
 exact ⟨by omega, Option.isSome_iff_exists.1 h2, h3.1, h3.2.1, h3.2.2.1, h3.2.2.2, h4, h5⟩
theorem dOk_mk {d : De} (h1 : d.k = 1 ∨ d.k = 2) (h2 : (who 2 d.r).isSome = true) (h3 : prm d.e d.i d.h d.n = true) (h4 : d.h ≠ d.n) (h5 : d.g.size ≤ 8192) : dOk d = true := by
 unfold dOk
 simp only [Bool.and_eq_true, decide_eq_true_eq]
 exact ⟨⟨⟨⟨by omega, h2⟩, h3⟩, h4⟩, h5⟩
theorem kOf_hw {k : Nat} (h : k = 1 ∨ k = 2) : kOf (dwd k) = k := by rcases h with rfl | rfl <;> decide
theorem hw_size (k : Nat) : (dwd k).size ≤ 6 := by
 by_cases h : k ≤ 2
 · have : ∀ k : Fin 3, (dwd k.val).size ≤ 6 := by decide +kernel
   exact this ⟨k, by omega⟩
 · have : dwd k = mkS [] := by unfold dwd hWords; rw [List.getD_eq_getElem?_getD, List.getElem?_eq_none (by simp; omega)]; rfl
   rw [this, mkS_size]; simp
theorem n4_len {x : Int} (h0 : 0 ≤ x) (h : x ≤ 4096) : (encN x.toNat).length ≤ 10 := encN_len64 _ (by omega)
theorem dL_sz {d : De} (h : dOk d = true) : ∀ s ∈ dL d, s.size ≤ 20 := by
 obtain ⟨-, ⟨n, h2⟩, h3, h4, h5, h6, -, -⟩ := dOk_parts h
 intro s hs
 have g1 := who_size h2; have g2 := hw_size d.k
 have e1 := n4_len h3.1 h3.2; have e2 := n4_len h4.1 h4.2; have e3 := n4_len h5.1 (by omega); have e4 := n4_len h6.1 (by omega)
 simp only [dL, List.mem_cons, List.not_mem_nil, or_false] at hs
 rcases hs with rfl | rfl | rfl | rfl | rfl | rfl
 · omega
 · omega
 · rw [mkS_size]; omega
 · rw [mkS_size]; omega
 · rw [mkS_size]; omega
 · rw [mkS_size]; omega
theorem dL_ok {d : De} (h : dOk d = true) : okL (dL d) := ⟨by simp [dL], fun s hs => Nat.le_trans (dL_sz h s hs) (by omega)⟩
theorem encT_len (s : ByteArray) (h : s.size ≤ 140737488351232) : (encT s).length ≤ s.size + 10 := by
 unfold encT
 rw [List.length_append, size_toList]
 have := encN_len64 s.size (by omega); omega
theorem encTs_len (ss : List ByteArray) (m : Nat) (hm : m ≤ 140737488351232) (h : ∀ s ∈ ss, s.size ≤ m) : (encTs ss).length ≤ ss.length * (m + 10) := by
 unfold encTs
 induction ss with
 | nil => simp
 | cons a l ih =>
   rw [List.flatMap_cons, List.length_append, List.length_cons, Nat.succ_mul]
   have h1 := encT_len a (Nat.le_trans (h a (by simp)) hm); have h2 := h a (by simp); have h3 := ih fun s hs => h s (by simp [hs])
   omega
theorem dT_size (d : De) : (dT d).size ≤ 200 := by
 by_cases h : dOk d = true
 · rw [dT_yes h, mkS_size]
   have h1 := encTs_len (dL d) 20 (by omega) (dL_sz h)
   have h2 : (dL d).length = 6 := rfl
   unfold encL
   rw [List.length_append]
   have := encN_len64 (dL d).length (by omega)
   omega
 · rw [dT_no (by simpa using h)]; exact Nat.zero_le _
theorem dB_ok {d : De} (h : dOk d = true) : okL [dT d, d.g] := by
 obtain ⟨-, -, -, -, -, -, -, h8⟩ := dOk_parts h
 refine ⟨by simp, fun s hs => ?_⟩
 have := dT_size d
 simp only [List.mem_cons, List.not_mem_nil, or_false] at hs
 rcases hs with rfl | rfl
 · omega
 · exact h8
theorem rd_back {d : De} (h : dOk d = true) : rd (dT d) = some (wSig d ⟨#[]⟩) := by
 obtain ⟨h1, h2, h3, h4, h5, h6, h7, h8⟩ := dOk_parts h
 unfold rd
 rw [dT_yes h, al_back _ (dL_ok h)]
 simp only [if_true, dL, rdL]
 rw [numOf_back _ (by omega), numOf_back _ (by omega), numOf_back _ (by omega), numOf_back _ (by omega), kOf_hw h1]
 simp only [Int.toNat_of_nonneg h3.1, Int.toNat_of_nonneg h4.1, Int.toNat_of_nonneg h5.1, Int.toNat_of_nonneg h6.1]
 exact if_pos (dOk_mk (d := wSig d ⟨#[]⟩) h1 (Option.isSome_iff_exists.2 h2) (decide_eq_true ⟨h3, h4, h5, h6⟩) h7 (by show (⟨#[]⟩ : ByteArray).size ≤ 8192; decide))
theorem dP_back {d : De} (h : dOk d = true) : dP (dB d) = some d := by
 unfold dP
 rw [dB_yes h, al_back _ (dB_ok h)]
 simp only [if_true, dPL]
 rw [rd_back h]; rfl
theorem wSig_ok {d : De} (h : dOk d = true) {g : ByteArray} (hg : g.size ≤ 8192) : dOk (wSig d g) = true := by
 obtain ⟨h1, h2, h3, h4, h5, h6, h7, h8⟩ := dOk_parts h
 exact dOk_mk h1 (Option.isSome_iff_exists.2 h2) (decide_eq_true ⟨h3, h4, h5, h6⟩) h7 hg
theorem dT_sig {d : De} (h : dOk d = true) {g : ByteArray} (hg : g.size ≤ 8192) : dT (wSig d g) = dT d := by
 rw [dT_yes h, dT_yes (wSig_ok h hg)]; rfl
end Go.Proofs.YtokakgjcegmabaaGreatDoor.Ho
namespace Go.Proofs.YtokakgjcegmabaaGreatDoor.Ho
open Go.RowKit
open List (getElem_toArray getElem_cons_zero getElem_cons_succ setIfInBounds_toArray set_cons_zero set_cons_succ)
structure HT (w : World) : Prop where
 words : ∀ i, i < 3 → w.cell? ⟨0, i, none⟩ = some (.string (dwd i))
 most : ∀ i, i < 4 → w.cell? ⟨1, i, none⟩ = some (.int .i64 (([4096, 4096, 63, 63] : List Int).getD i 0))
theorem HT.below {w w' : World} (h : HT w) {B : Nat} (hb : Below B w w') (hB : w.heap.size ≤ B) : HT w' := ⟨fun i hi => by
 have g1 := World.block_lt_of_cell? w _ (h.words i hi)
 exact (hb.cell (p := ⟨0, i, none⟩) (by simp only at g1 ⊢; omega)).trans (h.words i hi), fun i hi => by
 have g1 := World.block_lt_of_cell? w _ (h.most i hi)
 exact (hb.cell (p := ⟨1, i, none⟩) (by simp only at g1 ⊢; omega)).trans (h.most i hi)⟩
def zDr : List Value := [.int .u8 0, .string ⟨#[]⟩, .int .i64 0, .int .i64 0, .int .i64 0, .int .i64 0, .string ⟨#[]⟩]
theorem rtD : Rt.RT Tryz.prog 26 7 zDr := ⟨rfl, .inl ⟨_, Tryz.underlying26⟩, by kernel_rfl⟩
def zNr : List Value := [.int .i64 0, .int .i64 0, .int .i64 0, .int .i64 0]
theorem rtN : Rt.RT Tryz.prog 181 4 zNr := ⟨rfl, .inr ⟨_, _, Tryz.underlying181⟩, by kernel_rfl⟩
theorem naS : Mm.NA Tryz.prog 9 := ⟨_, Tryz.underlying9, rfl⟩
theorem naI : Mm.NA Tryz.prog 3 := ⟨_, Tryz.underlying3, rfl⟩
theorem naDK : Mm.NA Tryz.prog 24 := ⟨_, Tryz.underlying24, rfl⟩
def kB (k : Nat) : Bool := decide (1 ≤ k ∧ k ≤ 2)
theorem kB_yes {k : Nat} (h : 1 ≤ k ∧ k ≤ 2) : kB k = true := decide_eq_true h
theorem kB_no {k : Nat} (h : ¬ (1 ≤ k ∧ k ≤ 2)) : kB k = false := decide_eq_false h
theorem isKind_any (w : World) (k : Nat) (hk : k < 256) :
 Calls Tryz.prog 106 #[.int .u8 (k : Int)] w fun e w' => e = .returned (.bool (kB k)) ∧ w' = w := by
 by_cases h0 : k = 0
 · have e0 : decide ((0 : Int) < (k : Int)) = false := by simp; omega
   have n0 : ¬ 0 < k := by omega
   have HF := hidp (kB_no (k := k) (by omega))
   clear h0
   go_enter Tryz.func106, Tryz.ntmps106
   go_wp2
   go_ret
   exact ⟨by rw [HF.out]; rfl, rfl⟩
 · have e0 : decide ((0 : Int) < (k : Int)) = true := by simp; omega
   have n0 : 0 < k := by omega
   by_cases h9 : k < 3
   · have e1 : decide ((k : Int) < 3) = true := by simp; omega
     have n1 : (k : Int) < 3 := by omega
     have HF := hidp (kB_yes (k := k) (by omega))
     clear h0 h9
     go_enter Tryz.func106, Tryz.ntmps106
     go_wp2
     go_ret
     exact ⟨by rw [HF.out]; rfl, rfl⟩
   · have e1 : decide ((k : Int) < 3) = false := by simp; omega
     have n1 : ¬ (k : Int) < 3 := by omega
     have HF := hidp (kB_no (k := k) (by omega))
     clear h0 h9
     go_enter Tryz.func106, Tryz.ntmps106
     go_wp2
     go_ret
     exact ⟨by rw [HF.out]; rfl, rfl⟩
theorem kOf_eq {t : ByteArray} {k : Nat} (h1 : 1 ≤ k) (h2 : k ≤ 2) (h : dwd k = t) : kOf t = k := by rw [← h]; exact kOf_hw (by omega)
theorem kOf_none {t : ByteArray} (h : ∀ k, 1 ≤ k → k ≤ 2 → dwd k ≠ t) : kOf t = 0 := by
 unfold kOf
 rw [if_neg (fun g => h 1 (by omega) (by omega) g.symm), if_neg (fun g => h 2 (by omega) (by omega) g.symm)]
theorem kindOf_any (w : World) (t : ByteArray) (hT : HT w) :
 Calls Tryz.prog 127 #[.string t] w fun e w' => e = .returned (.int .u8 (kOf t : Nat)) ∧ w' = w := by
 have HW := hidp hT.words; clear hT
 obtain ⟨K, hK⟩ : ∃ K, kOf t = K := ⟨_, rfl⟩
 rw [hK]
 have HK := hidp hK; clear hK
 go_enter Tryz.func127, Tryz.ntmps127
 go_wp2
 go_loop [3] (fun t3 => ∃ k : Nat, t3 = .int .u8 (k : Int) ∧ 1 ≤ k ∧ k ≤ 3 ∧ ∀ j, 1 ≤ j → j < k → dwd j ≠ t) (fun t3 => 3 - (intOf t3).toNat)
 case atStart => exact ⟨1, rfl, by omega, by omega, fun j h1 h2 => by omega⟩
 case round =>
  obtain ⟨k, rfl, h1, h9, hall⟩ := hrel
  have HALL := hidp hall; clear hall
  by_cases hl : k < 3
  · have e0 : decide ((k : Int) < 3) = true := by simp; omega
    have n0 : (k : Int) < 3 := by omega
    have c0 : (0 : Int) ≤ (k : Int) := by omega
    have m1 := HW.out k hl
    by_cases hwt : dwd k = t
    · have HF := hidp (HK.out.symm.trans (kOf_eq h1 (by omega) hwt))
      rw [hwt] at m1
      clear hwt
      go_wp2
      go_ret
      exact ⟨by rw [HF.out]; rfl, rfl⟩
    · have hq := toList_no hwt
      obtain ⟨X, hX⟩ : ∃ X, dwd k = X := ⟨_, rfl⟩
      rw [hX] at m1 hq
      have HN := hidp hwt
      clear hwt hX
      have hw1 : IntKind.u8.wrap ((k : Int) + 1) = (k : Int) + 1 := by unfold IntKind.wrap; simp [IntKind.bits, IntKind.signed]; omega
      go_wp2
      refine ⟨⟨k + 1, by go_num, by omega, by omega, fun j g1 g2 => ?_⟩, by simp [intOf]; omega⟩
      by_cases hjk : j = k
      · subst hjk; exact HN.out
      · exact HALL.out j g1 (by omega)
  · have e0 : decide ((k : Int) < 3) = false := by simp; omega
    have n0 : ¬ (k : Int) < 3 := by omega
    have HF := hidp (HK.out.symm.trans (kOf_none fun j g1 g2 => HALL.out j g1 (by omega)))
    go_wp2
    go_ret
    exact ⟨by rw [HF.out]; rfl, rfl⟩
theorem numbersOf_any (w : World) (k : Nat) (r : ByteArray) (ep ix hu nx : Int) (sg : ByteArray) :
 Calls Tryz.prog 108 #[.agg (⟨k, r, ep, ix, hu, nx, sg⟩ : De).row.toArray] w fun e w' => e = .returned (.agg #[.int .i64 ep, .int .i64 ix, .int .i64 hu, .int .i64 nx]) ∧ Below w.heap.size w w' := by
 show Calls Tryz.prog 108 #[.agg #[.int .u8 (k : Int), .string r, .int .i64 ep, .int .i64 ix, .int .i64 hu, .int .i64 nx, .string sg]] w _
 have H := hidp (Mm.M.nil w)
 go_enter Tryz.func108, Tryz.ntmps108
 have tk0 := hT
 go_wp2_with (first | (clear tk0; (refine Mm.box 26 H rfl (.tmp 0) rfl [.int .u8 (k : Int), .string r, .int .i64 ep, .int .i64 ix, .int .i64 hu, .int .i64 nx, .string sg] rfl ?_; clear H; intro b1 _ H nw; clear nw); (try simp only [Act.put, aQ]); have tk1 := hT) | (clear tk1; (refine Mm.new rtN H (some 2) rfl rfl rfl ?_; clear H; intro b2 _ H nw; clear nw); (try simp only [Act.put, aQ]); have tk2 := hT) | (clear tk2; (refine Mm.ld1 naI H rfl (.tmp 3) 2 _ rfl rfl rfl ?_); (try simp only [Act.put, aQ]); have tk3 := hT) | (clear tk3; (refine Mm.ld1 naI H rfl (.tmp 5) 3 _ rfl rfl rfl ?_); (try simp only [Act.put, aQ]); have tk4 := hT) | (clear tk4; (refine Mm.ld1 naI H rfl (.tmp 7) 4 _ rfl rfl rfl ?_); (try simp only [Act.put, aQ]); have tk5 := hT) | (clear tk5; (refine Mm.ld1 naI H rfl (.tmp 9) 5 _ rfl rfl rfl ?_); (try simp only [Act.put, aQ]); have tk6 := hT) | (clear tk6; (refine Rt.wpL_build rfl 181 _ rfl [.int .i64 ep, .int .i64 ix, .int .i64 hu, .int .i64 nx] (by kernel_rfl) ?_); (try simp only [Act.put, aQ]); have tk7 := hT) | (clear tk7; (refine Mm.put0 rtN H rfl (.tmp 2) (.tmp 11) [.int .i64 ep, .int .i64 ix, .int .i64 hu, .int .i64 nx] rfl rfl rfl rfl (by simp [Value.oneCell']) rfl ?_; intro _ H2 st; clear st H; have H := H2; clear H2); (try simp only [Act.put, aQ]); have tk8 := hT))
 try clear tk8
 refine bodyPost_ret (Mm.ret_row rtN Tryz.results108 _ b2 _ rfl H.out.at0 rfl) rfl ⟨rfl, H.out.below⟩
theorem signer_any (w : World) (k : Nat) (r : ByteArray) (ep ix hu nx : Int) (sg : ByteArray) :
 Calls Tryz.prog 58 #[.agg (⟨k, r, ep, ix, hu, nx, sg⟩ : De).row.toArray] w fun e w' => e = .returned (.int .i64 (sgn (⟨k, r, ep, ix, hu, nx, sg⟩ : De))) ∧ Below w.heap.size w w' := by
 show Calls Tryz.prog 58 #[.agg #[.int .u8 (k : Int), .string r, .int .i64 ep, .int .i64 ix, .int .i64 hu, .int .i64 nx, .string sg]] w _
 have H := hidp (Mm.M.nil w)
 by_cases h1 : k = 1
 · have e0 : ((k : Int) == 1) = true := by rw [h1]; rfl
   have HF := hidp (show sgn (⟨k, r, ep, ix, hu, nx, sg⟩ : De) = hu from if_pos h1)
   rw [HF.out]
   clear h1
   go_enter Tryz.func58, Tryz.ntmps58
   have tk0 := hT
   go_wp2_with (first | (clear tk0; (refine Mm.box 26 H rfl (.tmp 0) rfl [.int .u8 (k : Int), .string r, .int .i64 ep, .int .i64 ix, .int .i64 hu, .int .i64 nx, .string sg] rfl ?_; clear H; intro b1 _ H nw; clear nw); (try simp only [Act.put, aQ]); have tk1 := hT) | (clear tk1; (refine Mm.ld0 naDK H rfl (.tmp 3) 0 (.int .u8 (k : Int)) rfl rfl rfl ?_); (try simp only [Act.put, aQ]); have tk2 := hT) | (clear tk2; (refine Mm.ld0 naI H rfl (.tmp 6) 4 _ rfl rfl rfl ?_); (try simp only [Act.put, aQ]); have tk3 := hT))
   try clear tk3
   go_ret
   exact ⟨rfl, H.out.below⟩
 · have e0 : ((k : Int) == 1) = false := by rw [beq_eq_false_iff_ne]; omega
   have HF := hidp (show sgn (⟨k, r, ep, ix, hu, nx, sg⟩ : De) = nx from if_neg h1)
   rw [HF.out]
   clear h1
   go_enter Tryz.func58, Tryz.ntmps58
   have tk0 := hT
   go_wp2_with (first | (clear tk0; (refine Mm.box 26 H rfl (.tmp 0) rfl [.int .u8 (k : Int), .string r, .int .i64 ep, .int .i64 ix, .int .i64 hu, .int .i64 nx, .string sg] rfl ?_; clear H; intro b1 _ H nw; clear nw); (try simp only [Act.put, aQ]); have tk1 := hT) | (clear tk1; (refine Mm.ld0 naDK H rfl (.tmp 3) 0 (.int .u8 (k : Int)) rfl rfl rfl ?_); (try simp only [Act.put, aQ]); have tk2 := hT) | (clear tk2; (refine Mm.ld0 naI H rfl (.tmp 8) 5 _ rfl rfl rfl ?_); (try simp only [Act.put, aQ]); have tk3 := hT))
   try clear tk3
   go_ret
   exact ⟨rfl, H.out.below⟩
theorem owned_any (w : World) (k : Nat) (r : ByteArray) (ep ix hu nx : Int) (sg : ByteArray) (hr : r.size ≤ 281474976710656) (hs : sg.size ≤ 281474976710656) :
 Calls Tryz.prog 63 #[.agg (⟨k, r, ep, ix, hu, nx, sg⟩ : De).row.toArray] w fun e w' => e = .returned (.agg (⟨k, r, ep, ix, hu, nx, sg⟩ : De).row.toArray) ∧ Below w.heap.size w w' := by
 show Calls Tryz.prog 63 #[.agg #[.int .u8 (k : Int), .string r, .int .i64 ep, .int .i64 ix, .int .i64 hu, .int .i64 nx, .string sg]] w fun e w' => e = .returned (.agg #[.int .u8 (k : Int), .string r, .int .i64 ep, .int .i64 ix, .int .i64 hu, .int .i64 nx, .string sg]) ∧ _
 have H := hidp (Mm.M.nil w)
 go_enter Tryz.func63, Tryz.ntmps63
 have tk0 := hT
 go_wp2_with (first | (clear tk0; (refine Mm.box 26 H rfl (.tmp 0) rfl [.int .u8 (k : Int), .string r, .int .i64 ep, .int .i64 ix, .int .i64 hu, .int .i64 nx, .string sg] rfl ?_; clear H; intro b1 _ H nw; clear nw); (try simp only [Act.put, aQ]); have tk1 := hT) | (clear tk1; (refine Mm.new rtD H (some 2) rfl rfl rfl ?_; clear H; intro b2 _ H nw; clear nw); (try simp only [Act.put, aQ]); have tk2 := hT) | (clear tk2; (refine Mm.ld1 naS H rfl (.tmp 3) 1 _ rfl rfl rfl ?_); (try simp only [Act.put, aQ]); have tk3 := hT) | (clear tk3; (go_at_call 69; refine (strClone_any r _ hr).mono ?_; rintro e _ ⟨rfl, hb⟩; replace H := hidp (H.out.call hb); clear hb); (try simp only [Act.put, aQ]); have tk4 := hT) | (clear tk4; (refine Mm.putF1 H rfl 9 (.tmp 6) (.tmp 5) 1 (.string r) rfl rfl rfl (by kernel_rfl) rfl (of_decide_eq_true rfl) ?_; intro _ H2 st; clear st H; have H : Hid (Mm.M w.heap.size w _ ([⟨b2, 26, zDr⟩, ⟨b1, 26, [.int .u8 (k : Int), .string r, .int .i64 ep, .int .i64 ix, .int .i64 hu, .int .i64 nx, .string sg]⟩])) := H2; clear H2); (try simp only [Act.put, aQ]); have tk5 := hT) | (clear tk5; (refine Mm.ld1 naS H rfl (.tmp 7) 6 _ rfl rfl rfl ?_); (try simp only [Act.put, aQ]); have tk6 := hT) | (clear tk6; (go_at_call 69; refine (strClone_any sg _ hs).mono ?_; rintro e _ ⟨rfl, hb⟩; replace H := hidp (H.out.call hb); clear hb); (try simp only [Act.put, aQ]); have tk7 := hT) | (clear tk7; (refine Mm.putF1 H rfl 9 (.tmp 10) (.tmp 9) 6 (.string sg) rfl rfl rfl (by kernel_rfl) rfl (of_decide_eq_true rfl) ?_; intro _ H2 st; clear st H; have H : Hid (Mm.M w.heap.size w _ ([⟨b2, 26, zDr⟩, ⟨b1, 26, [.int .u8 (k : Int), .string r, .int .i64 ep, .int .i64 ix, .int .i64 hu, .int .i64 nx, .string sg]⟩])) := H2; clear H2); (try simp only [Act.put, aQ]); have tk8 := hT) | (clear tk8; (refine Mm.get1 rtD H rfl (.tmp 1) rfl rfl rfl ?_); (try simp only [Act.put, aQ]); have tk9 := hT) | (clear tk9; (refine Mm.put0 rtD H rfl (.tmp 2) (.tmp 11) [.int .u8 (k : Int), .string r, .int .i64 ep, .int .i64 ix, .int .i64 hu, .int .i64 nx, .string sg] rfl rfl rfl rfl (by simp [Value.oneCell']) rfl ?_; intro _ H2 st; clear st H; have H := H2; clear H2); (try simp only [Act.put, aQ]); have tk10 := hT))
 try clear tk10
 refine bodyPost_ret (Mm.ret_row rtD Tryz.results63 _ b2 _ rfl H.out.at0 rfl) rfl ⟨rfl, H.out.below⟩
theorem index_num (xs : List Value) (i : Nat) (z : Int) (hi : i < 4) (hx : xs[i]? = some (.int .i64 z)) (W : World) : (Instr.index 181 (.agg xs.toArray) (.int .i64 (i : Int))).run Tryz.prog W = .ok (.int .i64 z) W := by
 have hu : Tryz.prog.underlying 181 = some (.array 4 3) := by kernel_rfl
 have hs : ∀ w, (sizeOf 3).run Tryz.prog w = .ok 1 w := fun w => by
  have h1 : (Tryz.prog.info? 3).map (·.size) = some 1 := by kernel_rfl
  obtain ⟨i0, hi0, hz⟩ := Option.map_eq_some_iff.1 h1
  simp [sizeOf, typeInfo, hi0, hz]
 have hz : (Tryz.prog.info? 3).map (fun i => (i.zero, i.size)) = some (some (.int .i64 0), 1) := by kernel_rfl
 obtain ⟨i0, hi0, hz0⟩ := Option.map_eq_some_iff.1 hz
 simp only [Prod.mk.injEq] at hz0
 have h1 : (0 : Int) ≤ (i : Int) ∧ (i : Int) < ((4 : Nat) : Int) := by omega
 simp [Instr.index, run_underlying hu, asIntOf, part, sizeOf, typeInfo, hi0, hz0.1, hz0.2, hx, hi, go_sem]
def mst (i : Nat) : Int := ([4096, 4096, 63, 63] : List Int).getD i 0
def okAt (a b c d : Int) (i : Nat) : Bool := decide (0 ≤ [a, b, c, d].getD i 0 ∧ [a, b, c, d].getD i 0 ≤ mst i)
theorem prm_all {a b c d : Int} (h : ∀ j, j < 4 → okAt a b c d j = true) : prm a b c d = true := by
 have h0 := of_decide_eq_true (h 0 (by omega)); have h1 := of_decide_eq_true (h 1 (by omega)); have h2 := of_decide_eq_true (h 2 (by omega)); have h3 := of_decide_eq_true (h 3 (by omega))
 exact decide_eq_true ⟨h0, h1, h2, h3⟩
theorem prm_not {a b c d : Int} {i : Nat} (hi : i < 4) (h : okAt a b c d i = false) : prm a b c d = false := by
 unfold prm; rw [decide_eq_false_iff_not]
 intro g
 have h' := of_decide_eq_false h
 rcases (by omega : i = 0 ∨ i = 1 ∨ i = 2 ∨ i = 3) with rfl | rfl | rfl | rfl
 · exact h' g.1
 · exact h' g.2.1
 · exact h' g.2.2.1
 · exact h' g.2.2.2
theorem permitted_any (w : World) (a b c d : Int) (hT : HT w) :
 Calls Tryz.prog 107 #[.agg #[.int .i64 a, .int .i64 b, .int .i64 c, .int .i64 d]] w fun e w' => e = .returned (.bool (prm a b c d)) ∧ Below w.heap.size w w' := by
 have HT' := hidp hT; clear hT
 obtain ⟨Pv, hP⟩ : ∃ Pv, prm a b c d = Pv := ⟨_, rfl⟩
 rw [hP]
 have HP := hidp hP; clear hP
 have H := hidp (Mm.M.nil w)
 go_enter Tryz.func107, Tryz.ntmps107
 have tk0 := hT
 go_wp2_with (first | (clear tk0; (refine Mm.box 181 H rfl (.tmp 0) rfl [.int .i64 a, .int .i64 b, .int .i64 c, .int .i64 d] rfl ?_; clear H; intro b1 _ H nw; clear nw); (try simp only [Act.put, aQ]); have tk1 := hT) | (clear tk1; (refine Mm.get0 rtN H rfl (.tmp 1) rfl rfl rfl ?_); (try simp only [Act.put, aQ]); have tk2 := hT))
 try clear tk2
 go_loopw [6] (fun t6 wr => ∃ i : Nat, t6 = .int .i64 (i : Int) ∧ i ≤ 4 ∧ (∀ j, j < i → okAt a b c d j = true) ∧ Below w.heap.size w wr) (fun t6 _ => 4 - (intOf t6).toNat)
 case atStart => exact ⟨0, rfl, by omega, fun j h => by omega, H.out.below⟩
 case round =>
  clear H
  obtain ⟨i, rfl, hi, hal, hM⟩ := hrel
  have HAL := hidp hal; have HB := hidp hM
  clear hal hM
  by_cases hlt : i < 4
  · have e1 : decide ((i : Int) < 4) = true := by simp; omega
    have c0 : (0 : Int) ≤ (i : Int) := by omega
    have c1 : (i : Int) < 4 := by omega
    have m1 : wr.cell? ⟨1, i, none⟩ = some (.int .i64 (mst i)) := (HT'.out.below HB.out (Nat.le_refl _)).most i hlt
    obtain ⟨x, hx⟩ : ∃ x, [a, b, c, d].getD i 0 = x := ⟨_, rfl⟩
    have hix := index_num [.int .i64 a, .int .i64 b, .int .i64 c, .int .i64 d] i x hlt (by rw [← hx]; rcases (by omega : i = 0 ∨ i = 1 ∨ i = 2 ∨ i = 3) with rfl | rfl | rfl | rfl <;> rfl) wr
    have hok : okAt a b c d i = decide (0 ≤ x ∧ x ≤ mst i) := by unfold okAt; rw [hx]
    clear hx
    obtain ⟨m, hm⟩ : ∃ m, mst i = m := ⟨_, rfl⟩
    rw [hm] at m1 hok
    clear hm
    by_cases h0 : x < 0
    · have e2 : decide (x < 0) = true := decide_eq_true h0
      have HF := hidp (HP.out.symm.trans (prm_not hlt (hok.trans (decide_eq_false fun g => by omega))))
      clear hok h0
      go_wp2
      go_ret
      exact ⟨by rw [HF.out]; rfl, HB.out⟩
    · have e2 : decide (x < 0) = false := decide_eq_false h0
      by_cases h1 : x > m
      · have e3 : decide (x > m) = true := decide_eq_true h1
        have HF := hidp (HP.out.symm.trans (prm_not hlt (hok.trans (decide_eq_false fun g => by omega))))
        clear hok h0 h1
        go_wp2
        go_ret
        exact ⟨by rw [HF.out]; rfl, HB.out⟩
      · have e3 : decide (x > m) = false := decide_eq_false h1
        have HO := hidp (hok.trans (decide_eq_true ⟨by omega, by omega⟩))
        clear hok h0 h1
        go_wp2
        refine ⟨⟨i + 1, by go_num, by omega, fun j g => ?_, HB.out⟩, by simp [intOf]; omega⟩
        by_cases hj : j = i
        · subst hj; exact HO.out
        · exact HAL.out j (by omega)
  · have e1 : decide ((i : Int) < 4) = false := by simp; omega
    have HF := hidp (HP.out.symm.trans (prm_all fun j g => HAL.out j (by omega)))
    go_wp2
    go_ret
    exact ⟨by rw [HF.out]; rfl, HB.out⟩
theorem dcheck_any (w : World) (d : De) (hd : d.ok) (hI : IT w) (hT : HT w) :
 Calls Tryz.prog 53 #[.agg d.row.toArray] w fun e w' => e = .returned (.int .i64 (dE d)) ∧ Below w.heap.size w w' := by
 obtain ⟨k, r, ep, ix, hu, nx, sg⟩ := d
 obtain ⟨hk, hr, hs⟩ : k < 256 ∧ r.size ≤ 140737488351232 ∧ sg.size ≤ 140737488351232 := hd
 show Calls Tryz.prog 53 #[.agg #[.int .u8 (k : Int), .string r, .int .i64 ep, .int .i64 ix, .int .i64 hu, .int .i64 nx, .string sg]] w _
 have HI := hidp hI; have HT0 := hidp hT; clear hI hT
 have cr := hidp (fun W h => room_any W r (by omega) h)
 have ck := hidp (fun W => isKind_any W k hk)
 have cn := hidp (fun W => numbersOf_any W k r ep ix hu nx sg)
 have cp := hidp (fun W h => permitted_any W ep ix hu nx h)
 obtain ⟨E, hE⟩ : ∃ E, dE (⟨k, r, ep, ix, hu, nx, sg⟩ : De) = E := ⟨_, rfl⟩
 rw [hE]
 have hok : dOk (⟨k, r, ep, ix, hu, nx, sg⟩ : De) = (kB k && (who 2 r).isSome && prm ep ix hu nx && decide (hu ≠ nx) && decide (sg.size ≤ 8192)) := rfl
 have HNO : Hid (dOk (⟨k, r, ep, ix, hu, nx, sg⟩ : De) = false → E = 2) := hidp (fun h => by rw [← hE, dE_no h])
 have HYES : Hid (dOk (⟨k, r, ep, ix, hu, nx, sg⟩ : De) = true → E = 0) := hidp (fun h => by rw [← hE, dE_yes h])
 clear hE
 have H := hidp (Mm.M.nil w)
 cases hkb : kB k with
 | false =>
   rw [hkb] at ck
   have HF := hidp (HNO.out (by rw [hok, hkb]; rfl))
   obtain ⟨R, hR⟩ : ∃ R, who 2 r = R := ⟨_, rfl⟩
   rw [hR] at cr
   clear hok hkb hR
   obtain ⟨n0, q0, hq0⟩ : ∃ (n0 : Int) (q0 : Bool), whoV R = .tuple #[.int .i64 n0, .bool q0] := by cases R <;> exact ⟨_, _, rfl⟩
   rw [hq0] at cr
   clear hq0
   go_enter Tryz.func53, Tryz.ntmps53
   have tk0 := hT
   go_wp2_with (first | (clear tk0; (refine Mm.box 26 H rfl (.tmp 0) rfl [.int .u8 (k : Int), .string r, .int .i64 ep, .int .i64 ix, .int .i64 hu, .int .i64 nx, .string sg] rfl ?_; clear H; intro b1 _ H nw; clear nw); (try simp only [Act.put, aQ]); have tk1 := hT) | (clear tk1; (refine Mm.ld0 naS H rfl (.tmp 6) 1 _ rfl rfl rfl ?_); (try simp only [Act.put, aQ]); have tk2 := hT) | (clear tk2; (go_at_call 105; refine (cr.out _ (HI.out.below H.out.below (Nat.le_refl _))).mono ?_; rintro e _ ⟨rfl, hb⟩; replace H := hidp (H.out.call hb); clear cr; clear hb); (try simp only [Act.put, aQ]); have tk3 := hT) | (clear tk3; (refine Mm.ld0 naDK H rfl (.tmp 11) 0 (.int .u8 (k : Int)) rfl rfl rfl ?_); (try simp only [Act.put, aQ]); have tk4 := hT) | (clear tk4; (go_at_call 106; refine (ck.out _).mono ?_; rintro e _ ⟨rfl, rfl⟩; clear ck); (try simp only [Act.put, aQ]); have tk5 := hT) | (clear tk5; (refine Mm.skipd 16 rfl _ _ rfl rfl ?_); (try simp only [Act.put, aQ]); have tk6 := hT) | (clear tk6; (refine Mm.skipd 17 rfl _ _ rfl rfl ?_); (try simp only [Act.put, aQ]); have tk7 := hT) | (clear tk7; (refine Mm.skipd 20 rfl _ _ rfl rfl ?_); (try simp only [Act.put, aQ]); have tk8 := hT) | (clear tk8; (refine Mm.skipd 21 rfl _ _ rfl rfl ?_); (try simp only [Act.put, aQ]); have tk9 := hT) | (clear tk9; (refine Mm.skipd 22 rfl _ _ rfl rfl ?_); (try simp only [Act.put, aQ]); have tk10 := hT) | (clear tk10; (refine Mm.skipd 23 rfl _ _ rfl rfl ?_); (try simp only [Act.put, aQ]); have tk11 := hT) | (clear tk11; (refine Mm.skipd 26 rfl _ _ rfl rfl ?_); (try simp only [Act.put, aQ]); have tk12 := hT) | (clear tk12; (refine Mm.skipd 27 rfl _ _ rfl rfl ?_); (try simp only [Act.put, aQ]); have tk13 := hT) | (clear tk13; (refine Mm.skipd 28 rfl _ _ rfl rfl ?_); (try simp only [Act.put, aQ]); have tk14 := hT) | (clear tk14; (refine Mm.skipd 29 rfl _ _ rfl rfl ?_); (try simp only [Act.put, aQ]); have tk15 := hT) | (clear tk15; (refine Mm.skipd 30 rfl _ _ rfl rfl ?_); (try simp only [Act.put, aQ]); have tk16 := hT) | (clear tk16; (refine Mm.skipd 33 rfl _ _ rfl rfl ?_); (try simp only [Act.put, aQ]); have tk17 := hT) | (clear tk17; (refine Mm.skipd 34 rfl _ _ rfl rfl ?_); (try simp only [Act.put, aQ]); have tk18 := hT) | (clear tk18; (refine Mm.skipd 35 rfl _ _ rfl rfl ?_); (try simp only [Act.put, aQ]); have tk19 := hT) | (clear tk19; (refine Mm.skipd 36 rfl _ _ rfl rfl ?_); (try simp only [Act.put, aQ]); have tk20 := hT))
   try clear tk20
   go_ret
   exact ⟨by rw [HF.out]; rfl, H.out.below⟩
 | true =>
   rw [hkb] at ck
   cases hR : who 2 r with
   | none =>
     rw [hR] at cr
     have HF := hidp (HNO.out (by rw [hok, hkb, hR]; rfl))
     clear hok hkb hR
     unfold whoV at cr
     go_enter Tryz.func53, Tryz.ntmps53
     have tk0 := hT
     go_wp2_with (first | (clear tk0; (refine Mm.box 26 H rfl (.tmp 0) rfl [.int .u8 (k : Int), .string r, .int .i64 ep, .int .i64 ix, .int .i64 hu, .int .i64 nx, .string sg] rfl ?_; clear H; intro b1 _ H nw; clear nw); (try simp only [Act.put, aQ]); have tk1 := hT) | (clear tk1; (refine Mm.ld0 naS H rfl (.tmp 6) 1 _ rfl rfl rfl ?_); (try simp only [Act.put, aQ]); have tk2 := hT) | (clear tk2; (go_at_call 105; refine (cr.out _ (HI.out.below H.out.below (Nat.le_refl _))).mono ?_; rintro e _ ⟨rfl, hb⟩; replace H := hidp (H.out.call hb); clear cr; clear hb); (try simp only [Act.put, aQ]); have tk3 := hT) | (clear tk3; (refine Mm.ld0 naDK H rfl (.tmp 11) 0 (.int .u8 (k : Int)) rfl rfl rfl ?_); (try simp only [Act.put, aQ]); have tk4 := hT) | (clear tk4; (go_at_call 106; refine (ck.out _).mono ?_; rintro e _ ⟨rfl, rfl⟩; clear ck); (try simp only [Act.put, aQ]); have tk5 := hT) | (clear tk5; (refine Mm.skipd 20 rfl _ _ rfl rfl ?_); (try simp only [Act.put, aQ]); have tk6 := hT) | (clear tk6; (refine Mm.skipd 21 rfl _ _ rfl rfl ?_); (try simp only [Act.put, aQ]); have tk7 := hT) | (clear tk7; (refine Mm.skipd 22 rfl _ _ rfl rfl ?_); (try simp only [Act.put, aQ]); have tk8 := hT) | (clear tk8; (refine Mm.skipd 23 rfl _ _ rfl rfl ?_); (try simp only [Act.put, aQ]); have tk9 := hT) | (clear tk9; (refine Mm.skipd 26 rfl _ _ rfl rfl ?_); (try simp only [Act.put, aQ]); have tk10 := hT) | (clear tk10; (refine Mm.skipd 27 rfl _ _ rfl rfl ?_); (try simp only [Act.put, aQ]); have tk11 := hT) | (clear tk11; (refine Mm.skipd 28 rfl _ _ rfl rfl ?_); (try simp only [Act.put, aQ]); have tk12 := hT) | (clear tk12; (refine Mm.skipd 29 rfl _ _ rfl rfl ?_); (try simp only [Act.put, aQ]); have tk13 := hT) | (clear tk13; (refine Mm.skipd 30 rfl _ _ rfl rfl ?_); (try simp only [Act.put, aQ]); have tk14 := hT) | (clear tk14; (refine Mm.skipd 33 rfl _ _ rfl rfl ?_); (try simp only [Act.put, aQ]); have tk15 := hT) | (clear tk15; (refine Mm.skipd 34 rfl _ _ rfl rfl ?_); (try simp only [Act.put, aQ]); have tk16 := hT) | (clear tk16; (refine Mm.skipd 35 rfl _ _ rfl rfl ?_); (try simp only [Act.put, aQ]); have tk17 := hT) | (clear tk17; (refine Mm.skipd 36 rfl _ _ rfl rfl ?_); (try simp only [Act.put, aQ]); have tk18 := hT))
     try clear tk18
     go_ret
     exact ⟨by rw [HF.out]; rfl, H.out.below⟩
   | some n0 =>
     rw [hR] at cr
     unfold whoV at cr
     cases hp : prm ep ix hu nx with
     | false =>
       rw [hp] at cp
       have HF := hidp (HNO.out (by rw [hok, hp]; simp))
       clear hok hkb hR hp
       go_enter Tryz.func53, Tryz.ntmps53
       have tk0 := hT
       go_wp2_with (first | (clear tk0; (refine Mm.box 26 H rfl (.tmp 0) rfl [.int .u8 (k : Int), .string r, .int .i64 ep, .int .i64 ix, .int .i64 hu, .int .i64 nx, .string sg] rfl ?_; clear H; intro b1 _ H nw; clear nw); (try simp only [Act.put, aQ]); have tk1 := hT) | (clear tk1; (refine Mm.ld0 naS H rfl (.tmp 6) 1 _ rfl rfl rfl ?_); (try simp only [Act.put, aQ]); have tk2 := hT) | (clear tk2; (go_at_call 105; refine (cr.out _ (HI.out.below H.out.below (Nat.le_refl _))).mono ?_; rintro e _ ⟨rfl, hb⟩; replace H := hidp (H.out.call hb); clear cr; clear hb); (try simp only [Act.put, aQ]); have tk3 := hT) | (clear tk3; (refine Mm.ld0 naDK H rfl (.tmp 11) 0 (.int .u8 (k : Int)) rfl rfl rfl ?_); (try simp only [Act.put, aQ]); have tk4 := hT) | (clear tk4; (go_at_call 106; refine (ck.out _).mono ?_; rintro e _ ⟨rfl, rfl⟩; clear ck); (try simp only [Act.put, aQ]); have tk5 := hT) | (clear tk5; (refine Mm.get0 rtD H rfl (.tmp 1) rfl rfl rfl ?_); (try simp only [Act.put, aQ]); have tk6 := hT) | (clear tk6; (go_at_call 108; refine (cn.out _).mono ?_; rintro e _ ⟨rfl, hb⟩; replace H := hidp (H.out.call hb); clear cn; clear hb); (try simp only [Act.put, aQ]); have tk7 := hT) | (clear tk7; (go_at_call 107; refine (cp.out _ (HT0.out.below H.out.below (Nat.le_refl _))).mono ?_; rintro e _ ⟨rfl, hb⟩; replace H := hidp (H.out.call hb); clear cp; clear hb); (try simp only [Act.put, aQ]); have tk8 := hT) | (clear tk8; (refine Mm.skipd 26 rfl _ _ rfl rfl ?_); (try simp only [Act.put, aQ]); have tk9 := hT) | (clear tk9; (refine Mm.skipd 27 rfl _ _ rfl rfl ?_); (try simp only [Act.put, aQ]); have tk10 := hT) | (clear tk10; (refine Mm.skipd 28 rfl _ _ rfl rfl ?_); (try simp only [Act.put, aQ]); have tk11 := hT) | (clear tk11; (refine Mm.skipd 29 rfl _ _ rfl rfl ?_); (try simp only [Act.put, aQ]); have tk12 := hT) | (clear tk12; (refine Mm.skipd 30 rfl _ _ rfl rfl ?_); (try simp only [Act.put, aQ]); have tk13 := hT) | (clear tk13; (refine Mm.skipd 33 rfl _ _ rfl rfl ?_); (try simp only [Act.put, aQ]); have tk14 := hT) | (clear tk14; (refine Mm.skipd 34 rfl _ _ rfl rfl ?_); (try simp only [Act.put, aQ]); have tk15 := hT) | (clear tk15; (refine Mm.skipd 35 rfl _ _ rfl rfl ?_); (try simp only [Act.put, aQ]); have tk16 := hT) | (clear tk16; (refine Mm.skipd 36 rfl _ _ rfl rfl ?_); (try simp only [Act.put, aQ]); have tk17 := hT))
       try clear tk17
       go_ret
       exact ⟨by rw [HF.out]; rfl, H.out.below⟩
     | true =>
       rw [hp] at cp
       by_cases he : hu = nx
       · have e1 : (hu == nx) = true := by rw [he]; simp
         have HF := hidp (HNO.out (by rw [hok, decide_eq_false (fun g => g he)]; simp))
         clear hok hkb hR hp he
         go_enter Tryz.func53, Tryz.ntmps53
         have tk0 := hT
         go_wp2_with (first | (clear tk0; (refine Mm.box 26 H rfl (.tmp 0) rfl [.int .u8 (k : Int), .string r, .int .i64 ep, .int .i64 ix, .int .i64 hu, .int .i64 nx, .string sg] rfl ?_; clear H; intro b1 _ H nw; clear nw); (try simp only [Act.put, aQ]); have tk1 := hT) | (clear tk1; (refine Mm.ld0 naS H rfl (.tmp 6) 1 _ rfl rfl rfl ?_); (try simp only [Act.put, aQ]); have tk2 := hT) | (clear tk2; (go_at_call 105; refine (cr.out _ (HI.out.below H.out.below (Nat.le_refl _))).mono ?_; rintro e _ ⟨rfl, hb⟩; replace H := hidp (H.out.call hb); clear cr; clear hb); (try simp only [Act.put, aQ]); have tk3 := hT) | (clear tk3; (refine Mm.ld0 naDK H rfl (.tmp 11) 0 (.int .u8 (k : Int)) rfl rfl rfl ?_); (try simp only [Act.put, aQ]); have tk4 := hT) | (clear tk4; (go_at_call 106; refine (ck.out _).mono ?_; rintro e _ ⟨rfl, rfl⟩; clear ck); (try simp only [Act.put, aQ]); have tk5 := hT) | (clear tk5; (refine Mm.get0 rtD H rfl (.tmp 1) rfl rfl rfl ?_); (try simp only [Act.put, aQ]); have tk6 := hT) | (clear tk6; (go_at_call 108; refine (cn.out _).mono ?_; rintro e _ ⟨rfl, hb⟩; replace H := hidp (H.out.call hb); clear cn; clear hb); (try simp only [Act.put, aQ]); have tk7 := hT) | (clear tk7; (go_at_call 107; refine (cp.out _ (HT0.out.below H.out.below (Nat.le_refl _))).mono ?_; rintro e _ ⟨rfl, hb⟩; replace H := hidp (H.out.call hb); clear cp; clear hb); (try simp only [Act.put, aQ]); have tk8 := hT) | (clear tk8; (refine Mm.ld0 naI H rfl (.tmp 26) 4 _ rfl rfl rfl ?_); (try simp only [Act.put, aQ]); have tk9 := hT) | (clear tk9; (refine Mm.ld0 naI H rfl (.tmp 28) 5 _ rfl rfl rfl ?_); (try simp only [Act.put, aQ]); have tk10 := hT) | (clear tk10; (refine Mm.skipd 33 rfl _ _ rfl rfl ?_); (try simp only [Act.put, aQ]); have tk11 := hT) | (clear tk11; (refine Mm.skipd 34 rfl _ _ rfl rfl ?_); (try simp only [Act.put, aQ]); have tk12 := hT) | (clear tk12; (refine Mm.skipd 35 rfl _ _ rfl rfl ?_); (try simp only [Act.put, aQ]); have tk13 := hT) | (clear tk13; (refine Mm.skipd 36 rfl _ _ rfl rfl ?_); (try simp only [Act.put, aQ]); have tk14 := hT))
         try clear tk14
         go_ret
         exact ⟨by rw [HF.out]; rfl, H.out.below⟩
       · have e1 : (hu == nx) = false := by rw [beq_eq_false_iff_ne]; exact he
         by_cases hg : sg.size ≤ 8192
         · have e2 : decide ((sg.size : Int) > 8192) = false := by simp; omega
           have n2 : ¬ 8192 < (sg.size : Int) := by omega
           have HF := hidp (HYES.out (by rw [hok, hkb, hR, hp, decide_eq_true he, decide_eq_true hg]; rfl))
           clear hok hkb hR hp he hg
           go_enter Tryz.func53, Tryz.ntmps53
           have tk0 := hT
           go_wp2_with (first | (clear tk0; (refine Mm.box 26 H rfl (.tmp 0) rfl [.int .u8 (k : Int), .string r, .int .i64 ep, .int .i64 ix, .int .i64 hu, .int .i64 nx, .string sg] rfl ?_; clear H; intro b1 _ H nw; clear nw); (try simp only [Act.put, aQ]); have tk1 := hT) | (clear tk1; (refine Mm.ld0 naS H rfl (.tmp 6) 1 _ rfl rfl rfl ?_); (try simp only [Act.put, aQ]); have tk2 := hT) | (clear tk2; (go_at_call 105; refine (cr.out _ (HI.out.below H.out.below (Nat.le_refl _))).mono ?_; rintro e _ ⟨rfl, hb⟩; replace H := hidp (H.out.call hb); clear cr; clear hb); (try simp only [Act.put, aQ]); have tk3 := hT) | (clear tk3; (refine Mm.ld0 naDK H rfl (.tmp 11) 0 (.int .u8 (k : Int)) rfl rfl rfl ?_); (try simp only [Act.put, aQ]); have tk4 := hT) | (clear tk4; (go_at_call 106; refine (ck.out _).mono ?_; rintro e _ ⟨rfl, rfl⟩; clear ck); (try simp only [Act.put, aQ]); have tk5 := hT) | (clear tk5; (refine Mm.get0 rtD H rfl (.tmp 1) rfl rfl rfl ?_); (try simp only [Act.put, aQ]); have tk6 := hT) | (clear tk6; (go_at_call 108; refine (cn.out _).mono ?_; rintro e _ ⟨rfl, hb⟩; replace H := hidp (H.out.call hb); clear cn; clear hb); (try simp only [Act.put, aQ]); have tk7 := hT) | (clear tk7; (go_at_call 107; refine (cp.out _ (HT0.out.below H.out.below (Nat.le_refl _))).mono ?_; rintro e _ ⟨rfl, hb⟩; replace H := hidp (H.out.call hb); clear cp; clear hb); (try simp only [Act.put, aQ]); have tk8 := hT) | (clear tk8; (refine Mm.ld0 naI H rfl (.tmp 26) 4 _ rfl rfl rfl ?_); (try simp only [Act.put, aQ]); have tk9 := hT) | (clear tk9; (refine Mm.ld0 naI H rfl (.tmp 28) 5 _ rfl rfl rfl ?_); (try simp only [Act.put, aQ]); have tk10 := hT) | (clear tk10; (refine Mm.ld0 naS H rfl (.tmp 33) 6 _ rfl rfl rfl ?_); (try simp only [Act.put, aQ]); have tk11 := hT))
           try clear tk11
           go_ret
           exact ⟨by rw [HF.out]; rfl, H.out.below⟩
         · have e2 : decide ((sg.size : Int) > 8192) = true := by simp; omega
           have n2 : 8192 < (sg.size : Int) := by omega
           have HF := hidp (HNO.out (by rw [hok, decide_eq_false hg]; simp))
           clear hok hkb hR hp he hg
           go_enter Tryz.func53, Tryz.ntmps53
           have tk0 := hT
           go_wp2_with (first | (clear tk0; (refine Mm.box 26 H rfl (.tmp 0) rfl [.int .u8 (k : Int), .string r, .int .i64 ep, .int .i64 ix, .int .i64 hu, .int .i64 nx, .string sg] rfl ?_; clear H; intro b1 _ H nw; clear nw); (try simp only [Act.put, aQ]); have tk1 := hT) | (clear tk1; (refine Mm.ld0 naS H rfl (.tmp 6) 1 _ rfl rfl rfl ?_); (try simp only [Act.put, aQ]); have tk2 := hT) | (clear tk2; (go_at_call 105; refine (cr.out _ (HI.out.below H.out.below (Nat.le_refl _))).mono ?_; rintro e _ ⟨rfl, hb⟩; replace H := hidp (H.out.call hb); clear cr; clear hb); (try simp only [Act.put, aQ]); have tk3 := hT) | (clear tk3; (refine Mm.ld0 naDK H rfl (.tmp 11) 0 (.int .u8 (k : Int)) rfl rfl rfl ?_); (try simp only [Act.put, aQ]); have tk4 := hT) | (clear tk4; (go_at_call 106; refine (ck.out _).mono ?_; rintro e _ ⟨rfl, rfl⟩; clear ck); (try simp only [Act.put, aQ]); have tk5 := hT) | (clear tk5; (refine Mm.get0 rtD H rfl (.tmp 1) rfl rfl rfl ?_); (try simp only [Act.put, aQ]); have tk6 := hT) | (clear tk6; (go_at_call 108; refine (cn.out _).mono ?_; rintro e _ ⟨rfl, hb⟩; replace H := hidp (H.out.call hb); clear cn; clear hb); (try simp only [Act.put, aQ]); have tk7 := hT) | (clear tk7; (go_at_call 107; refine (cp.out _ (HT0.out.below H.out.below (Nat.le_refl _))).mono ?_; rintro e _ ⟨rfl, hb⟩; replace H := hidp (H.out.call hb); clear cp; clear hb); (try simp only [Act.put, aQ]); have tk8 := hT) | (clear tk8; (refine Mm.ld0 naI H rfl (.tmp 26) 4 _ rfl rfl rfl ?_); (try simp only [Act.put, aQ]); have tk9 := hT) | (clear tk9; (refine Mm.ld0 naI H rfl (.tmp 28) 5 _ rfl rfl rfl ?_); (try simp only [Act.put, aQ]); have tk10 := hT) | (clear tk10; (refine Mm.ld0 naS H rfl (.tmp 33) 6 _ rfl rfl rfl ?_); (try simp only [Act.put, aQ]); have tk11 := hT))
           try clear tk11
           go_ret
           exact ⟨by rw [HF.out]; rfl, H.out.below⟩
end Go.Proofs.YtokakgjcegmabaaGreatDoor.Ho
namespace Go.Proofs.YtokakgjcegmabaaGreatDoor.Sl
open Go.RowKit
open List (getElem_toArray getElem_cons_zero getElem_cons_succ setIfInBounds_toArray set_cons_zero set_cons_succ)
theorem infoI : (Tryz.prog.info? 3).map (fun i => (i.zero, i.size, i.bytes)) = some (some (.int .i64 0), 1, 8) := by kernel_rfl
theorem infoS : (Tryz.prog.info? 9).map (fun i => (i.zero, i.size, i.bytes)) = some (some (.string ByteArray.empty), 1, 16) := by kernel_rfl
theorem tyI : Tryz.prog.underlying 188 = some (.slice 3) := Tryz.underlying188
theorem tyS : Tryz.prog.underlying 75 = some (.slice 9) := Tryz.underlying75
theorem own_arr {B b T : Nat} {W : World} {row : List Value} (ha : Arr W b T row) (hB : B ≤ b) (hl : row.length ≤ 1000000) : OwnV W B T (.slice (some ⟨b, 0, none⟩) row.length row.length) row :=
 ⟨by simp, .inr ⟨b, row.length, row.toArray, rfl, hB, ha, Nat.le_refl _, by unfold maxLen; omega, by simp, by simp⟩⟩
theorem own_top {N b T : Nat} {w0 w : World} {row : List Value} {L : List Mm.Bx} (h : Mm.M N w0 w (⟨b, T, row⟩ :: L)) (hl : row.length ≤ 1000000) : OwnV w N T (.slice (some ⟨b, 0, none⟩) row.length row.length) row :=
 own_arr h.at0 (h.ge ⟨b, T, row⟩ (by simp)) hl
theorem own_to {w w' : World} {B e : Nat} {v : Value} {l : List Value} (h : OwnV w B e v l) (hb : Below w.heap.size w w') : OwnV w' B e v l := h.kept hb (Nat.le_refl _)
def sAt (ss : List ByteArray) (i : Nat) : ByteArray := ss.getD i ⟨#[]⟩
theorem sAt_get {ss : List ByteArray} {i : Nat} (h : i < ss.length) : sAt ss i = ss[i] := by unfold sAt; rw [List.getD_eq_getElem?_getD, List.getElem?_eq_getElem h]; rfl
theorem strs_pos {w : World} {v : Value} {ss : List ByteArray} (h : StrsAt w v ss) (hl : 0 < ss.length) : ∃ g off c, v = .slice (some ⟨g, off, none⟩) ss.length c ∧ g < w.heap.size ∧ ∀ i, i < ss.length → w.cell? ⟨g, off + i, none⟩ = some (.string (sAt ss i)) := by
 obtain ⟨x, c, rfl, hc⟩ := h
 obtain ⟨g, off, rfl, h0⟩ := hc 0 hl
 refine ⟨g, off, c, rfl, by have := World.block_lt_of_cell? w _ h0; simpa using this, fun i hi => ?_⟩
 obtain ⟨g2, o2, e, h2⟩ := hc i hi
 simp only [Option.some.injEq, Addr.mk.injEq, and_true] at e
 obtain ⟨rfl, rfl⟩ := e
 rw [sAt_get hi]; exact h2
theorem strs_form {w : World} {v : Value} {ss : List ByteArray} (h : StrsAt w v ss) : ∃ a c, v = .slice a ss.length c := by
 obtain ⟨x, c, rfl, hc⟩ := h; exact ⟨x, c, rfl⟩
theorem join {N : Nat} {w0 w W : World} {L L' : List Mm.Bx} (h : Mm.M N w0 w L) (k : Mm.M w.heap.size w W L') : Mm.M N w0 W (L' ++ L) := by
 refine ⟨h.below.trans (k.below.mono h.le), Nat.le_trans h.le k.le, fun x hx => ?_, ?_, fun x hx => ?_⟩
 · rcases List.mem_append.1 hx with hx | hx
   · exact Nat.le_trans h.le (k.ge x hx)
   · exact h.ge x hx
 · refine List.pairwise_append.2 ⟨k.inc, h.inc, fun x hx y hy => ?_⟩
   have := k.ge x hx; have := (h.has y hy).lt
   show y.b < x.b; omega
 · rcases List.mem_append.1 hx with hx | hx
   · exact k.has x hx
   · exact (h.has x hx).below k.below (h.has x hx).lt
section
variable {P : Program} {ops : Array Oper} {rest : List Oper} {o : Oper} {a : Act} {w w0 : World} {N : Nat} {L : List Mm.Bx} {Q : Exit → Act → World → Prop} {S : World → Prop} {j : Nat} {s : Scr} {K : Act → World → Prop}
theorem run_idx1 {ST T : Nat} (hu : P.underlying ST = some (.slice T)) (hs : (P.info? T).map (·.size) = some 1) (B off n c i : Nat) (hi : i < n) (w : World) : (Instr.indexAt ST (.slice (some ⟨B, off, none⟩) n c) (.int .i64 (i : Int))).run P w = .ok (.pointer (some ⟨B, off + i, none⟩)) w := by
 obtain ⟨i0, hi0, hz⟩ := Option.map_eq_some_iff.1 hs
 have e : (⟨B, off, none⟩ : Addr).add i = ⟨B, off + i, none⟩ := by unfold Addr.add; split <;> simp_all
 have h1 : (0 : Int) ≤ (i : Int) ∧ (i : Int) < ((n : Nat) : Int) := by omega
 simp [Instr.indexAt, run_underlying hu, sizeOf, typeInfo, hi0, hz, asIntOf, hi, e, go_sem]
theorem wpL_idx1 {ST T : Nat} (hu : P.underlying ST = some (.slice T)) (hs : (P.info? T).map (·.size) = some 1) (hw : Region.wanted o (yielded ops a.tmps) = true) (x y : Operand) (ho : o.op = .indexAddr ST x y) (B off n c i : Nat) (hx : a.eval x = .slice (some ⟨B, off, none⟩) n c) (hy : a.eval y = .int .i64 (i : Int)) (hi : i < n)
 (h : wpList P ops Q rest (a.put o.dst (.pointer (some ⟨B, off + i, none⟩))) w) : wpList P ops Q (o :: rest) a w := by
 refine wpList_step fun K hK => ?_
 rw [if_pos hw]
 have := hK _ _ h
 unfold Oper.wp execOp
 simp only [ho, hx, hy, run_idx1 hu hs B off n c i hi w, Sem.run_bind, Result.andThen_ok]
 exact this
theorem s_idx1 {ST T : Nat} (hu : P.underlying ST = some (.slice T)) (hs : (P.info? T).map (·.size) = some 1) (ho : ops[j]? = some o) (hw : Region.wanted o (yielded ops a.tmps) = true) (x y : Operand) (hop : o.op = .indexAddr ST x y) (B off n c i : Nat) (hx : a.eval x = .slice (some ⟨B, off, none⟩) n c) (hy : a.eval y = .int .i64 (i : Int)) (hi : i < n)
 (h : wpScr P ops Q s S (a.put o.dst (.pointer (some ⟨B, off + i, none⟩))) w) : wpScr P ops Q (.take j s) S a w :=
 s_val ho hw (fun w hS => by
  unfold execOp
  simp only [hop, hx, hy, Sem.run_bind, run_idx1 hu hs B off n c i hi w, Result.andThen_ok]
  rfl) h
theorem region1 {Q : Exit → Act → World → Prop} {x : Mm.Bx} {id : Nat} (H : Hid (Mm.M N w0 w (x :: L))) (s : Scr) (hm : P.follows .mixedOrders = true) (hs : Region.noSelect ops = true) (hd : s.depth ≤ ops.size) (hc : s.chk .any ops (Array.replicate ops.size false) = true)
 (h : ∀ U, Hid (Mm.M N w0 U (x :: L)) → Below w.heap.size w U → wpScr P ops (NoPanic Q) s (fun W => Mm.M N w0 W L) a U) : (Code.region id ops true).wp P Q a w :=
 wp_region_noPanic (wp_region_scr (S := fun W => Mm.M N w0 W L) s hm hs (fun _ _ _ _ _ h => h) hd hc H.out.drew.tail (h _ (hidp H.out.drew) (Below.refl _ _).drew))
theorem regionS {Q : Exit → Act → World → Prop} {id : Nat} (L' : List Mm.Bx) (hsub : ∀ W, Mm.M N w0 W L → Mm.M N w0 W L') (H : Hid (Mm.M N w0 w L)) (s : Scr) (hm : P.follows .mixedOrders = true) (hs : Region.noSelect ops = true) (hd : s.depth ≤ ops.size) (hc : s.chk .any ops (Array.replicate ops.size false) = true)
 (h : ∀ U, Hid (Mm.M N w0 U L) → Below w.heap.size w U → wpScr P ops (NoPanic Q) s (fun W => Mm.M N w0 W L') a U) : (Code.region id ops true).wp P Q a w :=
 wp_region_noPanic (wp_region_scr (S := fun W => Mm.M N w0 W L') s hm hs (fun _ _ _ _ _ h => h) hd hc (hsub _ H.out.drew) (h _ (hidp H.out.drew) (Below.refl _ _).drew))
theorem o_putF0 {ty b t : Nat} {ys : List Value} (H : Hid (Mm.M N w0 w (⟨b, t, ys⟩ :: L))) (f : Nat) (v : Value) (hT : ∀ W, Mm.M N w0 W (⟨b, t, ys.set f v⟩ :: L) → S W) (ho : ops[j]? = some o) (hw : Region.wanted o (yielded ops a.tmps) = true) (x y : Operand) (hop : o.op = .store ty x y) (hx : a.eval x = .pointer (some ⟨b, f, none⟩)) (hy : a.eval y = v)
 (hs : (P.info? ty).map (·.size) = some 1) (h1 : v.oneCell' = true) (hf : f < ys.length)
 (h : ∀ W, Hid (Mm.M N w0 W (⟨b, t, ys.set f v⟩ :: L)) → Rt.Stp b w W → K (a.put o.dst undef) W) : opW P ops Q S j K a w := by
 have st := Rt.Stp.setRow w b (ys.set f v).toArray
 have hM := H.out.put0 (Arr.row H.out.at0 (ys.set f v)) st
 subst hy
 refine ⟨o, ho, hw, ?_⟩
 have := h _ (hidp hM) st
 unfold Oper.wp
 rw [show (execOp a.eval o).run P w = .ok .skip (w.setRow b (ys.set f (a.eval y)).toArray) from by
  unfold execOp
  simp only [hop, hx, Instr.storeAt, Instr.sureAddr, Sem.run_bind, Sem.run_pure, Result.andThen_ok, Rt.run_storeVar_cell w b f t ty ys _ H.out.at0 hf hs h1]]
 exact ⟨hT _ hM, this⟩
end
section
variable {ops : Array Oper} {rest : List Oper} {o : Oper} {a : Act} {w w0 : World} {N : Nat} {L : List Mm.Bx} {Q : Exit → Act → World → Prop} {S : World → Prop} {j : Nat} {s : Scr} {K : Act → World → Prop}
theorem run_bsS1 (z0 : ByteArray) (w : World) : (Instr.buildSlice 75 1 #[(0, .string z0)]).run Tryz.prog w = .ok (.slice (some ⟨w.heap.size, 0, none⟩) 1 1) (w.alloc (.cells #[.string z0] 9)) := by
 obtain ⟨i0, hi, hz0, hz1, hz2⟩ := info_parts infoS
 refine run_buildSlice w 75 9 1 _ _ i0 _ tyS hi hz0 (by rw [hz1]; omega) (by rw [hz1]; omega) ?_
 have hr : Array.range 1 = #[0] := by decide
 rw [hz1]; simp [Instr.fill, Value.cells, hr]
theorem wpL_bsS1 (H : Hid (Mm.M N w0 w L)) (hw : Region.wanted o (yielded ops a.tmps) = true) (x0 : Operand) (z0 : ByteArray) (ho : o.op = .buildSlice 75 1 #[(0, x0)]) (hx0 : a.eval x0 = .string z0)
 (h : ∀ b W, Hid (Mm.M N w0 W (⟨b, 9, [.string z0]⟩ :: L)) → Rt.NewAt w W b 9 [.string z0] → wpList Tryz.prog ops Q rest (a.put o.dst (.slice (some ⟨b, 0, none⟩) 1 1)) W) : wpList Tryz.prog ops Q (o :: rest) a w := by
 refine wpList_step fun K hK => ?_
 rw [if_pos hw]
 have n := Rt.NewAt.mk' w 9 [.string z0]
 have := hK _ _ (h _ _ (hidp (H.out.new n)) n)
 unfold Oper.wp execOp
 simp only [ho, List.map_toArray, List.map_cons, List.map_nil, hx0, Sem.run_bind, run_bsS1 z0 w, Result.andThen_ok]
 exact this
theorem run_bsS2 (z0 z1 : ByteArray) (w : World) : (Instr.buildSlice 75 2 #[(0, .string z0), (1, .string z1)]).run Tryz.prog w = .ok (.slice (some ⟨w.heap.size, 0, none⟩) 2 2) (w.alloc (.cells #[.string z0, .string z1] 9)) := by
 obtain ⟨i0, hi, hz0, hz1, hz2⟩ := info_parts infoS
 refine run_buildSlice w 75 9 2 _ _ i0 _ tyS hi hz0 (by rw [hz1]; omega) (by rw [hz1]; omega) ?_
 have hr : Array.range 2 = #[0, 1] := by decide
 rw [hz1]; simp [Instr.fill, Value.cells, hr]
theorem wpL_bsS2 (H : Hid (Mm.M N w0 w L)) (hw : Region.wanted o (yielded ops a.tmps) = true) (x0 x1 : Operand) (z0 z1 : ByteArray) (ho : o.op = .buildSlice 75 2 #[(0, x0), (1, x1)]) (hx0 : a.eval x0 = .string z0) (hx1 : a.eval x1 = .string z1)
 (h : ∀ b W, Hid (Mm.M N w0 W (⟨b, 9, [.string z0, .string z1]⟩ :: L)) → Rt.NewAt w W b 9 [.string z0, .string z1] → wpList Tryz.prog ops Q rest (a.put o.dst (.slice (some ⟨b, 0, none⟩) 2 2)) W) : wpList Tryz.prog ops Q (o :: rest) a w := by
 refine wpList_step fun K hK => ?_
 rw [if_pos hw]
 have n := Rt.NewAt.mk' w 9 [.string z0, .string z1]
 have := hK _ _ (h _ _ (hidp (H.out.new n)) n)
 unfold Oper.wp execOp
 simp only [ho, List.map_toArray, List.map_cons, List.map_nil, hx0, hx1, Sem.run_bind, run_bsS2 z0 z1 w, Result.andThen_ok]
 exact this
theorem o_bsS2 (H : Hid (Mm.M N w0 w L)) (hT : ∀ W, Mm.M N w0 W L → S W) (ho : ops[j]? = some o) (hw : Region.wanted o (yielded ops a.tmps) = true) (x0 x1 : Operand) (z0 z1 : ByteArray) (hop : o.op = .buildSlice 75 2 #[(0, x0), (1, x1)]) (hx0 : a.eval x0 = .string z0) (hx1 : a.eval x1 = .string z1)
 (h : ∀ b W, Hid (Mm.M N w0 W (⟨b, 9, [.string z0, .string z1]⟩ :: L)) → Rt.NewAt w W b 9 [.string z0, .string z1] → K (a.put o.dst (.slice (some ⟨b, 0, none⟩) 2 2)) W) : opW Tryz.prog ops Q S j K a w := by
 have n := Rt.NewAt.mk' w 9 [.string z0, .string z1]
 have hM := H.out.new n
 refine o_make ho hw ?_ (hT _ hM.tail) (h _ _ (hidp hM) n)
 unfold execOp
 simp only [hop, List.map_toArray, List.map_cons, List.map_nil, hx0, hx1, Sem.run_bind, run_bsS2 z0 z1 w, Result.andThen_ok]
 rfl
theorem run_bsS3 (z0 z1 z2 : ByteArray) (w : World) : (Instr.buildSlice 75 3 #[(0, .string z0), (1, .string z1), (2, .string z2)]).run Tryz.prog w = .ok (.slice (some ⟨w.heap.size, 0, none⟩) 3 3) (w.alloc (.cells #[.string z0, .string z1, .string z2] 9)) := by
 obtain ⟨i0, hi, hz0, hz1, hz2⟩ := info_parts infoS
 refine run_buildSlice w 75 9 3 _ _ i0 _ tyS hi hz0 (by rw [hz1]; omega) (by rw [hz1]; omega) ?_
 have hr : Array.range 3 = #[0, 1, 2] := by decide
 rw [hz1]; simp [Instr.fill, Value.cells, hr]
theorem wpL_bsS3 (H : Hid (Mm.M N w0 w L)) (hw : Region.wanted o (yielded ops a.tmps) = true) (x0 x1 x2 : Operand) (z0 z1 z2 : ByteArray) (ho : o.op = .buildSlice 75 3 #[(0, x0), (1, x1), (2, x2)]) (hx0 : a.eval x0 = .string z0) (hx1 : a.eval x1 = .string z1) (hx2 : a.eval x2 = .string z2)
 (h : ∀ b W, Hid (Mm.M N w0 W (⟨b, 9, [.string z0, .string z1, .string z2]⟩ :: L)) → Rt.NewAt w W b 9 [.string z0, .string z1, .string z2] → wpList Tryz.prog ops Q rest (a.put o.dst (.slice (some ⟨b, 0, none⟩) 3 3)) W) : wpList Tryz.prog ops Q (o :: rest) a w := by
 refine wpList_step fun K hK => ?_
 rw [if_pos hw]
 have n := Rt.NewAt.mk' w 9 [.string z0, .string z1, .string z2]
 have := hK _ _ (h _ _ (hidp (H.out.new n)) n)
 unfold Oper.wp execOp
 simp only [ho, List.map_toArray, List.map_cons, List.map_nil, hx0, hx1, hx2, Sem.run_bind, run_bsS3 z0 z1 z2 w, Result.andThen_ok]
 exact this
theorem run_bsI2 (z0 z1 : Int) (w : World) : (Instr.buildSlice 188 2 #[(0, .int .i64 z0), (1, .int .i64 z1)]).run Tryz.prog w = .ok (.slice (some ⟨w.heap.size, 0, none⟩) 2 2) (w.alloc (.cells #[.int .i64 z0, .int .i64 z1] 3)) := by
 obtain ⟨i0, hi, hz0, hz1, hz2⟩ := info_parts infoI
 refine run_buildSlice w 188 3 2 _ _ i0 _ tyI hi hz0 (by rw [hz1]; omega) (by rw [hz1]; omega) ?_
 have hr : Array.range 2 = #[0, 1] := by decide
 rw [hz1]; simp [Instr.fill, Value.cells, hr]
theorem wpL_bsI2 (H : Hid (Mm.M N w0 w L)) (hw : Region.wanted o (yielded ops a.tmps) = true) (x0 x1 : Operand) (z0 z1 : Int) (ho : o.op = .buildSlice 188 2 #[(0, x0), (1, x1)]) (hx0 : a.eval x0 = .int .i64 z0) (hx1 : a.eval x1 = .int .i64 z1)
 (h : ∀ b W, Hid (Mm.M N w0 W (⟨b, 3, [.int .i64 z0, .int .i64 z1]⟩ :: L)) → Rt.NewAt w W b 3 [.int .i64 z0, .int .i64 z1] → wpList Tryz.prog ops Q rest (a.put o.dst (.slice (some ⟨b, 0, none⟩) 2 2)) W) : wpList Tryz.prog ops Q (o :: rest) a w := by
 refine wpList_step fun K hK => ?_
 rw [if_pos hw]
 have n := Rt.NewAt.mk' w 3 [.int .i64 z0, .int .i64 z1]
 have := hK _ _ (h _ _ (hidp (H.out.new n)) n)
 unfold Oper.wp execOp
 simp only [ho, List.map_toArray, List.map_cons, List.map_nil, hx0, hx1, Sem.run_bind, run_bsI2 z0 z1 w, Result.andThen_ok]
 exact this
theorem run_bsI4 (z0 z1 z2 z3 : Int) (w : World) : (Instr.buildSlice 188 4 #[(0, .int .i64 z0), (1, .int .i64 z1), (2, .int .i64 z2), (3, .int .i64 z3)]).run Tryz.prog w = .ok (.slice (some ⟨w.heap.size, 0, none⟩) 4 4) (w.alloc (.cells #[.int .i64 z0, .int .i64 z1, .int .i64 z2, .int .i64 z3] 3)) := by
 obtain ⟨i0, hi, hz0, hz1, hz2⟩ := info_parts infoI
 refine run_buildSlice w 188 3 4 _ _ i0 _ tyI hi hz0 (by rw [hz1]; omega) (by rw [hz1]; omega) ?_
 have hr : Array.range 4 = #[0, 1, 2, 3] := by decide
 rw [hz1]; simp [Instr.fill, Value.cells, hr]
theorem wpL_bsI4 (H : Hid (Mm.M N w0 w L)) (hw : Region.wanted o (yielded ops a.tmps) = true) (x0 x1 x2 x3 : Operand) (z0 z1 z2 z3 : Int) (ho : o.op = .buildSlice 188 4 #[(0, x0), (1, x1), (2, x2), (3, x3)]) (hx0 : a.eval x0 = .int .i64 z0) (hx1 : a.eval x1 = .int .i64 z1) (hx2 : a.eval x2 = .int .i64 z2) (hx3 : a.eval x3 = .int .i64 z3)
 (h : ∀ b W, Hid (Mm.M N w0 W (⟨b, 3, [.int .i64 z0, .int .i64 z1, .int .i64 z2, .int .i64 z3]⟩ :: L)) → Rt.NewAt w W b 3 [.int .i64 z0, .int .i64 z1, .int .i64 z2, .int .i64 z3] → wpList Tryz.prog ops Q rest (a.put o.dst (.slice (some ⟨b, 0, none⟩) 4 4)) W) : wpList Tryz.prog ops Q (o :: rest) a w := by
 refine wpList_step fun K hK => ?_
 rw [if_pos hw]
 have n := Rt.NewAt.mk' w 3 [.int .i64 z0, .int .i64 z1, .int .i64 z2, .int .i64 z3]
 have := hK _ _ (h _ _ (hidp (H.out.new n)) n)
 unfold Oper.wp execOp
 simp only [ho, List.map_toArray, List.map_cons, List.map_nil, hx0, hx1, hx2, hx3, Sem.run_bind, run_bsI4 z0 z1 z2 z3 w, Result.andThen_ok]
 exact this
theorem wpL_appS (hgd : o.guard = none) (s x : Operand) (ho : o.op = .call { callee := .builtin .append, args := #[s, x], argTypes := #[75, 75] }) (B : Nat) (v : Value) (l : List Value) (b t : Nat) (u : Value) (hs : a.eval s = v) (hx : a.eval x = .slice (some ⟨b, 0, none⟩) 1 1)
 (hown : OwnV w B 9 v l) (hc : Arr w b t [u]) (hu : u.oneCell' = true) (hlen : l.length ≤ 1000000) (hB : B ≤ w.heap.size)
 (h : ∀ v' w', OwnV w' B 9 v' (l ++ [u]) → Below B w w' → wpList Tryz.prog ops Q rest (a.put o.dst v') w') : wpList Tryz.prog ops Q (o :: rest) a w := by
 obtain ⟨i0, hi, hz0, hz1, hz2⟩ := info_parts infoS
 exact wpList_appV hgd s x 75 ho B 9 i0 (.string ByteArray.empty) 16 tyS hi hz0 hz1 hz2 rfl v l hs hown ⟨b, 0, none⟩ 1 u hx (hc.cell 0 (by simp)) hu (by simp [maxLen]; omega) (by omega) hB h
end
end Go.Proofs.YtokakgjcegmabaaGreatDoor.Sl
namespace Go.Proofs.YtokakgjcegmabaaGreatDoor.Ho
open Go.RowKit
open List (getElem_toArray getElem_cons_zero getElem_cons_succ setIfInBounds_toArray set_cons_zero set_cons_succ)
def nmE (s : ByteArray) : Int := if (gn s.data.toList).2.2 ≠ 0 then ((gn s.data.toList).2.2 : Int) else if (gn s.data.toList).2.1 < s.size then 6 else 0
def nmV (s : ByteArray) : Nat := if nmE s = 0 then (gn s.data.toList).1 else 0
theorem nm_some {s : ByteArray} {n : Nat} (h : numOf s = some n) : nmE s = 0 ∧ nmV s = n := by
 unfold numOf at h
 split at h
 · rename_i hh
   have e : nmE s = 0 := by unfold nmE; rw [if_neg (by simp [hh.1]), if_neg (by omega)]
   refine ⟨e, ?_⟩
   unfold nmV; rw [if_pos e]; simpa using h
 · cases h
theorem nm_none {s : ByteArray} (h : numOf s = none) : nmE s ≠ 0 := by
 have hb := gn_bd s.data.toList
 have hz := size_toList s
 unfold numOf at h
 split at h
 · cases h
 · rename_i hh
   unfold nmE
   by_cases h0 : (gn s.data.toList).2.2 = 0
   · rw [if_neg (by simp [h0]), if_pos (by have : ¬ (gn s.data.toList).2.1 = s.size := fun g => hh ⟨h0, g⟩; omega)]; decide
   · rw [if_pos h0]; omega
theorem nm_zero {s : ByteArray} (h : nmE s = 0) : numOf s = some (nmV s) := by
 cases hn : numOf s with
 | none => exact absurd h (nm_none hn)
 | some n => rw [(nm_some hn).2]
def inE (s : ByteArray) (m : Nat) : Int := if nmE s = 0 then (if m < nmV s then 1 else 0) else nmE s
def inV (s : ByteArray) (m : Nat) : Nat := if inE s m = 0 then nmV s else 0
theorem in_zero {s : ByteArray} {m : Nat} (h : inE s m = 0) : numOf s = some (inV s m) ∧ inV s m ≤ m := by
 have h' := h
 unfold inE at h
 split at h
 · rename_i h0
   split at h
   · cases h
   · have e : inV s m = nmV s := if_pos h'
     rw [e]; exact ⟨nm_zero h0, by omega⟩
 · contradiction
theorem in_not {s : ByteArray} {m : Nat} (h : inE s m ≠ 0) : ∀ n, numOf s = some n → m < n := by
 intro n hn
 obtain ⟨h1, h2⟩ := nm_some hn
 unfold inE at h
 rw [if_pos h1, h2] at h
 split at h
 · assumption
 · exact absurd rfl h
theorem allNum_any (w : World) (s : ByteArray) (hs : s.size ≤ 281474976710656) :
 Calls Tryz.prog 138 #[.string s] w fun e w' => e = .returned (.tuple #[.int .u64 (nmV s), .int .i64 (nmE s)]) ∧ Below w.heap.size w w' := by
 have cg := hidp (fun W => getNum_any W s hs)
 have hb := gn_bd s.data.toList
 obtain ⟨⟨n, j, c⟩, hr⟩ : ∃ r, gn s.data.toList = r := ⟨_, rfl⟩
 have dE : nmE s = if c ≠ 0 then (c : Int) else if j < s.size then 6 else 0 := by unfold nmE; rw [hr]
 have dV : nmV s = if nmE s = 0 then n else 0 := by unfold nmV; rw [hr]
 rw [hr] at cg hb
 clear hr
 simp only [tup3] at cg hb
 by_cases h0 : c = 0
 · subst h0
   by_cases hj : j < s.size
   · have e1 : decide ((j : Int) < (s.size : Int)) = true := by simp; omega
     have g1 : decide (j < s.size) = true := decide_eq_true hj
     have HE := hidp (show nmE s = 6 from by rw [dE, if_neg (by simp), if_pos hj])
     have HV := hidp (show nmV s = 0 from by rw [dV, HE.out]; rfl)
     clear dE dV hj hb
     go_enter Tryz.func138, Tryz.ntmps138
     go_wp2_with (go_at_call 166; refine (cg.out _).mono ?_; rintro e w' ⟨rfl, rfl⟩)
     go_ret2
     exact ⟨by rw [HE.out, HV.out]; rfl, Below.refl _ _⟩
   · have e1 : decide ((j : Int) < (s.size : Int)) = false := by simp; omega
     have g1 : decide (j < s.size) = false := decide_eq_false hj
     have HE := hidp (show nmE s = 0 from by rw [dE, if_neg (by simp), if_neg hj])
     have HV := hidp (show nmV s = n from by rw [dV, HE.out]; rfl)
     clear dE dV hj hb
     go_enter Tryz.func138, Tryz.ntmps138
     go_wp2_with (go_at_call 166; refine (cg.out _).mono ?_; rintro e w' ⟨rfl, rfl⟩)
     go_ret2
     exact ⟨by rw [HE.out, HV.out]; rfl, Below.refl _ _⟩
 · have e0 : ((c : Int) != 0) = true := by simp; omega
   have n0 : ¬ (c : Int) = 0 := by omega
   have HE := hidp (show nmE s = c from by rw [dE, if_pos h0])
   have HV := hidp (show nmV s = 0 from by rw [dV, HE.out, if_neg (by omega)])
   clear dE dV hb h0
   go_enter Tryz.func138, Tryz.ntmps138
   go_wp2_with (go_at_call 166; refine (cg.out _).mono ?_; rintro e w' ⟨rfl, rfl⟩)
   go_ret2
   exact ⟨by rw [HE.out, HV.out]; rfl, Below.refl _ _⟩
theorem allInt_any (w : World) (s : ByteArray) (m : Nat) (hm : m ≤ 1048576) (hs : s.size ≤ 281474976710656) :
 Calls Tryz.prog 88 #[.string s, .int .i64 (m : Int)] w fun e w' => e = .returned (.tuple #[.int .i64 (inV s m), .int .i64 (inE s m)]) ∧ Below w.heap.size w w' := by
 have cg := hidp (fun W => allNum_any W s hs)
 have dE : inE s m = if nmE s = 0 then (if m < nmV s then 1 else 0) else nmE s := rfl
 have dV : inV s m = if inE s m = 0 then nmV s else 0 := rfl
 have hV : nmV s ≤ 281474976710656 := by
  have hb := gn_bd s.data.toList
  unfold nmV; split <;> omega
 obtain ⟨E, hE⟩ : ∃ E, nmE s = E := ⟨_, rfl⟩
 obtain ⟨n, hn⟩ : ∃ n, nmV s = n := ⟨_, rfl⟩
 rw [hE, hn] at cg dE
 rw [hn] at dV hV
 clear hE hn
 have w1 : IntKind.u64.wrap (m : Int) = (m : Int) := by unfold IntKind.wrap; simp [IntKind.bits, IntKind.signed]; omega
 have w2 : IntKind.i64.wrap (n : Int) = (n : Int) := by unfold IntKind.wrap; simp [IntKind.bits, IntKind.signed]; omega
 have e2 : decide ((m : Int) < 0) = false := by simp
 by_cases h0 : E = 0
 · subst h0
   by_cases hj : m < n
   · have e1 : decide ((n : Int) > (m : Int)) = true := by simp; omega
     have n1 : (m : Int) < (n : Int) := by omega
     have g1 : decide (m < n) = true := decide_eq_true hj
     have HE := hidp (show inE s m = 1 from by rw [dE, if_pos rfl, if_pos hj])
     have HV := hidp (show inV s m = 0 from by rw [dV, HE.out]; rfl)
     clear dE dV hj
     go_enter Tryz.func88, Tryz.ntmps88
     go_wp2_with (go_at_call 138; refine (cg.out _).mono ?_; rintro e w' ⟨rfl, hb⟩)
     go_ret2
     exact ⟨by rw [HE.out, HV.out]; rfl, hb⟩
   · have e1 : decide ((n : Int) > (m : Int)) = false := by simp; omega
     have n1 : ¬ (m : Int) < (n : Int) := by omega
     have g1 : decide (m < n) = false := decide_eq_false hj
     have HE := hidp (show inE s m = 0 from by rw [dE, if_pos rfl, if_neg hj])
     have HV := hidp (show inV s m = n from by rw [dV, HE.out]; rfl)
     clear dE dV hj
     go_enter Tryz.func88, Tryz.ntmps88
     go_wp2_with (go_at_call 138; refine (cg.out _).mono ?_; rintro e w' ⟨rfl, hb⟩)
     go_ret2
     exact ⟨by rw [HE.out, HV.out]; rfl, hb⟩
 · have e0 : (E != 0) = true := by simpa using h0
   have HE := hidp (show inE s m = E from by rw [dE, if_neg h0])
   have HV := hidp (show inV s m = 0 from by rw [dV, HE.out, if_neg h0])
   clear dE dV
   go_enter Tryz.func88, Tryz.ntmps88
   go_wp2_with (go_at_call 138; refine (cg.out _).mono ?_; rintro e w' ⟨rfl, hb⟩)
   go_ret2
   exact ⟨by rw [HE.out, HV.out]; rfl, hb⟩
theorem text_any (w : World) (d : De) (hd : d.ok) (hI : IT w) (hT : HT w) :
 Calls Tryz.prog 56 #[.agg d.row.toArray] w fun e w' => e = .returned (.tuple #[.string (dT d), .int .i64 (dE d)]) ∧ Below w.heap.size w w' := by
 obtain ⟨k, r, ep, ix, hu, nx, sg⟩ := d
 have HI := hidp hI; have HT0 := hidp hT; clear hI hT
 have cc := hidp (show ∀ W, IT W → HT W → Calls Tryz.prog 53 #[.agg #[.int .u8 (k : Int), .string r, .int .i64 ep, .int .i64 ix, .int .i64 hu, .int .i64 nx, .string sg]] W (fun e w' => e = .returned (.int .i64 (dE (⟨k, r, ep, ix, hu, nx, sg⟩ : De))) ∧ Below W.heap.size W w') from fun W h h' => dcheck_any W (⟨k, r, ep, ix, hu, nx, sg⟩ : De) hd h h')
 show Calls Tryz.prog 56 #[.agg #[.int .u8 (k : Int), .string r, .int .i64 ep, .int .i64 ix, .int .i64 hu, .int .i64 nx, .string sg]] w _
 have H := hidp (Mm.M.nil w)
 cases hok : dOk (⟨k, r, ep, ix, hu, nx, sg⟩ : De) with
 | false =>
   rw [dE_no hok] at cc ⊢
   rw [dT_no hok]
   have HF := hidp (show True from trivial)
   clear hok
   go_enter Tryz.func56, Tryz.ntmps56
   have tk0 := hT
   go_wp2_with (first | (clear tk0; (refine Mm.box 26 H rfl (.tmp 0) rfl [.int .u8 (k : Int), .string r, .int .i64 ep, .int .i64 ix, .int .i64 hu, .int .i64 nx, .string sg] rfl ?_; clear H; intro b1 _ H nw; clear nw); (try simp only [Act.put, aQ]); have tk1 := hT) | (clear tk1; (refine Mm.get0 rtD H rfl (.tmp 1) rfl rfl rfl ?_); (try simp only [Act.put, aQ]); have tk2 := hT) | (clear tk2; (go_at_call 53; refine (cc.out _ (HI.out.below H.out.below (Nat.le_refl _)) (HT0.out.below H.out.below (Nat.le_refl _))).mono ?_; rintro e _ ⟨rfl, hb⟩; replace H := hidp (H.out.call hb); clear cc; clear hb); (try simp only [Act.put, aQ]); have tk3 := hT))
   try clear tk3
   go_ret2
   exact ⟨rfl, H.out.below⟩
 | true =>
   rw [dE_yes hok] at cc ⊢
   obtain ⟨h1, ⟨nn, h2⟩, h3, h4, h5, h6, h7, h8⟩ := dOk_parts hok
   simp only at h1 h2 h3 h4 h5 h6 h7 h8
   obtain ⟨ep, rfl⟩ := Int.eq_ofNat_of_zero_le h3.1
   obtain ⟨ix, rfl⟩ := Int.eq_ofNat_of_zero_le h4.1
   obtain ⟨hu, rfl⟩ := Int.eq_ofNat_of_zero_le h5.1
   obtain ⟨nx, rfl⟩ := Int.eq_ofNat_of_zero_le h6.1
   have hk3 : k < 3 := by omega
   have c0 : (0 : Int) ≤ (k : Int) := by omega
   have c1 : (k : Int) < 3 := by omega
   obtain ⟨L0, hL0⟩ : ∃ L, dL (⟨k, r, ep, ix, hu, nx, sg⟩ : De) = L := ⟨_, rfl⟩
   have hL0' : L0 = [dwd k, r, mkS (encN ep), mkS (encN ix), mkS (encN hu), mkS (encN nx)] := by rw [← hL0]; rfl
   have hLok := dL_ok hok
   have HF := hidp (show dT (⟨k, r, ep, ix, hu, nx, sg⟩ : De) = listS L0 ∧ (0 : Int) = listE L0 from by rw [dT_yes hok, hL0, listS_yes (hL0 ▸ hLok), listE_yes (hL0 ▸ hLok)]; exact ⟨rfl, rfl⟩)
   rw [hL0] at hLok
   have cl := hidp (fun W v (hat : StrsAt W v L0) => list_any W v L0 hat (by have := hLok.1; omega) (fun s hs => by have := hLok.2 s hs; omega))
   rw [HF.out.1, HF.out.2]
   have HT2 := hidp (show strV (L0.take (2 + 0)) = [.string (dwd k), .string r] from by rw [hL0']; rfl)
   have ht6 : L0.take (2 + 4) = L0 := by rw [hL0']; rfl
   have HN := hidp (show ∀ i, i < 4 → ∃ y : Nat, ([.int .i64 (ep : Int), .int .i64 (ix : Int), .int .i64 (hu : Int), .int .i64 (nx : Int)] : List Value)[i]? = some (.int .i64 (y : Int)) ∧ L0.take (2 + i) ++ [mkS (encN y)] = L0.take (2 + (i + 1)) from by
    rw [hL0']
    intro i hi
    rcases (by omega : i = 0 ∨ i = 1 ∨ i = 2 ∨ i = 3) with rfl | rfl | rfl | rfl
    · exact ⟨ep, rfl, rfl⟩
    · exact ⟨ix, rfl, rfl⟩
    · exact ⟨hu, rfl, rfl⟩
    · exact ⟨nx, rfl, rfl⟩)
   have HNB := hidp (show ∀ (i y : Nat), ([.int .i64 (ep : Int), .int .i64 (ix : Int), .int .i64 (hu : Int), .int .i64 (nx : Int)] : List Value)[i]? = some (.int .i64 (y : Int)) → y ≤ 4096 from by
    intro i y hy
    have hm := List.mem_of_getElem? hy
    simp only [List.mem_cons, Value.int.injEq, List.not_mem_nil, or_false, true_and] at hm
    omega)
   have cn := hidp (show ∀ W, Calls Tryz.prog 108 #[.agg #[.int .u8 (k : Int), .string r, .int .i64 (ep : Int), .int .i64 (ix : Int), .int .i64 (hu : Int), .int .i64 (nx : Int), .string sg]] W (fun e w' => e = .returned (.agg #[.int .i64 (ep : Int), .int .i64 (ix : Int), .int .i64 (hu : Int), .int .i64 (nx : Int)]) ∧ Below W.heap.size W w') from fun W => numbersOf_any W k r ep ix hu nx sg)
   clear hok h1 h2 h3 h4 h5 h6 h7 h8 hL0 hL0' hLok hd
   go_enter Tryz.func56, Tryz.ntmps56
   have tk0 := hT
   go_wp2_with (first | (clear tk0; (refine Mm.box 26 H rfl (.tmp 0) rfl [.int .u8 (k : Int), .string r, .int .i64 (ep : Int), .int .i64 (ix : Int), .int .i64 (hu : Int), .int .i64 (nx : Int), .string sg] rfl ?_; clear H; intro b1 _ H nw; clear nw); (try simp only [Act.put, aQ]); have tk1 := hT) | (clear tk1; (refine Mm.get0 rtD H rfl (.tmp 1) rfl rfl rfl ?_); (try simp only [Act.put, aQ]); have tk2 := hT) | (clear tk2; (go_at_call 53; refine (cc.out _ (HI.out.below H.out.below (Nat.le_refl _)) (HT0.out.below H.out.below (Nat.le_refl _))).mono ?_; rintro e _ ⟨rfl, hb⟩; replace H := hidp (H.out.call hb); clear cc; clear hb); (try simp only [Act.put, aQ]); have tk3 := hT))
   try clear tk3
   refine Mm.region H (.take 0 (.take 1 (.take 2 (.take 3 (.take 4 (.take 5 (.one 6 (.take 7 .done)))))))) (by kernel_rfl) (by kernel_rfl) (by simp [Scr.depth]) (by kernel_rfl) ?_
   clear H
   intro _ H hb
   clear hb
   apply s_val
   case ho | hw => rfl
   case hv => intro w hw; go_simp; first | done | rfl
   simp only [Act.put, aP]
   refine Mm.sld0 naDK (fun w h => h) rfl rfl (.tmp 15) 0 (.int .u8 (k : Int)) rfl rfl rfl ?_
   simp only [Act.put, aP]
   apply s_val
   case ho | hw => rfl
   case hv => intro w hw; go_simp; first | done | rfl
   simp only [Act.put, aP]
   apply s_val
   case ho | hw => rfl
   case hv => intro w hw; have m1 := (HT0.out.below hw.below (Nat.le_refl _)).words k hk3; go_simp; first | done | rfl
   simp only [Act.put, aP]
   apply s_val
   case ho | hw => rfl
   case hv => intro w hw; go_simp; first | done | rfl
   simp only [Act.put, aP]
   refine Mm.sld0 naS (fun w h => h) rfl rfl (.tmp 19) 1 _ rfl rfl rfl ?_
   simp only [Act.put, aP]
   refine Sl.o_bsS2 H (fun W h => h) rfl rfl _ _ (dwd k) r rfl rfl rfl ?_
   clear H
   intro b6 _ H nw
   have hb := nw.below
   clear hb nw
   simp only [Act.put, aP]
   apply s_val
   case ho | hw => rfl
   case hv => intro w hw; go_simp; first | done | rfl
   simp only [Act.put, aP]
   refine NoPanic.normal ?_
   have HO := hidp (Sl.own_top H.out (by simp))
   replace H := hidp H.out.tail
   have tk0 := hT
   go_wp2_with (first | (clear tk0; (refine Mm.get0 rtD H rfl (.tmp 1) rfl rfl rfl ?_); (try simp only [Act.put, aQ]); have tk1 := hT) | (clear tk1; (go_at_call 108; refine (cn.out _).mono ?_; rintro e _ ⟨rfl, hb⟩; replace H := hidp (H.out.call hb); clear cn; replace HO := hidp (Sl.own_to HO.out hb); clear hb); (try simp only [Act.put, aQ]); have tk2 := hT))
   try clear tk2
   have HB0 := hidp H.out.below; have hbs := H.out.le
   clear H
   go_loopw [5, 24] (fun t5 t24 wr => ∃ (i : Nat) (v : Value), t24 = .int .i64 (i : Int) ∧ t5 = v ∧ i ≤ 4 ∧ OwnV wr w.heap.size 9 v (strV (L0.take (2 + i))) ∧ Below w.heap.size w wr) (fun _ t24 _ => 4 - (intOf t24).toNat)
   case atStart => exact ⟨0, _, rfl, rfl, by omega, by rw [HT2.out]; exact HO.out, HB0.out⟩
   case round =>
    clear HO HB0
    obtain ⟨i, v, rfl, rfl, hi, hown, hbel⟩ := hrel
    have HO := hidp hown; have H := hidp (show Mm.M w.heap.size w wr [] from ⟨hbel, hbel.size, fun x h => (by cases h), .nil, fun x h => (by cases h)⟩)
    clear hown hbel
    by_cases hlt : i < 4
    · have e1 : decide ((i : Int) < 4) = true := by simp; omega
      have c0 : (0 : Int) ≤ (i : Int) := by omega
      have c1 : (i : Int) < 4 := by omega
      obtain ⟨y, hy, hy2⟩ := HN.out i hlt
      have hix := index_num [.int .i64 (ep : Int), .int .i64 (ix : Int), .int .i64 (hu : Int), .int .i64 (nx : Int)] i (y : Int) hlt hy wr
      have hyb := HNB.out i y hy
      have w1 : IntKind.u64.wrap (y : Int) = (y : Int) := by unfold IntKind.wrap; simp [IntKind.bits, IntKind.signed]; omega
      have cu := hidp (fun W => num_any W y (by omega))
      rw [numS_yes (by omega), numE_yes (by omega)] at cu
      clear hy
      have tk0 := hT
      go_wp2_with (first | (clear tk0; (go_at_call 66; refine (cu.out _).mono ?_; rintro e _ ⟨rfl, hb⟩; replace H := hidp (H.out.call hb); clear cu; replace HO := hidp (Sl.own_to HO.out hb); clear hb); (try simp only [Act.put, aQ]); have tk1 := hT) | (clear tk1; (refine Sl.wpL_bsS1 H rfl (.tmp 34) _ rfl rfl ?_; clear H; intro b9 _ H nw; have hb := nw.below; replace HO := hidp (Sl.own_to HO.out hb); clear hb nw); (try simp only [Act.put, aQ]); have tk2 := hT) | (clear tk2; (refine Sl.wpL_appS rfl (.tmp 33) (.tmp 35) rfl w.heap.size _ _ b9 _ _ rfl rfl HO.out H.out.at0 rfl (by rw [strV_length, List.length_take]; omega) H.out.le ?_; clear HO; intro v2 _ ho2 hb2; have HO := hidp ho2; have HB := hidp (H.out.below.trans hb2); clear ho2 hb2 H); (try simp only [Act.put, aQ]); have tk3 := hT))
      try clear tk3
      refine ⟨⟨i + 1, v2, by go_num, rfl, by omega, ?_, HB.out⟩, by simp [intOf]; omega⟩
      have h := HO.out
      rw [strV_snoc, hy2] at h
      exact h
    · have e1 : decide ((i : Int) < 4) = false := by simp; omega
      have hti : L0.take (2 + i) = L0 := by rw [show i = 4 from by omega]; exact ht6
      have tk0 := hT
      go_wp2_with (first | (clear tk0; (go_at_call 67; refine (cl.out _ _ (by have := HO.out.strs; rw [hti] at this; exact this)).mono ?_; rintro e _ ⟨rfl, hb⟩; replace H := hidp (H.out.call hb); clear cl; clear hb); (try simp only [Act.put, aQ]); have tk1 := hT))
      try clear tk1
      go_ret2
      exact ⟨rfl, H.out.below⟩
theorem bytes_any (w : World) (d : De) (hd : d.ok) (hI : IT w) (hT : HT w) :
 Calls Tryz.prog 22 #[.agg d.row.toArray] w fun e w' => e = .returned (.tuple #[.string (dB d), .int .i64 (dE d)]) ∧ Below w.heap.size w w' := by
 obtain ⟨k, r, ep, ix, hu, nx, sg⟩ := d
 have HI := hidp hI; have HT0 := hidp hT; clear hI hT
 have cc := hidp (show ∀ W, IT W → HT W → Calls Tryz.prog 56 #[.agg #[.int .u8 (k : Int), .string r, .int .i64 ep, .int .i64 ix, .int .i64 hu, .int .i64 nx, .string sg]] W (fun e w' => e = .returned (.tuple #[.string (dT (⟨k, r, ep, ix, hu, nx, sg⟩ : De)), .int .i64 (dE (⟨k, r, ep, ix, hu, nx, sg⟩ : De))]) ∧ Below W.heap.size W w') from fun W h h' => text_any W (⟨k, r, ep, ix, hu, nx, sg⟩ : De) hd h h')
 show Calls Tryz.prog 22 #[.agg #[.int .u8 (k : Int), .string r, .int .i64 ep, .int .i64 ix, .int .i64 hu, .int .i64 nx, .string sg]] w _
 have H := hidp (Mm.M.nil w)
 cases hok : dOk (⟨k, r, ep, ix, hu, nx, sg⟩ : De) with
 | false =>
   rw [dE_no hok] at cc ⊢
   rw [dB_no hok]
   obtain ⟨T, hT⟩ : ∃ T, dT (⟨k, r, ep, ix, hu, nx, sg⟩ : De) = T := ⟨_, rfl⟩
   rw [hT] at cc
   clear hok hT
   go_enter Tryz.func22, Tryz.ntmps22
   have tk0 := hT
   go_wp2_with (first | (clear tk0; (refine Mm.box 26 H rfl (.tmp 0) rfl [.int .u8 (k : Int), .string r, .int .i64 ep, .int .i64 ix, .int .i64 hu, .int .i64 nx, .string sg] rfl ?_; clear H; intro b1 _ H nw; clear nw); (try simp only [Act.put, aQ]); have tk1 := hT) | (clear tk1; (refine Mm.get0 rtD H rfl (.tmp 1) rfl rfl rfl ?_); (try simp only [Act.put, aQ]); have tk2 := hT) | (clear tk2; (go_at_call 56; refine (cc.out _ (HI.out.below H.out.below (Nat.le_refl _)) (HT0.out.below H.out.below (Nat.le_refl _))).mono ?_; rintro e _ ⟨rfl, hb⟩; replace H := hidp (H.out.call hb); clear cc; clear hb); (try simp only [Act.put, aQ]); have tk3 := hT))
   try clear tk3
   go_ret2
   exact ⟨rfl, H.out.below⟩
 | true =>
   rw [dE_yes hok] at cc ⊢
   have hLok := dB_ok hok
   simp only at hLok
   have hB : dB (⟨k, r, ep, ix, hu, nx, sg⟩ : De) = listS [dT (⟨k, r, ep, ix, hu, nx, sg⟩ : De), sg] := by rw [dB_yes hok, listS_yes hLok]
   have hB2 : (0 : Int) = listE [dT (⟨k, r, ep, ix, hu, nx, sg⟩ : De), sg] := by rw [listE_yes hLok]
   rw [hB]
   conv => rhs; intro e w'; lhs; rhs; rw [show (Value.int IntKind.i64 0) = Value.int IntKind.i64 (listE [dT (⟨k, r, ep, ix, hu, nx, sg⟩ : De), sg]) from by rw [← hB2]]
   clear hB
   obtain ⟨T, hT⟩ : ∃ T, dT (⟨k, r, ep, ix, hu, nx, sg⟩ : De) = T := ⟨_, rfl⟩
   rw [hT] at cc hLok hB2 ⊢
   have cl := hidp (fun W v (hat : StrsAt W v [T, sg]) => list_any W v [T, sg] hat (by simp) (fun s hs => by have := hLok.2 s hs; omega))
   clear hok hT hB2 hLok hd
   go_enter Tryz.func22, Tryz.ntmps22
   have tk0 := hT
   go_wp2_with (first | (clear tk0; (refine Mm.box 26 H rfl (.tmp 0) rfl [.int .u8 (k : Int), .string r, .int .i64 ep, .int .i64 ix, .int .i64 hu, .int .i64 nx, .string sg] rfl ?_; clear H; intro b1 _ H nw; clear nw); (try simp only [Act.put, aQ]); have tk1 := hT) | (clear tk1; (refine Mm.get0 rtD H rfl (.tmp 1) rfl rfl rfl ?_); (try simp only [Act.put, aQ]); have tk2 := hT) | (clear tk2; (go_at_call 56; refine (cc.out _ (HI.out.below H.out.below (Nat.le_refl _)) (HT0.out.below H.out.below (Nat.le_refl _))).mono ?_; rintro e _ ⟨rfl, hb⟩; replace H := hidp (H.out.call hb); clear cc; clear hb); (try simp only [Act.put, aQ]); have tk3 := hT) | (clear tk3; (refine Mm.ld0 naS H rfl (.tmp 15) 6 _ rfl rfl rfl ?_); (try simp only [Act.put, aQ]); have tk4 := hT) | (clear tk4; (refine Sl.wpL_bsS2 H rfl (.tmp 14) (.tmp 16) _ _ rfl rfl rfl ?_; clear H; intro b6 _ H nw; clear nw); (try simp only [Act.put, aQ]); have tk5 := hT) | (clear tk5; (go_at_call 67; refine (cl.out _ _ (Sl.own_arr (B := 0) (row := strV [T, sg]) H.out.at0 (Nat.zero_le _) (by simp [strV])).strs).mono ?_; rintro e _ ⟨rfl, hb⟩; replace H := hidp (H.out.call hb); clear cl; clear hb); (try simp only [Act.put, aQ]); have tk6 := hT))
   try clear tk6
   go_ret2
   exact ⟨rfl, H.out.below⟩
end Go.Proofs.YtokakgjcegmabaaGreatDoor.Ho
