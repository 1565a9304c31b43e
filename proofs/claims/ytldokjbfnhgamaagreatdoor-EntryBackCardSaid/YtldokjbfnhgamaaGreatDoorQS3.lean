/-
  Joined: EnM KyN EnN.
-/
import Derived.Test.YtldokjbfnhgamaaGreatDoorQC
import Derived.Test.YtldokjbfnhgamaaGreatDoorQD
import Derived.Test.YtldokjbfnhgamaaGreatDoorQS1
import Derived.Test.YtldokjbfnhgamaaGreatDoorQS2
import Derived.Test.YtldokjbfnhgamaaGreatDoorQM
namespace Go.Proofs.YtldokjbfnhgamaaGreatDoor.En
set_option linter.unusedVariables false
set_option linter.unusedSimpArgs false
open Go.RowKit

/-- An entry. -/
structure En where
  r : ByteArray
  e : Int
  i : Int
  p : List UInt8
  v : ByteArray
  g : ByteArray
def En.row (x : En) : List Value := [.string x.r, .int .i64 x.e, .int .i64 x.i] ++ u8s x.p ++ [.string x.v, .string x.g]
structure En.ok (x : En) : Prop where
  r : x.r.size ≤ 140737488351232
  p : x.p.length = 32
  v : x.v.size ≤ 140737488351232
  g : x.g.size ≤ 140737488351232
def z32e : List UInt8 := List.replicate 32 0
def zEn : En := ⟨⟨#[]⟩, 0, 0, z32e, ⟨#[]⟩, ⟨#[]⟩⟩
theorem En.len {x : En} (h : x.p.length = 32) : x.row.length = 37 := by unfold En.row; simp [u8s_length, h]
theorem En.one (x : En) : ∀ u ∈ x.row, u.oneCell' = true := by
  intro u hu
  unfold En.row at hu
  simp only [List.mem_append, List.mem_cons, List.not_mem_nil, or_false] at hu
  rcases hu with ((rfl | rfl | rfl) | hu) | (rfl | rfl)
  · rfl
  · rfl
  · rfl
  · exact (List.all_eq_true.1 (by have := u8s_one x.p; rwa [List.all_toArray] at this)) u hu
  · rfl
  · rfl
theorem En.get0 (x : En) : x.row[0]? = some (.string x.r) := rfl
theorem En.get1 (x : En) : x.row[1]? = some (.int .i64 x.e) := rfl
theorem En.get2 (x : En) : x.row[2]? = some (.int .i64 x.i) := rfl
theorem En.get35 {x : En} (h : x.p.length = 32) : x.row[35]? = some (.string x.v) := by
  unfold En.row
  rw [List.getElem?_append_right (by simp [u8s_length, h])]; simp [u8s_length, h]
theorem En.get36 {x : En} (h : x.p.length = 32) : x.row[36]? = some (.string x.g) := by
  unfold En.row
  rw [List.getElem?_append_right (by simp [u8s_length, h])]; simp [u8s_length, h]
theorem En.set35 {x : En} (h : x.p.length = 32) (s : ByteArray) : x.row.set 35 (.string s) = (⟨x.r, x.e, x.i, x.p, s, x.g⟩ : En).row := by
  unfold En.row
  rw [List.append_assoc, List.set_append]; simp [u8s_length, h, List.set_append]
theorem En.set36 {x : En} (h : x.p.length = 32) (s : ByteArray) : x.row.set 36 (.string s) = (⟨x.r, x.e, x.i, x.p, x.v, s⟩ : En).row := by
  unfold En.row
  rw [List.append_assoc, List.set_append]; simp [u8s_length, h, List.set_append]
theorem En.mid (x : En) : x.row.drop 3 = u8s x.p ++ [.string x.v, .string x.g] := rfl
def wEntry : ByteArray := ⟨#[101, 110, 116, 114, 121]⟩
def cnt (n : Int) : Bool := decide (0 ≤ n ∧ n ≤ 4096)
/-- An entry is valid. -/
def eOk (x : En) : Bool := (who 2 x.r).isSome && cnt x.e && cnt x.i && decide (x.v.size ≤ 8192) && decide (x.g.size ≤ 8192)
def eE (x : En) : Int := if eOk x = true then 0 else 2
def eL (x : En) : List ByteArray := [wEntry, x.r, mkS (encN x.e.toNat), mkS (encN x.i.toNat), mkS x.p, x.v]
/-- An entry's signed text. -/
def eT (x : En) : ByteArray := if eOk x = true then mkS (encL (eL x)) else ByteArray.empty
def eB (x : En) : ByteArray := if eOk x = true then listS [eT x, x.g] else ByteArray.empty
def eBE (x : En) : Int := if eOk x = true then listE [eT x, x.g] else 2
/-- A number of at most 4096 that a whole text is. -/
def num4 (s : ByteArray) : Option Nat := match numOf s with
  | some n => if n ≤ 4096 then some n else none
  | none => none
/-- The entry of a list, without a signature. -/
def erL : List ByteArray → Option En
  | [a, b, c, d, e, f] => if a = wEntry ∧ e.size = 32 then (match num4 c, num4 d with
    | some w, some x => if eOk ⟨b, w, x, e.data.toList, f, ⟨#[]⟩⟩ = true then some ⟨b, w, x, e.data.toList, f, ⟨#[]⟩⟩ else none
    | _, _ => none) else none
  | _ => none
/-- The entry whose signed text this is. -/
def er (t : ByteArray) : Option En := if (al t).2 = 0 then erL (al t).1 else none
def wSigE (x : En) (g : ByteArray) : En := ⟨x.r, x.e, x.i, x.p, x.v, g⟩
def ePL : List ByteArray → Option En
  | [t, g] => (er t).map fun x => wSigE x g
  | _ => none
/-- The entry that bytes are. -/
def eP (s : ByteArray) : Option En := if (al s).2 = 0 then ePL (al s).1 else none
theorem eE_yes {x : En} (h : eOk x = true) : eE x = 0 := by unfold eE; rw [if_pos h]
theorem eE_no {x : En} (h : eOk x = false) : eE x = 2 := by unfold eE; rw [h]; rfl
theorem eT_yes {x : En} (h : eOk x = true) : eT x = mkS (encL (eL x)) := by unfold eT; rw [if_pos h]
theorem eT_no {x : En} (h : eOk x = false) : eT x = ByteArray.empty := by unfold eT; rw [h]; rfl
theorem eOk_parts {x : En} (h : eOk x = true) : (∃ n, who 2 x.r = some n) ∧ (0 ≤ x.e ∧ x.e ≤ 4096) ∧ (0 ≤ x.i ∧ x.i ≤ 4096) ∧ x.v.size ≤ 8192 ∧ x.g.size ≤ 8192 := by
  unfold eOk cnt at h
  simp only [Bool.and_eq_true, decide_eq_true_eq] at h
  obtain ⟨⟨⟨⟨h1, h2⟩, h3⟩, h4⟩, h5⟩ := h
  exact ⟨Option.isSome_iff_exists.1 h1, h2, h3, h4, h5⟩
theorem eOk_mk {x : En} (h1 : (who 2 x.r).isSome = true) (h2 : 0 ≤ x.e ∧ x.e ≤ 4096) (h3 : 0 ≤ x.i ∧ x.i ≤ 4096) (h4 : x.v.size ≤ 8192) (h5 : x.g.size ≤ 8192) : eOk x = true := by
  unfold eOk cnt
  simp only [Bool.and_eq_true, decide_eq_true_eq]
  exact ⟨⟨⟨⟨h1, h2⟩, h3⟩, h4⟩, h5⟩
theorem e4_len {n : Int} (h0 : 0 ≤ n) (h : n ≤ 4096) : (encN n.toNat).length ≤ 10 := encN_len64 _ (by omega)
theorem eL_ok {x : En} (h : eOk x = true) (hp : x.p.length = 32) : okL (eL x) := by
  obtain ⟨⟨n, h1⟩, h2, h3, h4, h5⟩ := eOk_parts h
  refine ⟨by simp [eL], fun s hs => ?_⟩
  have g1 := who_size h1; have e1 := e4_len h2.1 h2.2; have e2 := e4_len h3.1 h3.2
  simp only [eL, List.mem_cons, List.not_mem_nil, or_false] at hs
  rcases hs with rfl | rfl | rfl | rfl | rfl | rfl
  · show (wEntry).size ≤ 8192; decide
  · omega
  · rw [mkS_size]; omega
  · rw [mkS_size]; omega
  · rw [mkS_size]; omega
  · omega
theorem num4_back {n : Nat} (h : n ≤ 4096) : num4 (mkS (encN n)) = some n := by
  unfold num4; rw [numOf_back n (by omega)]; exact if_pos h
theorem num4_some {s : ByteArray} {n : Nat} (h : num4 s = some n) : mkS (encN n) = s ∧ n ≤ 4096 := by
  unfold num4 at h
  split at h
  · rename_i m hm
    split at h
    · simp only [Option.some.injEq] at h; subst h
      exact ⟨(numOf_some hm).1, by assumption⟩
    · cases h
  · cases h
theorem er_back {x : En} (h : eOk x = true) (hp : x.p.length = 32) : er (eT x) = some (wSigE x ⟨#[]⟩) := by
  obtain ⟨h1, h2, h3, h4, h5⟩ := eOk_parts h
  unfold er
  rw [eT_yes h, al_back _ (eL_ok h hp)]
  simp only [if_true, eL, erL]
  rw [if_pos ⟨by trivial, by rw [mkS_size]; exact hp⟩, num4_back (by omega), num4_back (by omega)]
  simp only [Int.toNat_of_nonneg h2.1, Int.toNat_of_nonneg h3.1, mkS_data]
  exact if_pos (eOk_mk (x := wSigE x ⟨#[]⟩) (Option.isSome_iff_exists.2 h1) h2 h3 h4 (by show (⟨#[]⟩ : ByteArray).size ≤ 8192; decide))
theorem eP_back {x : En} (h : eOk x = true) (hp : x.p.length = 32) (hl : okL [eT x, x.g]) : eP (eB x) = some x := by
  unfold eP eB
  rw [if_pos h, listS_yes hl, al_back _ hl]
  simp only [if_true, ePL]
  rw [er_back h hp]; rfl
theorem er_some {t : ByteArray} {x : En} (h : er t = some x) : eOk x = true ∧ eT x = t ∧ x.g = ⟨#[]⟩ ∧ x.p.length = 32 := by
  unfold er at h
  split at h
  · rename_i h0
    obtain ⟨g3, -⟩ := al_again h0
    unfold erL at h
    split at h
    · rename_i a b c d e f hL
      split at h
      · rename_i hae
        split at h
        · rename_i w y e1 e2
          split at h
          · rename_i hok
            simp only [Option.some.injEq] at h
            subst h
            refine ⟨hok, ?_, rfl, by rw [size_toList]; exact hae.2⟩
            rw [eT_yes hok, ← g3, hL]
            have i1 := (num4_some e1).1; have i2 := (num4_some e2).1
            simp only [eL, Int.toNat_natCast]
            rw [i1, i2, mkS_of, ← hae.1]
          · cases h
        · cases h
      · cases h
    · cases h
  · cases h
theorem wSigE_ok {x : En} (h : eOk x = true) {g : ByteArray} (hg : g.size ≤ 8192) : eOk (wSigE x g) = true := by
  obtain ⟨h1, h2, h3, h4, h5⟩ := eOk_parts h
  exact eOk_mk (Option.isSome_iff_exists.2 h1) h2 h3 h4 hg
theorem eT_sig {x : En} (h : eOk x = true) {g : ByteArray} (hg : g.size ≤ 8192) : eT (wSigE x g) = eT x := by
  rw [eT_yes h, eT_yes (wSigE_ok h hg)]; rfl
theorem eP_some {s : ByteArray} {x : En} (h : eP s = some x) : eOk x = true ∧ eB x = s ∧ eBE x = 0 ∧ x.p.length = 32 := by
  unfold eP at h
  split at h
  · rename_i h0
    obtain ⟨g3, g4⟩ := al_again h0
    unfold ePL at h
    split at h
    · rename_i t g hL
      rw [hL] at g3 g4
      obtain ⟨x', hx, rfl⟩ := Option.map_eq_some_iff.1 h
      obtain ⟨k1, k2, k3, k4⟩ := er_some hx
      have hg : g.size ≤ 8192 := g4.2 g (by simp)
      have hok := wSigE_ok k1 hg
      have hT : eT (wSigE x' g) = t := by rw [eT_sig k1 hg, k2]
      refine ⟨hok, ?_, ?_, k4⟩
      · unfold eB
        rw [if_pos hok, hT]
        show listS [t, g] = s
        rw [listS_yes g4]; exact g3
      · unfold eBE
        rw [if_pos hok, hT]
        exact listE_yes g4
    · cases h
  · cases h
theorem eT_size (x : En) (hp : x.p.length = 32) : (eT x).size ≤ 65536 := by
  cases h : eOk x with
  | false => rw [eT_no h]; exact Nat.zero_le _
  | true =>
    have h0 := eL_ok h hp
    rw [eT_yes h, mkS_size]; unfold encL
    have e1 : (encTs (eL x)).length ≤ 6 * 8202 := by
      have e2 := encTs_take_len (eL x) 6 (by simp [eL]) h0
      have e3 : ∀ s ∈ eL x, (encT s).length ≤ 8202 := by
        intro s hs
        have := h0.2 s hs
        unfold encT
        rw [List.length_append, size_toList]
        have := encN_len64 s.size (by omega); omega
      unfold encTs
      simp only [eL, List.flatMap_cons, List.flatMap_nil, List.length_append, List.length_nil]
      have q0 := e3 wEntry (by simp [eL]); have q1 := e3 x.r (by simp [eL]); have q2 := e3 (mkS (encN x.e.toNat)) (by simp [eL]); have q3 := e3 (mkS (encN x.i.toNat)) (by simp [eL]); have q4 := e3 (mkS x.p) (by simp [eL]); have q5 := e3 x.v (by simp [eL])
      omega
    have e2 := encN_len64 (eL x).length (by simp [eL])
    rw [List.length_append]; omega
end Go.Proofs.YtldokjbfnhgamaaGreatDoor.En

namespace Go.Proofs.YtldokjbfnhgamaaGreatDoor
set_option maxRecDepth 100000
set_option linter.unusedVariables false
set_option linter.unusedSimpArgs false
theorem root2 (a b : List UInt8) : rootV [a, b] = abvL a b := by
  have hf : fitN [a, b].length = true := show fitN 2 = true from by decide +kernel
  have hi : hiN [a, b].length = 0 + 1 := show hiN 2 = 1 from by decide +kernel
  unfold rootV
  rw [if_pos hf, hi, refR_succ]
  rw [show ([a, b] : List (List UInt8)).take (2 ^ 0) = [a] from rfl, show ([a, b] : List (List UInt8)).drop (2 ^ 0) = [b] from rfl, refR_zero, refR_zero]
theorem rootN : rootV (leafL [115] 1) = [1, 182, 6, 211, 135, 147, 53, 5, 245, 241, 205, 252, 197, 223, 231, 32, 130, 117, 182, 46, 173, 16, 191, 101, 209, 159, 7, 102, 245, 140, 192, 251] := by
  have e : leafL [115] 1 = [[133, 132, 226, 9, 67, 101, 124, 7, 112, 140, 113, 84, 118, 64, 209, 109, 80, 56, 159, 43, 199, 54, 251, 52, 131, 108, 173, 108, 134, 93, 87, 198], [116, 114, 126, 235, 204, 156, 53, 229, 79, 85, 47, 115, 7, 142, 228, 51, 173, 35, 236, 27, 117, 190, 31, 217, 22, 236, 238, 183, 255, 165, 187, 204]] := by
    unfold leafL
    rw [show List.range (2 ^ 1) = [0, 1] from rfl, List.map_cons, List.map_cons, List.map_nil, pubN0, pubN1]
  rw [e, root2, abvL_eq, shaF_eq]
  rw [show txtL [133, 132, 226, 9, 67, 101, 124, 7, 112, 140, 113, 84, 118, 64, 209, 109, 80, 56, 159, 43, 199, 54, 251, 52, 131, 108, 173, 108, 134, 93, 87, 198] [116, 114, 126, 235, 204, 156, 53, 229, 79, 85, 47, 115, 7, 142, 228, 51, 173, 35, 236, 27, 117, 190, 31, 217, 22, 236, 238, 183, 255, 165, 187, 204] = [1, 133, 132, 226, 9, 67, 101, 124, 7, 112, 140, 113, 84, 118, 64, 209, 109, 80, 56, 159, 43, 199, 54, 251, 52, 131, 108, 173, 108, 134, 93, 87, 198] ++ [116, 114, 126, 235, 204, 156, 53, 229, 79, 85, 47, 115, 7, 142, 228, 51, 173, 35, 236, 27, 117, 190, 31, 217, 22, 236, 238, 183, 255, 165, 187, 204] from by unfold txtL; rfl]
  decide +kernel
end Go.Proofs.YtldokjbfnhgamaaGreatDoor

namespace Go.Proofs.YtldokjbfnhgamaaGreatDoor.En
set_option maxRecDepth 100000
set_option linter.unusedVariables false
set_option linter.unusedSimpArgs false
open Go.RowKit

theorem rec_other (seed t u : List UInt8) : recL u (signL seed t) = shaL (4 :: catL (fun j => walkL (startL seed j) ((digL t).getD j 0 + (3 - (digL u).getD j 0))) 68) := by
  unfold recL
  congr 2
  refine catL_congr _ _ _ fun j hj => ?_
  unfold pieceL signL
  rw [catL_piece _ _ _ (fun j => walkL_len _ _ (startL_len _ _)) hj, walkL_add]
theorem vf_other {S : ByteArray} {h m : Nat} (t u : ByteArray) (root : List UInt8) (hh : h ≤ 7) (hm : m < 2 ^ h) :
    vfE root h u (mkS (sigL S.data.toList h m t.data.toList)) = if climbV (recL u.data.toList (signL (seedL S.data.toList m) t.data.toList)) (m : Int) (pathV (leafL S.data.toList h) m) = root then 0 else 9 := by
  obtain ⟨hp, hz, hpl⟩ := sig_parts (S := S) t.data.toList hh hm
  unfold vfE
  rw [hpl]
  simp only [mkS_data]
  have e1 : (sigL S.data.toList h m t.data.toList).drop 1 = signL (seedL S.data.toList m) t.data.toList ++ flat (pathV (leafL S.data.toList h) m) := rfl
  have hs : (signL (seedL S.data.toList m) t.data.toList).length = 1088 := signL_len _ _
  have e2 : ((sigL S.data.toList h m t.data.toList).drop 1).take 1088 = signL (seedL S.data.toList m) t.data.toList := by
    rw [e1, List.take_append_of_le_length (by omega), List.take_of_length_le (by omega)]
  have e3 : (sigL S.data.toList h m t.data.toList).drop 1089 = flat (pathV (leafL S.data.toList h) m) := by
    unfold sigL sigH
    exact drop_1089 _ _ (by rw [List.length_cons, hs])
  refine (vf_key _ _ _ _ root (m : Int) e2 e3).trans ?_
  rw [hashes_flat _ (pathV_32 _ _ (leafL_32 _ _)), recV_yes _ _ hs]
theorem t5 : (eT (⟨⟨#[33, 104, 97, 108, 108, 58, 48]⟩, 1, 5, z32e, ⟨#[120]⟩, ⟨#[]⟩⟩ : En)).data.toList = [6, 5, 101, 110, 116, 114, 121, 7, 33, 104, 97, 108, 108, 58, 48, 1, 1, 1, 5, 32, 0, 0, 0, 0, 0, 0, 0, 0, 0, 0, 0, 0, 0, 0, 0, 0, 0, 0, 0, 0, 0, 0, 0, 0, 0, 0, 0, 0, 0, 0, 0, 0, 1, 120] := by decide +kernel
theorem t6 : (eT (⟨⟨#[33, 104, 97, 108, 108, 58, 48]⟩, 1, 6, z32e, ⟨#[120]⟩, ⟨#[]⟩⟩ : En)).data.toList = [6, 5, 101, 110, 116, 114, 121, 7, 33, 104, 97, 108, 108, 58, 48, 1, 1, 1, 6, 32, 0, 0, 0, 0, 0, 0, 0, 0, 0, 0, 0, 0, 0, 0, 0, 0, 0, 0, 0, 0, 0, 0, 0, 0, 0, 0, 0, 0, 0, 0, 0, 0, 1, 120] := by decide +kernel
theorem m5 : midF [6, 5, 101, 110, 116, 114, 121, 7, 33, 104, 97, 108, 108, 58, 48, 1, 1, 1, 5, 32, 0, 0, 0, 0, 0, 0, 0, 0, 0, 0, 0, 0, 0, 0, 0, 0, 0, 0, 0, 0, 0, 0, 0, 0, 0, 0, 0, 0, 0, 0, 0, 0, 1, 120] = [249, 200, 118, 160, 220, 29, 98, 80, 156, 131, 132, 93, 67, 34, 73, 193] := by decide +kernel
theorem m6 : midF [6, 5, 101, 110, 116, 114, 121, 7, 33, 104, 97, 108, 108, 58, 48, 1, 1, 1, 6, 32, 0, 0, 0, 0, 0, 0, 0, 0, 0, 0, 0, 0, 0, 0, 0, 0, 0, 0, 0, 0, 0, 0, 0, 0, 0, 0, 0, 0, 0, 0, 0, 0, 1, 120] = [36, 90, 183, 24, 244, 165, 70, 46, 188, 230, 193, 206, 9, 32, 66, 103] := by decide +kernel
theorem dg5 : digL [6, 5, 101, 110, 116, 114, 121, 7, 33, 104, 97, 108, 108, 58, 48, 1, 1, 1, 5, 32, 0, 0, 0, 0, 0, 0, 0, 0, 0, 0, 0, 0, 0, 0, 0, 0, 0, 0, 0, 0, 0, 0, 0, 0, 0, 0, 0, 0, 0, 0, 0, 0, 1, 120] = [1, 2, 3, 3, 0, 2, 0, 3, 2, 1, 3, 1, 0, 0, 2, 2, 0, 3, 1, 3, 1, 3, 1, 0, 2, 0, 2, 1, 0, 0, 1, 1, 0, 3, 1, 2, 3, 0, 0, 2, 0, 1, 0, 2, 1, 3, 1, 1, 3, 0, 0, 1, 2, 0, 2, 0, 1, 2, 0, 1, 1, 0, 0, 3, 0, 0, 3, 1] := by unfold digL; rw [midF_eq, m5]; decide +kernel
theorem dg6 : digL [6, 5, 101, 110, 116, 114, 121, 7, 33, 104, 97, 108, 108, 58, 48, 1, 1, 1, 6, 32, 0, 0, 0, 0, 0, 0, 0, 0, 0, 0, 0, 0, 0, 0, 0, 0, 0, 0, 0, 0, 0, 0, 0, 0, 0, 0, 0, 0, 0, 0, 0, 0, 1, 120] = [0, 1, 2, 0, 2, 2, 1, 1, 3, 1, 3, 2, 0, 2, 1, 0, 0, 1, 3, 3, 1, 1, 2, 2, 2, 1, 0, 1, 2, 3, 2, 0, 0, 3, 3, 2, 2, 1, 2, 3, 1, 0, 0, 3, 2, 3, 0, 3, 1, 2, 0, 0, 0, 0, 2, 0, 2, 0, 0, 1, 3, 1, 2, 1, 0, 2, 2, 1] := by unfold digL; rw [midF_eq, m6]; decide +kernel
/-- How far each chain goes. -/
def exs : List Nat := [4, 4, 4, 6, 1, 3, 2, 5, 2, 3, 3, 2, 3, 1, 4, 5, 3, 5, 1, 3, 3, 5, 2, 1, 3, 2, 5, 3, 1, 0, 2, 4, 3, 3, 1, 3, 4, 2, 1, 2, 2, 4, 3, 2, 2, 3, 4, 1, 5, 1, 3, 4, 5, 3, 3, 3, 2, 5, 3, 3, 1, 2, 1, 5, 3, 1, 4, 3]
theorem exs_eq (j : Nat) (h : j < 68) : ([1, 2, 3, 3, 0, 2, 0, 3, 2, 1, 3, 1, 0, 0, 2, 2, 0, 3, 1, 3, 1, 3, 1, 0, 2, 0, 2, 1, 0, 0, 1, 1, 0, 3, 1, 2, 3, 0, 0, 2, 0, 1, 0, 2, 1, 3, 1, 1, 3, 0, 0, 1, 2, 0, 2, 0, 1, 2, 0, 1, 1, 0, 0, 3, 0, 0, 3, 1] : List Nat).getD j 0 + (3 - ([0, 1, 2, 0, 2, 2, 1, 1, 3, 1, 3, 2, 0, 2, 1, 0, 0, 1, 3, 3, 1, 1, 2, 2, 2, 1, 0, 1, 2, 3, 2, 0, 0, 3, 3, 2, 2, 1, 2, 3, 1, 0, 0, 3, 2, 3, 0, 3, 1, 2, 0, 0, 0, 0, 2, 0, 2, 0, 0, 1, 3, 1, 2, 1, 0, 2, 2, 1] : List Nat).getD j 0) = exs.getD j 0 := by
  have : ∀ j, j < 68 → ([1, 2, 3, 3, 0, 2, 0, 3, 2, 1, 3, 1, 0, 0, 2, 2, 0, 3, 1, 3, 1, 3, 1, 0, 2, 0, 2, 1, 0, 0, 1, 1, 0, 3, 1, 2, 3, 0, 0, 2, 0, 1, 0, 2, 1, 3, 1, 1, 3, 0, 0, 1, 2, 0, 2, 0, 1, 2, 0, 1, 1, 0, 0, 3, 0, 0, 3, 1] : List Nat).getD j 0 + (3 - ([0, 1, 2, 0, 2, 2, 1, 1, 3, 1, 3, 2, 0, 2, 1, 0, 0, 1, 3, 3, 1, 1, 2, 2, 2, 1, 0, 1, 2, 3, 2, 0, 0, 3, 3, 2, 2, 1, 2, 3, 1, 0, 0, 3, 2, 3, 0, 3, 1, 2, 0, 0, 0, 0, 2, 0, 2, 0, 0, 1, 3, 1, 2, 1, 0, 2, 2, 1] : List Nat).getD j 0) = exs.getD j 0 := by decide +kernel
  exact this j h
def chX (j : Nat) : List UInt8 := walkF (midF (3 :: UInt8.ofNat j :: [102, 156, 13, 65, 161, 239, 112, 28, 109, 250, 112, 69, 244, 65, 172, 77])) (exs.getD j 0)
theorem xt_0 : midF [2, 40, 223, 138, 215, 55, 53, 128, 247, 81, 147, 190, 132, 209, 226, 85, 158] = [253, 67, 57, 124, 92, 198, 217, 38, 110, 143, 49, 214, 94, 144, 102, 232] := by decide +kernel
theorem cx_0 : chX 0 = [253, 67, 57, 124, 92, 198, 217, 38, 110, 143, 49, 214, 94, 144, 102, 232] := by
  show midF (2 :: midF (2 :: midF (2 :: midF (2 :: midF [3, 0, 102, 156, 13, 65, 161, 239, 112, 28, 109, 250, 112, 69, 244, 65, 172, 77])))) = _
  rw [st0_0, st0_1, st0_2, st0_3, xt_0]
theorem xt_1 : midF [2, 240, 236, 184, 32, 214, 244, 169, 183, 0, 89, 86, 134, 149, 123, 155, 95] = [107, 236, 153, 138, 18, 57, 197, 162, 216, 78, 58, 155, 42, 177, 14, 187] := by decide +kernel
theorem cx_1 : chX 1 = [107, 236, 153, 138, 18, 57, 197, 162, 216, 78, 58, 155, 42, 177, 14, 187] := by
  show midF (2 :: midF (2 :: midF (2 :: midF (2 :: midF [3, 1, 102, 156, 13, 65, 161, 239, 112, 28, 109, 250, 112, 69, 244, 65, 172, 77])))) = _
  rw [st0_4, st0_5, st0_6, st0_7, xt_1]
theorem xt_2 : midF [2, 198, 135, 181, 249, 115, 43, 167, 4, 182, 92, 209, 228, 151, 138, 147, 143] = [125, 149, 76, 165, 128, 158, 249, 246, 141, 116, 89, 112, 243, 150, 39, 22] := by decide +kernel
theorem cx_2 : chX 2 = [125, 149, 76, 165, 128, 158, 249, 246, 141, 116, 89, 112, 243, 150, 39, 22] := by
  show midF (2 :: midF (2 :: midF (2 :: midF (2 :: midF [3, 2, 102, 156, 13, 65, 161, 239, 112, 28, 109, 250, 112, 69, 244, 65, 172, 77])))) = _
  rw [st0_8, st0_9, st0_10, st0_11, xt_2]
theorem xt_3 : midF [2, 119, 251, 177, 37, 106, 78, 236, 12, 173, 124, 122, 7, 74, 245, 135, 142] = [84, 54, 3, 88, 180, 239, 209, 93, 127, 239, 224, 34, 248, 110, 242, 237] := by decide +kernel
theorem xt_4 : midF [2, 84, 54, 3, 88, 180, 239, 209, 93, 127, 239, 224, 34, 248, 110, 242, 237] = [219, 50, 135, 10, 82, 4, 146, 198, 253, 25, 130, 42, 219, 163, 252, 160] := by decide +kernel
theorem xt_5 : midF [2, 219, 50, 135, 10, 82, 4, 146, 198, 253, 25, 130, 42, 219, 163, 252, 160] = [46, 190, 241, 98, 26, 20, 88, 126, 228, 228, 204, 6, 69, 139, 5, 96] := by decide +kernel
theorem cx_3 : chX 3 = [46, 190, 241, 98, 26, 20, 88, 126, 228, 228, 204, 6, 69, 139, 5, 96] := by
  show midF (2 :: midF (2 :: midF (2 :: midF (2 :: midF (2 :: midF (2 :: midF [3, 3, 102, 156, 13, 65, 161, 239, 112, 28, 109, 250, 112, 69, 244, 65, 172, 77])))))) = _
  rw [st0_12, st0_13, st0_14, st0_15, xt_3, xt_4, xt_5]
theorem cx_4 : chX 4 = [211, 234, 182, 140, 144, 179, 36, 11, 138, 76, 134, 105, 91, 208, 26, 132] := by
  show midF (2 :: midF [3, 4, 102, 156, 13, 65, 161, 239, 112, 28, 109, 250, 112, 69, 244, 65, 172, 77]) = _
  rw [st0_16, st0_17]
theorem cx_5 : chX 5 = [214, 237, 137, 62, 212, 100, 21, 248, 4, 103, 231, 76, 217, 95, 160, 237] := by
  show midF (2 :: midF (2 :: midF (2 :: midF [3, 5, 102, 156, 13, 65, 161, 239, 112, 28, 109, 250, 112, 69, 244, 65, 172, 77]))) = _
  rw [st0_20, st0_21, st0_22, st0_23]
theorem cx_6 : chX 6 = [225, 146, 34, 151, 135, 236, 255, 37, 4, 155, 64, 194, 1, 50, 125, 213] := by
  show midF (2 :: midF (2 :: midF [3, 6, 102, 156, 13, 65, 161, 239, 112, 28, 109, 250, 112, 69, 244, 65, 172, 77])) = _
  rw [st0_24, st0_25, st0_26]
theorem xt_6 : midF [2, 82, 50, 250, 54, 113, 139, 106, 16, 146, 17, 77, 27, 169, 38, 244, 200] = [127, 92, 77, 194, 69, 159, 179, 48, 201, 24, 198, 204, 0, 11, 160, 149] := by decide +kernel
theorem xt_7 : midF [2, 127, 92, 77, 194, 69, 159, 179, 48, 201, 24, 198, 204, 0, 11, 160, 149] = [173, 47, 45, 75, 85, 182, 138, 254, 103, 60, 217, 91, 105, 11, 223, 251] := by decide +kernel
theorem cx_7 : chX 7 = [173, 47, 45, 75, 85, 182, 138, 254, 103, 60, 217, 91, 105, 11, 223, 251] := by
  show midF (2 :: midF (2 :: midF (2 :: midF (2 :: midF (2 :: midF [3, 7, 102, 156, 13, 65, 161, 239, 112, 28, 109, 250, 112, 69, 244, 65, 172, 77]))))) = _
  rw [st0_28, st0_29, st0_30, st0_31, xt_6, xt_7]
theorem cx_8 : chX 8 = [9, 176, 10, 63, 205, 205, 165, 156, 238, 254, 254, 2, 65, 114, 68, 163] := by
  show midF (2 :: midF (2 :: midF [3, 8, 102, 156, 13, 65, 161, 239, 112, 28, 109, 250, 112, 69, 244, 65, 172, 77])) = _
  rw [st0_32, st0_33, st0_34]
theorem cx_9 : chX 9 = [19, 2, 167, 35, 114, 54, 41, 223, 167, 144, 92, 180, 145, 138, 1, 102] := by
  show midF (2 :: midF (2 :: midF (2 :: midF [3, 9, 102, 156, 13, 65, 161, 239, 112, 28, 109, 250, 112, 69, 244, 65, 172, 77]))) = _
  rw [st0_36, st0_37, st0_38, st0_39]
theorem cx_10 : chX 10 = [180, 151, 207, 154, 155, 89, 57, 106, 184, 114, 75, 103, 37, 244, 119, 44] := by
  show midF (2 :: midF (2 :: midF (2 :: midF [3, 10, 102, 156, 13, 65, 161, 239, 112, 28, 109, 250, 112, 69, 244, 65, 172, 77]))) = _
  rw [st0_40, st0_41, st0_42, st0_43]
theorem cx_11 : chX 11 = [246, 72, 38, 156, 148, 132, 75, 48, 149, 247, 73, 0, 58, 133, 136, 6] := by
  show midF (2 :: midF (2 :: midF [3, 11, 102, 156, 13, 65, 161, 239, 112, 28, 109, 250, 112, 69, 244, 65, 172, 77])) = _
  rw [st0_44, st0_45, st0_46]
theorem cx_12 : chX 12 = [119, 62, 178, 29, 232, 225, 75, 101, 95, 232, 147, 214, 52, 147, 202, 168] := by
  show midF (2 :: midF (2 :: midF (2 :: midF [3, 12, 102, 156, 13, 65, 161, 239, 112, 28, 109, 250, 112, 69, 244, 65, 172, 77]))) = _
  rw [st0_48, st0_49, st0_50, st0_51]
theorem cx_13 : chX 13 = [50, 84, 241, 189, 128, 158, 255, 172, 252, 30, 140, 253, 121, 60, 12, 204] := by
  show midF (2 :: midF [3, 13, 102, 156, 13, 65, 161, 239, 112, 28, 109, 250, 112, 69, 244, 65, 172, 77]) = _
  rw [st0_52, st0_53]
theorem xt_8 : midF [2, 211, 200, 6, 140, 161, 142, 90, 234, 179, 113, 234, 39, 26, 216, 234, 6] = [158, 53, 43, 57, 184, 80, 208, 194, 220, 134, 251, 230, 248, 52, 35, 107] := by decide +kernel
theorem cx_14 : chX 14 = [158, 53, 43, 57, 184, 80, 208, 194, 220, 134, 251, 230, 248, 52, 35, 107] := by
  show midF (2 :: midF (2 :: midF (2 :: midF (2 :: midF [3, 14, 102, 156, 13, 65, 161, 239, 112, 28, 109, 250, 112, 69, 244, 65, 172, 77])))) = _
  rw [st0_56, st0_57, st0_58, st0_59, xt_8]
theorem xt_9 : midF [2, 45, 161, 144, 188, 110, 150, 31, 105, 59, 42, 181, 106, 0, 132, 2, 82] = [127, 84, 176, 19, 21, 240, 91, 218, 67, 159, 139, 210, 54, 252, 11, 88] := by decide +kernel
theorem xt_10 : midF [2, 127, 84, 176, 19, 21, 240, 91, 218, 67, 159, 139, 210, 54, 252, 11, 88] = [125, 49, 35, 247, 250, 72, 71, 46, 129, 241, 103, 228, 124, 137, 29, 171] := by decide +kernel
theorem cx_15 : chX 15 = [125, 49, 35, 247, 250, 72, 71, 46, 129, 241, 103, 228, 124, 137, 29, 171] := by
  show midF (2 :: midF (2 :: midF (2 :: midF (2 :: midF (2 :: midF [3, 15, 102, 156, 13, 65, 161, 239, 112, 28, 109, 250, 112, 69, 244, 65, 172, 77]))))) = _
  rw [st0_60, st0_61, st0_62, st0_63, xt_9, xt_10]
theorem cx_16 : chX 16 = [99, 161, 147, 170, 226, 178, 159, 72, 172, 170, 22, 201, 72, 80, 105, 25] := by
  show midF (2 :: midF (2 :: midF (2 :: midF [3, 16, 102, 156, 13, 65, 161, 239, 112, 28, 109, 250, 112, 69, 244, 65, 172, 77]))) = _
  rw [st0_64, st0_65, st0_66, st0_67]
theorem xt_11 : midF [2, 190, 164, 37, 9, 103, 71, 59, 114, 141, 4, 161, 241, 25, 114, 185, 235] = [174, 171, 0, 201, 92, 182, 240, 20, 237, 229, 184, 125, 90, 187, 60, 242] := by decide +kernel
theorem xt_12 : midF [2, 174, 171, 0, 201, 92, 182, 240, 20, 237, 229, 184, 125, 90, 187, 60, 242] = [144, 105, 102, 168, 100, 173, 147, 24, 134, 24, 119, 255, 137, 131, 174, 251] := by decide +kernel
theorem cx_17 : chX 17 = [144, 105, 102, 168, 100, 173, 147, 24, 134, 24, 119, 255, 137, 131, 174, 251] := by
  show midF (2 :: midF (2 :: midF (2 :: midF (2 :: midF (2 :: midF [3, 17, 102, 156, 13, 65, 161, 239, 112, 28, 109, 250, 112, 69, 244, 65, 172, 77]))))) = _
  rw [st0_68, st0_69, st0_70, st0_71, xt_11, xt_12]
theorem cx_18 : chX 18 = [83, 58, 160, 203, 41, 234, 89, 5, 1, 6, 116, 152, 93, 218, 150, 17] := by
  show midF (2 :: midF [3, 18, 102, 156, 13, 65, 161, 239, 112, 28, 109, 250, 112, 69, 244, 65, 172, 77]) = _
  rw [st0_72, st0_73]
theorem cx_19 : chX 19 = [28, 195, 151, 201, 85, 194, 129, 197, 176, 238, 240, 52, 21, 251, 165, 192] := by
  show midF (2 :: midF (2 :: midF (2 :: midF [3, 19, 102, 156, 13, 65, 161, 239, 112, 28, 109, 250, 112, 69, 244, 65, 172, 77]))) = _
  rw [st0_76, st0_77, st0_78, st0_79]
theorem cx_20 : chX 20 = [114, 232, 63, 143, 78, 47, 100, 230, 86, 235, 15, 25, 144, 190, 236, 136] := by
  show midF (2 :: midF (2 :: midF (2 :: midF [3, 20, 102, 156, 13, 65, 161, 239, 112, 28, 109, 250, 112, 69, 244, 65, 172, 77]))) = _
  rw [st0_80, st0_81, st0_82, st0_83]
theorem xt_13 : midF [2, 52, 188, 81, 184, 118, 34, 31, 67, 75, 186, 252, 212, 191, 162, 37, 11] = [61, 227, 245, 69, 136, 180, 63, 130, 194, 238, 100, 68, 220, 99, 96, 151] := by decide +kernel
theorem xt_14 : midF [2, 61, 227, 245, 69, 136, 180, 63, 130, 194, 238, 100, 68, 220, 99, 96, 151] = [15, 49, 12, 58, 88, 2, 16, 201, 15, 102, 201, 96, 191, 206, 128, 102] := by decide +kernel
theorem cx_21 : chX 21 = [15, 49, 12, 58, 88, 2, 16, 201, 15, 102, 201, 96, 191, 206, 128, 102] := by
  show midF (2 :: midF (2 :: midF (2 :: midF (2 :: midF (2 :: midF [3, 21, 102, 156, 13, 65, 161, 239, 112, 28, 109, 250, 112, 69, 244, 65, 172, 77]))))) = _
  rw [st0_84, st0_85, st0_86, st0_87, xt_13, xt_14]
theorem cx_22 : chX 22 = [128, 230, 129, 41, 41, 17, 192, 56, 178, 20, 144, 149, 222, 104, 52, 42] := by
  show midF (2 :: midF (2 :: midF [3, 22, 102, 156, 13, 65, 161, 239, 112, 28, 109, 250, 112, 69, 244, 65, 172, 77])) = _
  rw [st0_88, st0_89, st0_90]
theorem cx_23 : chX 23 = [217, 177, 197, 253, 78, 212, 134, 22, 94, 175, 17, 125, 228, 139, 153, 221] := by
  show midF (2 :: midF [3, 23, 102, 156, 13, 65, 161, 239, 112, 28, 109, 250, 112, 69, 244, 65, 172, 77]) = _
  rw [st0_92, st0_93]
theorem cx_24 : chX 24 = [105, 174, 87, 145, 137, 219, 53, 102, 100, 127, 62, 94, 159, 174, 69, 44] := by
  show midF (2 :: midF (2 :: midF (2 :: midF [3, 24, 102, 156, 13, 65, 161, 239, 112, 28, 109, 250, 112, 69, 244, 65, 172, 77]))) = _
  rw [st0_96, st0_97, st0_98, st0_99]
theorem cx_25 : chX 25 = [28, 75, 131, 42, 248, 144, 155, 147, 197, 30, 176, 58, 221, 158, 102, 223] := by
  show midF (2 :: midF (2 :: midF [3, 25, 102, 156, 13, 65, 161, 239, 112, 28, 109, 250, 112, 69, 244, 65, 172, 77])) = _
  rw [st0_100, st0_101, st0_102]
theorem xt_15 : midF [2, 103, 10, 107, 208, 93, 233, 141, 190, 173, 176, 6, 95, 208, 233, 127, 174] = [20, 156, 20, 223, 181, 104, 113, 170, 215, 66, 215, 255, 127, 152, 36, 11] := by decide +kernel
theorem xt_16 : midF [2, 20, 156, 20, 223, 181, 104, 113, 170, 215, 66, 215, 255, 127, 152, 36, 11] = [152, 50, 19, 207, 242, 207, 135, 2, 167, 135, 61, 85, 216, 37, 137, 150] := by decide +kernel
theorem cx_26 : chX 26 = [152, 50, 19, 207, 242, 207, 135, 2, 167, 135, 61, 85, 216, 37, 137, 150] := by
  show midF (2 :: midF (2 :: midF (2 :: midF (2 :: midF (2 :: midF [3, 26, 102, 156, 13, 65, 161, 239, 112, 28, 109, 250, 112, 69, 244, 65, 172, 77]))))) = _
  rw [st0_104, st0_105, st0_106, st0_107, xt_15, xt_16]
theorem cx_27 : chX 27 = [219, 202, 255, 145, 29, 237, 9, 3, 18, 34, 237, 227, 176, 41, 123, 14] := by
  show midF (2 :: midF (2 :: midF (2 :: midF [3, 27, 102, 156, 13, 65, 161, 239, 112, 28, 109, 250, 112, 69, 244, 65, 172, 77]))) = _
  rw [st0_108, st0_109, st0_110, st0_111]
theorem cx_28 : chX 28 = [253, 36, 157, 23, 41, 190, 180, 116, 218, 131, 224, 181, 151, 112, 239, 30] := by
  show midF (2 :: midF [3, 28, 102, 156, 13, 65, 161, 239, 112, 28, 109, 250, 112, 69, 244, 65, 172, 77]) = _
  rw [st0_112, st0_113]
theorem cx_29 : chX 29 = [16, 112, 25, 222, 106, 33, 74, 143, 95, 251, 119, 175, 124, 143, 158, 233] := by
  show midF [3, 29, 102, 156, 13, 65, 161, 239, 112, 28, 109, 250, 112, 69, 244, 65, 172, 77] = _
  rw [st0_116]
theorem cx_30 : chX 30 = [135, 225, 123, 109, 229, 62, 110, 52, 155, 44, 138, 10, 53, 203, 216, 107] := by
  show midF (2 :: midF (2 :: midF [3, 30, 102, 156, 13, 65, 161, 239, 112, 28, 109, 250, 112, 69, 244, 65, 172, 77])) = _
  rw [st0_120, st0_121, st0_122]
theorem xt_17 : midF [2, 218, 236, 227, 2, 12, 118, 147, 11, 183, 42, 252, 159, 47, 92, 182, 239] = [92, 90, 254, 139, 76, 234, 254, 186, 83, 145, 223, 78, 8, 198, 14, 220] := by decide +kernel
theorem cx_31 : chX 31 = [92, 90, 254, 139, 76, 234, 254, 186, 83, 145, 223, 78, 8, 198, 14, 220] := by
  show midF (2 :: midF (2 :: midF (2 :: midF (2 :: midF [3, 31, 102, 156, 13, 65, 161, 239, 112, 28, 109, 250, 112, 69, 244, 65, 172, 77])))) = _
  rw [st0_124, st0_125, st0_126, st0_127, xt_17]
theorem cx_32 : chX 32 = [96, 76, 25, 135, 137, 217, 208, 214, 201, 125, 133, 205, 209, 128, 240, 122] := by
  show midF (2 :: midF (2 :: midF (2 :: midF [3, 32, 102, 156, 13, 65, 161, 239, 112, 28, 109, 250, 112, 69, 244, 65, 172, 77]))) = _
  rw [st0_128, st0_129, st0_130, st0_131]
theorem cx_33 : chX 33 = [186, 109, 126, 57, 11, 30, 57, 242, 124, 86, 6, 190, 61, 42, 10, 174] := by
  show midF (2 :: midF (2 :: midF (2 :: midF [3, 33, 102, 156, 13, 65, 161, 239, 112, 28, 109, 250, 112, 69, 244, 65, 172, 77]))) = _
  rw [st0_132, st0_133, st0_134, st0_135]
theorem cx_34 : chX 34 = [172, 115, 28, 41, 133, 124, 188, 12, 40, 77, 208, 143, 246, 20, 8, 254] := by
  show midF (2 :: midF [3, 34, 102, 156, 13, 65, 161, 239, 112, 28, 109, 250, 112, 69, 244, 65, 172, 77]) = _
  rw [st0_136, st0_137]
theorem cx_35 : chX 35 = [152, 61, 7, 113, 231, 184, 223, 115, 142, 174, 237, 86, 52, 238, 186, 47] := by
  show midF (2 :: midF (2 :: midF (2 :: midF [3, 35, 102, 156, 13, 65, 161, 239, 112, 28, 109, 250, 112, 69, 244, 65, 172, 77]))) = _
  rw [st0_140, st0_141, st0_142, st0_143]
theorem xt_18 : midF [2, 252, 191, 117, 142, 174, 154, 66, 209, 98, 85, 170, 14, 141, 218, 192, 145] = [60, 104, 166, 243, 131, 124, 203, 61, 152, 58, 197, 176, 38, 76, 101, 160] := by decide +kernel
theorem cx_36 : chX 36 = [60, 104, 166, 243, 131, 124, 203, 61, 152, 58, 197, 176, 38, 76, 101, 160] := by
  show midF (2 :: midF (2 :: midF (2 :: midF (2 :: midF [3, 36, 102, 156, 13, 65, 161, 239, 112, 28, 109, 250, 112, 69, 244, 65, 172, 77])))) = _
  rw [st0_144, st0_145, st0_146, st0_147, xt_18]
theorem cx_37 : chX 37 = [11, 172, 215, 75, 227, 247, 222, 242, 106, 250, 88, 177, 231, 240, 14, 24] := by
  show midF (2 :: midF (2 :: midF [3, 37, 102, 156, 13, 65, 161, 239, 112, 28, 109, 250, 112, 69, 244, 65, 172, 77])) = _
  rw [st0_148, st0_149, st0_150]
theorem cx_38 : chX 38 = [137, 39, 66, 216, 139, 41, 155, 10, 65, 179, 61, 168, 85, 220, 224, 40] := by
  show midF (2 :: midF [3, 38, 102, 156, 13, 65, 161, 239, 112, 28, 109, 250, 112, 69, 244, 65, 172, 77]) = _
  rw [st0_152, st0_153]
theorem cx_39 : chX 39 = [57, 187, 90, 42, 34, 215, 108, 91, 143, 105, 59, 85, 22, 230, 249, 143] := by
  show midF (2 :: midF (2 :: midF [3, 39, 102, 156, 13, 65, 161, 239, 112, 28, 109, 250, 112, 69, 244, 65, 172, 77])) = _
  rw [st0_156, st0_157, st0_158]
theorem cx_40 : chX 40 = [62, 240, 96, 114, 33, 108, 136, 134, 206, 254, 164, 54, 231, 23, 224, 21] := by
  show midF (2 :: midF (2 :: midF [3, 40, 102, 156, 13, 65, 161, 239, 112, 28, 109, 250, 112, 69, 244, 65, 172, 77])) = _
  rw [st0_160, st0_161, st0_162]
theorem xt_19 : midF [2, 122, 21, 230, 137, 233, 98, 16, 143, 135, 72, 10, 160, 223, 2, 135, 252] = [216, 202, 200, 208, 16, 10, 197, 241, 70, 185, 135, 8, 85, 173, 63, 60] := by decide +kernel
theorem cx_41 : chX 41 = [216, 202, 200, 208, 16, 10, 197, 241, 70, 185, 135, 8, 85, 173, 63, 60] := by
  show midF (2 :: midF (2 :: midF (2 :: midF (2 :: midF [3, 41, 102, 156, 13, 65, 161, 239, 112, 28, 109, 250, 112, 69, 244, 65, 172, 77])))) = _
  rw [st0_164, st0_165, st0_166, st0_167, xt_19]
theorem cx_42 : chX 42 = [145, 210, 25, 157, 1, 208, 94, 247, 19, 73, 3, 92, 225, 186, 156, 25] := by
  show midF (2 :: midF (2 :: midF (2 :: midF [3, 42, 102, 156, 13, 65, 161, 239, 112, 28, 109, 250, 112, 69, 244, 65, 172, 77]))) = _
  rw [st0_168, st0_169, st0_170, st0_171]
theorem cx_43 : chX 43 = [5, 153, 155, 54, 34, 207, 115, 6, 178, 158, 55, 176, 69, 162, 49, 209] := by
  show midF (2 :: midF (2 :: midF [3, 43, 102, 156, 13, 65, 161, 239, 112, 28, 109, 250, 112, 69, 244, 65, 172, 77])) = _
  rw [st0_172, st0_173, st0_174]
theorem cx_44 : chX 44 = [192, 49, 229, 108, 207, 122, 181, 12, 177, 173, 195, 47, 23, 249, 123, 161] := by
  show midF (2 :: midF (2 :: midF [3, 44, 102, 156, 13, 65, 161, 239, 112, 28, 109, 250, 112, 69, 244, 65, 172, 77])) = _
  rw [st0_176, st0_177, st0_178]
theorem cx_45 : chX 45 = [164, 209, 59, 142, 90, 20, 255, 26, 112, 12, 8, 184, 204, 62, 123, 169] := by
  show midF (2 :: midF (2 :: midF (2 :: midF [3, 45, 102, 156, 13, 65, 161, 239, 112, 28, 109, 250, 112, 69, 244, 65, 172, 77]))) = _
  rw [st0_180, st0_181, st0_182, st0_183]
theorem xt_20 : midF [2, 166, 205, 101, 167, 81, 188, 71, 66, 20, 40, 242, 165, 161, 87, 54, 72] = [186, 153, 30, 242, 111, 219, 133, 178, 75, 45, 176, 250, 171, 221, 88, 55] := by decide +kernel
theorem cx_46 : chX 46 = [186, 153, 30, 242, 111, 219, 133, 178, 75, 45, 176, 250, 171, 221, 88, 55] := by
  show midF (2 :: midF (2 :: midF (2 :: midF (2 :: midF [3, 46, 102, 156, 13, 65, 161, 239, 112, 28, 109, 250, 112, 69, 244, 65, 172, 77])))) = _
  rw [st0_184, st0_185, st0_186, st0_187, xt_20]
theorem cx_47 : chX 47 = [175, 251, 66, 40, 184, 5, 178, 227, 5, 254, 113, 231, 247, 213, 9, 194] := by
  show midF (2 :: midF [3, 47, 102, 156, 13, 65, 161, 239, 112, 28, 109, 250, 112, 69, 244, 65, 172, 77]) = _
  rw [st0_188, st0_189]
theorem xt_21 : midF [2, 59, 25, 155, 140, 171, 137, 87, 229, 22, 55, 104, 33, 194, 122, 212, 179] = [234, 197, 91, 215, 82, 196, 37, 4, 245, 218, 115, 238, 151, 55, 206, 217] := by decide +kernel
theorem xt_22 : midF [2, 234, 197, 91, 215, 82, 196, 37, 4, 245, 218, 115, 238, 151, 55, 206, 217] = [253, 235, 71, 16, 3, 135, 234, 164, 233, 241, 37, 83, 44, 165, 248, 0] := by decide +kernel
theorem cx_48 : chX 48 = [253, 235, 71, 16, 3, 135, 234, 164, 233, 241, 37, 83, 44, 165, 248, 0] := by
  show midF (2 :: midF (2 :: midF (2 :: midF (2 :: midF (2 :: midF [3, 48, 102, 156, 13, 65, 161, 239, 112, 28, 109, 250, 112, 69, 244, 65, 172, 77]))))) = _
  rw [st0_192, st0_193, st0_194, st0_195, xt_21, xt_22]
theorem cx_49 : chX 49 = [158, 89, 13, 125, 72, 110, 153, 8, 195, 147, 189, 81, 56, 252, 49, 180] := by
  show midF (2 :: midF [3, 49, 102, 156, 13, 65, 161, 239, 112, 28, 109, 250, 112, 69, 244, 65, 172, 77]) = _
  rw [st0_196, st0_197]
theorem cx_50 : chX 50 = [191, 49, 186, 104, 14, 192, 243, 244, 16, 162, 102, 80, 118, 191, 62, 211] := by
  show midF (2 :: midF (2 :: midF (2 :: midF [3, 50, 102, 156, 13, 65, 161, 239, 112, 28, 109, 250, 112, 69, 244, 65, 172, 77]))) = _
  rw [st0_200, st0_201, st0_202, st0_203]
theorem xt_23 : midF [2, 209, 159, 152, 209, 0, 138, 47, 142, 17, 134, 153, 125, 50, 250, 60, 4] = [0, 1, 196, 223, 207, 226, 198, 197, 236, 148, 28, 212, 76, 89, 122, 195] := by decide +kernel
theorem cx_51 : chX 51 = [0, 1, 196, 223, 207, 226, 198, 197, 236, 148, 28, 212, 76, 89, 122, 195] := by
  show midF (2 :: midF (2 :: midF (2 :: midF (2 :: midF [3, 51, 102, 156, 13, 65, 161, 239, 112, 28, 109, 250, 112, 69, 244, 65, 172, 77])))) = _
  rw [st0_204, st0_205, st0_206, st0_207, xt_23]
theorem xt_24 : midF [2, 128, 70, 233, 178, 68, 182, 53, 119, 104, 44, 105, 25, 4, 220, 72, 181] = [112, 109, 78, 182, 13, 165, 37, 132, 140, 94, 29, 220, 242, 249, 223, 192] := by decide +kernel
theorem xt_25 : midF [2, 112, 109, 78, 182, 13, 165, 37, 132, 140, 94, 29, 220, 242, 249, 223, 192] = [170, 169, 251, 209, 42, 31, 96, 142, 253, 160, 131, 72, 186, 132, 219, 65] := by decide +kernel
theorem cx_52 : chX 52 = [170, 169, 251, 209, 42, 31, 96, 142, 253, 160, 131, 72, 186, 132, 219, 65] := by
  show midF (2 :: midF (2 :: midF (2 :: midF (2 :: midF (2 :: midF [3, 52, 102, 156, 13, 65, 161, 239, 112, 28, 109, 250, 112, 69, 244, 65, 172, 77]))))) = _
  rw [st0_208, st0_209, st0_210, st0_211, xt_24, xt_25]
theorem cx_53 : chX 53 = [163, 173, 202, 230, 182, 30, 105, 103, 91, 87, 205, 70, 69, 224, 130, 26] := by
  show midF (2 :: midF (2 :: midF (2 :: midF [3, 53, 102, 156, 13, 65, 161, 239, 112, 28, 109, 250, 112, 69, 244, 65, 172, 77]))) = _
  rw [st0_212, st0_213, st0_214, st0_215]
theorem cx_54 : chX 54 = [251, 203, 89, 96, 178, 75, 149, 69, 226, 68, 197, 14, 211, 134, 37, 64] := by
  show midF (2 :: midF (2 :: midF (2 :: midF [3, 54, 102, 156, 13, 65, 161, 239, 112, 28, 109, 250, 112, 69, 244, 65, 172, 77]))) = _
  rw [st0_216, st0_217, st0_218, st0_219]
theorem cx_55 : chX 55 = [153, 76, 168, 247, 75, 195, 28, 191, 208, 50, 95, 37, 200, 21, 240, 114] := by
  show midF (2 :: midF (2 :: midF (2 :: midF [3, 55, 102, 156, 13, 65, 161, 239, 112, 28, 109, 250, 112, 69, 244, 65, 172, 77]))) = _
  rw [st0_220, st0_221, st0_222, st0_223]
theorem cx_56 : chX 56 = [103, 222, 156, 185, 115, 197, 95, 134, 107, 75, 162, 245, 139, 103, 199, 77] := by
  show midF (2 :: midF (2 :: midF [3, 56, 102, 156, 13, 65, 161, 239, 112, 28, 109, 250, 112, 69, 244, 65, 172, 77])) = _
  rw [st0_224, st0_225, st0_226]
theorem xt_26 : midF [2, 69, 236, 127, 155, 138, 15, 209, 132, 73, 123, 74, 171, 159, 56, 224, 9] = [116, 63, 209, 199, 166, 36, 169, 63, 151, 73, 55, 124, 199, 160, 105, 130] := by decide +kernel
theorem xt_27 : midF [2, 116, 63, 209, 199, 166, 36, 169, 63, 151, 73, 55, 124, 199, 160, 105, 130] = [42, 67, 243, 75, 13, 254, 184, 119, 111, 218, 216, 247, 240, 108, 249, 246] := by decide +kernel
theorem cx_57 : chX 57 = [42, 67, 243, 75, 13, 254, 184, 119, 111, 218, 216, 247, 240, 108, 249, 246] := by
  show midF (2 :: midF (2 :: midF (2 :: midF (2 :: midF (2 :: midF [3, 57, 102, 156, 13, 65, 161, 239, 112, 28, 109, 250, 112, 69, 244, 65, 172, 77]))))) = _
  rw [st0_228, st0_229, st0_230, st0_231, xt_26, xt_27]
theorem cx_58 : chX 58 = [110, 121, 190, 150, 217, 30, 147, 55, 71, 12, 179, 56, 57, 238, 144, 219] := by
  show midF (2 :: midF (2 :: midF (2 :: midF [3, 58, 102, 156, 13, 65, 161, 239, 112, 28, 109, 250, 112, 69, 244, 65, 172, 77]))) = _
  rw [st0_232, st0_233, st0_234, st0_235]
theorem cx_59 : chX 59 = [169, 240, 170, 157, 215, 235, 192, 151, 243, 123, 3, 171, 94, 40, 135, 146] := by
  show midF (2 :: midF (2 :: midF (2 :: midF [3, 59, 102, 156, 13, 65, 161, 239, 112, 28, 109, 250, 112, 69, 244, 65, 172, 77]))) = _
  rw [st0_236, st0_237, st0_238, st0_239]
theorem cx_60 : chX 60 = [209, 239, 145, 212, 162, 189, 52, 200, 141, 241, 188, 79, 210, 84, 0, 184] := by
  show midF (2 :: midF [3, 60, 102, 156, 13, 65, 161, 239, 112, 28, 109, 250, 112, 69, 244, 65, 172, 77]) = _
  rw [st0_240, st0_241]
theorem cx_61 : chX 61 = [86, 148, 30, 20, 148, 218, 229, 154, 174, 51, 25, 105, 47, 203, 17, 134] := by
  show midF (2 :: midF (2 :: midF [3, 61, 102, 156, 13, 65, 161, 239, 112, 28, 109, 250, 112, 69, 244, 65, 172, 77])) = _
  rw [st0_244, st0_245, st0_246]
theorem cx_62 : chX 62 = [177, 148, 36, 241, 46, 75, 86, 9, 24, 193, 213, 1, 250, 9, 118, 213] := by
  show midF (2 :: midF [3, 62, 102, 156, 13, 65, 161, 239, 112, 28, 109, 250, 112, 69, 244, 65, 172, 77]) = _
  rw [st0_248, st0_249]
theorem xt_28 : midF [2, 185, 157, 169, 35, 20, 37, 6, 134, 154, 141, 58, 45, 149, 31, 67, 206] = [63, 245, 44, 122, 81, 232, 66, 76, 66, 135, 131, 95, 249, 48, 195, 224] := by decide +kernel
theorem xt_29 : midF [2, 63, 245, 44, 122, 81, 232, 66, 76, 66, 135, 131, 95, 249, 48, 195, 224] = [42, 105, 129, 182, 22, 194, 100, 196, 49, 175, 73, 32, 214, 224, 107, 239] := by decide +kernel
theorem cx_63 : chX 63 = [42, 105, 129, 182, 22, 194, 100, 196, 49, 175, 73, 32, 214, 224, 107, 239] := by
  show midF (2 :: midF (2 :: midF (2 :: midF (2 :: midF (2 :: midF [3, 63, 102, 156, 13, 65, 161, 239, 112, 28, 109, 250, 112, 69, 244, 65, 172, 77]))))) = _
  rw [st0_252, st0_253, st0_254, st0_255, xt_28, xt_29]
theorem cx_64 : chX 64 = [180, 33, 130, 68, 127, 227, 192, 252, 15, 1, 25, 19, 164, 61, 179, 102] := by
  show midF (2 :: midF (2 :: midF (2 :: midF [3, 64, 102, 156, 13, 65, 161, 239, 112, 28, 109, 250, 112, 69, 244, 65, 172, 77]))) = _
  rw [st0_256, st0_257, st0_258, st0_259]
theorem cx_65 : chX 65 = [39, 225, 164, 254, 22, 48, 227, 89, 80, 26, 97, 188, 239, 207, 207, 34] := by
  show midF (2 :: midF [3, 65, 102, 156, 13, 65, 161, 239, 112, 28, 109, 250, 112, 69, 244, 65, 172, 77]) = _
  rw [st0_260, st0_261]
theorem xt_30 : midF [2, 178, 152, 239, 149, 181, 110, 16, 6, 27, 106, 253, 147, 187, 254, 178, 98] = [80, 189, 233, 192, 179, 242, 178, 108, 72, 231, 209, 186, 129, 218, 230, 196] := by decide +kernel
theorem cx_66 : chX 66 = [80, 189, 233, 192, 179, 242, 178, 108, 72, 231, 209, 186, 129, 218, 230, 196] := by
  show midF (2 :: midF (2 :: midF (2 :: midF (2 :: midF [3, 66, 102, 156, 13, 65, 161, 239, 112, 28, 109, 250, 112, 69, 244, 65, 172, 77])))) = _
  rw [st0_264, st0_265, st0_266, st0_267, xt_30]
theorem cx_67 : chX 67 = [166, 198, 254, 227, 10, 12, 162, 119, 229, 73, 16, 95, 11, 194, 38, 149] := by
  show midF (2 :: midF (2 :: midF (2 :: midF [3, 67, 102, 156, 13, 65, 161, 239, 112, 28, 109, 250, 112, 69, 244, 65, 172, 77]))) = _
  rw [st0_268, st0_269, st0_270, st0_271]
theorem leaf6 : recL [6, 5, 101, 110, 116, 114, 121, 7, 33, 104, 97, 108, 108, 58, 48, 1, 1, 1, 6, 32, 0, 0, 0, 0, 0, 0, 0, 0, 0, 0, 0, 0, 0, 0, 0, 0, 0, 0, 0, 0, 0, 0, 0, 0, 0, 0, 0, 0, 0, 0, 0, 0, 1, 120] (signL (seedL [115] 0) [6, 5, 101, 110, 116, 114, 121, 7, 33, 104, 97, 108, 108, 58, 48, 1, 1, 1, 5, 32, 0, 0, 0, 0, 0, 0, 0, 0, 0, 0, 0, 0, 0, 0, 0, 0, 0, 0, 0, 0, 0, 0, 0, 0, 0, 0, 0, 0, 0, 0, 0, 0, 1, 120]) = [242, 124, 105, 156, 171, 149, 251, 141, 237, 14, 184, 168, 224, 205, 36, 153, 117, 124, 137, 154, 46, 165, 71, 57, 154, 109, 77, 238, 72, 219, 231, 65] := by
  rw [rec_other, dg5, dg6, seedN0, shaF_eq]
  have e : catL (fun j => walkL (startL [102, 156, 13, 65, 161, 239, 112, 28, 109, 250, 112, 69, 244, 65, 172, 77] j) (([1, 2, 3, 3, 0, 2, 0, 3, 2, 1, 3, 1, 0, 0, 2, 2, 0, 3, 1, 3, 1, 3, 1, 0, 2, 0, 2, 1, 0, 0, 1, 1, 0, 3, 1, 2, 3, 0, 0, 2, 0, 1, 0, 2, 1, 3, 1, 1, 3, 0, 0, 1, 2, 0, 2, 0, 1, 2, 0, 1, 1, 0, 0, 3, 0, 0, 3, 1] : List Nat).getD j 0 + (3 - ([0, 1, 2, 0, 2, 2, 1, 1, 3, 1, 3, 2, 0, 2, 1, 0, 0, 1, 3, 3, 1, 1, 2, 2, 2, 1, 0, 1, 2, 3, 2, 0, 0, 3, 3, 2, 2, 1, 2, 3, 1, 0, 0, 3, 2, 3, 0, 3, 1, 2, 0, 0, 0, 0, 2, 0, 2, 0, 0, 1, 3, 1, 2, 1, 0, 2, 2, 1] : List Nat).getD j 0))) 68 = catL chX 68 :=
    catL_congr _ _ _ fun j hj => by rw [exs_eq j hj]; unfold startL chX; rw [walkF_eq, midF_eq]
  rw [e]
  unfold catL
  rw [show List.range 68 = ([0, 1, 2, 3, 4, 5, 6, 7, 8, 9, 10, 11, 12, 13, 14, 15, 16] ++ [17, 18, 19, 20, 21, 22, 23, 24, 25, 26, 27, 28, 29, 30, 31, 32, 33] ++ [34, 35, 36, 37, 38, 39, 40, 41, 42, 43, 44, 45, 46, 47, 48, 49, 50] ++ [51, 52, 53, 54, 55, 56, 57, 58, 59, 60, 61, 62, 63, 64, 65, 66, 67] : List Nat) from rfl]
  simp only [List.flatMap_append, List.flatMap_cons, List.flatMap_nil, cx_0, cx_1, cx_2, cx_3, cx_4, cx_5, cx_6, cx_7, cx_8, cx_9, cx_10, cx_11, cx_12, cx_13, cx_14, cx_15, cx_16, cx_17, cx_18, cx_19, cx_20, cx_21, cx_22, cx_23, cx_24, cx_25, cx_26, cx_27, cx_28, cx_29, cx_30, cx_31, cx_32, cx_33, cx_34, cx_35, cx_36, cx_37, cx_38, cx_39, cx_40, cx_41, cx_42, cx_43, cx_44, cx_45, cx_46, cx_47, cx_48, cx_49, cx_50, cx_51, cx_52, cx_53, cx_54, cx_55, cx_56, cx_57, cx_58, cx_59, cx_60, cx_61, cx_62, cx_63, cx_64, cx_65, cx_66, cx_67]
  decide +kernel
theorem path6 : pathV (leafL [115] 1) (0 : Nat) = [[116, 114, 126, 235, 204, 156, 53, 229, 79, 85, 47, 115, 7, 142, 228, 51, 173, 35, 236, 27, 117, 190, 31, 217, 22, 236, 238, 183, 255, 165, 187, 204]] := by
  have e : leafL [115] 1 = [pubL (seedL [115] 0), pubL (seedL [115] 1)] := by
    unfold leafL
    rw [show List.range (2 ^ 1) = [0, 1] from rfl, List.map_cons, List.map_cons, List.map_nil]
  rw [e]
  have ho : okP 2 ((0 : Nat) : Int) = true := by decide +kernel
  have hh : hiN 2 = 1 := by decide +kernel
  unfold pathV
  rw [show [pubL (seedL [115] 0), pubL (seedL [115] 1)].length = 2 from rfl, if_pos ho, hh]
  have e2 : refP 1 [pubL (seedL [115] 0), pubL (seedL [115] 1)] 0 = [refR 0 [pubL (seedL [115] 1)]] := by
    have e0 : ∀ (a : List (List UInt8)) (b : Nat), refP 0 a b = [] := fun a b => by unfold refP; rfl
    conv => lhs; unfold refP
    rw [if_pos (by decide), e0]
    rfl
  rw [show (((0 : Nat) : Int)).toNat = 0 from rfl, e2, refR_zero, pubN1]
theorem climb6 : climbV [242, 124, 105, 156, 171, 149, 251, 141, 237, 14, 184, 168, 224, 205, 36, 153, 117, 124, 137, 154, 46, 165, 71, 57, 154, 109, 77, 238, 72, 219, 231, 65] ((0 : Nat) : Int) [[116, 114, 126, 235, 204, 156, 53, 229, 79, 85, 47, 115, 7, 142, 228, 51, 173, 35, 236, 27, 117, 190, 31, 217, 22, 236, 238, 183, 255, 165, 187, 204]] = [7, 40, 155, 86, 173, 193, 102, 95, 90, 175, 50, 109, 158, 101, 38, 185, 236, 96, 157, 32, 168, 40, 43, 186, 18, 179, 78, 212, 101, 177, 36, 201] := by
  have ho : okC 1 ((0 : Nat) : Int) = true := by decide +kernel
  unfold climbV
  rw [show ([[116, 114, 126, 235, 204, 156, 53, 229, 79, 85, 47, 115, 7, 142, 228, 51, 173, 35, 236, 27, 117, 190, 31, 217, 22, 236, 238, 183, 255, 165, 187, 204]] : List (List UInt8)).length = 1 from rfl, if_pos ho]
  show abvL [242, 124, 105, 156, 171, 149, 251, 141, 237, 14, 184, 168, 224, 205, 36, 153, 117, 124, 137, 154, 46, 165, 71, 57, 154, 109, 77, 238, 72, 219, 231, 65] [116, 114, 126, 235, 204, 156, 53, 229, 79, 85, 47, 115, 7, 142, 228, 51, 173, 35, 236, 27, 117, 190, 31, 217, 22, 236, 238, 183, 255, 165, 187, 204] = _
  rw [abvL_eq, shaF_eq]
  rw [show txtL [242, 124, 105, 156, 171, 149, 251, 141, 237, 14, 184, 168, 224, 205, 36, 153, 117, 124, 137, 154, 46, 165, 71, 57, 154, 109, 77, 238, 72, 219, 231, 65] [116, 114, 126, 235, 204, 156, 53, 229, 79, 85, 47, 115, 7, 142, 228, 51, 173, 35, 236, 27, 117, 190, 31, 217, 22, 236, 238, 183, 255, 165, 187, 204] = [1, 242, 124, 105, 156, 171, 149, 251, 141, 237, 14, 184, 168, 224, 205, 36, 153, 117, 124, 137, 154, 46, 165, 71, 57, 154, 109, 77, 238, 72, 219, 231, 65] ++ [116, 114, 126, 235, 204, 156, 53, 229, 79, 85, 47, 115, 7, 142, 228, 51, 173, 35, 236, 27, 117, 190, 31, 217, 22, 236, 238, 183, 255, 165, 187, 204] from by unfold txtL; rfl]
  decide +kernel
/-- The entry of index 6 under the signature of the entry of index 5. -/
theorem vf_six : vfE (rootV (leafL [115] 1)) 1 (eT (⟨⟨#[33, 104, 97, 108, 108, 58, 48]⟩, 1, 6, z32e, ⟨#[120]⟩, ⟨#[]⟩⟩ : En)) (mkS (sigL [115] 1 0 (eT (⟨⟨#[33, 104, 97, 108, 108, 58, 48]⟩, 1, 5, z32e, ⟨#[120]⟩, ⟨#[]⟩⟩ : En)).data.toList)) = 9 := by
  have h := vf_other (S := ⟨#[115]⟩) (h := 1) (m := 0) (eT (⟨⟨#[33, 104, 97, 108, 108, 58, 48]⟩, 1, 5, z32e, ⟨#[120]⟩, ⟨#[]⟩⟩ : En)) (eT (⟨⟨#[33, 104, 97, 108, 108, 58, 48]⟩, 1, 6, z32e, ⟨#[120]⟩, ⟨#[]⟩⟩ : En)) (rootV (leafL [115] 1)) (by decide) (by decide)
  rw [show (⟨#[115]⟩ : ByteArray).data.toList = [115] from rfl] at h
  refine h.trans ?_
  rw [t5, t6, leaf6, path6, climb6, rootN]
  exact if_neg (by decide)
end Go.Proofs.YtldokjbfnhgamaaGreatDoor.En
