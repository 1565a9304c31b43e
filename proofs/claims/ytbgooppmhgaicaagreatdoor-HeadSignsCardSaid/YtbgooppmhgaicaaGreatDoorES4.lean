import Derived.Test.YtbgooppmhgaicaaGreatDoorEC
import Derived.Test.YtbgooppmhgaicaaGreatDoorED
import Derived.Test.YtbgooppmhgaicaaGreatDoorES1
import Derived.Test.YtbgooppmhgaicaaGreatDoorES2
import Derived.Test.YtbgooppmhgaicaaGreatDoorES3
import Derived.Test.YtbgooppmhgaicaaGreatDoorEM
set_option linter.unusedVariables false
set_option linter.unusedSimpArgs false
set_option maxHeartbeats 64000000
set_option maxRecDepth 100000
namespace Go.Proofs.YtbgooppmhgaicaaGreatDoor.En
open Go.RowKit
structure En where
 r : ByteArray
 e : Int
 i : Int
 p : List UInt8
 v : ByteArray
 g : ByteArray
def En.row (x : En) : List Value := [.string x.r, .int .i64 x.e, .int .i64 x.i] ++ u8s x.p ++ [.string x.v, .string x.g]
structure En.ok (x : En) : Prop where
 r : x.r.size ≤ 140737488351232
 p : x.p.length = 32
 v : x.v.size ≤ 140737488351232
 g : x.g.size ≤ 140737488351232
def z32e : List UInt8 := List.replicate 32 0
def zEn : En := ⟨⟨#[]⟩, 0, 0, z32e, ⟨#[]⟩, ⟨#[]⟩⟩
theorem En.len {x : En} (h : x.p.length = 32) : x.row.length = 37 := by unfold En.row; simp [u8s_length, h]
theorem En.one (x : En) : ∀ u ∈ x.row, u.oneCell' = true := by
 intro u hu
 unfold En.row at hu
 simp only [List.mem_append, List.mem_cons, List.not_mem_nil, or_false] at hu
 rcases hu with ((rfl | rfl | rfl) | hu) | (rfl | rfl)
 · rfl
 · rfl
 · rfl
 · exact (List.all_eq_true.1 (by have := u8s_one x.p; rwa [List.all_toArray] at this)) u hu
 · rfl
 · rfl
theorem En.get0 (x : En) : x.row[0]? = some (.string x.r) := rfl
theorem En.get1 (x : En) : x.row[1]? = some (.int .i64 x.e) := rfl
theorem En.get2 (x : En) : x.row[2]? = some (.int .i64 x.i) := rfl
theorem En.get35 {x : En} (h : x.p.length = 32) : x.row[35]? = some (.string x.v) := by
 unfold En.row
 rw [List.getElem?_append_right (by simp [u8s_length, h])]; simp [u8s_length, h]
theorem En.get36 {x : En} (h : x.p.length = 32) : x.row[36]? = some (.string x.g) := by
 unfold En.row
 rw [List.getElem?_append_right (by simp [u8s_length, h])]; simp [u8s_length, h]
theorem En.set35 {x : En} (h : x.p.length = 32) (s : ByteArray) : x.row.set 35 (.string s) = (⟨x.r, x.e, x.i, x.p, s, x.g⟩ : En).row := by
 unfold En.row
 rw [List.append_assoc, List.set_append]; simp [u8s_length, h, List.set_append]
theorem En.mid (x : En) : x.row.drop 3 = u8s x.p ++ [.string x.v, .string x.g] := rfl
def wEntry : ByteArray := ⟨#[101, 110, 116, 114, 121]⟩
def cnt (n : Int) : Bool := decide (0 ≤ n ∧ n ≤ 4096)
def eOk (x : En) : Bool := (who 2 x.r).isSome && cnt x.e && cnt x.i && decide (x.v.size ≤ 8192) && decide (x.g.size ≤ 8192)
def eE (x : En) : Int := if eOk x = true then 0 else 2
def eL (x : En) : List ByteArray := [wEntry, x.r, mkS (encN x.e.toNat), mkS (encN x.i.toNat), mkS x.p, x.v]
def eT (x : En) : ByteArray := if eOk x = true then mkS (encL (eL x)) else ByteArray.empty
def num4 (s : ByteArray) : Option Nat := match numOf s with
 | some n => if n ≤ 4096 then some n else none
 | none => none
def wSigE (x : En) (g : ByteArray) : En := ⟨x.r, x.e, x.i, x.p, x.v, g⟩
theorem eE_yes {x : En} (h : eOk x = true) : eE x = 0 := by unfold eE; rw [if_pos h]
theorem eE_no {x : En} (h : eOk x = false) : eE x = 2 := by unfold eE; rw [h]; rfl
theorem eT_yes {x : En} (h : eOk x = true) : eT x = mkS (encL (eL x)) := by unfold eT; rw [if_pos h]
theorem eT_no {x : En} (h : eOk x = false) : eT x = ByteArray.empty := by unfold eT; rw [h]; rfl
theorem eOk_parts {x : En} (h : eOk x = true) : (∃ n, who 2 x.r = some n) ∧ (0 ≤ x.e ∧ x.e ≤ 4096) ∧ (0 ≤ x.i ∧ x.i ≤ 4096) ∧ x.v.size ≤ 8192 ∧ x.g.size ≤ 8192 := by
 unfold eOk cnt at h
 simp only [Bool.and_eq_true, decide_eq_true_eq] at h
 obtain ⟨⟨⟨⟨h1, h2⟩, h3⟩, h4⟩, h5⟩ := h
 exact ⟨Option.isSome_iff_exists.1 h1, h2, h3, h4, h5⟩
theorem eOk_mk {x : En} (h1 : (who 2 x.r).isSome = true) (h2 : 0 ≤ x.e ∧ x.e ≤ 4096) (h3 : 0 ≤ x.i ∧ x.i ≤ 4096) (h4 : x.v.size ≤ 8192) (h5 : x.g.size ≤ 8192) : eOk x = true := by
 unfold eOk cnt
 simp only [Bool.and_eq_true, decide_eq_true_eq]
 exact ⟨⟨⟨⟨h1, h2⟩, h3⟩, h4⟩, h5⟩
theorem e4_len {n : Int} (h0 : 0 ≤ n) (h : n ≤ 4096) : (encN n.toNat).length ≤ 10 := encN_len64 _ (by omega)
theorem eL_ok {x : En} (h : eOk x = true) (hp : x.p.length = 32) : okL (eL x) := by
 obtain ⟨⟨n, h1⟩, h2, h3, h4, h5⟩ := eOk_parts h
 refine ⟨by simp [eL], fun s hs => ?_⟩
 have g1 := who_size h1; have e1 := e4_len h2.1 h2.2; have e2 := e4_len h3.1 h3.2
 simp only [eL, List.mem_cons, List.not_mem_nil, or_false] at hs
 rcases hs with rfl | rfl | rfl | rfl | rfl | rfl
 · show (wEntry).size ≤ 8192; decide
 · omega
 · rw [mkS_size]; omega
 · rw [mkS_size]; omega
 · rw [mkS_size]; omega
 · omega
theorem num4_back {n : Nat} (h : n ≤ 4096) : num4 (mkS (encN n)) = some n := by
 unfold num4; rw [numOf_back n (by omega)]; exact if_pos h
theorem num4_some {s : ByteArray} {n : Nat} (h : num4 s = some n) : mkS (encN n) = s ∧ n ≤ 4096 := by
 unfold num4 at h
 split at h
 · rename_i m hm
   split at h
   · simp only [Option.some.injEq] at h; subst h
     exact ⟨(numOf_some hm).1, by assumption⟩
   · cases h
 · cases h
theorem wSigE_ok {x : En} (h : eOk x = true) {g : ByteArray} (hg : g.size ≤ 8192) : eOk (wSigE x g) = true := by
 obtain ⟨h1, h2, h3, h4, h5⟩ := eOk_parts h
 exact eOk_mk (Option.isSome_iff_exists.2 h1) h2 h3 h4 hg
theorem eT_size (x : En) (hp : x.p.length = 32) : (eT x).size ≤ 65536 := by
 cases h : eOk x with
 | false => rw [eT_no h]; exact Nat.zero_le _
 | true =>
   have h0 := eL_ok h hp
   rw [eT_yes h, mkS_size]; unfold encL
   have e1 : (encTs (eL x)).length ≤ 6 * 8202 := by
    have e2 := encTs_take_len (eL x) 6 (by simp [eL]) h0
    have e3 : ∀ s ∈ eL x, (encT s).length ≤ 8202 := by
     intro s hs
     have := h0.2 s hs
     unfold encT
     rw [List.length_append, size_toList]
     have := encN_len64 s.size (by omega); omega
    unfold encTs
    simp only [eL, List.flatMap_cons, List.flatMap_nil, List.length_append, List.length_nil]
    have q0 := e3 wEntry (by simp [eL]); have q1 := e3 x.r (by simp [eL]); have q2 := e3 (mkS (encN x.e.toNat)) (by simp [eL]); have q3 := e3 (mkS (encN x.i.toNat)) (by simp [eL]); have q4 := e3 (mkS x.p) (by simp [eL]); have q5 := e3 x.v (by simp [eL])
    omega
   have e2 := encN_len64 (eL x).length (by simp [eL])
   rw [List.length_append]; omega
end Go.Proofs.YtbgooppmhgaicaaGreatDoor.En
namespace Go.Proofs.YtbgooppmhgaicaaGreatDoor.En
open Go.RowKit
theorem vf_other {S : ByteArray} {h m : Nat} (t u : ByteArray) (root : List UInt8) (hh : h ≤ 7) (hm : m < 2 ^ h) :
 vfE root h u (mkS (sigL S.data.toList h m t.data.toList)) = if climbV (recL u.data.toList (signL (seedL S.data.toList m) t.data.toList)) (m : Int) (pathV (leafL S.data.toList h) m) = root then 0 else 9 := by
 obtain ⟨hp, hz, hpl⟩ := sig_parts (S := S) t.data.toList hh hm
 unfold vfE
 rw [hpl]
 simp only [mkS_data]
 have e1 : (sigL S.data.toList h m t.data.toList).drop 1 = signL (seedL S.data.toList m) t.data.toList ++ flat (pathV (leafL S.data.toList h) m) := rfl
 have hs : (signL (seedL S.data.toList m) t.data.toList).length = 1088 := signL_len _ _
 have e2 : ((sigL S.data.toList h m t.data.toList).drop 1).take 1088 = signL (seedL S.data.toList m) t.data.toList := by
  rw [e1, List.take_append_of_le_length (by omega), List.take_of_length_le (by omega)]
 have e3 : (sigL S.data.toList h m t.data.toList).drop 1089 = flat (pathV (leafL S.data.toList h) m) := by
  unfold sigL sigH
  exact drop_1089 _ _ (by rw [List.length_cons, hs])
 refine (vf_key _ _ _ _ root (m : Int) e2 e3).trans ?_
 rw [hashes_flat _ (pathV_32 _ _ (leafL_32 _ _)), recV_yes _ _ hs]
theorem t5 : (eT (⟨⟨#[33, 104, 97, 108, 108, 58, 48]⟩, 1, 5, z32e, ⟨#[120]⟩, ⟨#[]⟩⟩ : En)).data.toList = [6, 5, 101, 110, 116, 114, 121, 7, 33, 104, 97, 108, 108, 58, 48, 1, 1, 1, 5, 32, 0, 0, 0, 0, 0, 0, 0, 0, 0, 0, 0, 0, 0, 0, 0, 0, 0, 0, 0, 0, 0, 0, 0, 0, 0, 0, 0, 0, 0, 0, 0, 0, 1, 120] := by decide +kernel
theorem path6 : pathV (leafL [115] 1) (0 : Nat) = [[116, 114, 126, 235, 204, 156, 53, 229, 79, 85, 47, 115, 7, 142, 228, 51, 173, 35, 236, 27, 117, 190, 31, 217, 22, 236, 238, 183, 255, 165, 187, 204]] := by
 have e : leafL [115] 1 = [pubL (seedL [115] 0), pubL (seedL [115] 1)] := by
  unfold leafL
  rw [show List.range (2 ^ 1) = [0, 1] from rfl, List.map_cons, List.map_cons, List.map_nil]
 rw [e]
 have ho : okP 2 ((0 : Nat) : Int) = true := by decide +kernel
 have hh : hiN 2 = 1 := by decide +kernel
 unfold pathV
 rw [show [pubL (seedL [115] 0), pubL (seedL [115] 1)].length = 2 from rfl, if_pos ho, hh]
 have e2 : refP 1 [pubL (seedL [115] 0), pubL (seedL [115] 1)] 0 = [refR 0 [pubL (seedL [115] 1)]] := by
  have e0 : ∀ (a : List (List UInt8)) (b : Nat), refP 0 a b = [] := fun a b => by unfold refP; rfl
  conv => lhs; unfold refP
  rw [if_pos (by decide), e0]
  rfl
 rw [show (((0 : Nat) : Int)).toNat = 0 from rfl, e2, refR_zero, pubP1]
theorem rootP : rootV (leafL [115] 1) = [1, 182, 6, 211, 135, 147, 53, 5, 245, 241, 205, 252, 197, 223, 231, 32, 130, 117, 182, 46, 173, 16, 191, 101, 209, 159, 7, 102, 245, 140, 192, 251] := by
 have e : leafL [115] 1 = [[133, 132, 226, 9, 67, 101, 124, 7, 112, 140, 113, 84, 118, 64, 209, 109, 80, 56, 159, 43, 199, 54, 251, 52, 131, 108, 173, 108, 134, 93, 87, 198], [116, 114, 126, 235, 204, 156, 53, 229, 79, 85, 47, 115, 7, 142, 228, 51, 173, 35, 236, 27, 117, 190, 31, 217, 22, 236, 238, 183, 255, 165, 187, 204]] := by
  unfold leafL
  rw [show List.range (2 ^ 1) = [0, 1] from rfl, List.map_cons, List.map_cons, List.map_nil, pubP0, pubP1]
 have root2 : ∀ a b : List UInt8, rootV [a, b] = abvL a b := fun a b => by
  have hf : fitN [a, b].length = true := show fitN 2 = true from by decide +kernel
  have hi : hiN [a, b].length = 0 + 1 := show hiN 2 = 1 from by decide +kernel
  unfold rootV
  rw [if_pos hf, hi, refR_succ]
  rw [show ([a, b] : List (List UInt8)).take (2 ^ 0) = [a] from rfl, show ([a, b] : List (List UInt8)).drop (2 ^ 0) = [b] from rfl, refR_zero, refR_zero]
 rw [e, root2, abvL_eq, shaF_eq]
 rw [show txtL [133, 132, 226, 9, 67, 101, 124, 7, 112, 140, 113, 84, 118, 64, 209, 109, 80, 56, 159, 43, 199, 54, 251, 52, 131, 108, 173, 108, 134, 93, 87, 198] [116, 114, 126, 235, 204, 156, 53, 229, 79, 85, 47, 115, 7, 142, 228, 51, 173, 35, 236, 27, 117, 190, 31, 217, 22, 236, 238, 183, 255, 165, 187, 204] = [1, 133, 132, 226, 9, 67, 101, 124, 7, 112, 140, 113, 84, 118, 64, 209, 109, 80, 56, 159, 43, 199, 54, 251, 52, 131, 108, 173, 108, 134, 93, 87, 198] ++ [116, 114, 126, 235, 204, 156, 53, 229, 79, 85, 47, 115, 7, 142, 228, 51, 173, 35, 236, 27, 117, 190, 31, 217, 22, 236, 238, 183, 255, 165, 187, 204] from by unfold txtL; rfl]
 decide +kernel
end Go.Proofs.YtbgooppmhgaicaaGreatDoor.En
