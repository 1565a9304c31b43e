/-
  What stands beside a network: a law's calls, and what stays true.
-/
import Derived.Test.YtokakgjcegmabaaNtS
import Derived.Test.YtokakgjcegmabaaNtL
import Derived.Test.YtokakgjcegmabaaOctI
namespace Go.Proofs.Ytokakgjcegmabaa.Nt
set_option maxRecDepth 100000
set_option linter.unusedVariables false
set_option linter.unusedSimpArgs false
open Go.RowKit
open List (getElem_toArray getElem_cons_zero getElem_cons_succ setIfInBounds_toArray set_cons_zero set_cons_succ)
open Vs (VsAt)
/-- A call among a law's arguments. -/
structure Ac where
  k : Int
  n : Int
  t : ByteArray
def Ac.row (x : Ac) : List Value := [.int .i64 x.k, .int .i64 x.n, .string x.t]
def AsAt (w : World) (v : Value) (acs : List Ac) : Prop := Rw.RsAt 3 w v (acs.map Ac.row) ∧ ∀ x ∈ acs, x.t.size ≤ 140737488351232
theorem tyA : Rw.RowTy Try.prog 22 34 3 32 [.int .i64 0, .int .i64 0, .string ⟨#[]⟩] := ⟨by decide, by decide, by decide, rfl, by kernel_rfl, by kernel_rfl, ⟨_, Try.underlying34⟩, by kernel_rfl⟩
theorem rtA : Rt.RT Try.prog 34 3 [.int .i64 0, .int .i64 0, .string ⟨#[]⟩] := ⟨rfl, .inl ⟨_, Try.underlying34⟩, by kernel_rfl⟩
theorem AsAt.get {w : World} {v : Value} {acs : List Ac} (h : AsAt w v acs) (hp : 0 < acs.length) : ∃ g off c, v = .slice (some ⟨g, off, none⟩) acs.length c ∧ g < w.heap.size ∧ ∀ i (hi : i < acs.length), w.rangeAt g (off + 3 * i) (acs[i]).row := by
  obtain ⟨g, off, c, e, hc, hg, hr⟩ := h.1.get (by simpa using hp)
  rw [List.length_map] at e
  exact ⟨g, off, c, e, hg, fun i hi => by have := Rw.rAt_nth hr h.1.1 i (by simpa using hi); simpa using this⟩
theorem AsAt.form {w : World} {v : Value} {acs : List Ac} (h : AsAt w v acs) : ∃ a c, v = .slice a acs.length c := by
  obtain ⟨a, c, e⟩ := h.1.form; exact ⟨a, c, by rw [e, List.length_map]⟩
theorem NetAt.stp {w W : World} {b B c t : Nat} {v : Value} {L : List ByteArray} {m n : Int} {xs : List Value} (h : NetAt w b B v L m n) (st : Rt.Stp c w W) (ha : Arr w c t xs) (h1 : t ≠ 80) (h2 : t ≠ 9) : NetAt W b B v L m n := by
  refine ⟨st.arr ?_ h.arr, Sl.own_stp h.own st ha h2⟩
  rintro rfl
  have e : (Obj.cells (nR v m n).toArray 80) = Obj.cells xs.toArray t := Option.some.inj (h.arr.symm.trans ha)
  injection e with _ e2
  exact h1 e2.symm
theorem M_g2 {N b : Nat} {w0 W W' : World} {Lb : List Mm.Bx} {v : Value} {L : List ByteArray} {m n : Int} (H : Mm.M N w0 W Lb) (g : G2 b v.ownBlock W W') (h : NetAt W b N v L m n) (hb : N ≤ b) (ht : ∀ x ∈ Lb, x.t ≠ 80 ∧ x.t ≠ 9) : Mm.M N w0 W' Lb := by
  refine ⟨H.below.trans (g.below H.le hb h.blk), Nat.le_trans H.le g.size, H.ge, H.inc, fun x hx => ?_⟩
  have ha := H.has x hx
  refine g.arr ha ?_ (fun e => not_row_cells ha (ht x hx).2 h.own e)
  intro e
  have ha' := ha
  rw [e] at ha'
  have e : (Obj.cells (nR v m n).toArray 80) = Obj.cells x.r.toArray x.t := Option.some.inj (h.arr.symm.trans ha')
  injection e with _ e2
  exact (ht x hx).1 e2.symm
theorem VsAt.g2 {b N : Nat} {W W' : World} {u v : Value} {fs : List Value} {L : List ByteArray} {m n : Int} (h : VsAt W u fs) (g : G2 b v.ownBlock W W') (hn : NetAt W b N v L m n) (ap : ∀ x, u.ownBlock = some x → v.ownBlock ≠ some x) : VsAt W' u fs := by
  rcases h with h | ⟨p, off, c, e, hc, ⟨cur, fz, hg⟩, hr⟩
  · exact .inl h
  · have hl := (Array.getElem?_eq_some_iff.1 hg).1
    have hpb : p ≠ b := by
      rintro rfl
      have e1 : (Obj.cells (nR v m n).toArray 80) = Obj.cells cur 9 fz := Option.some.inj (hn.arr.symm.trans hg)
      injection e1 with _ e2
      exact absurd e2 (by decide)
    have hk := g.block p hl hpb (fun e' => ap p (by rw [e]; rfl) e'.symm)
    exact .inr ⟨p, off, c, e, hc, ⟨cur, fz, hk.trans hg⟩, fun j u hj => by rw [World.cell?_of_block (a := ⟨p, off + j, none⟩) hk]; exact hr j u hj⟩
theorem VsAt.lt {w : World} {v : Value} {fs : List Value} (h : VsAt w v fs) {g : Nat} (hg : v.ownBlock = some g) : g < w.heap.size := by
  rcases h with ⟨rfl, -⟩ | ⟨p, off, c, rfl, hc, ⟨cur, fz, hk⟩, -⟩
  · cases hg
  · cases hg; exact (Array.getElem?_eq_some_iff.1 hk).1
theorem NetAt.lt {w : World} {b B : Nat} {v : Value} {L : List ByteArray} {m n : Int} (h : NetAt w b B v L m n) {g : Nat} (hg : v.ownBlock = some g) : g < w.heap.size := VsAt.lt (VsAt.own h.own) hg
theorem ap_ref {W : World} {b N : Nat} {u u' v : Value} {L : List ByteArray} {m n : Int} (ap : ∀ x, u.ownBlock = some x → v.ownBlock ≠ some x) (r : Nr W u u') (h : NetAt W b N v L m n) : ∀ x, u'.ownBlock = some x → v.ownBlock ≠ some x := fun x hx hv => (r x hx).elim (fun e => ap x e hv) (fun e => by have := h.lt hv; omega)
theorem ap_net {W : World} {u v v' : Value} {fs : List Value} (ap : ∀ x, u.ownBlock = some x → v.ownBlock ≠ some x) (h : VsAt W u fs) (r : Nr W v v') : ∀ x, u.ownBlock = some x → v'.ownBlock ≠ some x := fun x hx hv => (r x hv).elim (fun e => ap x hx e) (fun e => by have := VsAt.lt h hx; omega)
/-- What stays true of a network's texts and counts. -/
structure Good (L : List ByteArray) (m n : Int) (i : Nat) : Prop where
  room : (L.length : Int) ≤ m
  n0 : 0 ≤ n
  ni : n ≤ i
  sz : ∀ k, (Sl.sAt L k).size ≤ 140737488351232
theorem sz_iff {L : List ByteArray} : (∀ k, (Sl.sAt L k).size ≤ 140737488351232) ↔ ∀ s ∈ L, s.size ≤ 140737488351232 := by
  constructor
  · intro h s hs
    obtain ⟨i, hi, rfl⟩ := List.getElem_of_mem hs
    rw [← Sl.sAt_get hi]; exact h i
  · intro h k
    by_cases hk : k < L.length
    · rw [Sl.sAt_get hk]; exact h _ (List.getElem_mem hk)
    · unfold Sl.sAt
      rw [List.getD_eq_getElem?_getD, List.getElem?_eq_none (by omega)]
      show (⟨#[]⟩ : ByteArray).size ≤ _; decide
theorem Good.mono {L : List ByteArray} {m n : Int} {i : Nat} (h : Good L m n i) : Good L m n (i + 1) := ⟨h.room, h.n0, by have := h.ni; omega, h.sz⟩
theorem Good.put {L : List ByteArray} {m n : Int} {i : Nat} (h : Good L m n i) {t : ByteArray} (ht : t.size ≤ 140737488351232) : Good (putL L m t) m (putN L m n) (i + 1) := by
  have h1 := h.room; have h2 := h.n0; have h3 := h.ni
  unfold putL putN
  by_cases hf : m ≤ (L.length : Int)
  · rw [if_pos hf, if_pos hf]; exact ⟨h.room, by omega, by omega, h.sz⟩
  · rw [if_neg hf, if_neg hf]
    refine ⟨by rw [List.length_append, List.length_singleton]; omega, h2, by omega, sz_iff.2 fun s hs => ?_⟩
    rcases List.mem_append.1 hs with hs | hs
    · exact sz_iff.1 h.sz s hs
    · rw [List.mem_singleton.1 hs]; exact ht
theorem Good.take {L : List ByteArray} {m n : Int} {i : Nat} (h : Good L m n i) (j : Int) : Good (tkL L j) m n (i + 1) := by
  have h1 := h.room; have h2 := h.n0; have h3 := h.ni
  unfold tkL
  split
  · exact ⟨by have := List.length_eraseIdx_le L j.toNat; omega, h2, by omega, sz_iff.2 fun s hs => sz_iff.1 h.sz s (List.mem_of_mem_eraseIdx hs)⟩
  · exact h.mono
theorem Good.drop {L : List ByteArray} {m n : Int} {i : Nat} (h : Good L m n i) (j : Int) : Good (tkL L j) m (drN L j n) (i + 1) := by
  have h4 := h.take j; have h2 := h.n0; have h3 := h.ni
  unfold drN
  split
  · exact ⟨h4.room, by omega, by omega, h4.sz⟩
  · exact h4
theorem Good.dbl {L : List ByteArray} {m n : Int} {i : Nat} (h : Good L m n i) (j : Int) : Good (dbL L m j) m (dbN L m n j) (i + 1) := by
  unfold dbL dbN
  split
  · exact h.put (h.sz _)
  · exact h.mono
theorem NetAt.base {w : World} {b B C : Nat} {v : Value} {L : List ByteArray} {m n : Int} (h : NetAt w b B v L m n) (hC : C ≤ B) : NetAt w b C v L m n := by
  refine ⟨h.arr, h.own.1, ?_⟩
  rcases h.own.2 with h0 | ⟨g, cap, cur, e, hB, r⟩
  · exact .inl h0
  · exact .inr ⟨g, cap, cur, e, by omega, r⟩
end Go.Proofs.Ytokakgjcegmabaa.Nt
