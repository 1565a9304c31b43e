
/-
  octet.List and the document's: the bytes of a list.
-/
import Derived.Test.YtbgooppmhgaicabOctE
namespace Go.Proofs.Ytbgooppmhgaicab
set_option linter.unusedVariables false
set_option linter.unusedSimpArgs false
set_option maxRecDepth 100000
open Go.RowKit

/-- A slice of texts in memory. -/
def StrsAt (w : World) (v : Value) (ss : List ByteArray) : Prop :=
  ∃ a cap, v = .slice a ss.length cap ∧ ∀ k (h : k < ss.length), ∃ b off, a = some ⟨b, off, none⟩ ∧ w.cell? ⟨b, off + k, none⟩ = some (.string ss[k])
theorem StrsAt.below {w w' : World} {v : Value} {ss : List ByteArray} (h : StrsAt w v ss) {B : Nat} (hb : Below B w w') (hB : w.heap.size ≤ B) : StrsAt w' v ss := by
  obtain ⟨a, cap, e, hc⟩ := h
  refine ⟨a, cap, e, fun k hk => ?_⟩
  obtain ⟨b, off, ea, hc⟩ := hc k hk
  refine ⟨b, off, ea, ?_⟩
  have := World.block_lt_of_cell? w _ hc
  rw [hb.cell (p := ⟨b, off + k, none⟩) (by simp at this ⊢; omega)]; exact hc

def encTs (ss : List ByteArray) : List UInt8 := ss.flatMap encT
def encL (ss : List ByteArray) : List UInt8 := encN ss.length ++ encTs ss
def okL (ss : List ByteArray) : Prop := ss.length ≤ 256 ∧ ∀ s ∈ ss, s.size ≤ 8192
instance (ss : List ByteArray) : Decidable (okL ss) := by unfold okL; exact inferInstance
def listS (ss : List ByteArray) : ByteArray := if okL ss then mkS (encL ss) else ByteArray.empty
def listE (ss : List ByteArray) : Int := if okL ss then 0 else 7
theorem listS_yes {ss : List ByteArray} (h : okL ss) : listS ss = mkS (encL ss) := by unfold listS; rw [if_pos h]
theorem listE_yes {ss : List ByteArray} (h : okL ss) : listE ss = 0 := by unfold listE; rw [if_pos h]
theorem listS_no {ss : List ByteArray} (h : ¬ okL ss) : listS ss = ByteArray.empty := by unfold listS; rw [if_neg h]
theorem listE_no {ss : List ByteArray} (h : ¬ okL ss) : listE ss = 7 := by unfold listE; rw [if_neg h]
theorem encT_len (t : ByteArray) (h : t.size ≤ 8192) : (encT t).length ≤ 8202 := by
  unfold encT; have := encN_len64 t.size (by omega); simp; omega
theorem encTs_len (ss : List ByteArray) (h : ∀ s ∈ ss, s.size ≤ 8192) : (encTs ss).length ≤ 8202 * ss.length := by
  induction ss with
  | nil => simp [encTs]
  | cons s ss ih =>
    have h1 := encT_len s (h s (by simp))
    have h2 := ih fun x hx => h x (by simp [hx])
    simp only [encTs, List.flatMap_cons, List.length_append, List.length_cons] at *
    omega
theorem encTs_take (ss : List ByteArray) (k : Nat) (h : k < ss.length) : encTs (ss.take (k + 1)) = encTs (ss.take k) ++ encT ss[k] := by
  unfold encTs
  rw [List.take_succ_eq_append_getElem h, List.flatMap_append]; simp
theorem encTs_take_len (ss : List ByteArray) (k : Nat) (hk : k ≤ ss.length) (h : okL ss) : (encTs (ss.take k)).length ≤ 8202 * 256 := by
  have := encTs_len (ss.take k) fun s hs => h.2 s (List.mem_of_mem_take hs)
  have h1 : (ss.take k).length ≤ 256 := by have := h.1; simp; omega
  omega

set_option maxHeartbeats 1000000 in
set_option maxRecDepth 20000 in
theorem list_any (w : World) (v : Value) (ss : List ByteArray) (hat : StrsAt w v ss) (hn : ss.length ≤ 140737488351232) (hs : ∀ s ∈ ss, s.size ≤ 140737488351232) :
    Calls Try.prog 15 #[v] w fun e w' => e = .returned (.tuple #[.string (listS ss), .int .i64 (listE ss)]) ∧ Below w.heap.size w w' := by
  obtain ⟨a, cap, rfl, hc⟩ := hat
  obtain ⟨n, hnn⟩ : ∃ n, ss.length = n := ⟨_, rfl⟩
  rw [hnn] at hn ⊢
  have HC := hidp hc; clear hc
  have HNN := hidp hnn; clear hnn
  have HS := hidp hs; clear hs
  by_cases h256 : n ≤ 256
  · obtain ⟨S, hS⟩ : ∃ S, S = listS ss := ⟨_, rfl⟩
    obtain ⟨E, hE⟩ : ∃ E, E = listE ss := ⟨_, rfl⟩
    rw [← hS, ← hE]
    have HSS := hidp hS; have HEE := hidp hE; clear hS hE
    go_enter Try.func15, Try.ntmps15
    go_wp2
    go_loop [14] (fun t14 => ∃ k : Nat, t14 = .int .i64 k ∧ k ≤ n ∧ ∀ j (h : j < ss.length), j < k → ss[j].size ≤ 8192) (fun t14 => n - (intOf t14).toNat)
    case atStart => exact ⟨0, rfl, by omega, by intro j _ h; omega⟩
    case round =>
      obtain ⟨k, rfl, hk, hall⟩ := hrel
      have HALL := hidp hall; clear hall
      by_cases hlt : k < n
      · have hlt' : k < ss.length := by have := HNN.out; omega
        obtain ⟨b, off, rfl, hcell⟩ := HC.out k hlt'
        obtain ⟨s, hs⟩ : ∃ s, ss[k] = s := ⟨_, rfl⟩
        have hsl : s.size ≤ 140737488351232 := by rw [← hs]; exact HS.out _ (List.getElem_mem hlt')
        rw [hs] at hcell
        have H2 := hidp hs; clear hs
        by_cases hbig : s.size ≤ 8192
        · go_wp2
          refine ⟨⟨k + 1, by go_num, by omega, fun j h hj => ?_⟩, by simp [intOf]; omega⟩
          by_cases hjk : j = k
          · subst hjk; have := H2.out; rw [this]; exact hbig
          · exact HALL.out j h (by omega)
        · have hno := hidp (show ¬ okL ss from fun h => hbig (by rw [← H2.out]; exact h.2 _ (List.getElem_mem hlt')))
          go_wp2
          go_ret2
          exact ⟨by rw [HSS.out, HEE.out, listS_no hno.out, listE_no hno.out]; rfl, Below.refl _ _⟩
      · have hok := hidp (show okL ss from ⟨by have := HNN.out; omega, fun s hs => by
          obtain ⟨j, hj, rfl⟩ := List.getElem_of_mem hs
          exact HALL.out j hj (by have := HNN.out; omega)⟩)
        have hl := encN_len64 n (by omega)
        go_wp2_with fail
        refine (addNum_own w w.heap.size (.slice none 0 0) [] n (by omega) (by simp) (Own.nil _ _ _) (Nat.le_refl _)).mono ?_
        rintro e w1 ⟨v1, rfl, ho1, hb1⟩
        go_wp2
        go_loopw [6, 28] (fun t6 t28 wr => ∃ k : Nat, t28 = .int .i64 k ∧ k ≤ n ∧ Own wr w.heap.size 5 t6 (encN n ++ encTs (ss.take k)) ∧ Below w.heap.size w wr) (fun _ t28 _ => n - (intOf t28).toNat)
        case atStart => exact ⟨0, rfl, by omega, by simpa [encTs] using ho1, hb1⟩
        case round =>
          obtain ⟨k, rfl, hk, ho, hb⟩ := hrel
          have hbs := hb.size
          by_cases hlt : k < n
          · have hlt' : k < ss.length := by have := HNN.out; omega
            obtain ⟨b, off, rfl, hcell⟩ := HC.out k hlt'
            have hcell2 := (hb.cell (p := ⟨b, off + k, none⟩) (by have := World.block_lt_of_cell? w _ hcell; simpa using this)).trans hcell
            clear hcell
            have hst := hidp (encTs_take ss k hlt')
            have hsm : ss[k].size ≤ 8192 := hok.out.2 _ (List.getElem_mem hlt')
            obtain ⟨s, hs⟩ : ∃ s, ss[k] = s := ⟨_, rfl⟩
            rw [hs] at hcell2 hsm
            have hst := hidp (hs ▸ hst.out)
            clear hs
            have hroom : (encN n ++ encTs (ss.take k)).length + 10 + s.size ≤ 140737488351232 := by
              have := encTs_take_len ss k (by omega) hok.out
              simp; omega
            have HA := hidp (addText_own wr w.heap.size _ _ s hroom ho hbs)
            go_wp2_with (go_at_call 28; (refine HA.out.mono ?_); rintro e w2 ⟨v2, rfl, ho2, hb2⟩)
            refine ⟨⟨k + 1, by go_num, by omega, by rw [hst.out, ← List.append_assoc]; exact ho2, hb.trans hb2⟩, by simp [intOf]; omega⟩
          · have hko : k = n := by omega
            have hful := hidp (show encN n ++ encTs (ss.take k) = encL ss from by unfold encL; rw [List.take_of_length_le (by have := HNN.out; omega), HNN.out])
            have ho3 : Own wr w.heap.size 5 _ (encL ss) := hful.out ▸ ho
            have hcv := run_str_own Try.underlying50 Try.underlying5 Try.underlying9 ho3
            clear ho ho3 hko ho1
            go_wp2
            go_ret2
            exact ⟨by rw [HSS.out, HEE.out, listS_yes hok.out, listE_yes hok.out]; rfl, hb⟩
  · have hno := hidp (show ¬ okL ss from fun h => h256 (by have := HNN.out; have := h.1; omega))
    rw [listS_no hno.out, listE_no hno.out]
    go_enter Try.func15, Try.ntmps15
    go_wp2
    go_ret2
    exact ⟨rfl, Below.refl _ _⟩
end Go.Proofs.Ytbgooppmhgaicab
