
/-
  The document's List; GetText of both.
-/
import Derived.Test.YtglfdenlgglccaaDoorOctF
namespace Go.Proofs.YtglfdenlgglccaaDoor
set_option linter.unusedVariables false
set_option linter.unusedSimpArgs false
set_option maxRecDepth 100000
open Go.RowKit

set_option maxHeartbeats 1000000 in
set_option maxRecDepth 20000 in
theorem refList_any (w : World) (v : Value) (ss : List ByteArray) (hat : StrsAt w v ss) (hn : ss.length ≤ 140737488351232) (hs : ∀ s ∈ ss, s.size ≤ 140737488351232) :
    Calls Tryd.prog 25 #[v] w fun e w' => e = .returned (.tuple #[.string (listS ss), .int .i64 (listE ss)]) ∧ Below w.heap.size w w' := by
  obtain ⟨a, cap, rfl, hc⟩ := hat
  obtain ⟨n, hnn⟩ : ∃ n, ss.length = n := ⟨_, rfl⟩
  rw [hnn] at hn ⊢
  have HC := hidp hc; clear hc
  have HNN := hidp hnn; clear hnn
  have HS := hidp hs; clear hs
  by_cases h256 : n ≤ 256
  · obtain ⟨S, hS⟩ : ∃ S, S = listS ss := ⟨_, rfl⟩
    obtain ⟨E, hE⟩ : ∃ E, E = listE ss := ⟨_, rfl⟩
    rw [← hS, ← hE]
    have HSS := hidp hS; have HEE := hidp hE; clear hS hE
    have hN := refNum_any w n (by omega)
    rw [numS_yes (by omega), numE_yes (by omega)] at hN
    have HN := hidp hN; clear hN
    have hl := encN_len64 n (by omega)
    go_enter Tryd.func25, Tryd.ntmps25
    go_wp2_with (go_at_call 24; (refine HN.out.mono ?_); rintro e w1 ⟨rfl, hb1⟩)
    go_loopw [4, 22] (fun t4 t22 wr => ∃ k : Nat, t22 = .int .i64 k ∧ k ≤ n ∧ t4 = .string (mkS (encN n ++ encTs (ss.take k))) ∧ (∀ j (h : j < ss.length), j < k → ss[j].size ≤ 8192) ∧ Below w.heap.size w wr) (fun _ t22 _ => n - (intOf t22).toNat)
    case atStart => exact ⟨0, rfl, by omega, by simp [encTs], by intro j _ h; omega, hb1⟩
    case round =>
      obtain ⟨k, rfl, hk, rfl, hall, hb⟩ := hrel
      have hbs := hb.size
      have HALL := hidp hall; clear hall
      have hsl : (encTs (ss.take k)).length ≤ 8202 * 256 := by
        have := encTs_len (ss.take k) fun s hs => by
          obtain ⟨j, hj, rfl⟩ := List.getElem_of_mem hs
          rw [List.getElem_take]; exact HALL.out j (by simp at hj; omega) (by simp at hj; omega)
        have h1 : (ss.take k).length ≤ 256 := by simp; omega
        omega
      have hsz : (mkS (encN n ++ encTs (ss.take k))).size ≤ 10 + 8202 * 256 := by rw [mkS_size]; simp; omega
      by_cases hlt : k < n
      · have hlt' : k < ss.length := by have := HNN.out; omega
        obtain ⟨b, off, rfl, hcell⟩ := HC.out k hlt'
        have hcell2 := (hb.cell (p := ⟨b, off + k, none⟩) (by have := World.block_lt_of_cell? w _ hcell; simpa using this)).trans hcell
        clear hcell
        have hst := hidp (encTs_take ss k hlt')
        obtain ⟨s, hs⟩ : ∃ s, ss[k] = s := ⟨_, rfl⟩
        have hsl : s.size ≤ 140737488351232 := by rw [← hs]; exact HS.out _ (List.getElem_mem hlt')
        have hT := refText_any wr s hsl
        rw [hs] at hcell2
        have hst := hidp (hs ▸ hst.out)
        have H2 := hidp hs; clear hs
        by_cases hbig : s.size ≤ 8192
        · have hts : (mkS (encT s)).size ≤ 8202 := by rw [mkS_size]; exact encT_len s hbig
          have he : mkS (encN n ++ encTs (ss.take k)) ++ mkS (encT s) = mkS (encN n ++ encTs (ss.take (k + 1))) := by rw [hst.out, mkS_append, List.append_assoc]
          rw [textS_yes hbig, textE_yes hbig] at hT
          have HT := hidp hT; have HE := hidp he; clear hT he
          go_wp2_with (go_at_call 45; (refine HT.out.mono ?_); rintro e w2 ⟨rfl, hb2⟩)
          refine ⟨⟨k + 1, by go_num, by omega, by rw [HE.out], fun j h hj => ?_, hb.trans (hb2.mono hbs)⟩, by simp [intOf]; omega⟩
          by_cases hjk : j = k
          · subst hjk; have := H2.out; rw [this]; exact hbig
          · exact HALL.out j h (by omega)
        · have hno := hidp (show ¬ okL ss from fun h => hbig (by rw [← H2.out]; exact h.2 _ (List.getElem_mem hlt')))
          rw [textS_no hbig, textE_no hbig] at hT
          have HT := hidp hT; clear hT
          go_wp2_with (go_at_call 45; (refine HT.out.mono ?_); rintro e w2 ⟨rfl, hb2⟩)
          go_ret2
          exact ⟨by rw [HSS.out, HEE.out, listS_no hno.out, listE_no hno.out]; rfl, hb.trans (hb2.mono hbs)⟩
      · have hok := hidp (show okL ss from ⟨by have := HNN.out; omega, fun s hs => by
          obtain ⟨j, hj, rfl⟩ := List.getElem_of_mem hs
          exact HALL.out j hj (by have := HNN.out; omega)⟩)
        have hful := hidp (show encN n ++ encTs (ss.take k) = encL ss from by unfold encL; rw [List.take_of_length_le (by have := HNN.out; omega), HNN.out])
        go_wp2
        go_ret2
        exact ⟨by rw [HSS.out, HEE.out, listS_yes hok.out, listE_yes hok.out, ← hful.out]; rfl, hb⟩
  · have hno := hidp (show ¬ okL ss from fun h => h256 (by have := HNN.out; have := h.1; omega))
    rw [listS_no hno.out, listE_no hno.out]
    go_enter Tryd.func25, Tryd.ntmps25
    go_wp2
    go_ret2
    exact ⟨rfl, Below.refl _ _⟩

/-- What is read is small. -/
theorem gnAux_bd (k i acc : Nat) (l : List UInt8) : (gnAux k i acc l).1 ≤ 281474976710656 ∧ (gnAux k i acc l).2.1 ≤ i + k ∧ (gnAux k i acc l).2.1 ≤ i + l.length ∧ (gnAux k i acc l).2.2 ≤ 6 := by
  induction k generalizing i acc l with
  | zero => simp [gnAux]
  | succ k ih =>
    cases l with
    | nil => simp [gnAux]
    | cons b r =>
      rw [gnAux]
      split
      · obtain ⟨h1, h2, h3, h4⟩ := ih (i + 1) (acc + b.toNat % 128 * 128 ^ i) r
        refine ⟨h1, by omega, by simp; omega, h4⟩
      · split
        · simp
        · rename_i h; refine ⟨by simp only; omega, by simp only; omega, by simp, by simp⟩
theorem gn_bd (l : List UInt8) : (gn l).1 ≤ 281474976710656 ∧ (gn l).2.1 ≤ 7 ∧ (gn l).2.1 ≤ l.length ∧ (gn l).2.2 ≤ 6 := by
  have := gnAux_bd 7 0 0 l; simpa [gn] using this

/-- The text that bytes begin with: the text, its size, the error. -/
def gt (s : ByteArray) : ByteArray × Nat × Nat :=
  let r := gn s.data.toList
  if r.2.2 ≠ 0 then (ByteArray.empty, 0, r.2.2) else if 8192 < r.1 then (ByteArray.empty, 0, 7) else if s.size < r.2.1 + r.1 then (ByteArray.empty, 0, 5) else (s.extract r.2.1 (r.2.1 + r.1), r.2.1 + r.1, 0)
def tupT (r : ByteArray × Nat × Nat) : Value := .tuple #[.string r.1, .int .i64 r.2.1, .int .i64 r.2.2]

theorem errB {e : Nat} (h : e ≠ 0) : (((e : Nat) : Int) != 0) = true := by simp; omega
theorem errB0 {e : Nat} (h : e = 0) : (((e : Nat) : Int) != 0) = false := by simp; omega

set_option maxHeartbeats 1000000 in
set_option maxRecDepth 20000 in
theorem getText_any (w : World) (s : ByteArray) (hs : s.size ≤ 281474976710656) :
    Calls Tryd.prog 70 #[.string s] w fun e w' => e = .returned (tupT (gt s)) ∧ Below w.heap.size w w' := by
  have hG := getNum_any w s hs
  have hbd := gn_bd s.data.toList
  unfold gt
  obtain ⟨⟨n, k, e⟩, hr⟩ : ∃ r, r = gn s.data.toList := ⟨_, rfl⟩
  rw [← hr] at hG hbd ⊢
  clear hr
  obtain ⟨h1, h2, h3, h4⟩ := hbd
  have h3 : k ≤ s.size := by simpa using h3
  simp only [tup3] at hG h1 h2 h4 ⊢
  have HG := hidp hG; clear hG
  by_cases he : e = 0
  · have heb := errB0 he
    by_cases h8 : 8192 < n
    · rw [if_neg (by simpa using he), if_pos h8]
      have H0 := hidp he; clear he
      go_enter Tryd.func70, Tryd.ntmps70
      go_wp2_with (go_at_call 46; (refine HG.out.mono ?_); rintro e1 w1 ⟨rfl, rfl⟩)
      go_ret3
      exact ⟨rfl, Below.refl _ _⟩
    · by_cases hsz : s.size < k + n
      · rw [if_neg (by simpa using he), if_neg h8, if_pos hsz]
        have H0 := hidp he; clear he
        go_enter Tryd.func70, Tryd.ntmps70
        go_wp2_with (go_at_call 46; (refine HG.out.mono ?_); rintro e1 w1 ⟨rfl, rfl⟩)
        go_ret3
        exact ⟨rfl, Below.refl _ _⟩
      · rw [if_neg (by simpa using he), if_neg h8, if_neg hsz]
        have H0 := hidp he; clear he
        have hcl := hidp fun w => clone (s.extract k (k + n)) w (by simp; omega)
        have hx : ((k : Int) + (n : Int)).toNat = k + n := by omega
        go_enter Tryd.func70, Tryd.ntmps70
        go_wp2_with (first | (go_at_call 46; (refine HG.out.mono ?_); rintro e1 w1 ⟨rfl, rfl⟩) | (go_at_call 38; (refine (hcl.out _).mono ?_); rintro e2 w2 ⟨rfl, hb2⟩))
        go_ret3
        exact ⟨rfl, hb2⟩
  · have heb := errB he
    rw [if_pos he]
    have H0 := hidp he; clear he
    go_enter Tryd.func70, Tryd.ntmps70
    go_wp2_with (go_at_call 46; (refine HG.out.mono ?_); rintro e1 w1 ⟨rfl, rfl⟩)
    go_ret3
    exact ⟨rfl, Below.refl _ _⟩

set_option maxHeartbeats 1000000 in
set_option maxRecDepth 20000 in
theorem refGetText_any (w : World) (s : ByteArray) (hs : s.size ≤ 281474976710656) :
    Calls Tryd.prog 57 #[.string s] w fun e w' => e = .returned (tupT (gt s)) ∧ Below w.heap.size w w' := by
  have hG := refGetNum_any w s hs
  have hbd := gn_bd s.data.toList
  unfold gt
  obtain ⟨⟨n, k, e⟩, hr⟩ : ∃ r, r = gn s.data.toList := ⟨_, rfl⟩
  rw [← hr] at hG hbd ⊢
  clear hr
  obtain ⟨h1, h2, h3, h4⟩ := hbd
  have h3 : k ≤ s.size := by simpa using h3
  simp only [tup3] at hG h1 h2 h4 ⊢
  have HG := hidp hG; clear hG
  by_cases he : e = 0
  · have heb := errB0 he
    by_cases h8 : 8192 < n
    · rw [if_neg (by simpa using he), if_pos h8]
      have H0 := hidp he; clear he
      go_enter Tryd.func57, Tryd.ntmps57
      go_wp2_with (go_at_call 29; (refine HG.out.mono ?_); rintro e1 w1 ⟨rfl, hb1⟩)
      go_ret3
      exact ⟨rfl, hb1⟩
    · by_cases hsz : s.size < k + n
      · rw [if_neg (by simpa using he), if_neg h8, if_pos hsz]
        have H0 := hidp he; clear he
        go_enter Tryd.func57, Tryd.ntmps57
        go_wp2_with (go_at_call 29; (refine HG.out.mono ?_); rintro e1 w1 ⟨rfl, hb1⟩)
        go_ret3
        exact ⟨rfl, hb1⟩
      · rw [if_neg (by simpa using he), if_neg h8, if_neg hsz]
        have H0 := hidp he; clear he
        have hx : ((k : Int) + (n : Int)).toNat = k + n := by omega
        go_enter Tryd.func57, Tryd.ntmps57
        go_wp2_with (go_at_call 29; (refine HG.out.mono ?_); rintro e1 w1 ⟨rfl, hb1⟩)
        go_ret3
        exact ⟨rfl, hb1⟩
  · have heb := errB he
    rw [if_pos he]
    have H0 := hidp he; clear he
    go_enter Tryd.func57, Tryd.ntmps57
    go_wp2_with (go_at_call 29; (refine HG.out.mono ?_); rintro e1 w1 ⟨rfl, hb1⟩)
    go_ret3
    exact ⟨rfl, hb1⟩
end Go.Proofs.YtglfdenlgglccaaDoor
