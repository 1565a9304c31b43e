
/-
  store.data, Restart, Compact, of both sides.
-/
import Derived.Test.YtbgooppmhgaicabStoB0
namespace Go.Proofs.Ytbgooppmhgaicab
set_option maxRecDepth 100000
set_option linter.unusedVariables false
set_option linter.unusedSimpArgs false
open Go.RowKit

/-- The bytes that are added for a record. -/
def jbL (x : ByteArray) : List UInt8 := if x.size ≤ 8192 then recB x else []
theorem jbS_L (x : ByteArray) : jbS x = mkS (jbL x) := by unfold jbS jbL; split <;> rfl
theorem jbL_le (x : ByteArray) : (jbL x).length ≤ 8206 := by
  unfold jbL; split
  · rename_i h; exact recB_le x h
  · simp
/-- The bytes that tell what was loaded. -/
def datH (c : Nat) : List UInt8 := if 0 < c then recB (cntR c) else []
def datB (es : List ByteArray) (c : Nat) : List UInt8 := datH c ++ es.flatMap fun t => jbL (entR t)
theorem datH_le (c : Nat) (h : c ≤ 1048576) : (datH c).length ≤ 8206 := by
  unfold datH; split
  · exact recB_le _ (by have := cntR_size h; omega)
  · simp
theorem ents_le (es : List ByteArray) : (es.flatMap fun t => jbL (entR t)).length ≤ 8206 * es.length := by
  induction es with
  | nil => simp
  | cons t es ih => simp only [List.flatMap_cons, List.length_append, List.length_cons]; have := jbL_le (entR t); omega

theorem al_again {x : ByteArray} {L : List ByteArray} (h : al x = (L, 0)) : x = mkS (encL L) ∧ okL L := by
  obtain ⟨⟨L', j, e⟩, hg⟩ : ∃ r, gl x = r := ⟨_, rfl⟩
  unfold al at h
  rw [hg] at h
  simp only at h
  by_cases he : e = 0
  · rw [if_neg (by simpa using he)] at h
    subst he
    split at h
    · simp at h
    · rename_i hj
      simp only [Prod.mk.injEq, and_true] at h
      subst h
      obtain ⟨g1, g2, g3⟩ := gl_again _ _ _ hg
      refine ⟨?_, g2⟩
      apply ba_ext
      rw [mkS_data, g1, List.take_of_length_le (by rw [size_toList]; omega)]
  · rw [if_pos he] at h; simp at h; omega
theorem prs_one {x : ByteArray} (h : (prs x).1 = 1) : x = entR (prs x).2.1 ∧ (prs x).2.1.size ≤ 8192 := by
  unfold prs at h ⊢
  split at h
  · rename_i a b hx
    obtain ⟨h1, h2⟩ := al_again hx
    split at h
    · rename_i ha
      subst ha
      simp only [if_true]
      exact ⟨h1, h2.2 b (by simp)⟩
    · split at h
      · split at h
        · simp at h
        · simp at h
      · simp at h
  · simp at h
theorem prs_two' {x : ByteArray} (h : (prs x).1 = 2) : x = cntR (prs x).2.2 ∧ (prs x).2.2 ≤ 1048576 := by
  unfold prs at h ⊢
  split at h
  · rename_i a b hx
    obtain ⟨h1, h2⟩ := al_again hx
    split at h
    · simp at h
    · rename_i ha
      split at h
      · rename_i hc
        split at h
        · rename_i hn
          subst hc
          simp only [if_neg ha, if_true, if_pos hn]
          have hN : cnN b = (gn b.data.toList).1 := by unfold cnN; rw [if_pos hn]
          obtain ⟨⟨n, j, e⟩, hg⟩ : ∃ r, gn b.data.toList = r := ⟨_, rfl⟩
          rw [hg] at hN
          unfold cnE at hn
          rw [hg] at hn
          simp only at hn hN
          split at hn
          · cases hn
          · rename_i he
            have he0 : e = 0 := by omega
            subst he0
            split at hn
            · cases hn
            · rename_i hj
              split at hn
              · cases hn
              · rename_i hb
                obtain ⟨g1, g2, g3⟩ := gn_again _ _ _ hg
                have hbb : b = mkS (encN n) := by
                  apply ba_ext
                  rw [mkS_data, g1, List.take_of_length_le (by rw [size_toList]; omega)]
                rw [hN]
                refine ⟨?_, by omega⟩
                unfold cntR
                rw [← hbb]; exact h1
        · simp at h
      · simp at h
  · simp at h
/-- What is written anew has no more bytes. -/
theorem ldF_len (rs : List ByteArray) (h8 : ∀ t ∈ rs, t.size ≤ 8192) : ∀ (es : List ByteArray) (c : Nat) (es' : List ByteArray) (c' : Nat), ldF rs es c = (es', c', 0) →
    ∃ ns, es' = es ++ ns ∧ c ≤ c' ∧ (ns.flatMap fun t => jbL (entR t)).length + (if c < c' then (recB (cntR c')).length else 0) ≤ (cat rs).length := by
  induction rs with
  | nil =>
    intro es c es' c' h
    simp only [ldF, Prod.mk.injEq, and_true] at h
    obtain ⟨rfl, rfl⟩ := h
    exact ⟨[], by simp, Nat.le_refl _, by simp⟩
  | cons x r ih =>
    intro es c es' c' h
    have ih := ih fun t ht => h8 t (by simp [ht])
    have hx8 := h8 x (by simp)
    rw [ldF] at h
    rw [cat_cons, List.length_append]
    split at h
    · rename_i h1
      obtain ⟨ns, e1, e2, e3⟩ := ih _ _ _ _ h
      obtain ⟨p1, p2⟩ := prs_one h1
      refine ⟨(prs x).2.1 :: ns, by rw [e1]; simp, e2, ?_⟩
      have hj : (jbL (entR (prs x).2.1)).length = (recB x).length := by rw [← p1]; unfold jbL; rw [if_pos hx8]
      simp only [List.flatMap_cons, List.length_append]
      omega
    · split at h
      · rename_i h1 h2
        obtain ⟨ns, e1, e2, e3⟩ := ih _ _ _ _ h
        obtain ⟨p1, p2⟩ := prs_two' h2
        obtain ⟨n, hn⟩ : ∃ n, (prs x).2.2 = n := ⟨_, rfl⟩
        rw [hn] at p1 e2 e3
        refine ⟨ns, e1, by omega, ?_⟩
        by_cases hc : max c n < c'
        · rw [if_pos hc] at e3
          rw [if_pos (by omega)]
          omega
        · rw [if_neg hc] at e3
          by_cases hc2 : c < c'
          · rw [if_pos hc2]
            have : c' = n := by omega
            rw [this, ← p1]; omega
          · rw [if_neg hc2]; omega
      · simp at h
theorem dat_le {rs es : List ByteArray} {c : Nat} (h8 : ∀ t ∈ rs, t.size ≤ 8192) (h : ld rs = (es, c, 0)) : (datB es c).length ≤ (cat rs).length := by
  obtain ⟨ns, e1, _, e3⟩ := ldF_len rs h8 [] 0 es c h
  rw [List.nil_append] at e1
  subst e1
  unfold datB datH
  rw [List.length_append]
  split
  · rename_i hc; rw [if_pos hc] at e3; omega
  · rename_i hc; rw [if_neg hc] at e3; simp only [List.length_nil]; omega

theorem IsB.later {T e B b C : Nat} {bs : List Value} {w w' : World} (h : Lib.IsBuilder T e B b bs w) (hb : Below C w w') (hC : w.heap.size ≤ C) : Lib.IsBuilder T e B b bs w' := by
  rcases h with h | h
  all_goals obtain ⟨hB, v, hc, ho, hn⟩ := h
  · exact .inl ⟨hB, v, (hb.block b (by have := (Array.getElem?_eq_some_iff.1 hc).1; omega)).trans hc, OwnV.kept (l := bs) ho hb hC, hn⟩
  · exact .inr ⟨hB, v, (hb.block b (by have := (Array.getElem?_eq_some_iff.1 hc).1; omega)).trans hc, OwnV.kept (l := bs) ho hb hC, hn⟩
theorem bytes_app (l : List UInt8) (s : ByteArray) : Lib.byteCells l ++ Lib.strCells s = Lib.byteCells (l ++ s.data.toList) := by simp [Lib.byteCells, Lib.strCells]

set_option maxHeartbeats 4000000 in
theorem addRecord_any (w : World) (B b : Nat) (l : List UInt8) (x : ByteArray) (hb : Lib.IsBuilder 65 5 B b (Lib.byteCells l) w) (hl : l.length + 8206 ≤ 140737488355328) (hB : B ≤ w.heap.size) (hx : x.size ≤ 140737488351232) :
    Calls Try.prog 32 #[.pointer (some ⟨b, 0, none⟩), .string x] w fun e w' => e = .returned (.tuple #[]) ∧ Lib.IsBuilder 65 5 B b (Lib.byteCells (l ++ jbL x)) w' ∧ Below B w w' := by
  have c1 := hidp (fun W => jbytes_any W x hx)
  rw [jbS_L] at c1
  have hjl := jbL_le x
  have hS : (mkS (jbL x)).data.toList = jbL x := rfl
  have hSs : (mkS (jbL x)).size ≤ 8206 := by rw [mkS_size]; exact hjl
  obtain ⟨S, hSS⟩ : ∃ S, mkS (jbL x) = S := ⟨_, rfl⟩
  rw [hSS] at c1 hS hSs
  have HS := hidp hS
  have HBu := hidp hb
  clear hSS hS hjl hb
  go_enter Try.func32, Try.ntmps32
  go_wp2_with fail
  refine (c1.out _).mono ?_
  rintro e w1 ⟨rfl, hb1⟩
  have HB1 := hidp (hb1.mono hB); have H1 := hidp (IsB.later HBu.out hb1 (Nat.le_refl _))
  have hs1 := hb1.size
  clear hb1
  go_wp2_with fail
  refine (write_string B b _ S w1 H1.out (by simp [Lib.byteCells]; omega) (by omega)).mono ?_
  rintro e w2 ⟨rfl, h2, hb2⟩
  have HB2 := hidp (HB1.out.trans hb2)
  rw [bytes_app, HS.out] at h2
  have H2 := hidp h2
  clear h2 hb2
  go_wp2_with fail
  go_end0
  exact ⟨rfl, .inr H2.out, HB2.out⟩

set_option maxHeartbeats 8000000 in
theorem data_any (w : World) (v : Value) (es : List ByteArray) (c : Nat) (hv : StrsAt w v es) (h8 : ∀ t ∈ es, t.size ≤ 8192) (hc : c ≤ 1048576) (hn : es.length ≤ 1048576) :
    Calls Try.prog 23 #[.agg #[v, .int .i64 (c : Int)]] w fun e w' => e = .returned (.string (mkS (datB es c))) ∧ Below w.heap.size w w' := by
  have hH := datH_le c hc
  have HV := hidp hv
  obtain ⟨a, cap, rfl, hcells⟩ := hv
  have HC := hidp hcells
  obtain ⟨ln, hln⟩ : ∃ q, es.length = q := ⟨_, rfl⟩
  rw [hln] at hn HV ⊢
  have HLN := hidp hln
  have H8 := hidp h8
  clear hln h8 hcells
  have HB0 := hidp (((Below.refl w.heap.size w).alloc (Nat.le_refl _) (.cells #[.slice a ln cap, .int .i64 (c : Int)] 35)).alloc (by simp) (.cells #[.pointer none, .slice none 0 0] 65))
  obtain ⟨W1, hW1⟩ : ∃ W1, (w.alloc (.cells #[.slice a ln cap, .int .i64 (c : Int)] 35)).alloc (.cells #[.pointer none, .slice none 0 0] 65) = W1 := ⟨_, rfl⟩
  have hAr : Arr W1 w.heap.size 35 [.slice a ln cap, .int .i64 (c : Int)] := by rw [← hW1]; exact (Arr.new w 35 [.slice a ln cap, .int .i64 (c : Int)]).alloc _
  have hBb : W1.heap[w.heap.size + 1]? = some (.cells #[.pointer none, .slice none 0 0] 65 (0, 0)) := by
    have h := heap_alloc_new (w.alloc (.cells #[.slice a ln cap, .int .i64 (c : Int)] 35)) (.cells #[.pointer none, .slice none 0 0] 65)
    rw [heap_size_alloc, hW1] at h; exact h
  have hz1 : W1.heap.size = w.heap.size + 2 := by rw [← hW1]; simp
  rw [hW1] at HB0
  have HBu := hidp (show Lib.IsBuilder 65 5 (w.heap.size + 1) (w.heap.size + 1) (Lib.byteCells []) W1 from .inl ⟨Nat.le_refl _, _, hBb, World.ownsRow_nil _ _ _ _, by simp [Value.ownBlock]⟩)
  have HAr := hidp hAr
  have HW1 := hidp hW1
  clear hAr hBb hW1
  have hd : ∀ q : Bool, decide (0 < (c : Int)) = q → True := fun _ _ => trivial
  have HDL := hidp (fun k (hk : k ≤ ln) => show (datH c ++ (es.take k).flatMap fun t => jbL (entR t)).length ≤ 8206 + 8206 * 1048576 by
    rw [List.length_append]
    have := ents_le (es.take k)
    have h2 : (es.take k).length ≤ 1048576 := by rw [List.length_take, HLN.out]; omega
    omega)
  have HL := hidp (fun (W : World) (t : ByteArray) (ht : t.size ≤ 8192) => show Calls Try.prog 15 #[.slice (some ⟨W.heap.size, 0, none⟩) 2 2] (W.alloc (.cells #[.string ⟨#[101]⟩, .string t] 9)) fun e w' => e = .returned (.tuple #[.string (entR t), .int .i64 0]) ∧ Below (W.alloc (.cells #[.string ⟨#[101]⟩, .string t] 9)).heap.size (W.alloc (.cells #[.string ⟨#[101]⟩, .string t] 9)) w' from by
    have h := list_any (W.alloc (.cells #[.string tE, .string t] 9)) _ [tE, t] (strsLit2 W tE t 9) (by simp) (by intro s hs; simp at hs; rcases hs with rfl | rfl; decide; omega)
    rw [listS_yes (okE ht), listE_yes (okE ht)] at h
    exact h)
  have step : Hid (∀ (wr : World) (k : Nat), k ≤ ln → Lib.IsBuilder 65 5 (w.heap.size + 1) (w.heap.size + 1) (Lib.byteCells (datH c ++ (es.take k).flatMap fun t => jbL (entR t))) wr → True) := fun _ _ _ _ => trivial
  clear step hd
  go_enter Try.func23, Try.ntmps23
  by_cases hc0 : 0 < c
  · have e1 : decide (0 < (c : Int)) = true := by simpa using hc0
    have c1 := hidp (fun W => cnt_ok W c hc)
    have hHc : datH c = [] ++ jbL (cntR c) := by unfold datH jbL; rw [if_pos hc0, if_pos (by have := cntR_size hc; omega)]; rfl
    have hcs := cntR_size hc
    have HHC := hidp hHc
    obtain ⟨X, hX⟩ : ∃ X, cntR c = X := ⟨_, rfl⟩
    rw [hX] at c1 hcs HHC
    clear hHc hX
    obtain ⟨s0, s1, sf⟩ := arr2 HAr.out
    clear sf
    go_wp2_with fail
    rw [HW1.out]
    refine (c1.out _).mono ?_
    rintro e w2 ⟨rfl, hb2⟩
    have HB2 := hidp (hb2.mono (show w.heap.size + 1 ≤ W1.heap.size by omega)); have H2 := hidp (IsB.later HBu.out hb2 (Nat.le_refl _))
    have hs2 := hb2.size
    clear hb2 s0 s1
    go_wp2_with fail
    refine (addRecord_any w2 (w.heap.size + 1) (w.heap.size + 1) [] X H2.out (by simp) (by omega) (by omega)).mono ?_
    rintro e w3 ⟨rfl, h3, hb3⟩
    rw [← HHC.out] at h3
    have H3 := hidp h3; have HB3 := hidp (HB2.out.trans hb3)
    have HA3 := hidp (HAr.out.below HB3.out (by omega))
    clear h3 hb3
    obtain ⟨s0, s1, sf⟩ := arr2 HA3.out
    clear sf
    go_wp2_with fail
    go_loopw [24] (fun t24 wr => ∃ k : Nat, t24 = .int .i64 k ∧ k ≤ ln ∧ Lib.IsBuilder 65 5 (w.heap.size + 1) (w.heap.size + 1) (Lib.byteCells (datH c ++ (es.take k).flatMap fun t => jbL (entR t))) wr ∧ Below (w.heap.size + 1) W1 wr) (fun t24 _ => ln - (intOf t24).toNat)
    case atStart => exact ⟨0, rfl, by omega, by rw [List.take_zero]; simpa using H3.out, HB3.out⟩
    case round =>
      obtain ⟨k, rfl, hk, hbu, hbw⟩ := hrel
      have HK := hidp hbu; have HBW := hidp hbw
      have hsw := hbw.size
      clear hbu hbw
      have HT := hidp (HB0.out.trans (HBW.out.mono (show w.heap.size ≤ w.heap.size + 1 by omega)))
      by_cases hlt : k < ln
      · have hlt' : k < es.length := by rw [HLN.out]; exact hlt
        obtain ⟨b0, o0, eb, hcx⟩ := HC.out k hlt'
        subst eb
        obtain ⟨t, ht⟩ : ∃ t, es[k] = t := ⟨_, rfl⟩
        have ht8 : t.size ≤ 8192 := by rw [← ht]; exact H8.out _ (List.getElem_mem hlt')
        rw [ht] at hcx
        have hcw := (HT.out.cell (p := ⟨b0, o0 + k, none⟩) (by have := World.block_lt_of_cell? w _ hcx; simpa using this)).trans hcx
        have HN := hidp (show datH c ++ (es.take (k + 1)).flatMap (fun t => jbL (entR t)) = (datH c ++ (es.take k).flatMap fun t => jbL (entR t)) ++ jbL (entR t) from by
          rw [List.take_succ_eq_append_getElem hlt', List.flatMap_append, ht, List.append_assoc]; simp)
        have hdl := HDL.out k (by omega)
        obtain ⟨D, hD⟩ : ∃ D, (datH c ++ (es.take k).flatMap fun t => jbL (entR t)) = D := ⟨_, rfl⟩
        rw [hD] at HK HN hdl
        have cL := hidp (HL.out wr t ht8)
        have hes := entR_size ht8
        obtain ⟨X, hX⟩ : ∃ X, entR t = X := ⟨_, rfl⟩
        rw [hX] at cL HN hes
        have HA0 := hidp ((Below.refl wr.heap.size wr).alloc (Nat.le_refl _) (.cells #[.string ⟨#[101]⟩, .string t] 9))
        clear hcx ht hD hX
        go_wp2_with fail
        refine cL.out.mono ?_
        rintro e w5 ⟨rfl, hb5⟩
        have hb6 := HA0.out.trans (hb5.mono HA0.out.size)
        have HB5 := hidp (HBW.out.trans (hb6.mono (by omega))); have H5 := hidp (IsB.later HK.out hb6 (Nat.le_refl _))
        have hs5 := hb6.size
        clear hb5 hb6 hcw
        go_wp2_with fail
        refine (addRecord_any w5 (w.heap.size + 1) (w.heap.size + 1) D X H5.out (by omega) (by omega) (by omega)).mono ?_
        rintro e w6 ⟨rfl, h6, hb7⟩
        rw [← HN.out] at h6
        have H6 := hidp h6; have HB6 := hidp (HB5.out.trans hb7)
        clear h6 hb7
        go_wp2_with fail
        exact ⟨⟨k + 1, by go_num, by omega, H6.out, HB6.out⟩, by simp [intOf]; omega⟩
      · obtain rfl : k = ln := by omega
        rw [List.take_of_length_le (by rw [HLN.out]; exact Nat.le_refl _)] at HK
        go_wp2_with fail
        refine (string_any (w.heap.size + 1) (w.heap.size + 1) (datB es c) wr HK.out (by omega)).mono ?_
        rintro e w7 ⟨rfl, hb7⟩
        have HB7 := hidp (HT.out.trans (hb7.mono (show w.heap.size ≤ w.heap.size + 1 by omega)))
        clear hb7
        go_wp2_with fail
        go_ret
        exact ⟨rfl, HB7.out⟩
  · have e1 : decide (0 < (c : Int)) = false := by simpa using hc0
    have hHc : datH c = [] := by unfold datH; rw [if_neg hc0]
    have HHC := hidp hHc
    clear hHc
    obtain ⟨s0, s1, sf⟩ := arr2 HAr.out
    clear sf
    have H3 := hidp (show Lib.IsBuilder 65 5 (w.heap.size + 1) (w.heap.size + 1) (Lib.byteCells (datH c)) W1 from by rw [HHC.out]; exact HBu.out)
    have HB3 := hidp (Below.refl (w.heap.size + 1) W1)
    clear s0 s1
    go_wp2_with fail
    rw [HW1.out]
    go_loopw [24] (fun t24 wr => ∃ k : Nat, t24 = .int .i64 k ∧ k ≤ ln ∧ Lib.IsBuilder 65 5 (w.heap.size + 1) (w.heap.size + 1) (Lib.byteCells (datH c ++ (es.take k).flatMap fun t => jbL (entR t))) wr ∧ Below (w.heap.size + 1) W1 wr) (fun t24 _ => ln - (intOf t24).toNat)
    case atStart => exact ⟨0, rfl, by omega, by rw [List.take_zero]; simpa using H3.out, HB3.out⟩
    case round =>
      obtain ⟨k, rfl, hk, hbu, hbw⟩ := hrel
      have HK := hidp hbu; have HBW := hidp hbw
      have hsw := hbw.size
      clear hbu hbw
      have HT := hidp (HB0.out.trans (HBW.out.mono (show w.heap.size ≤ w.heap.size + 1 by omega)))
      by_cases hlt : k < ln
      · have hlt' : k < es.length := by rw [HLN.out]; exact hlt
        obtain ⟨b0, o0, eb, hcx⟩ := HC.out k hlt'
        subst eb
        obtain ⟨t, ht⟩ : ∃ t, es[k] = t := ⟨_, rfl⟩
        have ht8 : t.size ≤ 8192 := by rw [← ht]; exact H8.out _ (List.getElem_mem hlt')
        rw [ht] at hcx
        have hcw := (HT.out.cell (p := ⟨b0, o0 + k, none⟩) (by have := World.block_lt_of_cell? w _ hcx; simpa using this)).trans hcx
        have HN := hidp (show datH c ++ (es.take (k + 1)).flatMap (fun t => jbL (entR t)) = (datH c ++ (es.take k).flatMap fun t => jbL (entR t)) ++ jbL (entR t) from by
          rw [List.take_succ_eq_append_getElem hlt', List.flatMap_append, ht, List.append_assoc]; simp)
        have hdl := HDL.out k (by omega)
        obtain ⟨D, hD⟩ : ∃ D, (datH c ++ (es.take k).flatMap fun t => jbL (entR t)) = D := ⟨_, rfl⟩
        rw [hD] at HK HN hdl
        have cL := hidp (HL.out wr t ht8)
        have hes := entR_size ht8
        obtain ⟨X, hX⟩ : ∃ X, entR t = X := ⟨_, rfl⟩
        rw [hX] at cL HN hes
        have HA0 := hidp ((Below.refl wr.heap.size wr).alloc (Nat.le_refl _) (.cells #[.string ⟨#[101]⟩, .string t] 9))
        clear hcx ht hD hX
        go_wp2_with fail
        refine cL.out.mono ?_
        rintro e w5 ⟨rfl, hb5⟩
        have hb6 := HA0.out.trans (hb5.mono HA0.out.size)
        have HB5 := hidp (HBW.out.trans (hb6.mono (by omega))); have H5 := hidp (IsB.later HK.out hb6 (Nat.le_refl _))
        have hs5 := hb6.size
        clear hb5 hb6 hcw
        go_wp2_with fail
        refine (addRecord_any w5 (w.heap.size + 1) (w.heap.size + 1) D X H5.out (by omega) (by omega) (by omega)).mono ?_
        rintro e w6 ⟨rfl, h6, hb7⟩
        rw [← HN.out] at h6
        have H6 := hidp h6; have HB6 := hidp (HB5.out.trans hb7)
        clear h6 hb7
        go_wp2_with fail
        exact ⟨⟨k + 1, by go_num, by omega, H6.out, HB6.out⟩, by simp [intOf]; omega⟩
      · obtain rfl : k = ln := by omega
        rw [List.take_of_length_le (by rw [HLN.out]; exact Nat.le_refl _)] at HK
        go_wp2_with fail
        refine (string_any (w.heap.size + 1) (w.heap.size + 1) (datB es c) wr HK.out (by omega)).mono ?_
        rintro e w7 ⟨rfl, hb7⟩
        have HB7 := hidp (HT.out.trans (hb7.mono (show w.heap.size ≤ w.heap.size + 1 by omega)))
        clear hb7
        go_wp2_with fail
        go_ret
        exact ⟨rfl, HB7.out⟩
end Go.Proofs.Ytbgooppmhgaicab
