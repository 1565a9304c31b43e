
/-
  palaverref02.filled.
-/
import Derived.Test.YtgfdhgnkanekhaaDoorShaO
import Derived.Test.YtgfdhgnkanekhaaDoorShaN
import Derived.Lib.ConvBytes
import Derived.ArgAppend
namespace Go.Proofs.YtgfdhgnkanekhaaDoor
set_option linter.unusedVariables false
set_option linter.unusedSimpArgs false
open Go.RowKit

/-- A row of bytes of the call's own, whose places are not frozen: made by append, or by a conversion. -/
def OwnB (w : World) (B e : Nat) (v : Value) (l : List UInt8) : Prop :=
  ∃ g cap cur fz, v = .slice (some ⟨g, 0, none⟩) l.length cap ∧ B ≤ g ∧ w.heap[g]? = some (.cells cur e fz) ∧ (fz = (0, 0) ∨ cap ≤ fz.1) ∧ l.length ≤ cap ∧ cap ≤ maxLen ∧ cur.size = cap ∧ cur.toList.take l.length = bv l
theorem OwnB.kept {w w' : World} {B C e : Nat} {v : Value} {l : List UInt8} (h : OwnB w B e v l) (hb : Below C w w') (hC : w.heap.size ≤ C) : OwnB w' B e v l := by
  obtain ⟨g, cap, cur, fz, rfl, hB, hg, rest⟩ := h
  exact ⟨g, cap, cur, fz, rfl, hB, (hb.block g (by have := (Array.getElem?_eq_some_iff.1 hg).1; omega)).trans hg, rest⟩
theorem OwnB.alloc {w : World} {B e : Nat} {v : Value} {l : List UInt8} (h : OwnB w B e v l) (o : Obj) : OwnB (w.alloc o) B e v l := by
  obtain ⟨g, cap, cur, fz, rfl, hB, hg, rest⟩ := h
  exact ⟨g, cap, cur, fz, rfl, hB, (Below.heap_alloc w o g (Array.getElem?_eq_some_iff.1 hg).1).trans hg, rest⟩
theorem OwnB.of_row {w : World} {B B' e n : Nat} {v : Value} {l : List UInt8} (h : w.ownsRow B' e 1 v n (bv l)) (hn : n = l.length) (h0 : 0 < n) (hB : B ≤ B') : OwnB w B e v l := by
  subst hn
  rcases h.2 with ⟨_, hz⟩ | ⟨g, cap, cur, rfl, hb, hg, h1, h2, h3, h4⟩
  · omega
  · exact ⟨g, cap, cur, (0, 0), rfl, by omega, hg, .inl rfl, h1, h2, by simpa using h3, by simpa using h4⟩
theorem OwnB.at {w : World} {B e : Nat} {v : Value} {l : List UInt8} (h : OwnB w B e v l) : ∃ g cap, v = .slice (some ⟨g, 0, none⟩) l.length cap ∧ l.length ≤ cap ∧ g < w.heap.size ∧ B ≤ g ∧ AtB w ⟨g, 0, none⟩ l := by
  obtain ⟨g, cap, cur, fz, rfl, hB, hg, _, hlc, _, hs, ht⟩ := h
  refine ⟨g, cap, rfl, hlc, (Array.getElem?_eq_some_iff.1 hg).1, hB, fun i hi => ?_⟩
  have e : w.cell? ⟨g, 0 + i, none⟩ = cur[i]? := by rw [Nat.zero_add]; exact cell_of_row w g i cur e fz hg
  show w.cell? ⟨g, 0 + i, none⟩ = _
  rw [e, ← Array.getElem?_toList]
  have := congrArg (fun x => x[i]?) ht
  simp only [List.getElem?_take, hi, if_true] at this
  rw [this]
  simp [bv, hi, List.getD_eq_getElem?_getD]
/-- 'append(v, b)' onto such a row. -/
theorem wpList_appB {P : Program} {w : World} {ops : Array Oper} {rest : List Oper} {o : Oper} {a : Act} {Q : Exit → Act → World → Prop} (hgd : o.guard = none) (s x : Operand) (t : TypeId)
    (ho : o.op = .call { callee := .builtin .append, args := #[s, x], argTypes := #[t, t] }) (B e : Nat) (i : TypeInfo) (ht : P.underlying t = some (.slice e)) (hi : P.info? e = some i)
    (hz0 : i.zero = some (.int .u8 0)) (hz1 : i.size = 1) (hz2 : i.bytes = 1) (v : Value) (l : List UInt8) (hs : a.eval s = v) (hown : OwnB w B e v l) (ad : Addr) (c : Nat) (z : Int) (b : UInt8)
    (hx : a.eval x = .slice (some ad) 1 c) (hc : w.cell? ad = some (.int .u8 z)) (hz : z = b.toNat) (hlen : l.length + 1 ≤ 140737488351232) (hB : B ≤ w.heap.size)
    (h : ∀ v' w', OwnB w' B e v' (l ++ [b]) → Below B w w' → wpList P ops Q rest (a.put o.dst v') w') : wpList P ops Q (o :: rest) a w := by
  subst hz
  obtain ⟨g, cap, cur, fz, rfl, hBg, hg, hfz, hlc, hcm, hcs, htk⟩ := hown
  have hcell : ∀ j, w.cell? ⟨g, j, none⟩ = cur[j]? := fun j => cell_of_row w g j cur e fz hg
  have hgl := (Array.getElem?_eq_some_iff.1 hg).1
  refine wpList_append_arg w hgd s x t ho e i (.int .u8 0) 1 1 ht hi hz0 hz1 hz2 rfl (by decide) g 0 l.length cap (bv l) hs (by simp [bv]) ?_ ad 1 c [.int .u8 b.toNat] hx rfl ?_ ?_ ?_ (by unfold maxLen; omega) (by omega) ?_ ?_
  · intro j u hj
    rw [Nat.zero_add, hcell, ← Array.getElem?_toList]
    rw [← htk, List.getElem?_take] at hj
    split at hj
    · exact hj
    · cases hj
  · intro j u hj
    match j, hj with
    | 0, hj => simp at hj; subst hj; simpa [Addr.add] using hc
  · intro u hu; simp at hu; subst hu; rfl
  · intro hr j hj
    obtain rfl : j = 0 := by simpa using hj
    simp only [Nat.zero_add, Nat.mul_one, Nat.add_zero]
    refine ⟨?_, ?_⟩
    · rw [hcell, Array.getElem?_eq_getElem (by omega)]; rfl
    · unfold World.frozen?
      simp only [hg]
      rcases hfz with rfl | hf
      · simp
      · simp; intro; omega
  · intro hr
    refine h _ _ ?_ ?_
    · simp only [World.setCells, Nat.zero_add, Nat.mul_one]
      rw [setCell_eq_setRow w g l.length cur e fz _ hg]
      refine ⟨g, cap, _, fz, by simp, hBg, setRow_heap w g cur _ e fz hg, hfz, by simp; omega, hcm, by simp [hcs], ?_⟩
      rw [bv_append, bv_one, List.length_append]
      simp only [Array.toList_setIfInBounds, List.length_cons, List.length_nil, Nat.zero_add]
      rw [List.take_set, ← htk, List.take_add_one]
      have hl : l.length < cur.toList.length := by simp; omega
      rw [List.getElem?_eq_getElem hl]
      simp only [Option.toList]
      rw [List.set_append_right _ _ (by simp; omega)]
      simp [List.length_take, Nat.min_eq_left (Nat.le_of_lt hl)]
      rw [show l.length - min l.length cur.size = 0 from by omega]
      rfl
    · simp only [World.setCells]
      exact (Below.refl B w).setCell (by simpa using hBg) _
  · intro hr v' w' h1 h2
    refine h v' w' (OwnB.of_row (l := l ++ [b]) (n := l.length + 1) (by rw [bv_append, bv_one]; exact h1) (by simp) (by omega) hB) ?_
    exact (Below.refl B w).grown h2 hB (fun k hk => by cases hk)

/-- What fills up: noughts so that eight bytes are left to a whole block. -/
def padn (n : Nat) : Nat := (119 - n % 64) % 64
def fillL (l : List UInt8) : List UInt8 := l ++ 128 :: (List.replicate (padn l.length) 0 ++ len8 l.length)
theorem bytesB (w : World) (s : ByteArray) (hs : s.size ≤ 281474976710656) : OwnB (Lib.bytesWorld w 5 s) w.heap.size 5 (.slice (some ⟨w.heap.size, 0, none⟩) s.size (grownCap w s.size 0 5)) s.data.toList := by
  have hge := grownCap_ge w s.size 0 5
  refine ⟨w.heap.size, _, _, _, by simp, Nat.le_refl _, Lib.bytesWorld_at_new w 5 s, .inr ?_, by simpa using hge, grownCap_le_maxLen w s.size 0 5 (by unfold maxLen; omega), ?_, ?_⟩
  · simp [Lib.bytesCells]; omega
  · simp [Lib.bytesCells]; first | done | omega
  · simp [Lib.bytesCells, bv]
theorem bytes_below (w : World) (s : ByteArray) : Below w.heap.size w (Lib.bytesWorld w 5 s) :=
  ⟨rfl, rfl, rfl, by rw [Lib.bytesWorld_size]; exact Nat.le_succ _, fun k hk => Lib.bytesWorld_at_old w 5 s k hk⟩
theorem rep_snoc (n : Nat) : List.replicate n (0 : UInt8) ++ [0] = List.replicate (n + 1) 0 := by rw [List.replicate_succ']
def sliceLen : Value → Nat
  | .slice _ n _ => n
  | _ => 0
set_option maxRecDepth 100000 in
set_option maxHeartbeats 8000000 in
theorem filled_any (w : World) (s : ByteArray) (hs : s.size ≤ 281474976710656 / 4) :
    Calls Tryd.prog 108 #[.string s] w fun e w' => ∃ v, e = .returned v ∧ OwnB w' w.heap.size 5 v (fillL s.data.toList) ∧ Below w.heap.size w w' := by
  obtain ⟨i0, hi, hz0, hz1, hz2⟩ := info_parts info5
  obtain ⟨l, hl⟩ : ∃ l, s.data.toList = l := ⟨_, rfl⟩
  have hll := hidp (show l.length = s.size from by rw [← hl]; simp)
  have HI := hidp hi; have HZ0 := hidp hz0; have HZ1 := hidp hz1; have HZ2 := hidp hz2
  clear hi hz0 hz1 hz2
  have hcv := Lib.run_convert_string_bytes (P := Tryd.prog) w 9 76 5 s Tryd.underlying9 Tryd.underlying76 Tryd.underlying5
  have HO1 := hidp (bytesB w s (by omega))
  have HB1 := hidp (bytes_below w s)
  obtain ⟨cap, hcap⟩ : ∃ c, grownCap w s.size 0 5 = c := ⟨_, rfl⟩
  obtain ⟨W1, hW1⟩ : ∃ W, Lib.bytesWorld w 5 s = W := ⟨_, rfl⟩
  rw [hl, hcap, hW1] at HO1
  rw [hW1] at HB1
  rw [hcap, hW1] at hcv
  rw [hl]
  have HL := hidp hl
  clear hcap hW1 hl
  have hbs1 := HB1.out.size
  go_enter Tryd.func108, Tryd.ntmps108
  go_wp2_with ((refine wpList_appB rfl (.tmp 7) (.tmp 8) 76 rfl w.heap.size 5 i0 Tryd.underlying76 HI.out HZ0.out HZ1.out HZ2.out _ l rfl (HO1.out.alloc _) _ 1 128 128 rfl (cell_new1 W1 _ _) rfl ?_ ?_ ?_))
  · have := hll.out; first | omega | (simp; omega)
  · first | omega | (simp; omega)
  · intro v' w' h1 h2
    have HO2 := hidp h1
    have HB2 := hidp (HB1.out.trans (((Below.refl w.heap.size W1).alloc hbs1 _).trans h2))
    clear h1 h2 hcv HO1
    go_wp2_with fail
    go_loopw [3] (fun t3 wr => ∃ (v : Value) (k : Nat), t3 = v ∧ OwnB wr w.heap.size 5 v (l ++ 128 :: List.replicate k 0) ∧ k ≤ padn l.length ∧ Below w.heap.size w wr) (fun t3 _ => padn l.length + (l.length + 1) - sliceLen t3)
    case atStart => exact ⟨v', 0, rfl, HO2.out, by omega, HB2.out⟩
    case round =>
      obtain ⟨v, k, rfl, hO, hk, hbw⟩ := hrel
      have hbsr := hbw.size
      obtain ⟨g, cp, hv, hle, hgl, hBg, hat⟩ := hO.at
      have hlen : (l ++ 128 :: List.replicate k (0 : UInt8)).length = s.size + 1 + k := by simp [hll.out]; omega
      have hpad : padn l.length ≤ 63 := by unfold padn; omega
      rw [hlen] at hv
      have HO := hidp hO; have HBW := hidp hbw; have HV := hidp hv
      clear hO hbw hat hle
      by_cases hlt : k < padn l.length
      · have hc : (((s.size : Int) + 1 + k) % 64 != 56) = true := by
          unfold padn at hlt; rw [hll.out] at hlt; rw [bne_iff_ne]; omega
        have hc' : ((((s.size + 1 + k : Nat) : Int)) % 64 != 56) = true := by push_cast; exact hc
        clear hlen
        subst hv
        go_wp2_with ((refine wpList_appB rfl (.tmp 14) (.tmp 15) 76 rfl w.heap.size 5 i0 Tryd.underlying76 HI.out HZ0.out HZ1.out HZ2.out _ (l ++ 128 :: List.replicate k 0) rfl (HO.out.alloc _) _ 1 0 0 rfl (cell_new1 wr _ _) rfl ?_ ?_ ?_))
        · have := hll.out; first | omega | (simp; omega)
        · first | omega | (simp; omega)
        · intro v2 w2 h1 h2
          have HO2 := hidp (show OwnB w2 w.heap.size 5 v2 (l ++ 128 :: List.replicate (k + 1) 0) from by rw [← rep_snoc]; simpa using h1)
          have HB2 := hidp (HBW.out.trans (((Below.refl w.heap.size wr).alloc hbsr _).trans h2))
          obtain ⟨g2, cp2, hv2, _⟩ := HO2.out.at
          have hlen2 : (l ++ 128 :: List.replicate (k + 1) (0 : UInt8)).length = s.size + 1 + (k + 1) := by simp [hll.out]; omega
          have hm := hidp (show sliceLen v2 = s.size + 1 + (k + 1) from by rw [hv2, hlen2]; rfl)
          clear h1 h2 hv2 hlen2
          go_wp2_with fail
          refine ⟨⟨v2, k + 1, rfl, HO2.out, by omega, HB2.out⟩, ?_⟩
          have := hll.out
          rw [hm.out]
          simp only [sliceLen]
          omega
      · obtain rfl : k = padn l.length := by omega
        have hc : (((s.size : Int) + 1 + (padn l.length : Nat)) % 64 != 56) = false := by
          rw [bne_eq_false_iff_eq]; unfold padn; rw [hll.out]; omega
        have hc' : ((((s.size + 1 + padn l.length : Nat) : Int)) % 64 != 56) = false := by push_cast; exact hc
        clear hlen
        obtain ⟨p, hp⟩ : ∃ p, padn l.length = p := ⟨_, rfl⟩
        rw [hp] at HO hv hpad hc hc'
        have HP := hidp hp
        clear hp hlt hk
        subst hv
        go_wp2_with fail
        go_loopw [3, 5] (fun t3 t5 wq => ∃ (v : Value) (j : Nat), t3 = v ∧ t5 = .int .i64 (56 - 8 * (j : Int)) ∧ j ≤ 8 ∧ OwnB wq w.heap.size 5 v (l ++ 128 :: (List.replicate p 0 ++ (len8 l.length).take j)) ∧ Below w.heap.size w wq) (fun _ t5 _ => (intOf t5 + 8).toNat)
        case atStart => exact ⟨_, 0, rfl, rfl, by omega, by simpa using HO.out, HBW.out⟩
        case round =>
          obtain ⟨v, j, rfl, rfl, hj, hO, hbw⟩ := hrel
          have hbsq := hbw.size
          have HO4 := hidp hO; have HBW4 := hidp hbw
          clear hO hbw
          by_cases hj8 : j < 8
          · obtain ⟨c, hc⟩ : ∃ c, (len8 l.length)[j]? = some c := ⟨_, List.getElem?_eq_getElem (by rw [len8_len]; exact hj8)⟩
            have hcv : ((s.size : Int) * 8 / 2 ^ (56 - 8 * j) % 256) = (c.toNat : Int) := by
              have h := len8_get l.length j hj8
              rw [List.getD_eq_getElem?_getD, hc] at h
              simp only [Option.getD_some] at h
              rw [h, hll.out, show 8 * (7 - j) = 56 - 8 * j from by omega]
              simp
            have hto : (56 - 8 * (j : Int)).toNat = 56 - 8 * j := by omega
            have hge : 0 ≤ 56 - 8 * (j : Int) := by omega
            have hlt64 : 56 - 8 * (j : Int) < 64 := by omega
            have HC := hidp hc
            have HCV := hidp hcv
            clear hc hcv
            go_wp2_with ((refine wpList_appB rfl (.tmp 25) (.tmp 30) 76 rfl w.heap.size 5 i0 Tryd.underlying76 HI.out HZ0.out HZ1.out HZ2.out _ (l ++ 128 :: (List.replicate p 0 ++ (len8 l.length).take j)) rfl (HO4.out.alloc _) _ 1 _ c rfl (cell_new1 wr _ _) HCV.out ?_ ?_ ?_))
            · have := hll.out; have := len8_len l.length; simp; omega
            · first | omega | (simp; omega)
            · intro v2 w2 h1 h2
              have HO2 := hidp (show OwnB w2 w.heap.size 5 v2 (l ++ 128 :: (List.replicate p 0 ++ (len8 l.length).take (j + 1))) from by
                rw [List.take_add_one, HC.out]; simpa using h1)
              have HB2 := hidp (HBW4.out.trans (((Below.refl w.heap.size wr).alloc hbsq _).trans h2))
              clear h1 h2
              go_wp2_with fail
              exact ⟨⟨v2, j + 1, rfl, by rw [show (56 - 8 * ((j + 1 : Nat) : Int)) = 56 - 8 * (j : Int) - 8 from by omega], by omega, HO2.out, HB2.out⟩, by simp [intOf]; omega⟩
          · obtain rfl : j = 8 := by omega
            have HF := hidp (show l ++ 128 :: (List.replicate p 0 ++ (len8 l.length).take 8) = fillL l from by
              rw [List.take_of_length_le (by rw [len8_len]; omega), ← HP.out]; rfl)
            go_wp2_with fail
            go_ret
            exact ⟨_, rfl, by rw [← HF.out]; exact HO4.out, HBW4.out⟩
end Go.Proofs.YtgfdhgnkanekhaaDoor
