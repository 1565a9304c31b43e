/-
  sha.Unhex.
-/
import Derived.Test.YtcjehpojckdfnaaDoorShaI
namespace Go.Proofs.YtcjehpojckdfnaaDoor
set_option linter.unusedVariables false
set_option linter.unusedSimpArgs false
open Go.RowKit

/-- The bytes that 64 digits are. -/
def unL (l : List UInt8) : List UInt8 := (List.range 32).map fun i => UInt8.ofNat (16 * dig (l.getD (2 * i) 0) + dig (l.getD (2 * i + 1) 0))
def unOk (l : List UInt8) : Bool := l.length = 64 ∧ ∀ c ∈ l, dig c < 16
def unV (l : List UInt8) : List UInt8 := if unOk l then unL l else z32
def unE (l : List UInt8) : Nat := if unOk l then 0 else 6
/-- The first i bytes, noughts behind. -/
def unP (l : List UInt8) (i : Nat) : List UInt8 := (unL l).take i ++ List.replicate (32 - i) 0
theorem unL_len (l : List UInt8) : (unL l).length = 32 := by simp [unL]
theorem unL_get (l : List UInt8) (i : Nat) (h : i < 32) : (unL l)[i]? = some (UInt8.ofNat (16 * dig (l.getD (2 * i) 0) + dig (l.getD (2 * i + 1) 0))) := by simp [unL, h]
theorem unP_len (l : List UInt8) (i : Nat) (h : i ≤ 32) : (unP l i).length = 32 := by unfold unP; rw [List.length_append, List.length_take, unL_len, List.length_replicate]; omega
theorem unP_all (l : List UInt8) : unP l 32 = unL l := by unfold unP; rw [List.take_of_length_le (by rw [unL_len]; omega)]; simp
theorem unP_zero (l : List UInt8) : unP l 0 = z32 := by unfold unP; simp; rfl
theorem unP_set (l : List UInt8) (i : Nat) (h : i < 32) : (unP l i).set i (UInt8.ofNat (16 * dig (l.getD (2 * i) 0) + dig (l.getD (2 * i + 1) 0))) = unP l (i + 1) := by
  unfold unP
  rw [List.take_add_one, unL_get l i h, show 32 - i = (31 - i) + 1 from by omega, List.replicate_succ, List.set_append_right _ _ (by rw [List.length_take, unL_len]; omega), List.length_take, unL_len, show i - min i 32 = 0 from by omega, List.set_cons_zero, show 32 - (i + 1) = 31 - i from by omega]
  simp
theorem unOk_no (l : List UInt8) (j : Nat) (hj : j < l.length) (h : ¬ dig (l.getD j 0) < 16) : unOk l = false := by
  unfold unOk
  rw [decide_eq_false_iff_not]
  intro ⟨_, hk⟩
  have hm : l.getD j 0 ∈ l := by rw [List.getD_eq_getElem?_getD, List.getElem?_eq_getElem hj]; exact List.getElem_mem _
  exact h (hk _ hm)
theorem unOk_yes (l : List UInt8) (hl : l.length = 64) (h : ∀ j, j < 64 → dig (l.getD j 0) < 16) : unOk l = true := by
  unfold unOk
  rw [decide_eq_true_iff]
  refine ⟨hl, fun c hc => ?_⟩
  obtain ⟨j, hj, rfl⟩ := List.getElem_of_mem hc
  have := h j (by omega)
  rwa [List.getD_eq_getElem?_getD, List.getElem?_eq_getElem hj] at this
theorem dig_yes (w : World) (c : UInt8) (n : Nat) (h : dig c = n) (hn : n < 16) :
    Calls Tryd.prog 56 #[.int .u8 c.toNat] w fun e w' => e = .returned (.tuple #[.int .u8 (n : Int), .bool true]) ∧ Below w.heap.size w w' := by
  have := dig_any w c; rw [h, if_pos hn, decide_eq_true hn] at this; exact this
theorem dig_no (w : World) (c : UInt8) (h : ¬ dig c < 16) :
    Calls Tryd.prog 56 #[.int .u8 c.toNat] w fun e w' => e = .returned (.tuple #[.int .u8 0, .bool false]) ∧ Below w.heap.size w w' := by
  have := dig_any w c; rw [if_neg h, decide_eq_false h] at this; exact this
theorem dig_some (c : UInt8) : ∃ (v : Int) (b : Bool), ∀ w, Calls Tryd.prog 56 #[.int .u8 c.toNat] w fun e w' => e = .returned (.tuple #[.int .u8 v, .bool b]) ∧ Below w.heap.size w w' :=
  ⟨_, _, fun w => dig_any w c⟩
theorem rdig_n (w : World) (c : UInt8) (n : Nat) (h : dig c = n) :
    Calls Tryd.prog 57 #[.int .u8 c.toNat] w fun e w' => e = .returned (.int .u8 (n : Int)) ∧ Below w.heap.size w w' := by
  have := rdig_any w c; rw [h] at this; exact this
theorem dig_le (c : UInt8) : dig c ≤ 16 := by unfold dig; split; omega; split <;> omega
theorem results_row_tmp {P : Program} {fn : Func} {p u : Tmp} {ty : TypeId} (h : fn.results = #[.cell p ty, .tmp u]) (tmps : Array Value) (w : World) (g : Nat) (t : TypeId) (cs : Array Value) (fr : Nat × Nat) (d : TypeDesc)
    (hp : tmps.getD p undef = .pointer (some ⟨g, 0, none⟩)) (hg : w.heap[g]? = some (.cells cs t fr))
    (hu : P.underlying ty = some d) (hd : (match d with | .struct _ | .array _ _ => true | _ => false) = true) (hi : (P.info? ty).map (·.size) = some cs.size) (v : Value) (hv : tmps.getD u undef = v) :
    (results fn tmps).run P w = .ok (.tuple #[.agg cs, v]) w := by
  have hp' : tmps[p]?.getD undef = .pointer (some ⟨g, 0, none⟩) := by simpa using hp
  have hv' : tmps[u]?.getD undef = v := by simpa using hv
  simp [results, h, hp', hv', asAddr, run_loadVar_row w g t ty cs fr d hg hu hd hi]
theorem hash_size {l : List UInt8} (h : l.length = 32) : (Tryd.prog.info? 24).map (·.size) = some (u8s l).toArray.size := by
  rw [show (Tryd.prog.info? 24).map (·.size) = some 32 from by kernel_rfl]; simp [u8s_length, h]
theorem s_byte (s : ByteArray) (i : Nat) (h : i < s.size) : s[i]'h = s.data.toList.getD i 0 := by
  rw [List.getD_eq_getElem?_getD, List.getElem?_eq_getElem (by simpa using h)]; rfl
theorem rdig_q (w : World) (c : UInt8) (n : Nat) (hh : dig c = n) :
    Calls Tryd.prog 57 #[.int .u8 c.toNat] w fun e w' => e = .returned (.int .u8 (n : Int)) ∧ w' = w := by
  have hc := c.toNat_lt
  obtain ⟨m, hn⟩ : ∃ m, c.toNat = m := ⟨_, rfl⟩
  have hd := dig_n c m hn
  rw [hn] at hc
  rw [hn]
  have HD : (48 ≤ m ∧ m ≤ 57 ∧ dig c = m - 48) ∨ (97 ≤ m ∧ m ≤ 102 ∧ dig c = m - 87) ∨ (dig c = 16 ∧ (m < 48 ∨ (57 < m ∧ m < 97) ∨ 102 < m)) := by
    rw [hd]
    split
    · omega
    · split <;> omega
  clear hd
  rw [hh] at HD
  clear hh
  rcases HD with ⟨h1, h2, h3⟩ | ⟨h1, h2, h3⟩ | ⟨h3, h4 | ⟨h4, h5⟩ | h4⟩
  all_goals
    subst h3
    go_enter Tryd.func57, Tryd.ntmps57
    go_wp2
    all_goals first | (exfalso; omega) | skip
    go_ret
    first
    | exact ⟨rfl, rfl⟩
    | exact ⟨by rw [show ((m - 48 : Nat) : Int) = (m : Int) - 48 from by omega]; rfl, rfl⟩
    | exact ⟨by rw [show ((m - 87 : Nat) : Int) = (m : Int) - 97 + 10 from by omega]; rfl, rfl⟩
/-- Behind i rounds. -/
def UH (w : World) (l : List UInt8) (t14 : Value) (wr : World) : Prop :=
  ∃ i : Nat, t14 = .int .i64 (i : Int) ∧ i ≤ 32 ∧ Arr wr (w.heap.size + 1) 24 (u8s (unP l i)) ∧ Arr wr w.heap.size 24 (u8s z32) ∧ (∀ j, j < 2 * i → dig (l.getD j 0) < 16) ∧ Below w.heap.size w wr
theorem UH.start (w : World) (l : List UInt8) : UH w l (.int .i64 0) ((w.alloc (.cells (u8s z32).toArray 24)).alloc (.cells (u8s z32).toArray 24)) := by
  refine ⟨0, rfl, by omega, ?_, (Arr.new w 24 (u8s z32)).alloc _, fun j hj => by omega, ((Below.refl _ w).alloc (Nat.le_refl _) _).alloc (by simp) _⟩
  rw [unP_zero]
  have h := Arr.new (w.alloc (.cells (u8s z32).toArray 24)) 24 (u8s z32)
  rw [heap_size_alloc] at h; exact h
theorem shl4_or (x y : Nat) (hx : x < 16) (hy : y < 16) : bits .or .u8 ((x : Int) * 16) (y : Int) = (((UInt8.ofNat (16 * x + y)).toNat : Nat) : Int) := by
  rw [u8n _ (by omega)]
  have e : ((x : Int) * 16) = ((x * 16 : Nat) : Int) := by omega
  rw [e, Go.u8_or_nat (x * 16) y (by omega) (by omega)]
  have := Nat.two_pow_add_eq_or_of_lt (i := 4) (b := y) (by omega) x
  rw [show x * 16 = 2 ^ 4 * x from by omega, ← this]
set_option maxRecDepth 100000 in
set_option maxHeartbeats 8000000 in
theorem unhex_any (w : World) (s : ByteArray) (hs : s.size ≤ 281474976710656) :
    Calls Tryd.prog 22 #[.string s] w fun e w' => e = .returned (.tuple #[.agg (u8s (unV s.data.toList)).toArray, .int .i64 (unE s.data.toList : Nat)]) ∧ Below w.heap.size w w' := by
  have HI := hidp (show (Tryd.prog.info? 24).map (·.size) = some (u8s z32).toArray.size from by kernel_rfl)
  by_cases h64 : s.size = 64
  · have hlow : 64 ≤ s.size := by omega
    have hhigh : s.size ≤ 64 := by omega
    have hne : ((s.size : Int) != 64) = false := by simp; omega
    have HL := hidp (show s.data.toList.length = 64 from by simpa using h64)
    clear h64
    obtain ⟨l, hl⟩ : ∃ l, s.data.toList = l := ⟨_, rfl⟩
    have Hl := hidp hl
    rw [hl] at HL ⊢
    clear hl
    go_enter Tryd.func22, Tryd.ntmps22
    go_wp2_with fail
    conv in (Obj.cells _ 24) => (change Obj.cells (u8s (List.replicate 32 0)).toArray 24; rw [← z32_eq])
    conv in (Obj.cells #[.int .u8 0, _, _, _, _, _, _, _, _, _, _, _, _, _, _, _, _, _, _, _, _, _, _, _, _, _, _, _, _, _, _, _] 24) => (change Obj.cells (u8s (List.replicate 32 0)).toArray 24; rw [← z32_eq])
    have H0 := hidp (UH.start w l)
    obtain ⟨W0, hW0⟩ : ∃ W, (w.alloc (.cells (u8s z32).toArray 24)).alloc (.cells (u8s z32).toArray 24) = W := ⟨_, rfl⟩
    rw [hW0] at H0 ⊢
    clear hW0
    go_loopw [14] (fun t14 wr => UH w l t14 wr) (fun t14 _ => 32 - (intOf t14).toNat)
    case atStart => exact H0.out
    case round =>
      obtain ⟨i, rfl, hi32, hA, hR, hd, hbw⟩ := hrel
      have HA := hidp hA; have HR := hidp hR; have HD := hidp hd; have HBW := hidp hbw
      clear hA hR hd hbw H0
      by_cases hi : i < 32
      · have hb1 : 2 * i < s.size := by omega
        have hb2 : 2 * i + 1 < s.size := by omega
        have h1 := hidp (show s[2 * i]'hb1 = l.getD (2 * i) 0 from by rw [s_byte, Hl.out])
        have h2 := hidp (show s[2 * i + 1]'hb2 = l.getD (2 * i + 1) 0 from by rw [s_byte, Hl.out])
        obtain ⟨x, hx⟩ : ∃ x, dig (l.getD (2 * i) 0) = x := ⟨_, rfl⟩
        obtain ⟨y, hy⟩ : ∃ y, dig (l.getD (2 * i + 1) 0) = y := ⟨_, rfl⟩
        have HX := hidp hx; have HY := hidp hy
        clear hx hy
        have hbs := HBW.out.size
        have hlr := HR.out.lt
        have hcs := hidp (HA.out.cell i (by rw [u8s_length, unP_len _ _ hi32]; omega))
        have hfz := HA.out.frozen i
        by_cases hx16 : x < 16
        · go_wp2_with fail
          rw [h1.out]
          refine (dig_yes wr _ x HX.out hx16).mono ?_
          rintro e w1 ⟨rfl, hb1⟩
          have HB1 := hidp hb1; clear hb1
          by_cases hy16 : y < 16
          · go_wp2_with fail
            rw [h2.out]
            refine (dig_yes w1 _ y HY.out hy16).mono ?_
            rintro e w2 ⟨rfl, hb2⟩
            have HA2 := hidp ((HA.out.below HB1.out HA.out.lt).below hb2 (by have := HB1.out.size; have := HA.out.lt; omega))
            have HR2 := hidp ((HR.out.below HB1.out HR.out.lt).below hb2 (by have := HB1.out.size; omega))
            have HBW2 := hidp ((HBW.out.trans (HB1.out.mono hbs)).trans (hb2.mono (by have := HB1.out.size; omega)))
            have hc := HA2.out.cell i (by rw [u8s_length, unP_len _ _ hi32]; omega)
            have hf := HA2.out.frozen i
            clear hb2 hfz
            have hso := hidp (shl4_or x y hx16 hy16)
            go_wp2_with fail
            rw [hso.out]
            have hset := HA2.out.set i (.int .u8 (((UInt8.ofNat (16 * x + y)).toNat : Nat) : Int))
            rw [u8s_set, ← HX.out, ← HY.out, unP_set l i hi, HX.out, HY.out] at hset
            refine ⟨⟨i + 1, by simp, by omega, hset, HR2.out.other _ (by simp) _, ?_, HBW2.out.setCell (by simp) _⟩, by simp [intOf]; omega⟩
            intro j hj
            rcases (by omega : j < 2 * i ∨ j = 2 * i ∨ j = 2 * i + 1) with h | rfl | rfl
            · exact HD.out j h
            · rw [HX.out]; exact hx16
            · rw [HY.out]; exact hy16
          · have hno : unOk l = false := unOk_no l (2 * i + 1) (by rw [HL.out]; omega) (by rw [HY.out]; exact hy16)
            have HN := hidp hno; clear hno
            go_wp2_with fail
            rw [h2.out]
            refine (dig_no w1 _ (by rw [HY.out]; exact hy16)).mono ?_
            rintro e w2 ⟨rfl, hb2⟩
            have HR2 := hidp ((HR.out.below HB1.out HR.out.lt).below hb2 (by have := HB1.out.size; omega))
            have HBW2 := hidp ((HBW.out.trans (HB1.out.mono hbs)).trans (hb2.mono (by have := HB1.out.size; omega)))
            clear hb2 hfz
            go_wp2_with (refine wpList_store_row rfl 24 (.tmp 2) (.tmp 40) rfl w.heap.size (u8s z32).toArray rfl rfl 24 _ HR2.out HI.out rfl (u8s_one z32) ?_)
            have hfin : (w2.setRow w.heap.size (u8s z32).toArray).heap[w.heap.size]? = some (.cells (u8s z32).toArray 24 (0, 0)) := setRow_heap _ _ _ _ _ _ HR2.out
            refine bodyPost_ret (results_row_tmp (P := Tryd.prog) (p := 2) (u := 3) (ty := 24) Tryd.results22 _ _ w.heap.size 24 (u8s z32).toArray (0, 0) _ rfl hfin Tryd.underlying24 rfl HI.out _ rfl) rfl ?_
            exact ⟨by unfold unV unE; rw [HN.out]; rfl, below_setRow HBW2.out (Nat.le_refl _) _⟩
        · have hno : unOk l = false := unOk_no l (2 * i) (by rw [HL.out]; omega) (by rw [HX.out]; exact hx16)
          have HN := hidp hno; clear hno
          go_wp2_with fail
          rw [h1.out]
          refine (dig_no wr _ (by rw [HX.out]; exact hx16)).mono ?_
          rintro e w1 ⟨rfl, hb1⟩
          have HB1 := hidp hb1; clear hb1
          go_wp2_with fail
          rw [h2.out]
          obtain ⟨dv, db, hdg⟩ := dig_some (l.getD (2 * i + 1) 0)
          refine (hdg w1).mono ?_
          rintro e w2 ⟨rfl, hb2⟩
          have HR2 := hidp ((HR.out.below HB1.out HR.out.lt).below hb2 (by have := HB1.out.size; omega))
          have HBW2 := hidp ((HBW.out.trans (HB1.out.mono hbs)).trans (hb2.mono (by have := HB1.out.size; omega)))
          clear hb2 hfz hdg
          go_wp2_with (refine wpList_store_row rfl 24 (.tmp 2) (.tmp 40) rfl w.heap.size (u8s z32).toArray rfl rfl 24 _ HR2.out HI.out rfl (u8s_one z32) ?_)
          have hfin : (w2.setRow w.heap.size (u8s z32).toArray).heap[w.heap.size]? = some (.cells (u8s z32).toArray 24 (0, 0)) := setRow_heap _ _ _ _ _ _ HR2.out
          refine bodyPost_ret (results_row_tmp (P := Tryd.prog) (p := 2) (u := 3) (ty := 24) Tryd.results22 _ _ w.heap.size 24 (u8s z32).toArray (0, 0) _ rfl hfin Tryd.underlying24 rfl HI.out _ rfl) rfl ?_
          exact ⟨by unfold unV unE; rw [HN.out]; rfl, below_setRow HBW2.out (Nat.le_refl _) _⟩
      · obtain rfl : i = 32 := by omega
        have hA := HA.out
        rw [unP_all] at hA
        have hok : unOk l = true := unOk_yes l HL.out (fun j hj => HD.out j (by omega))
        have HN := hidp hok; clear hok
        obtain ⟨X, hX⟩ : ∃ X, (u8s (unL l)).toArray = X := ⟨_, rfl⟩
        have HSX := hidp (show (Tryd.prog.info? 24).map (·.size) = some X.size from by rw [← hX]; exact hash_size (unL_len l))
        have hone := hidp (show X.all (·.oneCell') = true from by rw [← hX]; exact u8s_one _)
        have hlen := hidp (show (u8s z32).toArray.size = X.size from by rw [← hX]; simp [u8s_length, unL_len, z32_len])
        unfold Arr at hA
        rw [hX] at hA
        have HA := hidp hA; have HX := hidp hX
        clear hA hX
        have hbs := HBW.out.size
        go_wp2_with (first | (refine wpList_load_row rfl 24 (.tmp 4) rfl (w.heap.size + 1) rfl 24 X (0, 0) _ HA.out Tryd.underlying24 rfl HSX.out ?_) | (refine wpList_store_row rfl 24 (.tmp 2) (.tmp 48) rfl w.heap.size X rfl rfl 24 _ HR.out HSX.out hlen.out hone.out ?_))
        have hfin : (wr.setRow w.heap.size X).heap[w.heap.size]? = some (.cells X 24 (0, 0)) := setRow_heap _ _ _ _ _ _ HR.out
        refine bodyPost_ret (results_row_tmp (P := Tryd.prog) (p := 2) (u := 3) (ty := 24) Tryd.results22 _ _ w.heap.size 24 X (0, 0) _ rfl hfin Tryd.underlying24 rfl HSX.out _ rfl) rfl ?_
        exact ⟨by unfold unV unE; rw [HN.out, ← HX.out]; rfl, below_setRow HBW.out (Nat.le_refl _) _⟩
  · have hno := hidp (show unOk s.data.toList = false from by unfold unOk; simp; intro h; omega)
    have hne : ((s.size : Int) != 64) = true := by simp; omega
    go_enter Tryd.func22, Tryd.ntmps22
    have hld := hidp (show ∀ O, ((w.alloc (.cells (u8s z32).toArray 24)).alloc O).heap[w.heap.size]? = some (.cells (u8s z32).toArray 24 (0, 0)) from fun O => (Arr.new w 24 (u8s z32)).alloc O)
    go_wp2_with (refine wpList_store_row rfl 24 (.tmp 2) (.tmp 13) rfl w.heap.size (u8s z32).toArray rfl rfl 24 _ (hld.out _) HI.out rfl (u8s_one z32) ?_)
    have hfin := fun O => setRow_heap _ _ _ (u8s z32).toArray _ _ (hld.out O)
    refine bodyPost_ret (results_row_tmp (P := Tryd.prog) (p := 2) (u := 3) (ty := 24) Tryd.results22 _ _ w.heap.size 24 (u8s z32).toArray (0, 0) _ rfl (hfin _) Tryd.underlying24 rfl HI.out _ rfl) rfl ?_
    exact ⟨by unfold unV unE; rw [hno.out]; rfl, below_setRow (((Below.refl _ w).alloc (Nat.le_refl _) _).alloc (by simp) _) (Nat.le_refl _) _⟩
end Go.Proofs.YtcjehpojckdfnaaDoor
