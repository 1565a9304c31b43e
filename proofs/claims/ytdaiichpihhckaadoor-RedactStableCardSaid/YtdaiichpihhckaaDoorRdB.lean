/-
  The document's redaction: Text, sum, Ref, Content.
-/
import Derived.Test.YtdaiichpihhckaaDoorRdA
namespace Go.Proofs.YtdaiichpihhckaaDoor
set_option maxRecDepth 100000
set_option linter.unusedVariables false
set_option linter.unusedSimpArgs false
open Go.RowKit

set_option maxHeartbeats 8000000 in
theorem text_any (w : World) (c : UInt8) (r s : ByteArray) (k : Nat) (y b : ByteArray) (n : Int) (hk : k < 256) (hr : r.size ≤ 281474976710656) (hs : s.size ≤ 281474976710656) (hy : y.size ≤ 281474976710656) (hb : b.size ≤ 281474976710656) :
    Calls Tryd.prog 17 #[.string ⟨#[c]⟩, .agg #[.string r, .string s, .int .u8 (k : Int), .string y, .string b, .int .i64 n]] w fun e w' => e = .returned (.string (markS c (⟨r, s, k, y, b, n⟩ : Ev))) ∧ Below w.heap.size w w' := by
  have cb := hidp (fun W => revBytes_any W r s k y b n hk hr hs hy hb)
  cases hok : evOk (⟨r, s, k, y, b, n⟩ : Ev) with
  | false =>
    have hE : evE (⟨r, s, k, y, b, n⟩ : Ev) = 2 := by unfold evE; rw [hok]; rfl
    have h2 : evB (⟨r, s, k, y, b, n⟩ : Ev) = ⟨#[]⟩ := by unfold evB; rw [hok]; rfl
    have HF := hidp (show markS c (⟨r, s, k, y, b, n⟩ : Ev) = ⟨#[]⟩ from by unfold markS; rw [hok]; rfl)
    rw [hE, h2] at cb
    clear hE h2 hok
    go_enter Tryd.func17, Tryd.ntmps17
    go_wp2_with (refine wpL_boxT 24 rfl _ rfl [.string r, .string s, .int .u8 (k : Int), .string y, .string b, .int .i64 n] rfl ?_; intro b1 w1 n1; have HB := hidp n1.below; obtain ⟨x0, x1, x2, x3, x4, x5⟩ := arr6 n1.arr; clear n1)
    clear x0 x1 x2 x3 x4 x5
    refine (cb.out _).mono ?_
    rintro e w8 ⟨rfl, hb8⟩
    have HB8 := hidp (HB.out.trans (hb8.mono HB.out.size)); 
    clear hb8 HB 
    go_wp2_with fail
    go_ret
    exact ⟨by rw [HF.out]; rfl, HB8.out⟩
  | true =>
    have hE : evE (⟨r, s, k, y, b, n⟩ : Ev) = 0 := by unfold evE; rw [hok]; rfl
    have hbs := evB_size hok
    have HF0 : markS c (⟨r, s, k, y, b, n⟩ : Ev) = mkS (c :: (evB (⟨r, s, k, y, b, n⟩ : Ev)).data.toList) := if_pos hok
    rw [hE] at cb
    obtain ⟨B, hB⟩ : ∃ B, evB (⟨r, s, k, y, b, n⟩ : Ev) = B := ⟨_, rfl⟩
    rw [hB] at cb hbs HF0
    obtain ⟨C, hC⟩ : ∃ C, (⟨#[c]⟩ : ByteArray) = C := ⟨_, rfl⟩
    have hCs : C.size = 1 := by rw [← hC]; rfl
    have HF := hidp (show markS c (⟨r, s, k, y, b, n⟩ : Ev) = C ++ B from by rw [HF0, ← mark_cat, hC, mkS_of])
    rw [hC]
    have hns : ¬ 9223372036854775807 < C.size + B.size := by omega
    clear hok hB hC hE HF0
    go_enter Tryd.func17, Tryd.ntmps17
    go_wp2_with (refine wpL_boxT 24 rfl _ rfl [.string r, .string s, .int .u8 (k : Int), .string y, .string b, .int .i64 n] rfl ?_; intro b1 w1 n1; have HB := hidp n1.below; obtain ⟨x0, x1, x2, x3, x4, x5⟩ := arr6 n1.arr; clear n1)
    clear x0 x1 x2 x3 x4 x5
    refine (cb.out _).mono ?_
    rintro e w8 ⟨rfl, hb8⟩
    have HB8 := hidp (HB.out.trans (hb8.mono HB.out.size)); 
    clear hb8 HB 
    go_wp2_with fail
    go_ret
    exact ⟨by rw [HF.out]; rfl, HB8.out⟩

/-- The document's sum of a text. -/
def dsH (s : ByteArray) : List UInt8 := if s.size = 0 then z32 else Sh.shaL s.data.toList
def dsE (s : ByteArray) : Int := if s.size = 0 then 2 else 0
theorem dsH_len (s : ByteArray) : (dsH s).length = 32 := by unfold dsH; split; rfl; exact Sh.shaL_len _
set_option maxHeartbeats 8000000 in
theorem dsum_any (w : World) (t : ByteArray) (ht : t.size ≤ 281474976710656 / 4) :
    Calls Tryd.prog 31 #[.string t] w fun e w' => e = .returned (.tuple #[.agg (u8s (dsH t)).toArray, .int .i64 (dsE t)]) ∧ Below w.heap.size w w' := by
  by_cases h0 : t.size = 0
  · obtain ⟨f1, f2, f3⟩ := empty_facts h0
    have HE := hidp (show dsE t = 2 from if_pos h0)
    have HF := hidp (show dsH t = z32 from if_pos h0)
    clear h0
    go_enter Tryd.func31, Tryd.ntmps31
    go_wp2_with (first | (refine wpL_new rfl rfl ?_; intro b2 w2 n2; have HR := hidp n2.arr; have HB := hidp n2.below; have h2w := hidp n2.le; clear n2) | (refine wpL_zero rfl rfl ?_) | (refine wpL_put rfl (.tmp 2) (.tmp 6) rfl b2 z32 rfl rfl rfl _ rfl HR.out ?_; intro w9 ha9 hp9))
    have HBZ := hidp (hp9.below' HB.out h2w.out)
    refine bodyPost_ret (results_row_tmp (P := Tryd.prog) (p := 2) (u := 3) (ty := 26) Tryd.results31 _ _ b2 26 (u8s z32).toArray (0, 0) _ rfl ha9 hash_row rfl (hash_size rfl) _ rfl) rfl ⟨by rw [HF.out, HE.out]; rfl, HBZ.out⟩
  · obtain ⟨f1, f2, f3⟩ := full_facts h0
    have HE := hidp (show dsE t = 0 from if_neg h0)
    have HF := hidp (show dsH t = Sh.shaL t.data.toList from if_neg h0)
    have cs := hidp (fun W => rsum_b W t ht)
    have hl := hidp (Sh.shaL_len t.data.toList)
    obtain ⟨S, hS⟩ : ∃ S, Sh.shaL t.data.toList = S := ⟨_, rfl⟩
    rw [hS] at cs hl HF
    clear h0 hS
    go_enter Tryd.func31, Tryd.ntmps31
    go_wp2_with (first | (refine wpL_new rfl rfl ?_; intro b2 w2 n2; have HR := hidp n2.arr; have HB := hidp n2.below; have h2w := hidp n2.le; clear n2) | (refine wpL_zero rfl rfl ?_) | (refine wpL_put rfl (.tmp 2) (.tmp 6) rfl b2 z32 rfl rfl rfl _ rfl HR.out ?_; intro w9 ha9 hp9))
    refine (cs.out _).mono ?_
    rintro e w7 ⟨rfl, hb7⟩
    have HB7 := hidp (HB.out.trans (hb7.mono HB.out.size)); have HR7 := hidp (HR.out.below hb7 HR.out.lt)
    clear hb7 HB HR
    go_wp2_with (refine wpL_put rfl (.tmp 2) (.tmp 8) rfl b2 S rfl rfl hl.out _ rfl HR7.out ?_; intro w9 ha9 hp9)
    have HBZ := hidp (hp9.below' HB7.out h2w.out)
    refine bodyPost_ret (results_row_tmp (P := Tryd.prog) (p := 2) (u := 3) (ty := 26) Tryd.results31 _ _ b2 26 (u8s S).toArray (0, 0) _ rfl ha9 hash_row rfl (hash_size hl.out) _ rfl) rfl ⟨by rw [HF.out, HE.out]; rfl, HBZ.out⟩

theorem ds_mark (c : UInt8) (e : Ev) : dsH (markS c e) = markH c e ∧ dsE (markS c e) = evE e ∧ (markS c e).size ≤ 65537 := by
  unfold markS markH evE
  cases hok : evOk e with
  | false => exact ⟨rfl, rfl, Nat.zero_le _⟩
  | true =>
    have hs := evB_size hok
    have hl : (evB e).data.toList.length = (evB e).size := size_toList _
    have h1 : (mkS (c :: (evB e).data.toList)).size = (evB e).size + 1 := by rw [mkS_size, List.length_cons, hl]
    have h0 : ¬ (mkS (c :: (evB e).data.toList)).size = 0 := by omega
    rw [if_pos rfl, if_pos rfl, if_pos rfl]
    exact ⟨by unfold dsH; rw [if_neg h0, mkS_data], if_neg h0, by omega⟩

set_option maxHeartbeats 8000000 in
theorem dref_any (w : World) (r s : ByteArray) (k : Nat) (y b : ByteArray) (n : Int) (hk : k < 256) (hr : r.size ≤ 281474976710656) (hs : s.size ≤ 281474976710656) (hy : y.size ≤ 281474976710656) (hb : b.size ≤ 281474976710656) :
    Calls Tryd.prog 10 #[.agg #[.string r, .string s, .int .u8 (k : Int), .string y, .string b, .int .i64 n]] w fun e w' => e = .returned (.tuple #[.agg (u8s (refH r s k y b n)).toArray, .int .i64 (evE (⟨r, s, k, y, b, n⟩ : Ev))]) ∧ Below w.heap.size w w' := by
  have ck := hidp (fun W => revCheck_any W r s k y b n hk hr hs hy hb)
  cases hok : evOk (⟨r, s, k, y, b, n⟩ : Ev) with
  | false =>
    have HE := hidp (show evE (⟨r, s, k, y, b, n⟩ : Ev) = 2 from by unfold evE; rw [hok]; rfl)
    have HF := hidp (show refH r s k y b n = z32 from by unfold refH; rw [hok]; rfl)
    rw [HE.out] at ck
    clear hok
    go_enter Tryd.func10, Tryd.ntmps10
    go_wp2_with (first | (refine wpL_boxT 24 rfl _ rfl [.string r, .string s, .int .u8 (k : Int), .string y, .string b, .int .i64 n] rfl ?_; intro b1 w1 n1) | (refine wpL_new rfl rfl ?_; intro b2 w2 n2; have HA := hidp (n2.old n1.arr); have HR := hidp n2.arr; have HB := hidp (n1.below.trans (n2.below.mono n1.below.size)); have h1w := hidp n1.le; have h2w := hidp (Nat.le_trans n1.below.size n2.le); have hne : b1 ≠ b2 := (by have := n2.at_; have := n1.lt; omega); clear n1 n2; obtain ⟨x0, x1, x2, x3, x4, x5, f0, f1, f2, f3, f4, f5⟩ := arr6f HA.out))
    clear x0 x1 x2 x3 x4 x5 f0 f1 f2 f3 f4 f5
    refine (ck.out _).mono ?_
    rintro e w8 ⟨rfl, hb8⟩
    have HB8 := hidp (HB.out.trans (hb8.mono HB.out.size)); have HR8 := hidp (HR.out.below hb8 HR.out.lt)
    clear hb8 HB HR
    go_wp2_with (first | (refine wpL_zero rfl rfl ?_) | (refine wpL_put rfl (.tmp 2) (.tmp 7) rfl b2 z32 rfl rfl rfl _ rfl HR8.out ?_; intro w9 ha9 hp9))
    have HBZ := hidp (hp9.below' HB8.out h2w.out)
    refine bodyPost_ret (results_row_tmp (P := Tryd.prog) (p := 2) (u := 3) (ty := 26) Tryd.results10 _ _ b2 26 (u8s z32).toArray (0, 0) _ rfl ha9 hash_row rfl (hash_size rfl) _ rfl) rfl ⟨by rw [HF.out, HE.out]; rfl, HBZ.out⟩
  | true =>
    have HE := hidp (show evE (⟨r, s, k, y, b, n⟩ : Ev) = 0 from by unfold evE; rw [hok]; rfl)
    have HF := hidp (show refH r s k y b n = markH 6 (⟨r, s, k, y, rdb k b, n⟩ : Ev) from if_pos hok)
    have hrs := rdb_size k b
    have hE2 : evE (⟨r, s, k, y, rdb k b, n⟩ : Ev) = 0 := by unfold evE; rw [rd_ok r s k y b n hok]; rfl
    have cr := hidp (fun W => dredact_any W r s k y b n hk hr hs hy hb)
    have ct := hidp (fun W => text_any W 6 r s k y (rdb k b) n hk hr hs hy (by omega))
    obtain ⟨m1, m2, m3⟩ := ds_mark 6 (⟨r, s, k, y, rdb k b, n⟩ : Ev)
    have cs := hidp (fun W => dsum_any W (markS 6 (⟨r, s, k, y, rdb k b, n⟩ : Ev)) (by omega))
    have hl := hidp (markH_len 6 (⟨r, s, k, y, rdb k b, n⟩ : Ev))
    rw [m1, m2, hE2] at cs
    rw [HE.out] at ck
    obtain ⟨S, hS⟩ : ∃ S, markH 6 (⟨r, s, k, y, rdb k b, n⟩ : Ev) = S := ⟨_, rfl⟩
    obtain ⟨G, hG⟩ : ∃ S, markS 6 (⟨r, s, k, y, rdb k b, n⟩ : Ev) = S := ⟨_, rfl⟩
    rw [hS] at cs hl HF
    rw [hG] at cs ct
    obtain ⟨d, hd⟩ : ∃ d, rdb k b = d := ⟨_, rfl⟩
    rw [hd] at ct cr
    clear hok hS hG hE2 hrs hd m1 m2 m3
    go_enter Tryd.func10, Tryd.ntmps10
    go_wp2_with (first | (refine wpL_boxT 24 rfl _ rfl [.string r, .string s, .int .u8 (k : Int), .string y, .string b, .int .i64 n] rfl ?_; intro b1 w1 n1) | (refine wpL_new rfl rfl ?_; intro b2 w2 n2; have HA := hidp (n2.old n1.arr); have HR := hidp n2.arr; have HB := hidp (n1.below.trans (n2.below.mono n1.below.size)); have h1w := hidp n1.le; have h2w := hidp (Nat.le_trans n1.below.size n2.le); have hne : b1 ≠ b2 := (by have := n2.at_; have := n1.lt; omega); clear n1 n2; obtain ⟨x0, x1, x2, x3, x4, x5, f0, f1, f2, f3, f4, f5⟩ := arr6f HA.out))
    clear x0 x1 x2 x3 x4 x5 f0 f1 f2 f3 f4 f5
    refine (ck.out _).mono ?_
    rintro e w8 ⟨rfl, hb8⟩
    have HB8 := hidp (HB.out.trans (hb8.mono HB.out.size)); have HA8 := hidp (HA.out.below hb8 HA.out.lt); have HR8 := hidp (HR.out.below hb8 HR.out.lt)
    clear hb8 HB HA HR
    obtain ⟨x0, x1, x2, x3, x4, x5, f0, f1, f2, f3, f4, f5⟩ := arr6f HA8.out
    go_wp2_with fail
    clear x0 x1 x2 x3 x4 x5 f0 f1 f2 f3 f4 f5
    refine (cr.out _).mono ?_
    rintro e w7 ⟨rfl, hb7⟩
    have HB7 := hidp (HB8.out.trans (hb7.mono HB8.out.size)); have HR7 := hidp (HR8.out.below hb7 HR8.out.lt)
    clear hb7 HB8 HR8
    go_wp2_with fail
    refine (ct.out _).mono ?_
    rintro e w5 ⟨rfl, hb5⟩
    have HB5 := hidp (HB7.out.trans (hb5.mono HB7.out.size)); have HR5 := hidp (HR7.out.below hb5 HR7.out.lt)
    clear hb5 HB7 HR7
    go_wp2_with fail
    refine (cs.out _).mono ?_
    rintro e w6 ⟨rfl, hb6⟩
    have HB6 := hidp (HB5.out.trans (hb6.mono HB5.out.size)); have HR6 := hidp (HR5.out.below hb6 HR5.out.lt)
    clear hb6 HB5 HR5
    go_wp2_with (refine wpL_put rfl (.tmp 2) (.tmp 12) rfl b2 S rfl rfl hl.out _ rfl HR6.out ?_; intro w9 ha9 hp9)
    have HBZ := hidp (hp9.below' HB6.out h2w.out)
    refine bodyPost_ret (results_row_tmp (P := Tryd.prog) (p := 2) (u := 3) (ty := 26) Tryd.results10 _ _ b2 26 (u8s S).toArray (0, 0) _ rfl ha9 hash_row rfl (hash_size hl.out) _ rfl) rfl ⟨by rw [HF.out, HE.out]; rfl, HBZ.out⟩

set_option maxHeartbeats 8000000 in
theorem dcontent_any (w : World) (r s : ByteArray) (k : Nat) (y b : ByteArray) (n : Int) (hk : k < 256) (hr : r.size ≤ 281474976710656) (hs : s.size ≤ 281474976710656) (hy : y.size ≤ 281474976710656) (hb : b.size ≤ 281474976710656) :
    Calls Tryd.prog 12 #[.agg #[.string r, .string s, .int .u8 (k : Int), .string y, .string b, .int .i64 n]] w fun e w' => e = .returned (.tuple #[.agg (u8s (markH 7 (⟨r, s, k, y, b, n⟩ : Ev))).toArray, .int .i64 (evE (⟨r, s, k, y, b, n⟩ : Ev))]) ∧ Below w.heap.size w w' := by
  have ct := hidp (fun W => text_any W 7 r s k y b n hk hr hs hy hb)
  obtain ⟨m1, m2, m3⟩ := ds_mark 7 (⟨r, s, k, y, b, n⟩ : Ev)
  have cs := hidp (fun W => dsum_any W (markS 7 (⟨r, s, k, y, b, n⟩ : Ev)) (by omega))
  rw [m1, m2] at cs
  have hl := hidp (markH_len 7 (⟨r, s, k, y, b, n⟩ : Ev))
  obtain ⟨S, hS⟩ : ∃ S, markH 7 (⟨r, s, k, y, b, n⟩ : Ev) = S := ⟨_, rfl⟩
  obtain ⟨E, hE⟩ : ∃ E, evE (⟨r, s, k, y, b, n⟩ : Ev) = E := ⟨_, rfl⟩
  obtain ⟨G, hG⟩ : ∃ S, markS 7 (⟨r, s, k, y, b, n⟩ : Ev) = S := ⟨_, rfl⟩
  have HF := hidp hS; have HE := hidp hE
  rw [hS] at hl
  rw [hS, hE, hG] at cs
  rw [hG] at ct
  rw [hS, hE]
  clear hS hE hG m1 m2 m3
  go_enter Tryd.func12, Tryd.ntmps12
  go_wp2_with (first | (refine wpL_boxT 24 rfl _ rfl [.string r, .string s, .int .u8 (k : Int), .string y, .string b, .int .i64 n] rfl ?_; intro b1 w1 n1) | (refine wpL_new rfl rfl ?_; intro b2 w2 n2; have HA := hidp (n2.old n1.arr); have HR := hidp n2.arr; have HB := hidp (n1.below.trans (n2.below.mono n1.below.size)); have h1w := hidp n1.le; have h2w := hidp (Nat.le_trans n1.below.size n2.le); have hne : b1 ≠ b2 := (by have := n2.at_; have := n1.lt; omega); clear n1 n2; obtain ⟨x0, x1, x2, x3, x4, x5, f0, f1, f2, f3, f4, f5⟩ := arr6f HA.out))
  clear x0 x1 x2 x3 x4 x5 f0 f1 f2 f3 f4 f5
  refine (ct.out _).mono ?_
  rintro e w7 ⟨rfl, hb7⟩
  have HB7 := hidp (HB.out.trans (hb7.mono HB.out.size)); have HR7 := hidp (HR.out.below hb7 HR.out.lt)
  clear hb7 HB HR
  go_wp2_with fail
  refine (cs.out _).mono ?_
  rintro e w6 ⟨rfl, hb6⟩
  have HB6 := hidp (HB7.out.trans (hb6.mono HB7.out.size)); have HR6 := hidp (HR7.out.below hb6 HR7.out.lt)
  clear hb6 HB7 HR7
  go_wp2_with (refine wpL_put rfl (.tmp 2) (.tmp 7) rfl b2 S rfl rfl hl.out _ rfl HR6.out ?_; intro w9 ha9 hp9)
  have HBZ := hidp (hp9.below' HB6.out h2w.out)
  refine bodyPost_ret (results_row_tmp (P := Tryd.prog) (p := 2) (u := 3) (ty := 26) Tryd.results12 _ _ b2 26 (u8s S).toArray (0, 0) _ rfl ha9 hash_row rfl (hash_size hl.out) _ rfl) rfl ⟨rfl, HBZ.out⟩
end Go.Proofs.YtdaiichpihhckaaDoor
