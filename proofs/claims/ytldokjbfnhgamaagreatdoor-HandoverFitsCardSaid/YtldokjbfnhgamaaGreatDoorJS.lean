/-
  Joined: HoW.
-/
import Derived.Test.YtldokjbfnhgamaaGreatDoorJR
namespace Go.Proofs.YtldokjbfnhgamaaGreatDoor.Ho
set_option maxRecDepth 100000
set_option linter.unusedVariables false
set_option linter.unusedSimpArgs false
open Go.RowKit
open List (getElem_toArray getElem_cons_zero getElem_cons_succ setIfInBounds_toArray set_cons_zero set_cons_succ)

theorem eqin_bool (W : World) (F : Bool) : (Op.equalIn 10000 4 (.bool F) (.bool F)).run Tryz.prog W = .ok true W := by
  have hu := Tryz.underlying4
  cases F <;> go_simp
theorem eql_bool (W : World) (F : Bool) : (binOp .eql 4 (.bool F) (.bool F)).run Tryz.prog W = .ok (.bool true) W := by
  have hu := Tryz.underlying4
  cases F <;> go_simp
theorem ifs_deal (W : World) (ke : Nat) (re r : ByteArray) (ee ep ie ix he hu ne nx : Int) (F : Bool) (hF : F = eqD ⟨ke, re, ee, ie, he, ne, ⟨#[]⟩⟩ ⟨2, r, ep, ix, hu, nx, ⟨#[]⟩⟩) : (if (ke : Int) = 2 then if re.toList = r.toList then if ee = ep then if ie = ix then if he = hu then if ne = nx then Result.ok (Next.value (Value.bool true)) W else Result.ok (Next.value (Value.bool false)) W else Result.ok (Next.value (Value.bool false)) W else Result.ok (Next.value (Value.bool false)) W else Result.ok (Next.value (Value.bool false)) W else Result.ok (Next.value (Value.bool false)) W else Result.ok (Next.value (Value.bool false)) W) = (Result.ok (Next.value (Value.bool F)) W : Result Next) := by
  have hk : ((ke : Int) = 2) = (ke = 2) := by apply propext; omega
  rw [hF]; unfold eqD; simp only [hk]
  (repeat' split) <;> simp [*]
theorem dok_ok {d : De} (h : dOk d = true) : d.ok := by
  obtain ⟨g1, ⟨n, g2⟩, g3, g4, g5, g6, g7, g8⟩ := dOk_parts h
  have := who_size g2
  exact ⟨by omega, by omega, by omega⟩
theorem dB_size (d : De) : (dB d).size ≤ 65536 := by
  cases h : dOk d with
  | false => rw [dB_no h]; exact Nat.zero_le _
  | true =>
    have hX := dB_ok h
    rw [dB_yes h, mkS_size]; unfold encL
    have e1 := encTs_len [dT d, d.g] 8192 (by omega) hX.2
    have e2 := encN_len64 ([dT d, d.g] : List ByteArray).length (by simp)
    simp only [List.length_append, List.length_cons, List.length_nil] at e1 e2 ⊢; omega

set_option maxHeartbeats 64000000 in
theorem walk_handoverFits (w : World) (d : De) (hd : d.ok) (e : De) (hde : e.ok) (s : ByteArray) (hs : s.size ≤ 140737488351232) (hL : IT w ∧ HT w ∧ KT w) :
    Calls Tryz.prog 4 #[.agg d.row.toArray, .agg e.row.toArray, .string s] w fun x w' => x = .returned (.bool true) ∧ Below w.heap.size w w' := by
  obtain ⟨hI, hT, hK⟩ := hL
  have hkp := hK.pos
  have HI := hidp hI; have HT0 := hidp hT; have HK := hidp hK; clear hI hT hK
  obtain ⟨k, r, ep, ix, hu, nx, sg⟩ := d
  obtain ⟨ke, re, ee, ie, he, ne, ge⟩ := e
  have cb1 := hidp (show ∀ W, IT W → HT W → Calls Tryz.prog 13 #[.agg #[.int .u8 (k : Int), .string r, .int .i64 ep, .int .i64 ix, .int .i64 hu, .int .i64 nx, .string sg]] W (fun e w' => e = .returned (.tuple #[.string (dB (⟨k, r, ep, ix, hu, nx, sg⟩ : De)), .int .i64 (dE (⟨k, r, ep, ix, hu, nx, sg⟩ : De))]) ∧ Below W.heap.size W w') from fun W h h' => bytes_any W (⟨k, r, ep, ix, hu, nx, sg⟩ : De) hd h h')
  have cp2 := hidp (fun W h h' => parse_any W s (by omega) h h')
  have ca := hidp (show ∀ W, IT W → HT W → Calls Tryz.prog 17 #[.agg #[.int .u8 (k : Int), .string r, .int .i64 ep, .int .i64 ix, .int .i64 hu, .int .i64 nx, .string sg]] W (fun e w' => e = .returned (.tuple #[.agg (anV (⟨k, r, ep, ix, hu, nx, sg⟩ : De)).row.toArray, .int .i64 (anE (⟨k, r, ep, ix, hu, nx, sg⟩ : De))]) ∧ Below W.heap.size W w') from fun W h h' => answer_any W (⟨k, r, ep, ix, hu, nx, sg⟩ : De) hd h h')
  have cf := hidp (show ∀ W, IT W → HT W → Calls Tryz.prog 21 #[.agg #[.int .u8 (k : Int), .string r, .int .i64 ep, .int .i64 ix, .int .i64 hu, .int .i64 nx, .string sg], .agg #[.int .u8 (ke : Int), .string re, .int .i64 ee, .int .i64 ie, .int .i64 he, .int .i64 ne, .string ge]] W (fun e w' => e = .returned (.bool (fits (⟨k, r, ep, ix, hu, nx, sg⟩ : De) (⟨ke, re, ee, ie, he, ne, ge⟩ : De))) ∧ Below W.heap.size W w') from fun W h h' => fits_any W (⟨k, r, ep, ix, hu, nx, sg⟩ : De) (⟨ke, re, ee, ie, he, ne, ge⟩ : De) hd hde h h')
  have cc := hidp (show ∀ W, IT W → HT W → Calls Tryz.prog 19 #[.agg #[.int .u8 (ke : Int), .string re, .int .i64 ee, .int .i64 ie, .int .i64 he, .int .i64 ne, .string ge]] W (fun e w' => e = .returned (.int .i64 (dE (⟨ke, re, ee, ie, he, ne, ge⟩ : De))) ∧ Below W.heap.size W w') from fun W h h' => dcheck_any W (⟨ke, re, ee, ie, he, ne, ge⟩ : De) hde h h')
  show Calls Tryz.prog 4 #[.agg #[.int .u8 (k : Int), .string r, .int .i64 ep, .int .i64 ix, .int .i64 hu, .int .i64 nx, .string sg], .agg #[.int .u8 (ke : Int), .string re, .int .i64 ee, .int .i64 ie, .int .i64 he, .int .i64 ne, .string ge], .string s] w _
  have hfn := fits_no (d := (⟨k, r, ep, ix, hu, nx, sg⟩ : De)) (e := (⟨ke, re, ee, ie, he, ne, ge⟩ : De)); have HFB := hidp (fits_bad (d := (⟨k, r, ep, ix, hu, nx, sg⟩ : De)) (e := (⟨ke, re, ee, ie, he, ne, ge⟩ : De))); have hfy := fits_yes (d := (⟨k, r, ep, ix, hu, nx, sg⟩ : De)) (e := (⟨ke, re, ee, ie, he, ne, ge⟩ : De))
  obtain ⟨F, hF⟩ : ∃ F, fits (⟨k, r, ep, ix, hu, nx, sg⟩ : De) (⟨ke, re, ee, ie, he, ne, ge⟩ : De) = F := ⟨_, rfl⟩
  rw [hF] at cf hfn HFB hfy
  clear hF
  have H := hidp (Mm.M.nil w)
  -- what is read of the bytes that come in
  have HYB : Hid (∀ y, dP s = some y → dOk y = true ∧ dB y = s) := hidp (fun y h => dP_some h)
  cases hok : dOk (⟨k, r, ep, ix, hu, nx, sg⟩ : De) with
  | false =>
    rw [dE_no hok, dB_no hok] at cb1
    have hA0 : anV (⟨k, r, ep, ix, hu, nx, sg⟩ : De) = zD := by unfold anV; rw [hok]; rfl
    have hA1 : anE (⟨k, r, ep, ix, hu, nx, sg⟩ : De) = 2 := by unfold anE; rw [hok]; rfl
    have HF0 := hidp (hfn (by rw [hA1]; decide))
    rw [hA0, hA1] at ca
    rw [HF0.out] at cf
    obtain ⟨B, hB⟩ : ∃ B, ByteArray.empty = B := ⟨_, rfl⟩
    rw [hB] at cb1
    have hBs : B.size = 0 := by rw [← hB]; rfl
    have cp1 := hidp (fun W h h' => parse_any W B (by omega) h h')
    obtain ⟨⟨kx, rx, ex, ix2, hx, nx2, gx⟩, hX⟩ : ∃ X, dpV B = X := ⟨_, rfl⟩
    obtain ⟨q, hq⟩ : ∃ q, dpE B = q := ⟨_, rfl⟩
    rw [hX, hq] at cp1
    clear hok hA0 hA1 hfn hfy hB hBs hX hq cc HFB HF0 hd hde
    cases hp : dP s with
    | none =>
      have hV : dpV s = zD := by unfold dpV; rw [hp]; rfl
      have hE : dpE s = 6 := by unfold dpE; rw [hp]; rfl
      rw [hV, hE] at cp2
      have cb2 := hidp (show ∀ W, IT W → HT W → Calls Tryz.prog 13 #[.agg zDr.toArray] W (fun e w' => e = .returned (.tuple #[.string (dB zD), .int .i64 (dE zD)]) ∧ Below W.heap.size W w') from fun W h h' => bytes_any W zD ⟨by decide, by decide, by decide⟩ h h')
      obtain ⟨U, hU⟩ : ∃ U, dB zD = U := ⟨_, rfl⟩
      rw [hU, dE_no z_no] at cb2
      clear hp hV hE hU HYB
      go_enter Tryz.func4, Tryz.ntmps4
      have tk0 := hidp trivial
      go_wp2_with (first | (clear tk0; (refine Mm.box 24 H rfl (.tmp 0) rfl [.int .u8 (k : Int), .string r, .int .i64 ep, .int .i64 ix, .int .i64 hu, .int .i64 nx, .string sg] rfl ?_; clear H; intro b3 _ H nw; have hb := nw.below; clear hb nw); (try simp only [Act.put, setIfInBounds_toArray, set_cons_zero, set_cons_succ]); have tk1 := hidp trivial) | (clear tk1; (refine Mm.box 24 H rfl (.tmp 1) rfl [.int .u8 (ke : Int), .string re, .int .i64 ee, .int .i64 ie, .int .i64 he, .int .i64 ne, .string ge] rfl ?_; clear H; intro b4 _ H nw; have hb := nw.below; clear hb nw); (try simp only [Act.put, setIfInBounds_toArray, set_cons_zero, set_cons_succ]); have tk2 := hidp trivial) | (clear tk2; (go_at_call 10; refine (lives24_any _ (HI.out.below H.out.below (Nat.le_refl _)) (HT0.out.below H.out.below (Nat.le_refl _)) (HK.out.below H.out.below hkp)).mono ?_; rintro e _ ⟨rfl, hb⟩; replace H := hidp (H.out.call hb); clear hb); (try simp only [Act.put, setIfInBounds_toArray, set_cons_zero, set_cons_succ]); have tk3 := hidp trivial) | (clear tk3; (refine Mm.get1 rtD H rfl (.tmp 3) rfl rfl rfl ?_); (try simp only [Act.put, setIfInBounds_toArray, set_cons_zero, set_cons_succ]); have tk4 := hidp trivial) | (clear tk4; (go_at_call 13; refine (cb1.out _ (HI.out.below H.out.below (Nat.le_refl _)) (HT0.out.below H.out.below (Nat.le_refl _))).mono ?_; rintro e _ ⟨rfl, hb⟩; replace H := hidp (H.out.call hb); clear cb1; clear hb); (try simp only [Act.put, setIfInBounds_toArray, set_cons_zero, set_cons_succ]); have tk5 := hidp trivial) | (clear tk5; (go_at_call 15; refine (cp1.out _ (HI.out.below H.out.below (Nat.le_refl _)) (HT0.out.below H.out.below (Nat.le_refl _))).mono ?_; rintro e _ ⟨rfl, hb⟩; replace H := hidp (H.out.call hb); clear cp1; clear hb); (try simp only [Act.put, setIfInBounds_toArray, set_cons_zero, set_cons_succ]); have tk6 := hidp trivial) | (clear tk6; (refine Mm.new rtD H (some 9) rfl rfl rfl ?_; clear H; intro b9 _ H nw; have hb := nw.below; clear hb nw); (try simp only [Act.put, setIfInBounds_toArray, set_cons_zero, set_cons_succ]); have tk7 := hidp trivial) | (clear tk7; (refine Mm.put0 rtD H rfl (.tmp 9) (.tmp 28) [.int .u8 (kx : Int), .string rx, .int .i64 ex, .int .i64 ix2, .int .i64 hx, .int .i64 nx2, .string gx] rfl rfl rfl rfl (by simp [Value.oneCell']) rfl ?_; intro _ H2 st; clear st H; have H := H2; clear H2); (try simp only [Act.put, setIfInBounds_toArray, set_cons_zero, set_cons_succ]); have tk8 := hidp trivial) | (clear tk8; (go_at_call 15; refine (cp2.out _ (HI.out.below H.out.below (Nat.le_refl _)) (HT0.out.below H.out.below (Nat.le_refl _))).mono ?_; rintro e _ ⟨rfl, hb⟩; replace H := hidp (H.out.call hb); clear cp2; clear hb); (try simp only [Act.put, setIfInBounds_toArray, set_cons_zero, set_cons_succ]); have tk9 := hidp trivial) | (clear tk9; (refine Mm.new rtD H (some 11) rfl rfl rfl ?_; clear H; intro b11 _ H nw; have hb := nw.below; clear hb nw); (try simp only [Act.put, setIfInBounds_toArray, set_cons_zero, set_cons_succ]); have tk10 := hidp trivial) | (clear tk10; (refine Mm.put0 rtD H rfl (.tmp 11) (.tmp 33) zDr rfl rfl rfl rfl (by simp [zDr, Value.oneCell']) rfl ?_; intro _ H2 st; clear st H; have H := H2; clear H2); (try simp only [Act.put, setIfInBounds_toArray, set_cons_zero, set_cons_succ]); have tk11 := hidp trivial) | (clear tk11; (refine Mm.get0 rtD H rfl (.tmp 11) rfl rfl rfl ?_); (try simp only [Act.put, setIfInBounds_toArray, set_cons_zero, set_cons_succ]); have tk12 := hidp trivial) | (clear tk12; (go_at_call 13; refine (cb2.out _ (HI.out.below H.out.below (Nat.le_refl _)) (HT0.out.below H.out.below (Nat.le_refl _))).mono ?_; rintro e _ ⟨rfl, hb⟩; replace H := hidp (H.out.call hb); clear cb2; clear hb); (try simp only [Act.put, setIfInBounds_toArray, set_cons_zero, set_cons_succ]); have tk13 := hidp trivial) | (clear tk13; (refine Mm.get3 rtD H rfl (.tmp 3) rfl rfl rfl ?_); (try simp only [Act.put, setIfInBounds_toArray, set_cons_zero, set_cons_succ]); have tk14 := hidp trivial) | (clear tk14; (go_at_call 17; refine (ca.out _ (HI.out.below H.out.below (Nat.le_refl _)) (HT0.out.below H.out.below (Nat.le_refl _))).mono ?_; rintro e _ ⟨rfl, hb⟩; replace H := hidp (H.out.call hb); clear ca; clear hb); (try simp only [Act.put, setIfInBounds_toArray, set_cons_zero, set_cons_succ]); have tk15 := hidp trivial) | (clear tk15; (refine Mm.new rtD H (some 15) rfl rfl rfl ?_; clear H; intro b15 _ H nw; have hb := nw.below; clear hb nw); (try simp only [Act.put, setIfInBounds_toArray, set_cons_zero, set_cons_succ]); have tk16 := hidp trivial) | (clear tk16; (refine Mm.put0 rtD H rfl (.tmp 15) (.tmp 67) zDr rfl rfl rfl rfl (by simp [zDr, Value.oneCell']) rfl ?_; intro _ H2 st; clear st H; have H := H2; clear H2); (try simp only [Act.put, setIfInBounds_toArray, set_cons_zero, set_cons_succ]); have tk17 := hidp trivial) | (clear tk17; (refine Mm.get4 rtD H rfl (.tmp 3) rfl rfl rfl ?_); (try simp only [Act.put, setIfInBounds_toArray, set_cons_zero, set_cons_succ]); have tk18 := hidp trivial) | (clear tk18; (refine Mm.get3 rtD H rfl (.tmp 4) rfl rfl rfl ?_); (try simp only [Act.put, setIfInBounds_toArray, set_cons_zero, set_cons_succ]); have tk19 := hidp trivial) | (clear tk19; (go_at_call 21; refine (cf.out _ (HI.out.below H.out.below (Nat.le_refl _)) (HT0.out.below H.out.below (Nat.le_refl _))).mono ?_; rintro e _ ⟨rfl, hb⟩; replace H := hidp (H.out.call hb); clear cf; clear hb); (try simp only [Act.put, setIfInBounds_toArray, set_cons_zero, set_cons_succ]); have tk20 := hidp trivial))
      try clear tk20
      go_ret
      exact ⟨rfl, H.out.below⟩
    | some y =>
      obtain ⟨hy1, hy2⟩ := HYB.out y hp
      have hV : dpV s = y := by unfold dpV; rw [hp]; rfl
      have hE : dpE s = 0 := by unfold dpE; rw [hp]; rfl
      rw [hV, hE] at cp2
      obtain ⟨ky, ry, ey, iy, hy, ny, gy⟩ := y
      have cb2 := hidp (show ∀ W, IT W → HT W → Calls Tryz.prog 13 #[.agg #[.int .u8 (ky : Int), .string ry, .int .i64 ey, .int .i64 iy, .int .i64 hy, .int .i64 ny, .string gy]] W (fun e w' => e = .returned (.tuple #[.string s, .int .i64 0]) ∧ Below W.heap.size W w') from fun W h h' => by
        have := bytes_any W (⟨ky, ry, ey, iy, hy, ny, gy⟩ : De) (dok_ok hy1) h h'
        rw [hy2, dE_yes hy1] at this; exact this)
      clear hp hV hE HYB hy1 hy2
      go_enter Tryz.func4, Tryz.ntmps4
      have tk0 := hidp trivial
      go_wp2_with (first | (clear tk0; (refine Mm.box 24 H rfl (.tmp 0) rfl [.int .u8 (k : Int), .string r, .int .i64 ep, .int .i64 ix, .int .i64 hu, .int .i64 nx, .string sg] rfl ?_; clear H; intro b3 _ H nw; have hb := nw.below; clear hb nw); (try simp only [Act.put, setIfInBounds_toArray, set_cons_zero, set_cons_succ]); have tk1 := hidp trivial) | (clear tk1; (refine Mm.box 24 H rfl (.tmp 1) rfl [.int .u8 (ke : Int), .string re, .int .i64 ee, .int .i64 ie, .int .i64 he, .int .i64 ne, .string ge] rfl ?_; clear H; intro b4 _ H nw; have hb := nw.below; clear hb nw); (try simp only [Act.put, setIfInBounds_toArray, set_cons_zero, set_cons_succ]); have tk2 := hidp trivial) | (clear tk2; (go_at_call 10; refine (lives24_any _ (HI.out.below H.out.below (Nat.le_refl _)) (HT0.out.below H.out.below (Nat.le_refl _)) (HK.out.below H.out.below hkp)).mono ?_; rintro e _ ⟨rfl, hb⟩; replace H := hidp (H.out.call hb); clear hb); (try simp only [Act.put, setIfInBounds_toArray, set_cons_zero, set_cons_succ]); have tk3 := hidp trivial) | (clear tk3; (refine Mm.get1 rtD H rfl (.tmp 3) rfl rfl rfl ?_); (try simp only [Act.put, setIfInBounds_toArray, set_cons_zero, set_cons_succ]); have tk4 := hidp trivial) | (clear tk4; (go_at_call 13; refine (cb1.out _ (HI.out.below H.out.below (Nat.le_refl _)) (HT0.out.below H.out.below (Nat.le_refl _))).mono ?_; rintro e _ ⟨rfl, hb⟩; replace H := hidp (H.out.call hb); clear cb1; clear hb); (try simp only [Act.put, setIfInBounds_toArray, set_cons_zero, set_cons_succ]); have tk5 := hidp trivial) | (clear tk5; (go_at_call 15; refine (cp1.out _ (HI.out.below H.out.below (Nat.le_refl _)) (HT0.out.below H.out.below (Nat.le_refl _))).mono ?_; rintro e _ ⟨rfl, hb⟩; replace H := hidp (H.out.call hb); clear cp1; clear hb); (try simp only [Act.put, setIfInBounds_toArray, set_cons_zero, set_cons_succ]); have tk6 := hidp trivial) | (clear tk6; (refine Mm.new rtD H (some 9) rfl rfl rfl ?_; clear H; intro b9 _ H nw; have hb := nw.below; clear hb nw); (try simp only [Act.put, setIfInBounds_toArray, set_cons_zero, set_cons_succ]); have tk7 := hidp trivial) | (clear tk7; (refine Mm.put0 rtD H rfl (.tmp 9) (.tmp 28) [.int .u8 (kx : Int), .string rx, .int .i64 ex, .int .i64 ix2, .int .i64 hx, .int .i64 nx2, .string gx] rfl rfl rfl rfl (by simp [Value.oneCell']) rfl ?_; intro _ H2 st; clear st H; have H := H2; clear H2); (try simp only [Act.put, setIfInBounds_toArray, set_cons_zero, set_cons_succ]); have tk8 := hidp trivial) | (clear tk8; (go_at_call 15; refine (cp2.out _ (HI.out.below H.out.below (Nat.le_refl _)) (HT0.out.below H.out.below (Nat.le_refl _))).mono ?_; rintro e _ ⟨rfl, hb⟩; replace H := hidp (H.out.call hb); clear cp2; clear hb); (try simp only [Act.put, setIfInBounds_toArray, set_cons_zero, set_cons_succ]); have tk9 := hidp trivial) | (clear tk9; (refine Mm.new rtD H (some 11) rfl rfl rfl ?_; clear H; intro b11 _ H nw; have hb := nw.below; clear hb nw); (try simp only [Act.put, setIfInBounds_toArray, set_cons_zero, set_cons_succ]); have tk10 := hidp trivial) | (clear tk10; (refine Mm.put0 rtD H rfl (.tmp 11) (.tmp 33) [.int .u8 (ky : Int), .string ry, .int .i64 ey, .int .i64 iy, .int .i64 hy, .int .i64 ny, .string gy] rfl rfl rfl rfl (by simp [Value.oneCell']) rfl ?_; intro _ H2 st; clear st H; have H := H2; clear H2); (try simp only [Act.put, setIfInBounds_toArray, set_cons_zero, set_cons_succ]); have tk11 := hidp trivial) | (clear tk11; (refine Mm.get0 rtD H rfl (.tmp 11) rfl rfl rfl ?_); (try simp only [Act.put, setIfInBounds_toArray, set_cons_zero, set_cons_succ]); have tk12 := hidp trivial) | (clear tk12; (go_at_call 13; refine (cb2.out _ (HI.out.below H.out.below (Nat.le_refl _)) (HT0.out.below H.out.below (Nat.le_refl _))).mono ?_; rintro e _ ⟨rfl, hb⟩; replace H := hidp (H.out.call hb); clear cb2; clear hb); (try simp only [Act.put, setIfInBounds_toArray, set_cons_zero, set_cons_succ]); have tk13 := hidp trivial) | (clear tk13; (refine Mm.get3 rtD H rfl (.tmp 3) rfl rfl rfl ?_); (try simp only [Act.put, setIfInBounds_toArray, set_cons_zero, set_cons_succ]); have tk14 := hidp trivial) | (clear tk14; (go_at_call 17; refine (ca.out _ (HI.out.below H.out.below (Nat.le_refl _)) (HT0.out.below H.out.below (Nat.le_refl _))).mono ?_; rintro e _ ⟨rfl, hb⟩; replace H := hidp (H.out.call hb); clear ca; clear hb); (try simp only [Act.put, setIfInBounds_toArray, set_cons_zero, set_cons_succ]); have tk15 := hidp trivial) | (clear tk15; (refine Mm.new rtD H (some 15) rfl rfl rfl ?_; clear H; intro b15 _ H nw; have hb := nw.below; clear hb nw); (try simp only [Act.put, setIfInBounds_toArray, set_cons_zero, set_cons_succ]); have tk16 := hidp trivial) | (clear tk16; (refine Mm.put0 rtD H rfl (.tmp 15) (.tmp 67) zDr rfl rfl rfl rfl (by simp [zDr, Value.oneCell']) rfl ?_; intro _ H2 st; clear st H; have H := H2; clear H2); (try simp only [Act.put, setIfInBounds_toArray, set_cons_zero, set_cons_succ]); have tk17 := hidp trivial) | (clear tk17; (refine Mm.get4 rtD H rfl (.tmp 3) rfl rfl rfl ?_); (try simp only [Act.put, setIfInBounds_toArray, set_cons_zero, set_cons_succ]); have tk18 := hidp trivial) | (clear tk18; (refine Mm.get3 rtD H rfl (.tmp 4) rfl rfl rfl ?_); (try simp only [Act.put, setIfInBounds_toArray, set_cons_zero, set_cons_succ]); have tk19 := hidp trivial) | (clear tk19; (go_at_call 21; refine (cf.out _ (HI.out.below H.out.below (Nat.le_refl _)) (HT0.out.below H.out.below (Nat.le_refl _))).mono ?_; rintro e _ ⟨rfl, hb⟩; replace H := hidp (H.out.call hb); clear cf; clear hb); (try simp only [Act.put, setIfInBounds_toArray, set_cons_zero, set_cons_succ]); have tk20 := hidp trivial))
      try clear tk20
      go_ret
      exact ⟨rfl, H.out.below⟩
  | true =>
    rw [dE_yes hok] at cb1
    have hback := dP_back hok
    have hBsz := dB_size (⟨k, r, ep, ix, hu, nx, sg⟩ : De)
    obtain ⟨B, hB⟩ : ∃ B, dB (⟨k, r, ep, ix, hu, nx, sg⟩ : De) = B := ⟨_, rfl⟩
    rw [hB] at cb1 hback hBsz
    have cp1 := hidp (show ∀ W, IT W → HT W → Calls Tryz.prog 15 #[.string B] W (fun e w' => e = .returned (.tuple #[.agg #[.int .u8 (k : Int), .string r, .int .i64 ep, .int .i64 ix, .int .i64 hu, .int .i64 nx, .string sg], .int .i64 0]) ∧ Below W.heap.size W w') from fun W h h' => by
      have := parse_any W B (by omega) h h'
      rw [show dpV B = (⟨k, r, ep, ix, hu, nx, sg⟩ : De) from by unfold dpV; rw [hback]; rfl, show dpE B = 0 from by unfold dpE; rw [hback]; rfl] at this; exact this)
    have hne := fun W => neq_deal W k k r r sg sg ep ep ix ix hu hu nx nx
    rw [eqD_self] at hne
    clear hB hback hBsz
    by_cases hk : k = 1
    · have hA0 : anV (⟨k, r, ep, ix, hu, nx, sg⟩ : De) = ⟨2, r, ep, ix, hu, nx, ⟨#[]⟩⟩ := by unfold anV; rw [if_pos ⟨hok, hk⟩]
      have hA1 : anE (⟨k, r, ep, ix, hu, nx, sg⟩ : De) = 0 := by unfold anE; rw [if_pos hok, if_pos hk]
      rw [hA0, hA1] at ca
      have hAok : dOk ⟨2, r, ep, ix, hu, nx, ⟨#[]⟩⟩ = true := by
        obtain ⟨g1, g2, g3, g4, g5, g6, g7, g8⟩ := dOk_parts hok
        exact dOk_mk (.inr rfl) (Option.isSome_iff_exists.2 g2) (decide_eq_true ⟨g3, g4, g5, g6⟩) g7 (by show (⟨#[]⟩ : ByteArray).size ≤ 8192; decide)
      have cfa := hidp (show ∀ W, IT W → HT W → Calls Tryz.prog 21 #[.agg #[.int .u8 (k : Int), .string r, .int .i64 ep, .int .i64 ix, .int .i64 hu, .int .i64 nx, .string sg], .agg #[.int .u8 2, .string r, .int .i64 ep, .int .i64 ix, .int .i64 hu, .int .i64 nx, .string ⟨#[]⟩]] W (fun e w' => e = .returned (.bool true) ∧ Below W.heap.size W w') from fun W h h' => by
        have := fits_any W (⟨k, r, ep, ix, hu, nx, sg⟩ : De) ⟨2, r, ep, ix, hu, nx, ⟨#[]⟩⟩ hd (dok_ok hAok) h h'
        rw [fits_yes hA1 hAok, hA0] at this
        rw [show wSig (⟨2, r, ep, ix, hu, nx, ⟨#[]⟩⟩ : De) ⟨#[]⟩ = ⟨2, r, ep, ix, hu, nx, ⟨#[]⟩⟩ from rfl, eqD_self] at this; exact this)
      have HFY := hidp (fun h => by
        have := hfy hA1 h
        rw [hA0] at this; exact this)
      clear hok hA0 hA1 hAok hfn hfy hk hd hde
      cases hp : dP s with
      | none =>
        have hV : dpV s = zD := by unfold dpV; rw [hp]; rfl
        have hE : dpE s = 6 := by unfold dpE; rw [hp]; rfl
        rw [hV, hE] at cp2
        have cb2 := hidp (show ∀ W, IT W → HT W → Calls Tryz.prog 13 #[.agg zDr.toArray] W (fun e w' => e = .returned (.tuple #[.string (dB zD), .int .i64 (dE zD)]) ∧ Below W.heap.size W w') from fun W h h' => bytes_any W zD ⟨by decide, by decide, by decide⟩ h h')
        obtain ⟨U, hU⟩ : ∃ U, dB zD = U := ⟨_, rfl⟩
        rw [hU, dE_no z_no] at cb2
        clear hp hV hE hU HYB
        go_enter Tryz.func4, Tryz.ntmps4
        have tk0 := hidp trivial
        go_wp2_with (first | (clear tk0; (refine Mm.box 24 H rfl (.tmp 0) rfl [.int .u8 (k : Int), .string r, .int .i64 ep, .int .i64 ix, .int .i64 hu, .int .i64 nx, .string sg] rfl ?_; clear H; intro b3 _ H nw; have hb := nw.below; clear hb nw); (try simp only [Act.put, setIfInBounds_toArray, set_cons_zero, set_cons_succ]); have tk1 := hidp trivial) | (clear tk1; (refine Mm.box 24 H rfl (.tmp 1) rfl [.int .u8 (ke : Int), .string re, .int .i64 ee, .int .i64 ie, .int .i64 he, .int .i64 ne, .string ge] rfl ?_; clear H; intro b4 _ H nw; have hb := nw.below; clear hb nw); (try simp only [Act.put, setIfInBounds_toArray, set_cons_zero, set_cons_succ]); have tk2 := hidp trivial) | (clear tk2; (go_at_call 10; refine (lives24_any _ (HI.out.below H.out.below (Nat.le_refl _)) (HT0.out.below H.out.below (Nat.le_refl _)) (HK.out.below H.out.below hkp)).mono ?_; rintro e _ ⟨rfl, hb⟩; replace H := hidp (H.out.call hb); clear hb); (try simp only [Act.put, setIfInBounds_toArray, set_cons_zero, set_cons_succ]); have tk3 := hidp trivial) | (clear tk3; (refine Mm.get1 rtD H rfl (.tmp 3) rfl rfl rfl ?_); (try simp only [Act.put, setIfInBounds_toArray, set_cons_zero, set_cons_succ]); have tk4 := hidp trivial) | (clear tk4; (go_at_call 13; refine (cb1.out _ (HI.out.below H.out.below (Nat.le_refl _)) (HT0.out.below H.out.below (Nat.le_refl _))).mono ?_; rintro e _ ⟨rfl, hb⟩; replace H := hidp (H.out.call hb); clear cb1; clear hb); (try simp only [Act.put, setIfInBounds_toArray, set_cons_zero, set_cons_succ]); have tk5 := hidp trivial) | (clear tk5; (go_at_call 15; refine (cp1.out _ (HI.out.below H.out.below (Nat.le_refl _)) (HT0.out.below H.out.below (Nat.le_refl _))).mono ?_; rintro e _ ⟨rfl, hb⟩; replace H := hidp (H.out.call hb); clear cp1; clear hb); (try simp only [Act.put, setIfInBounds_toArray, set_cons_zero, set_cons_succ]); have tk6 := hidp trivial) | (clear tk6; (refine Mm.new rtD H (some 9) rfl rfl rfl ?_; clear H; intro b9 _ H nw; have hb := nw.below; clear hb nw); (try simp only [Act.put, setIfInBounds_toArray, set_cons_zero, set_cons_succ]); have tk7 := hidp trivial) | (clear tk7; (refine Mm.put0 rtD H rfl (.tmp 9) (.tmp 28) [.int .u8 (k : Int), .string r, .int .i64 ep, .int .i64 ix, .int .i64 hu, .int .i64 nx, .string sg] rfl rfl rfl rfl (by simp [Value.oneCell']) rfl ?_; intro _ H2 st; clear st H; have H := H2; clear H2); (try simp only [Act.put, setIfInBounds_toArray, set_cons_zero, set_cons_succ]); have tk8 := hidp trivial) | (clear tk8; (go_at_call 15; refine (cp2.out _ (HI.out.below H.out.below (Nat.le_refl _)) (HT0.out.below H.out.below (Nat.le_refl _))).mono ?_; rintro e _ ⟨rfl, hb⟩; replace H := hidp (H.out.call hb); clear cp2; clear hb); (try simp only [Act.put, setIfInBounds_toArray, set_cons_zero, set_cons_succ]); have tk9 := hidp trivial) | (clear tk9; (refine Mm.new rtD H (some 11) rfl rfl rfl ?_; clear H; intro b11 _ H nw; have hb := nw.below; clear hb nw); (try simp only [Act.put, setIfInBounds_toArray, set_cons_zero, set_cons_succ]); have tk10 := hidp trivial) | (clear tk10; (refine Mm.put0 rtD H rfl (.tmp 11) (.tmp 33) zDr rfl rfl rfl rfl (by simp [zDr, Value.oneCell']) rfl ?_; intro _ H2 st; clear st H; have H := H2; clear H2); (try simp only [Act.put, setIfInBounds_toArray, set_cons_zero, set_cons_succ]); have tk11 := hidp trivial) | (clear tk11; (refine Mm.get0 rtD H rfl (.tmp 11) rfl rfl rfl ?_); (try simp only [Act.put, setIfInBounds_toArray, set_cons_zero, set_cons_succ]); have tk12 := hidp trivial) | (clear tk12; (go_at_call 13; refine (cb2.out _ (HI.out.below H.out.below (Nat.le_refl _)) (HT0.out.below H.out.below (Nat.le_refl _))).mono ?_; rintro e _ ⟨rfl, hb⟩; replace H := hidp (H.out.call hb); clear cb2; clear hb); (try simp only [Act.put, setIfInBounds_toArray, set_cons_zero, set_cons_succ]); have tk13 := hidp trivial) | (clear tk13; (refine Mm.get1 rtD H rfl (.tmp 9) rfl rfl rfl ?_); (try simp only [Act.put, setIfInBounds_toArray, set_cons_zero, set_cons_succ]); have tk14 := hidp trivial) | (clear tk14; (refine Mm.get3 rtD H rfl (.tmp 3) rfl rfl rfl ?_); (try simp only [Act.put, setIfInBounds_toArray, set_cons_zero, set_cons_succ]); have tk15 := hidp trivial) | (clear tk15; (refine Mm.get3 rtD H rfl (.tmp 3) rfl rfl rfl ?_); (try simp only [Act.put, setIfInBounds_toArray, set_cons_zero, set_cons_succ]); have tk16 := hidp trivial) | (clear tk16; (go_at_call 17; refine (ca.out _ (HI.out.below H.out.below (Nat.le_refl _)) (HT0.out.below H.out.below (Nat.le_refl _))).mono ?_; rintro e _ ⟨rfl, hb⟩; replace H := hidp (H.out.call hb); clear ca; clear hb); (try simp only [Act.put, setIfInBounds_toArray, set_cons_zero, set_cons_succ]); have tk17 := hidp trivial) | (clear tk17; (refine Mm.new rtD H (some 15) rfl rfl rfl ?_; clear H; intro b15 _ H nw; have hb := nw.below; clear hb nw); (try simp only [Act.put, setIfInBounds_toArray, set_cons_zero, set_cons_succ]); have tk18 := hidp trivial) | (clear tk18; (refine Mm.put0 rtD H rfl (.tmp 15) (.tmp 67) [.int .u8 2, .string r, .int .i64 ep, .int .i64 ix, .int .i64 hu, .int .i64 nx, .string ⟨#[]⟩] rfl rfl rfl rfl (by simp [Value.oneCell']) rfl ?_; intro _ H2 st; clear st H; have H := H2; clear H2); (try simp only [Act.put, setIfInBounds_toArray, set_cons_zero, set_cons_succ]); have tk19 := hidp trivial) | (clear tk19; (refine Mm.get3 rtD H rfl (.tmp 4) rfl rfl rfl ?_); (try simp only [Act.put, setIfInBounds_toArray, set_cons_zero, set_cons_succ]); have tk20 := hidp trivial) | (clear tk20; (refine Mm.new rtD H (some 17) rfl rfl rfl ?_; clear H; intro b17 _ H nw; have hb := nw.below; clear hb nw); (try simp only [Act.put, setIfInBounds_toArray, set_cons_zero, set_cons_succ]); have tk21 := hidp trivial) | (clear tk21; (refine Mm.put0 rtD H rfl (.tmp 17) (.tmp 75) [.int .u8 (ke : Int), .string re, .int .i64 ee, .int .i64 ie, .int .i64 he, .int .i64 ne, .string ge] rfl rfl rfl rfl (by simp [Value.oneCell']) rfl ?_; intro _ H2 st; clear st H; have H := H2; clear H2); (try simp only [Act.put, setIfInBounds_toArray, set_cons_zero, set_cons_succ]); have tk22 := hidp trivial) | (clear tk22; (refine Mm.putF0 H rfl 9 (.tmp 76) (.const (.string ⟨#[]⟩)) 6 (.string ⟨#[]⟩) rfl rfl rfl (by kernel_rfl) rfl (of_decide_eq_true rfl) ?_; intro _ H2 st; clear st H; have H : Hid (Mm.M w.heap.size w _ ([⟨b17, 24, [.int .u8 (ke : Int), .string re, .int .i64 ee, .int .i64 ie, .int .i64 he, .int .i64 ne, .string ⟨#[]⟩]⟩, ⟨b15, 24, [.int .u8 2, .string r, .int .i64 ep, .int .i64 ix, .int .i64 hu, .int .i64 nx, .string ⟨#[]⟩]⟩, ⟨b11, 24, zDr⟩, ⟨b9, 24, [.int .u8 (k : Int), .string r, .int .i64 ep, .int .i64 ix, .int .i64 hu, .int .i64 nx, .string sg]⟩, ⟨b4, 24, [.int .u8 (ke : Int), .string re, .int .i64 ee, .int .i64 ie, .int .i64 he, .int .i64 ne, .string ge]⟩, ⟨b3, 24, [.int .u8 (k : Int), .string r, .int .i64 ep, .int .i64 ix, .int .i64 hu, .int .i64 nx, .string sg]⟩])) := H2; clear H2); (try simp only [Act.put, setIfInBounds_toArray, set_cons_zero, set_cons_succ]); have tk23 := hidp trivial))
        try clear tk23
        cases hce : dOk (⟨ke, re, ee, ie, he, ne, ge⟩ : De) with
        | false =>
          rw [dE_no hce] at cc
          have HFF := hidp (show F = false from HFB.out hce)
          rw [HFF.out] at cf
          clear hce
          refine Mm.region H (.take 0 (.take 1 (.one 2 (.take 3 (.take 4 (.take 5 (.take 7 (.one 6 (.one 8 (.take 9 (.take 10 (.take 11 (.take 12 (.take 13 (.take 14 (.take 15 (.take 16 (.take 17 .done)))))))))))))))))) (by kernel_rfl) (by kernel_rfl) (by simp [Scr.depth]) (by kernel_rfl) ?_
          clear H
          intro _ H hb
          clear hb
          refine Mm.sget5 rtD (fun w h => h) rfl rfl (.tmp 3) rfl rfl rfl ?_
          simp only [Act.put, getElem_toArray, getElem_cons_zero, getElem_cons_succ, setIfInBounds_toArray, set_cons_zero, set_cons_succ]
          refine Mm.sget1 rtD (fun w h => h) rfl rfl (.tmp 15) rfl rfl rfl ?_
          simp only [Act.put, getElem_toArray, getElem_cons_zero, getElem_cons_succ, setIfInBounds_toArray, set_cons_zero, set_cons_succ]
          refine Mm.o_callH (v := .bool true) H (fun W h => h) rfl rfl 21 (#[.agg #[.int .u8 (k : Int), .string r, .int .i64 ep, .int .i64 ix, .int .i64 hu, .int .i64 nx, .string sg], .agg #[.int .u8 2, .string r, .int .i64 ep, .int .i64 ix, .int .i64 hu, .int .i64 nx, .string ⟨#[]⟩]]) (by go_simp; first | done | rfl) (cfa.out _ (HI.out.below H.out.below (Nat.le_refl _)) (HT0.out.below H.out.below (Nat.le_refl _))) ?_
          clear H
          intro _ H hb
          clear hb
          simp only [Act.put, getElem_toArray, getElem_cons_zero, getElem_cons_succ, setIfInBounds_toArray, set_cons_zero, set_cons_succ]
          apply s_val
          case ho | hw => rfl
          case hv => intro w hw; go_simp; first | done | rfl
          simp only [Act.put, getElem_toArray, getElem_cons_zero, getElem_cons_succ, setIfInBounds_toArray, set_cons_zero, set_cons_succ]
          refine Mm.sget5 rtD (fun w h => h) rfl rfl (.tmp 3) rfl rfl rfl ?_
          simp only [Act.put, getElem_toArray, getElem_cons_zero, getElem_cons_succ, setIfInBounds_toArray, set_cons_zero, set_cons_succ]
          refine Mm.sget4 rtD (fun w h => h) rfl rfl (.tmp 4) rfl rfl rfl ?_
          simp only [Act.put, getElem_toArray, getElem_cons_zero, getElem_cons_succ, setIfInBounds_toArray, set_cons_zero, set_cons_succ]
          refine Mm.sget4 rtD (fun w h => h) rfl rfl (.tmp 4) rfl rfl rfl ?_
          simp only [Act.put, getElem_toArray, getElem_cons_zero, getElem_cons_succ, setIfInBounds_toArray, set_cons_zero, set_cons_succ]
          refine Mm.o_callH (v := .bool false) H (fun W h => h) rfl rfl 21 (#[.agg #[.int .u8 (k : Int), .string r, .int .i64 ep, .int .i64 ix, .int .i64 hu, .int .i64 nx, .string sg], .agg #[.int .u8 (ke : Int), .string re, .int .i64 ee, .int .i64 ie, .int .i64 he, .int .i64 ne, .string ge]]) (by go_simp; first | done | rfl) (cf.out _ (HI.out.below H.out.below (Nat.le_refl _)) (HT0.out.below H.out.below (Nat.le_refl _))) ?_
          clear H
          intro _ H hb
          clear hb
          simp only [Act.put, getElem_toArray, getElem_cons_zero, getElem_cons_succ, setIfInBounds_toArray, set_cons_zero, set_cons_succ]
          refine Mm.o_callH (v := .int .i64 2) H (fun W h => h) rfl rfl 19 (#[.agg #[.int .u8 (ke : Int), .string re, .int .i64 ee, .int .i64 ie, .int .i64 he, .int .i64 ne, .string ge]]) (by go_simp; first | done | rfl) (cc.out _ (HI.out.below H.out.below (Nat.le_refl _)) (HT0.out.below H.out.below (Nat.le_refl _))) ?_
          clear H
          intro _ H hb
          clear hb
          simp only [Act.put, getElem_toArray, getElem_cons_zero, getElem_cons_succ, setIfInBounds_toArray, set_cons_zero, set_cons_succ]
          apply s_val
          case ho | hw => rfl
          case hv => intro w hw; go_simp; first | done | rfl
          simp only [Act.put, getElem_toArray, getElem_cons_zero, getElem_cons_succ, setIfInBounds_toArray, set_cons_zero, set_cons_succ]
          apply s_val
          case ho | hw => rfl
          case hv => intro w hw; go_simp; first | done | rfl
          simp only [Act.put, getElem_toArray, getElem_cons_zero, getElem_cons_succ, setIfInBounds_toArray, set_cons_zero, set_cons_succ]
          refine Rt.s_skip rfl rfl ?_
          simp only [Act.put, getElem_toArray, getElem_cons_zero, getElem_cons_succ, setIfInBounds_toArray, set_cons_zero, set_cons_succ]
          refine Rt.s_skip rfl rfl ?_
          simp only [Act.put, getElem_toArray, getElem_cons_zero, getElem_cons_succ, setIfInBounds_toArray, set_cons_zero, set_cons_succ]
          refine Rt.s_skip rfl rfl ?_
          simp only [Act.put, getElem_toArray, getElem_cons_zero, getElem_cons_succ, setIfInBounds_toArray, set_cons_zero, set_cons_succ]
          apply s_val
          case ho | hw => rfl
          case hv => intro w hw; go_simp; first | done | rfl
          simp only [Act.put, getElem_toArray, getElem_cons_zero, getElem_cons_succ, setIfInBounds_toArray, set_cons_zero, set_cons_succ]
          apply s_val
          case ho | hw => rfl
          case hv => intro w hw; go_simp; first | done | rfl
          simp only [Act.put, getElem_toArray, getElem_cons_zero, getElem_cons_succ, setIfInBounds_toArray, set_cons_zero, set_cons_succ]
          apply s_val
          case ho | hw => rfl
          case hv => intro w hw; go_simp; first | done | rfl
          simp only [Act.put, getElem_toArray, getElem_cons_zero, getElem_cons_succ, setIfInBounds_toArray, set_cons_zero, set_cons_succ]
          apply s_val
          case ho | hw => rfl
          case hv => intro w hw; go_simp; first | done | rfl
          simp only [Act.put, getElem_toArray, getElem_cons_zero, getElem_cons_succ, setIfInBounds_toArray, set_cons_zero, set_cons_succ]
          refine NoPanic.normal ?_
          go_wp2
          go_ret
          exact ⟨rfl, H.out.below⟩
        | true =>
          rw [dE_yes hce] at cc
          have HFF := hidp (show F = eqD (⟨ke, re, ee, ie, he, ne, ⟨#[]⟩⟩ : De) ⟨2, r, ep, ix, hu, nx, ⟨#[]⟩⟩ from HFY.out hce)
          have hq := fun W => eqin_deal W ke 2 re r ⟨#[]⟩ ⟨#[]⟩ ee ep ie ix he hu ne nx
          rw [← HFF.out] at hq
          have hb0 := fun W => eqin_bool W F
          have hb1 := fun W => eql_bool W F
          clear hce
          refine Mm.region H (.take 0 (.take 1 (.one 2 (.take 3 (.take 4 (.take 5 (.take 7 (.one 6 (.one 8 (.take 9 (.take 10 (.take 11 (.take 12 (.take 13 (.take 14 (.take 15 (.take 16 (.take 17 .done)))))))))))))))))) (by kernel_rfl) (by kernel_rfl) (by simp [Scr.depth]) (by kernel_rfl) ?_
          clear H
          intro _ H hb
          clear hb
          refine Mm.sget5 rtD (fun w h => h) rfl rfl (.tmp 3) rfl rfl rfl ?_
          simp only [Act.put, getElem_toArray, getElem_cons_zero, getElem_cons_succ, setIfInBounds_toArray, set_cons_zero, set_cons_succ]
          refine Mm.sget1 rtD (fun w h => h) rfl rfl (.tmp 15) rfl rfl rfl ?_
          simp only [Act.put, getElem_toArray, getElem_cons_zero, getElem_cons_succ, setIfInBounds_toArray, set_cons_zero, set_cons_succ]
          refine Mm.o_callH (v := .bool true) H (fun W h => h) rfl rfl 21 (#[.agg #[.int .u8 (k : Int), .string r, .int .i64 ep, .int .i64 ix, .int .i64 hu, .int .i64 nx, .string sg], .agg #[.int .u8 2, .string r, .int .i64 ep, .int .i64 ix, .int .i64 hu, .int .i64 nx, .string ⟨#[]⟩]]) (by go_simp; first | done | rfl) (cfa.out _ (HI.out.below H.out.below (Nat.le_refl _)) (HT0.out.below H.out.below (Nat.le_refl _))) ?_
          clear H
          intro _ H hb
          clear hb
          simp only [Act.put, getElem_toArray, getElem_cons_zero, getElem_cons_succ, setIfInBounds_toArray, set_cons_zero, set_cons_succ]
          apply s_val
          case ho | hw => rfl
          case hv => intro w hw; go_simp; first | done | rfl
          simp only [Act.put, getElem_toArray, getElem_cons_zero, getElem_cons_succ, setIfInBounds_toArray, set_cons_zero, set_cons_succ]
          refine Mm.sget5 rtD (fun w h => h) rfl rfl (.tmp 3) rfl rfl rfl ?_
          simp only [Act.put, getElem_toArray, getElem_cons_zero, getElem_cons_succ, setIfInBounds_toArray, set_cons_zero, set_cons_succ]
          refine Mm.sget4 rtD (fun w h => h) rfl rfl (.tmp 4) rfl rfl rfl ?_
          simp only [Act.put, getElem_toArray, getElem_cons_zero, getElem_cons_succ, setIfInBounds_toArray, set_cons_zero, set_cons_succ]
          refine Mm.sget4 rtD (fun w h => h) rfl rfl (.tmp 4) rfl rfl rfl ?_
          simp only [Act.put, getElem_toArray, getElem_cons_zero, getElem_cons_succ, setIfInBounds_toArray, set_cons_zero, set_cons_succ]
          refine Mm.o_callH (v := .bool F) H (fun W h => h) rfl rfl 21 (#[.agg #[.int .u8 (k : Int), .string r, .int .i64 ep, .int .i64 ix, .int .i64 hu, .int .i64 nx, .string sg], .agg #[.int .u8 (ke : Int), .string re, .int .i64 ee, .int .i64 ie, .int .i64 he, .int .i64 ne, .string ge]]) (by go_simp; first | done | rfl) (cf.out _ (HI.out.below H.out.below (Nat.le_refl _)) (HT0.out.below H.out.below (Nat.le_refl _))) ?_
          clear H
          intro _ H hb
          clear hb
          simp only [Act.put, getElem_toArray, getElem_cons_zero, getElem_cons_succ, setIfInBounds_toArray, set_cons_zero, set_cons_succ]
          refine Mm.o_callH (v := .int .i64 0) H (fun W h => h) rfl rfl 19 (#[.agg #[.int .u8 (ke : Int), .string re, .int .i64 ee, .int .i64 ie, .int .i64 he, .int .i64 ne, .string ge]]) (by go_simp; first | done | rfl) (cc.out _ (HI.out.below H.out.below (Nat.le_refl _)) (HT0.out.below H.out.below (Nat.le_refl _))) ?_
          clear H
          intro _ H hb
          clear hb
          simp only [Act.put, getElem_toArray, getElem_cons_zero, getElem_cons_succ, setIfInBounds_toArray, set_cons_zero, set_cons_succ]
          apply s_val
          case ho | hw => rfl
          case hv => intro w hw; go_simp; first | done | rfl
          simp only [Act.put, getElem_toArray, getElem_cons_zero, getElem_cons_succ, setIfInBounds_toArray, set_cons_zero, set_cons_succ]
          apply s_val
          case ho | hw => rfl
          case hv => intro w hw; go_simp; first | done | rfl
          simp only [Act.put, getElem_toArray, getElem_cons_zero, getElem_cons_succ, setIfInBounds_toArray, set_cons_zero, set_cons_succ]
          refine Mm.sget0 rtD (fun w h => h) rfl rfl (.tmp 17) rfl rfl rfl ?_
          simp only [Act.put, getElem_toArray, getElem_cons_zero, getElem_cons_succ, setIfInBounds_toArray, set_cons_zero, set_cons_succ]
          refine Mm.sget1 rtD (fun w h => h) rfl rfl (.tmp 15) rfl rfl rfl ?_
          simp only [Act.put, getElem_toArray, getElem_cons_zero, getElem_cons_succ, setIfInBounds_toArray, set_cons_zero, set_cons_succ]
          apply s_val (v := .bool F)
          case ho | hw => rfl
          case hv => intro w hw; go_simp; exact ifs_deal w ke re r ee ep ie ix he hu ne nx F HFF.out
          simp only [Act.put, getElem_toArray, getElem_cons_zero, getElem_cons_succ, setIfInBounds_toArray, set_cons_zero, set_cons_succ]
          apply s_val
          case ho | hw => rfl
          case hv => intro w hw; go_simp; first | done | rfl
          simp only [Act.put, getElem_toArray, getElem_cons_zero, getElem_cons_succ, setIfInBounds_toArray, set_cons_zero, set_cons_succ]
          apply s_val
          case ho | hw => rfl
          case hv => intro w hw; go_simp; first | done | rfl
          simp only [Act.put, getElem_toArray, getElem_cons_zero, getElem_cons_succ, setIfInBounds_toArray, set_cons_zero, set_cons_succ]
          apply s_val
          case ho | hw => rfl
          case hv => intro w hw; go_simp; first | done | rfl
          simp only [Act.put, getElem_toArray, getElem_cons_zero, getElem_cons_succ, setIfInBounds_toArray, set_cons_zero, set_cons_succ]
          apply s_val
          case ho | hw => rfl
          case hv => intro w hw; go_simp; first | done | rfl
          simp only [Act.put, getElem_toArray, getElem_cons_zero, getElem_cons_succ, setIfInBounds_toArray, set_cons_zero, set_cons_succ]
          refine NoPanic.normal ?_
          go_wp2
          go_ret
          exact ⟨rfl, H.out.below⟩
      | some y =>
        obtain ⟨hy1, hy2⟩ := HYB.out y hp
        have hV : dpV s = y := by unfold dpV; rw [hp]; rfl
        have hE : dpE s = 0 := by unfold dpE; rw [hp]; rfl
        rw [hV, hE] at cp2
        obtain ⟨ky, ry, ey, iy, hy, ny, gy⟩ := y
        have cb2 := hidp (show ∀ W, IT W → HT W → Calls Tryz.prog 13 #[.agg #[.int .u8 (ky : Int), .string ry, .int .i64 ey, .int .i64 iy, .int .i64 hy, .int .i64 ny, .string gy]] W (fun e w' => e = .returned (.tuple #[.string s, .int .i64 0]) ∧ Below W.heap.size W w') from fun W h h' => by
          have := bytes_any W (⟨ky, ry, ey, iy, hy, ny, gy⟩ : De) (dok_ok hy1) h h'
          rw [hy2, dE_yes hy1] at this; exact this)
        clear hp hV hE HYB hy1 hy2
        go_enter Tryz.func4, Tryz.ntmps4
        have tk0 := hidp trivial
        go_wp2_with (first | (clear tk0; (refine Mm.box 24 H rfl (.tmp 0) rfl [.int .u8 (k : Int), .string r, .int .i64 ep, .int .i64 ix, .int .i64 hu, .int .i64 nx, .string sg] rfl ?_; clear H; intro b3 _ H nw; have hb := nw.below; clear hb nw); (try simp only [Act.put, setIfInBounds_toArray, set_cons_zero, set_cons_succ]); have tk1 := hidp trivial) | (clear tk1; (refine Mm.box 24 H rfl (.tmp 1) rfl [.int .u8 (ke : Int), .string re, .int .i64 ee, .int .i64 ie, .int .i64 he, .int .i64 ne, .string ge] rfl ?_; clear H; intro b4 _ H nw; have hb := nw.below; clear hb nw); (try simp only [Act.put, setIfInBounds_toArray, set_cons_zero, set_cons_succ]); have tk2 := hidp trivial) | (clear tk2; (go_at_call 10; refine (lives24_any _ (HI.out.below H.out.below (Nat.le_refl _)) (HT0.out.below H.out.below (Nat.le_refl _)) (HK.out.below H.out.below hkp)).mono ?_; rintro e _ ⟨rfl, hb⟩; replace H := hidp (H.out.call hb); clear hb); (try simp only [Act.put, setIfInBounds_toArray, set_cons_zero, set_cons_succ]); have tk3 := hidp trivial) | (clear tk3; (refine Mm.get1 rtD H rfl (.tmp 3) rfl rfl rfl ?_); (try simp only [Act.put, setIfInBounds_toArray, set_cons_zero, set_cons_succ]); have tk4 := hidp trivial) | (clear tk4; (go_at_call 13; refine (cb1.out _ (HI.out.below H.out.below (Nat.le_refl _)) (HT0.out.below H.out.below (Nat.le_refl _))).mono ?_; rintro e _ ⟨rfl, hb⟩; replace H := hidp (H.out.call hb); clear cb1; clear hb); (try simp only [Act.put, setIfInBounds_toArray, set_cons_zero, set_cons_succ]); have tk5 := hidp trivial) | (clear tk5; (go_at_call 15; refine (cp1.out _ (HI.out.below H.out.below (Nat.le_refl _)) (HT0.out.below H.out.below (Nat.le_refl _))).mono ?_; rintro e _ ⟨rfl, hb⟩; replace H := hidp (H.out.call hb); clear cp1; clear hb); (try simp only [Act.put, setIfInBounds_toArray, set_cons_zero, set_cons_succ]); have tk6 := hidp trivial) | (clear tk6; (refine Mm.new rtD H (some 9) rfl rfl rfl ?_; clear H; intro b9 _ H nw; have hb := nw.below; clear hb nw); (try simp only [Act.put, setIfInBounds_toArray, set_cons_zero, set_cons_succ]); have tk7 := hidp trivial) | (clear tk7; (refine Mm.put0 rtD H rfl (.tmp 9) (.tmp 28) [.int .u8 (k : Int), .string r, .int .i64 ep, .int .i64 ix, .int .i64 hu, .int .i64 nx, .string sg] rfl rfl rfl rfl (by simp [Value.oneCell']) rfl ?_; intro _ H2 st; clear st H; have H := H2; clear H2); (try simp only [Act.put, setIfInBounds_toArray, set_cons_zero, set_cons_succ]); have tk8 := hidp trivial) | (clear tk8; (go_at_call 15; refine (cp2.out _ (HI.out.below H.out.below (Nat.le_refl _)) (HT0.out.below H.out.below (Nat.le_refl _))).mono ?_; rintro e _ ⟨rfl, hb⟩; replace H := hidp (H.out.call hb); clear cp2; clear hb); (try simp only [Act.put, setIfInBounds_toArray, set_cons_zero, set_cons_succ]); have tk9 := hidp trivial) | (clear tk9; (refine Mm.new rtD H (some 11) rfl rfl rfl ?_; clear H; intro b11 _ H nw; have hb := nw.below; clear hb nw); (try simp only [Act.put, setIfInBounds_toArray, set_cons_zero, set_cons_succ]); have tk10 := hidp trivial) | (clear tk10; (refine Mm.put0 rtD H rfl (.tmp 11) (.tmp 33) [.int .u8 (ky : Int), .string ry, .int .i64 ey, .int .i64 iy, .int .i64 hy, .int .i64 ny, .string gy] rfl rfl rfl rfl (by simp [Value.oneCell']) rfl ?_; intro _ H2 st; clear st H; have H := H2; clear H2); (try simp only [Act.put, setIfInBounds_toArray, set_cons_zero, set_cons_succ]); have tk11 := hidp trivial) | (clear tk11; (refine Mm.get0 rtD H rfl (.tmp 11) rfl rfl rfl ?_); (try simp only [Act.put, setIfInBounds_toArray, set_cons_zero, set_cons_succ]); have tk12 := hidp trivial) | (clear tk12; (go_at_call 13; refine (cb2.out _ (HI.out.below H.out.below (Nat.le_refl _)) (HT0.out.below H.out.below (Nat.le_refl _))).mono ?_; rintro e _ ⟨rfl, hb⟩; replace H := hidp (H.out.call hb); clear cb2; clear hb); (try simp only [Act.put, setIfInBounds_toArray, set_cons_zero, set_cons_succ]); have tk13 := hidp trivial) | (clear tk13; (refine Mm.get1 rtD H rfl (.tmp 9) rfl rfl rfl ?_); (try simp only [Act.put, setIfInBounds_toArray, set_cons_zero, set_cons_succ]); have tk14 := hidp trivial) | (clear tk14; (refine Mm.get3 rtD H rfl (.tmp 3) rfl rfl rfl ?_); (try simp only [Act.put, setIfInBounds_toArray, set_cons_zero, set_cons_succ]); have tk15 := hidp trivial) | (clear tk15; (refine Mm.get3 rtD H rfl (.tmp 3) rfl rfl rfl ?_); (try simp only [Act.put, setIfInBounds_toArray, set_cons_zero, set_cons_succ]); have tk16 := hidp trivial) | (clear tk16; (go_at_call 17; refine (ca.out _ (HI.out.below H.out.below (Nat.le_refl _)) (HT0.out.below H.out.below (Nat.le_refl _))).mono ?_; rintro e _ ⟨rfl, hb⟩; replace H := hidp (H.out.call hb); clear ca; clear hb); (try simp only [Act.put, setIfInBounds_toArray, set_cons_zero, set_cons_succ]); have tk17 := hidp trivial) | (clear tk17; (refine Mm.new rtD H (some 15) rfl rfl rfl ?_; clear H; intro b15 _ H nw; have hb := nw.below; clear hb nw); (try simp only [Act.put, setIfInBounds_toArray, set_cons_zero, set_cons_succ]); have tk18 := hidp trivial) | (clear tk18; (refine Mm.put0 rtD H rfl (.tmp 15) (.tmp 67) [.int .u8 2, .string r, .int .i64 ep, .int .i64 ix, .int .i64 hu, .int .i64 nx, .string ⟨#[]⟩] rfl rfl rfl rfl (by simp [Value.oneCell']) rfl ?_; intro _ H2 st; clear st H; have H := H2; clear H2); (try simp only [Act.put, setIfInBounds_toArray, set_cons_zero, set_cons_succ]); have tk19 := hidp trivial) | (clear tk19; (refine Mm.get3 rtD H rfl (.tmp 4) rfl rfl rfl ?_); (try simp only [Act.put, setIfInBounds_toArray, set_cons_zero, set_cons_succ]); have tk20 := hidp trivial) | (clear tk20; (refine Mm.new rtD H (some 17) rfl rfl rfl ?_; clear H; intro b17 _ H nw; have hb := nw.below; clear hb nw); (try simp only [Act.put, setIfInBounds_toArray, set_cons_zero, set_cons_succ]); have tk21 := hidp trivial) | (clear tk21; (refine Mm.put0 rtD H rfl (.tmp 17) (.tmp 75) [.int .u8 (ke : Int), .string re, .int .i64 ee, .int .i64 ie, .int .i64 he, .int .i64 ne, .string ge] rfl rfl rfl rfl (by simp [Value.oneCell']) rfl ?_; intro _ H2 st; clear st H; have H := H2; clear H2); (try simp only [Act.put, setIfInBounds_toArray, set_cons_zero, set_cons_succ]); have tk22 := hidp trivial) | (clear tk22; (refine Mm.putF0 H rfl 9 (.tmp 76) (.const (.string ⟨#[]⟩)) 6 (.string ⟨#[]⟩) rfl rfl rfl (by kernel_rfl) rfl (of_decide_eq_true rfl) ?_; intro _ H2 st; clear st H; have H : Hid (Mm.M w.heap.size w _ ([⟨b17, 24, [.int .u8 (ke : Int), .string re, .int .i64 ee, .int .i64 ie, .int .i64 he, .int .i64 ne, .string ⟨#[]⟩]⟩, ⟨b15, 24, [.int .u8 2, .string r, .int .i64 ep, .int .i64 ix, .int .i64 hu, .int .i64 nx, .string ⟨#[]⟩]⟩, ⟨b11, 24, [.int .u8 (ky : Int), .string ry, .int .i64 ey, .int .i64 iy, .int .i64 hy, .int .i64 ny, .string gy]⟩, ⟨b9, 24, [.int .u8 (k : Int), .string r, .int .i64 ep, .int .i64 ix, .int .i64 hu, .int .i64 nx, .string sg]⟩, ⟨b4, 24, [.int .u8 (ke : Int), .string re, .int .i64 ee, .int .i64 ie, .int .i64 he, .int .i64 ne, .string ge]⟩, ⟨b3, 24, [.int .u8 (k : Int), .string r, .int .i64 ep, .int .i64 ix, .int .i64 hu, .int .i64 nx, .string sg]⟩])) := H2; clear H2); (try simp only [Act.put, setIfInBounds_toArray, set_cons_zero, set_cons_succ]); have tk23 := hidp trivial))
        try clear tk23
        cases hce : dOk (⟨ke, re, ee, ie, he, ne, ge⟩ : De) with
        | false =>
          rw [dE_no hce] at cc
          have HFF := hidp (show F = false from HFB.out hce)
          rw [HFF.out] at cf
          clear hce
          refine Mm.region H (.take 0 (.take 1 (.one 2 (.take 3 (.take 4 (.take 5 (.take 7 (.one 6 (.one 8 (.take 9 (.take 10 (.take 11 (.take 12 (.take 13 (.take 14 (.take 15 (.take 16 (.take 17 .done)))))))))))))))))) (by kernel_rfl) (by kernel_rfl) (by simp [Scr.depth]) (by kernel_rfl) ?_
          clear H
          intro _ H hb
          clear hb
          refine Mm.sget5 rtD (fun w h => h) rfl rfl (.tmp 3) rfl rfl rfl ?_
          simp only [Act.put, getElem_toArray, getElem_cons_zero, getElem_cons_succ, setIfInBounds_toArray, set_cons_zero, set_cons_succ]
          refine Mm.sget1 rtD (fun w h => h) rfl rfl (.tmp 15) rfl rfl rfl ?_
          simp only [Act.put, getElem_toArray, getElem_cons_zero, getElem_cons_succ, setIfInBounds_toArray, set_cons_zero, set_cons_succ]
          refine Mm.o_callH (v := .bool true) H (fun W h => h) rfl rfl 21 (#[.agg #[.int .u8 (k : Int), .string r, .int .i64 ep, .int .i64 ix, .int .i64 hu, .int .i64 nx, .string sg], .agg #[.int .u8 2, .string r, .int .i64 ep, .int .i64 ix, .int .i64 hu, .int .i64 nx, .string ⟨#[]⟩]]) (by go_simp; first | done | rfl) (cfa.out _ (HI.out.below H.out.below (Nat.le_refl _)) (HT0.out.below H.out.below (Nat.le_refl _))) ?_
          clear H
          intro _ H hb
          clear hb
          simp only [Act.put, getElem_toArray, getElem_cons_zero, getElem_cons_succ, setIfInBounds_toArray, set_cons_zero, set_cons_succ]
          apply s_val
          case ho | hw => rfl
          case hv => intro w hw; go_simp; first | done | rfl
          simp only [Act.put, getElem_toArray, getElem_cons_zero, getElem_cons_succ, setIfInBounds_toArray, set_cons_zero, set_cons_succ]
          refine Mm.sget5 rtD (fun w h => h) rfl rfl (.tmp 3) rfl rfl rfl ?_
          simp only [Act.put, getElem_toArray, getElem_cons_zero, getElem_cons_succ, setIfInBounds_toArray, set_cons_zero, set_cons_succ]
          refine Mm.sget4 rtD (fun w h => h) rfl rfl (.tmp 4) rfl rfl rfl ?_
          simp only [Act.put, getElem_toArray, getElem_cons_zero, getElem_cons_succ, setIfInBounds_toArray, set_cons_zero, set_cons_succ]
          refine Mm.sget4 rtD (fun w h => h) rfl rfl (.tmp 4) rfl rfl rfl ?_
          simp only [Act.put, getElem_toArray, getElem_cons_zero, getElem_cons_succ, setIfInBounds_toArray, set_cons_zero, set_cons_succ]
          refine Mm.o_callH (v := .bool false) H (fun W h => h) rfl rfl 21 (#[.agg #[.int .u8 (k : Int), .string r, .int .i64 ep, .int .i64 ix, .int .i64 hu, .int .i64 nx, .string sg], .agg #[.int .u8 (ke : Int), .string re, .int .i64 ee, .int .i64 ie, .int .i64 he, .int .i64 ne, .string ge]]) (by go_simp; first | done | rfl) (cf.out _ (HI.out.below H.out.below (Nat.le_refl _)) (HT0.out.below H.out.below (Nat.le_refl _))) ?_
          clear H
          intro _ H hb
          clear hb
          simp only [Act.put, getElem_toArray, getElem_cons_zero, getElem_cons_succ, setIfInBounds_toArray, set_cons_zero, set_cons_succ]
          refine Mm.o_callH (v := .int .i64 2) H (fun W h => h) rfl rfl 19 (#[.agg #[.int .u8 (ke : Int), .string re, .int .i64 ee, .int .i64 ie, .int .i64 he, .int .i64 ne, .string ge]]) (by go_simp; first | done | rfl) (cc.out _ (HI.out.below H.out.below (Nat.le_refl _)) (HT0.out.below H.out.below (Nat.le_refl _))) ?_
          clear H
          intro _ H hb
          clear hb
          simp only [Act.put, getElem_toArray, getElem_cons_zero, getElem_cons_succ, setIfInBounds_toArray, set_cons_zero, set_cons_succ]
          apply s_val
          case ho | hw => rfl
          case hv => intro w hw; go_simp; first | done | rfl
          simp only [Act.put, getElem_toArray, getElem_cons_zero, getElem_cons_succ, setIfInBounds_toArray, set_cons_zero, set_cons_succ]
          apply s_val
          case ho | hw => rfl
          case hv => intro w hw; go_simp; first | done | rfl
          simp only [Act.put, getElem_toArray, getElem_cons_zero, getElem_cons_succ, setIfInBounds_toArray, set_cons_zero, set_cons_succ]
          refine Rt.s_skip rfl rfl ?_
          simp only [Act.put, getElem_toArray, getElem_cons_zero, getElem_cons_succ, setIfInBounds_toArray, set_cons_zero, set_cons_succ]
          refine Rt.s_skip rfl rfl ?_
          simp only [Act.put, getElem_toArray, getElem_cons_zero, getElem_cons_succ, setIfInBounds_toArray, set_cons_zero, set_cons_succ]
          refine Rt.s_skip rfl rfl ?_
          simp only [Act.put, getElem_toArray, getElem_cons_zero, getElem_cons_succ, setIfInBounds_toArray, set_cons_zero, set_cons_succ]
          apply s_val
          case ho | hw => rfl
          case hv => intro w hw; go_simp; first | done | rfl
          simp only [Act.put, getElem_toArray, getElem_cons_zero, getElem_cons_succ, setIfInBounds_toArray, set_cons_zero, set_cons_succ]
          apply s_val
          case ho | hw => rfl
          case hv => intro w hw; go_simp; first | done | rfl
          simp only [Act.put, getElem_toArray, getElem_cons_zero, getElem_cons_succ, setIfInBounds_toArray, set_cons_zero, set_cons_succ]
          apply s_val
          case ho | hw => rfl
          case hv => intro w hw; go_simp; first | done | rfl
          simp only [Act.put, getElem_toArray, getElem_cons_zero, getElem_cons_succ, setIfInBounds_toArray, set_cons_zero, set_cons_succ]
          apply s_val
          case ho | hw => rfl
          case hv => intro w hw; go_simp; first | done | rfl
          simp only [Act.put, getElem_toArray, getElem_cons_zero, getElem_cons_succ, setIfInBounds_toArray, set_cons_zero, set_cons_succ]
          refine NoPanic.normal ?_
          go_wp2
          go_ret
          exact ⟨rfl, H.out.below⟩
        | true =>
          rw [dE_yes hce] at cc
          have HFF := hidp (show F = eqD (⟨ke, re, ee, ie, he, ne, ⟨#[]⟩⟩ : De) ⟨2, r, ep, ix, hu, nx, ⟨#[]⟩⟩ from HFY.out hce)
          have hq := fun W => eqin_deal W ke 2 re r ⟨#[]⟩ ⟨#[]⟩ ee ep ie ix he hu ne nx
          rw [← HFF.out] at hq
          have hb0 := fun W => eqin_bool W F
          have hb1 := fun W => eql_bool W F
          clear hce
          refine Mm.region H (.take 0 (.take 1 (.one 2 (.take 3 (.take 4 (.take 5 (.take 7 (.one 6 (.one 8 (.take 9 (.take 10 (.take 11 (.take 12 (.take 13 (.take 14 (.take 15 (.take 16 (.take 17 .done)))))))))))))))))) (by kernel_rfl) (by kernel_rfl) (by simp [Scr.depth]) (by kernel_rfl) ?_
          clear H
          intro _ H hb
          clear hb
          refine Mm.sget5 rtD (fun w h => h) rfl rfl (.tmp 3) rfl rfl rfl ?_
          simp only [Act.put, getElem_toArray, getElem_cons_zero, getElem_cons_succ, setIfInBounds_toArray, set_cons_zero, set_cons_succ]
          refine Mm.sget1 rtD (fun w h => h) rfl rfl (.tmp 15) rfl rfl rfl ?_
          simp only [Act.put, getElem_toArray, getElem_cons_zero, getElem_cons_succ, setIfInBounds_toArray, set_cons_zero, set_cons_succ]
          refine Mm.o_callH (v := .bool true) H (fun W h => h) rfl rfl 21 (#[.agg #[.int .u8 (k : Int), .string r, .int .i64 ep, .int .i64 ix, .int .i64 hu, .int .i64 nx, .string sg], .agg #[.int .u8 2, .string r, .int .i64 ep, .int .i64 ix, .int .i64 hu, .int .i64 nx, .string ⟨#[]⟩]]) (by go_simp; first | done | rfl) (cfa.out _ (HI.out.below H.out.below (Nat.le_refl _)) (HT0.out.below H.out.below (Nat.le_refl _))) ?_
          clear H
          intro _ H hb
          clear hb
          simp only [Act.put, getElem_toArray, getElem_cons_zero, getElem_cons_succ, setIfInBounds_toArray, set_cons_zero, set_cons_succ]
          apply s_val
          case ho | hw => rfl
          case hv => intro w hw; go_simp; first | done | rfl
          simp only [Act.put, getElem_toArray, getElem_cons_zero, getElem_cons_succ, setIfInBounds_toArray, set_cons_zero, set_cons_succ]
          refine Mm.sget5 rtD (fun w h => h) rfl rfl (.tmp 3) rfl rfl rfl ?_
          simp only [Act.put, getElem_toArray, getElem_cons_zero, getElem_cons_succ, setIfInBounds_toArray, set_cons_zero, set_cons_succ]
          refine Mm.sget4 rtD (fun w h => h) rfl rfl (.tmp 4) rfl rfl rfl ?_
          simp only [Act.put, getElem_toArray, getElem_cons_zero, getElem_cons_succ, setIfInBounds_toArray, set_cons_zero, set_cons_succ]
          refine Mm.sget4 rtD (fun w h => h) rfl rfl (.tmp 4) rfl rfl rfl ?_
          simp only [Act.put, getElem_toArray, getElem_cons_zero, getElem_cons_succ, setIfInBounds_toArray, set_cons_zero, set_cons_succ]
          refine Mm.o_callH (v := .bool F) H (fun W h => h) rfl rfl 21 (#[.agg #[.int .u8 (k : Int), .string r, .int .i64 ep, .int .i64 ix, .int .i64 hu, .int .i64 nx, .string sg], .agg #[.int .u8 (ke : Int), .string re, .int .i64 ee, .int .i64 ie, .int .i64 he, .int .i64 ne, .string ge]]) (by go_simp; first | done | rfl) (cf.out _ (HI.out.below H.out.below (Nat.le_refl _)) (HT0.out.below H.out.below (Nat.le_refl _))) ?_
          clear H
          intro _ H hb
          clear hb
          simp only [Act.put, getElem_toArray, getElem_cons_zero, getElem_cons_succ, setIfInBounds_toArray, set_cons_zero, set_cons_succ]
          refine Mm.o_callH (v := .int .i64 0) H (fun W h => h) rfl rfl 19 (#[.agg #[.int .u8 (ke : Int), .string re, .int .i64 ee, .int .i64 ie, .int .i64 he, .int .i64 ne, .string ge]]) (by go_simp; first | done | rfl) (cc.out _ (HI.out.below H.out.below (Nat.le_refl _)) (HT0.out.below H.out.below (Nat.le_refl _))) ?_
          clear H
          intro _ H hb
          clear hb
          simp only [Act.put, getElem_toArray, getElem_cons_zero, getElem_cons_succ, setIfInBounds_toArray, set_cons_zero, set_cons_succ]
          apply s_val
          case ho | hw => rfl
          case hv => intro w hw; go_simp; first | done | rfl
          simp only [Act.put, getElem_toArray, getElem_cons_zero, getElem_cons_succ, setIfInBounds_toArray, set_cons_zero, set_cons_succ]
          apply s_val
          case ho | hw => rfl
          case hv => intro w hw; go_simp; first | done | rfl
          simp only [Act.put, getElem_toArray, getElem_cons_zero, getElem_cons_succ, setIfInBounds_toArray, set_cons_zero, set_cons_succ]
          refine Mm.sget0 rtD (fun w h => h) rfl rfl (.tmp 17) rfl rfl rfl ?_
          simp only [Act.put, getElem_toArray, getElem_cons_zero, getElem_cons_succ, setIfInBounds_toArray, set_cons_zero, set_cons_succ]
          refine Mm.sget1 rtD (fun w h => h) rfl rfl (.tmp 15) rfl rfl rfl ?_
          simp only [Act.put, getElem_toArray, getElem_cons_zero, getElem_cons_succ, setIfInBounds_toArray, set_cons_zero, set_cons_succ]
          apply s_val (v := .bool F)
          case ho | hw => rfl
          case hv => intro w hw; go_simp; exact ifs_deal w ke re r ee ep ie ix he hu ne nx F HFF.out
          simp only [Act.put, getElem_toArray, getElem_cons_zero, getElem_cons_succ, setIfInBounds_toArray, set_cons_zero, set_cons_succ]
          apply s_val
          case ho | hw => rfl
          case hv => intro w hw; go_simp; first | done | rfl
          simp only [Act.put, getElem_toArray, getElem_cons_zero, getElem_cons_succ, setIfInBounds_toArray, set_cons_zero, set_cons_succ]
          apply s_val
          case ho | hw => rfl
          case hv => intro w hw; go_simp; first | done | rfl
          simp only [Act.put, getElem_toArray, getElem_cons_zero, getElem_cons_succ, setIfInBounds_toArray, set_cons_zero, set_cons_succ]
          apply s_val
          case ho | hw => rfl
          case hv => intro w hw; go_simp; first | done | rfl
          simp only [Act.put, getElem_toArray, getElem_cons_zero, getElem_cons_succ, setIfInBounds_toArray, set_cons_zero, set_cons_succ]
          apply s_val
          case ho | hw => rfl
          case hv => intro w hw; go_simp; first | done | rfl
          simp only [Act.put, getElem_toArray, getElem_cons_zero, getElem_cons_succ, setIfInBounds_toArray, set_cons_zero, set_cons_succ]
          refine NoPanic.normal ?_
          go_wp2
          go_ret
          exact ⟨rfl, H.out.below⟩
    · have hA0 : anV (⟨k, r, ep, ix, hu, nx, sg⟩ : De) = zD := by unfold anV; rw [if_neg (fun h => hk h.2)]
      have hA1 : anE (⟨k, r, ep, ix, hu, nx, sg⟩ : De) = 11 := by unfold anE; rw [if_pos hok, if_neg hk]
      rw [hA0, hA1] at ca
      have HF0 := hidp (hfn (by rw [hA1]; decide))
      rw [HF0.out] at cf
      clear hok hA0 hA1 hfn hfy hk hd hde HF0 HFB cc
      cases hp : dP s with
      | none =>
        have hV : dpV s = zD := by unfold dpV; rw [hp]; rfl
        have hE : dpE s = 6 := by unfold dpE; rw [hp]; rfl
        rw [hV, hE] at cp2
        have cb2 := hidp (show ∀ W, IT W → HT W → Calls Tryz.prog 13 #[.agg zDr.toArray] W (fun e w' => e = .returned (.tuple #[.string (dB zD), .int .i64 (dE zD)]) ∧ Below W.heap.size W w') from fun W h h' => bytes_any W zD ⟨by decide, by decide, by decide⟩ h h')
        obtain ⟨U, hU⟩ : ∃ U, dB zD = U := ⟨_, rfl⟩
        rw [hU, dE_no z_no] at cb2
        clear hp hV hE hU HYB
        go_enter Tryz.func4, Tryz.ntmps4
        have tk0 := hidp trivial
        go_wp2_with (first | (clear tk0; (refine Mm.box 24 H rfl (.tmp 0) rfl [.int .u8 (k : Int), .string r, .int .i64 ep, .int .i64 ix, .int .i64 hu, .int .i64 nx, .string sg] rfl ?_; clear H; intro b3 _ H nw; have hb := nw.below; clear hb nw); (try simp only [Act.put, setIfInBounds_toArray, set_cons_zero, set_cons_succ]); have tk1 := hidp trivial) | (clear tk1; (refine Mm.box 24 H rfl (.tmp 1) rfl [.int .u8 (ke : Int), .string re, .int .i64 ee, .int .i64 ie, .int .i64 he, .int .i64 ne, .string ge] rfl ?_; clear H; intro b4 _ H nw; have hb := nw.below; clear hb nw); (try simp only [Act.put, setIfInBounds_toArray, set_cons_zero, set_cons_succ]); have tk2 := hidp trivial) | (clear tk2; (go_at_call 10; refine (lives24_any _ (HI.out.below H.out.below (Nat.le_refl _)) (HT0.out.below H.out.below (Nat.le_refl _)) (HK.out.below H.out.below hkp)).mono ?_; rintro e _ ⟨rfl, hb⟩; replace H := hidp (H.out.call hb); clear hb); (try simp only [Act.put, setIfInBounds_toArray, set_cons_zero, set_cons_succ]); have tk3 := hidp trivial) | (clear tk3; (refine Mm.get1 rtD H rfl (.tmp 3) rfl rfl rfl ?_); (try simp only [Act.put, setIfInBounds_toArray, set_cons_zero, set_cons_succ]); have tk4 := hidp trivial) | (clear tk4; (go_at_call 13; refine (cb1.out _ (HI.out.below H.out.below (Nat.le_refl _)) (HT0.out.below H.out.below (Nat.le_refl _))).mono ?_; rintro e _ ⟨rfl, hb⟩; replace H := hidp (H.out.call hb); clear cb1; clear hb); (try simp only [Act.put, setIfInBounds_toArray, set_cons_zero, set_cons_succ]); have tk5 := hidp trivial) | (clear tk5; (go_at_call 15; refine (cp1.out _ (HI.out.below H.out.below (Nat.le_refl _)) (HT0.out.below H.out.below (Nat.le_refl _))).mono ?_; rintro e _ ⟨rfl, hb⟩; replace H := hidp (H.out.call hb); clear cp1; clear hb); (try simp only [Act.put, setIfInBounds_toArray, set_cons_zero, set_cons_succ]); have tk6 := hidp trivial) | (clear tk6; (refine Mm.new rtD H (some 9) rfl rfl rfl ?_; clear H; intro b9 _ H nw; have hb := nw.below; clear hb nw); (try simp only [Act.put, setIfInBounds_toArray, set_cons_zero, set_cons_succ]); have tk7 := hidp trivial) | (clear tk7; (refine Mm.put0 rtD H rfl (.tmp 9) (.tmp 28) [.int .u8 (k : Int), .string r, .int .i64 ep, .int .i64 ix, .int .i64 hu, .int .i64 nx, .string sg] rfl rfl rfl rfl (by simp [Value.oneCell']) rfl ?_; intro _ H2 st; clear st H; have H := H2; clear H2); (try simp only [Act.put, setIfInBounds_toArray, set_cons_zero, set_cons_succ]); have tk8 := hidp trivial) | (clear tk8; (go_at_call 15; refine (cp2.out _ (HI.out.below H.out.below (Nat.le_refl _)) (HT0.out.below H.out.below (Nat.le_refl _))).mono ?_; rintro e _ ⟨rfl, hb⟩; replace H := hidp (H.out.call hb); clear cp2; clear hb); (try simp only [Act.put, setIfInBounds_toArray, set_cons_zero, set_cons_succ]); have tk9 := hidp trivial) | (clear tk9; (refine Mm.new rtD H (some 11) rfl rfl rfl ?_; clear H; intro b11 _ H nw; have hb := nw.below; clear hb nw); (try simp only [Act.put, setIfInBounds_toArray, set_cons_zero, set_cons_succ]); have tk10 := hidp trivial) | (clear tk10; (refine Mm.put0 rtD H rfl (.tmp 11) (.tmp 33) zDr rfl rfl rfl rfl (by simp [zDr, Value.oneCell']) rfl ?_; intro _ H2 st; clear st H; have H := H2; clear H2); (try simp only [Act.put, setIfInBounds_toArray, set_cons_zero, set_cons_succ]); have tk11 := hidp trivial) | (clear tk11; (refine Mm.get0 rtD H rfl (.tmp 11) rfl rfl rfl ?_); (try simp only [Act.put, setIfInBounds_toArray, set_cons_zero, set_cons_succ]); have tk12 := hidp trivial) | (clear tk12; (go_at_call 13; refine (cb2.out _ (HI.out.below H.out.below (Nat.le_refl _)) (HT0.out.below H.out.below (Nat.le_refl _))).mono ?_; rintro e _ ⟨rfl, hb⟩; replace H := hidp (H.out.call hb); clear cb2; clear hb); (try simp only [Act.put, setIfInBounds_toArray, set_cons_zero, set_cons_succ]); have tk13 := hidp trivial) | (clear tk13; (refine Mm.get1 rtD H rfl (.tmp 9) rfl rfl rfl ?_); (try simp only [Act.put, setIfInBounds_toArray, set_cons_zero, set_cons_succ]); have tk14 := hidp trivial) | (clear tk14; (refine Mm.get3 rtD H rfl (.tmp 3) rfl rfl rfl ?_); (try simp only [Act.put, setIfInBounds_toArray, set_cons_zero, set_cons_succ]); have tk15 := hidp trivial) | (clear tk15; (refine Mm.get3 rtD H rfl (.tmp 3) rfl rfl rfl ?_); (try simp only [Act.put, setIfInBounds_toArray, set_cons_zero, set_cons_succ]); have tk16 := hidp trivial) | (clear tk16; (go_at_call 17; refine (ca.out _ (HI.out.below H.out.below (Nat.le_refl _)) (HT0.out.below H.out.below (Nat.le_refl _))).mono ?_; rintro e _ ⟨rfl, hb⟩; replace H := hidp (H.out.call hb); clear ca; clear hb); (try simp only [Act.put, setIfInBounds_toArray, set_cons_zero, set_cons_succ]); have tk17 := hidp trivial) | (clear tk17; (refine Mm.new rtD H (some 15) rfl rfl rfl ?_; clear H; intro b15 _ H nw; have hb := nw.below; clear hb nw); (try simp only [Act.put, setIfInBounds_toArray, set_cons_zero, set_cons_succ]); have tk18 := hidp trivial) | (clear tk18; (refine Mm.put0 rtD H rfl (.tmp 15) (.tmp 67) zDr rfl rfl rfl rfl (by simp [zDr, Value.oneCell']) rfl ?_; intro _ H2 st; clear st H; have H := H2; clear H2); (try simp only [Act.put, setIfInBounds_toArray, set_cons_zero, set_cons_succ]); have tk19 := hidp trivial) | (clear tk19; (refine Mm.get4 rtD H rfl (.tmp 3) rfl rfl rfl ?_); (try simp only [Act.put, setIfInBounds_toArray, set_cons_zero, set_cons_succ]); have tk20 := hidp trivial) | (clear tk20; (refine Mm.get3 rtD H rfl (.tmp 4) rfl rfl rfl ?_); (try simp only [Act.put, setIfInBounds_toArray, set_cons_zero, set_cons_succ]); have tk21 := hidp trivial) | (clear tk21; (go_at_call 21; refine (cf.out _ (HI.out.below H.out.below (Nat.le_refl _)) (HT0.out.below H.out.below (Nat.le_refl _))).mono ?_; rintro e _ ⟨rfl, hb⟩; replace H := hidp (H.out.call hb); clear cf; clear hb); (try simp only [Act.put, setIfInBounds_toArray, set_cons_zero, set_cons_succ]); have tk22 := hidp trivial))
        try clear tk22
        go_ret
        exact ⟨rfl, H.out.below⟩
      | some y =>
        obtain ⟨hy1, hy2⟩ := HYB.out y hp
        have hV : dpV s = y := by unfold dpV; rw [hp]; rfl
        have hE : dpE s = 0 := by unfold dpE; rw [hp]; rfl
        rw [hV, hE] at cp2
        obtain ⟨ky, ry, ey, iy, hy, ny, gy⟩ := y
        have cb2 := hidp (show ∀ W, IT W → HT W → Calls Tryz.prog 13 #[.agg #[.int .u8 (ky : Int), .string ry, .int .i64 ey, .int .i64 iy, .int .i64 hy, .int .i64 ny, .string gy]] W (fun e w' => e = .returned (.tuple #[.string s, .int .i64 0]) ∧ Below W.heap.size W w') from fun W h h' => by
          have := bytes_any W (⟨ky, ry, ey, iy, hy, ny, gy⟩ : De) (dok_ok hy1) h h'
          rw [hy2, dE_yes hy1] at this; exact this)
        clear hp hV hE HYB hy1 hy2
        go_enter Tryz.func4, Tryz.ntmps4
        have tk0 := hidp trivial
        go_wp2_with (first | (clear tk0; (refine Mm.box 24 H rfl (.tmp 0) rfl [.int .u8 (k : Int), .string r, .int .i64 ep, .int .i64 ix, .int .i64 hu, .int .i64 nx, .string sg] rfl ?_; clear H; intro b3 _ H nw; have hb := nw.below; clear hb nw); (try simp only [Act.put, setIfInBounds_toArray, set_cons_zero, set_cons_succ]); have tk1 := hidp trivial) | (clear tk1; (refine Mm.box 24 H rfl (.tmp 1) rfl [.int .u8 (ke : Int), .string re, .int .i64 ee, .int .i64 ie, .int .i64 he, .int .i64 ne, .string ge] rfl ?_; clear H; intro b4 _ H nw; have hb := nw.below; clear hb nw); (try simp only [Act.put, setIfInBounds_toArray, set_cons_zero, set_cons_succ]); have tk2 := hidp trivial) | (clear tk2; (go_at_call 10; refine (lives24_any _ (HI.out.below H.out.below (Nat.le_refl _)) (HT0.out.below H.out.below (Nat.le_refl _)) (HK.out.below H.out.below hkp)).mono ?_; rintro e _ ⟨rfl, hb⟩; replace H := hidp (H.out.call hb); clear hb); (try simp only [Act.put, setIfInBounds_toArray, set_cons_zero, set_cons_succ]); have tk3 := hidp trivial) | (clear tk3; (refine Mm.get1 rtD H rfl (.tmp 3) rfl rfl rfl ?_); (try simp only [Act.put, setIfInBounds_toArray, set_cons_zero, set_cons_succ]); have tk4 := hidp trivial) | (clear tk4; (go_at_call 13; refine (cb1.out _ (HI.out.below H.out.below (Nat.le_refl _)) (HT0.out.below H.out.below (Nat.le_refl _))).mono ?_; rintro e _ ⟨rfl, hb⟩; replace H := hidp (H.out.call hb); clear cb1; clear hb); (try simp only [Act.put, setIfInBounds_toArray, set_cons_zero, set_cons_succ]); have tk5 := hidp trivial) | (clear tk5; (go_at_call 15; refine (cp1.out _ (HI.out.below H.out.below (Nat.le_refl _)) (HT0.out.below H.out.below (Nat.le_refl _))).mono ?_; rintro e _ ⟨rfl, hb⟩; replace H := hidp (H.out.call hb); clear cp1; clear hb); (try simp only [Act.put, setIfInBounds_toArray, set_cons_zero, set_cons_succ]); have tk6 := hidp trivial) | (clear tk6; (refine Mm.new rtD H (some 9) rfl rfl rfl ?_; clear H; intro b9 _ H nw; have hb := nw.below; clear hb nw); (try simp only [Act.put, setIfInBounds_toArray, set_cons_zero, set_cons_succ]); have tk7 := hidp trivial) | (clear tk7; (refine Mm.put0 rtD H rfl (.tmp 9) (.tmp 28) [.int .u8 (k : Int), .string r, .int .i64 ep, .int .i64 ix, .int .i64 hu, .int .i64 nx, .string sg] rfl rfl rfl rfl (by simp [Value.oneCell']) rfl ?_; intro _ H2 st; clear st H; have H := H2; clear H2); (try simp only [Act.put, setIfInBounds_toArray, set_cons_zero, set_cons_succ]); have tk8 := hidp trivial) | (clear tk8; (go_at_call 15; refine (cp2.out _ (HI.out.below H.out.below (Nat.le_refl _)) (HT0.out.below H.out.below (Nat.le_refl _))).mono ?_; rintro e _ ⟨rfl, hb⟩; replace H := hidp (H.out.call hb); clear cp2; clear hb); (try simp only [Act.put, setIfInBounds_toArray, set_cons_zero, set_cons_succ]); have tk9 := hidp trivial) | (clear tk9; (refine Mm.new rtD H (some 11) rfl rfl rfl ?_; clear H; intro b11 _ H nw; have hb := nw.below; clear hb nw); (try simp only [Act.put, setIfInBounds_toArray, set_cons_zero, set_cons_succ]); have tk10 := hidp trivial) | (clear tk10; (refine Mm.put0 rtD H rfl (.tmp 11) (.tmp 33) [.int .u8 (ky : Int), .string ry, .int .i64 ey, .int .i64 iy, .int .i64 hy, .int .i64 ny, .string gy] rfl rfl rfl rfl (by simp [Value.oneCell']) rfl ?_; intro _ H2 st; clear st H; have H := H2; clear H2); (try simp only [Act.put, setIfInBounds_toArray, set_cons_zero, set_cons_succ]); have tk11 := hidp trivial) | (clear tk11; (refine Mm.get0 rtD H rfl (.tmp 11) rfl rfl rfl ?_); (try simp only [Act.put, setIfInBounds_toArray, set_cons_zero, set_cons_succ]); have tk12 := hidp trivial) | (clear tk12; (go_at_call 13; refine (cb2.out _ (HI.out.below H.out.below (Nat.le_refl _)) (HT0.out.below H.out.below (Nat.le_refl _))).mono ?_; rintro e _ ⟨rfl, hb⟩; replace H := hidp (H.out.call hb); clear cb2; clear hb); (try simp only [Act.put, setIfInBounds_toArray, set_cons_zero, set_cons_succ]); have tk13 := hidp trivial) | (clear tk13; (refine Mm.get1 rtD H rfl (.tmp 9) rfl rfl rfl ?_); (try simp only [Act.put, setIfInBounds_toArray, set_cons_zero, set_cons_succ]); have tk14 := hidp trivial) | (clear tk14; (refine Mm.get3 rtD H rfl (.tmp 3) rfl rfl rfl ?_); (try simp only [Act.put, setIfInBounds_toArray, set_cons_zero, set_cons_succ]); have tk15 := hidp trivial) | (clear tk15; (refine Mm.get3 rtD H rfl (.tmp 3) rfl rfl rfl ?_); (try simp only [Act.put, setIfInBounds_toArray, set_cons_zero, set_cons_succ]); have tk16 := hidp trivial) | (clear tk16; (go_at_call 17; refine (ca.out _ (HI.out.below H.out.below (Nat.le_refl _)) (HT0.out.below H.out.below (Nat.le_refl _))).mono ?_; rintro e _ ⟨rfl, hb⟩; replace H := hidp (H.out.call hb); clear ca; clear hb); (try simp only [Act.put, setIfInBounds_toArray, set_cons_zero, set_cons_succ]); have tk17 := hidp trivial) | (clear tk17; (refine Mm.new rtD H (some 15) rfl rfl rfl ?_; clear H; intro b15 _ H nw; have hb := nw.below; clear hb nw); (try simp only [Act.put, setIfInBounds_toArray, set_cons_zero, set_cons_succ]); have tk18 := hidp trivial) | (clear tk18; (refine Mm.put0 rtD H rfl (.tmp 15) (.tmp 67) zDr rfl rfl rfl rfl (by simp [zDr, Value.oneCell']) rfl ?_; intro _ H2 st; clear st H; have H := H2; clear H2); (try simp only [Act.put, setIfInBounds_toArray, set_cons_zero, set_cons_succ]); have tk19 := hidp trivial) | (clear tk19; (refine Mm.get4 rtD H rfl (.tmp 3) rfl rfl rfl ?_); (try simp only [Act.put, setIfInBounds_toArray, set_cons_zero, set_cons_succ]); have tk20 := hidp trivial) | (clear tk20; (refine Mm.get3 rtD H rfl (.tmp 4) rfl rfl rfl ?_); (try simp only [Act.put, setIfInBounds_toArray, set_cons_zero, set_cons_succ]); have tk21 := hidp trivial) | (clear tk21; (go_at_call 21; refine (cf.out _ (HI.out.below H.out.below (Nat.le_refl _)) (HT0.out.below H.out.below (Nat.le_refl _))).mono ?_; rintro e _ ⟨rfl, hb⟩; replace H := hidp (H.out.call hb); clear cf; clear hb); (try simp only [Act.put, setIfInBounds_toArray, set_cons_zero, set_cons_succ]); have tk22 := hidp trivial))
        try clear tk22
        go_ret
        exact ⟨rfl, H.out.below⟩
end Go.Proofs.YtldokjbfnhgamaaGreatDoor.Ho
