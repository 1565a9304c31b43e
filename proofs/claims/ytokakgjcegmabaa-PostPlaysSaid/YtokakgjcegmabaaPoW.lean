/-
  PostPlays.
-/
import Derived.Test.YtokakgjcegmabaaPoV
import Derived.Test.YtokakgjcegmabaaPoS
import Derived.Test.YtokakgjcegmabaaPoL
namespace Go.Proofs.Ytokakgjcegmabaa.Po
set_option maxRecDepth 100000
set_option linter.unusedVariables false
set_option linter.unusedSimpArgs false
open Go.RowKit
open List (getElem_toArray getElem_cons_zero getElem_cons_succ setIfInBounds_toArray set_cons_zero set_cons_succ)

open Go.Conc Go.Shelf Rw
/-- A call among a law's arguments. -/
structure Ac where
  k : Int
  n : Int
  t : ByteArray
  a : Int
def Ac.row (x : Ac) : List Value := [.int .i64 x.k, .int .i64 x.n, .string x.t, .int .i64 x.a]
def AsAt (w : World) (v : Value) (acs : List Ac) : Prop := RsAt 4 w v (acs.map Ac.row) ∧ ∀ x ∈ acs, x.t.size ≤ 140737488351232
theorem tyA : RowTy Try.prog 48 58 4 40 [.int .i64 0, .int .i64 0, .string ⟨#[]⟩, .int .i64 0] := ⟨by decide, by decide, by decide, rfl, by kernel_rfl, by kernel_rfl, ⟨_, Try.underlying58⟩, by kernel_rfl⟩
theorem rtA : Rt.RT Try.prog 58 4 [.int .i64 0, .int .i64 0, .string ⟨#[]⟩, .int .i64 0] := ⟨rfl, .inl ⟨_, Try.underlying58⟩, by kernel_rfl⟩
theorem AsAt.get {w : World} {v : Value} {acs : List Ac} (h : AsAt w v acs) (hp : 0 < acs.length) : ∃ g off c, v = .slice (some ⟨g, off, none⟩) acs.length c ∧ g < w.heap.size ∧ ∀ i (hi : i < acs.length), w.rangeAt g (off + 4 * i) (acs[i]).row := by
  obtain ⟨g, off, c, e, hc, hg, hr⟩ := h.1.get (by simpa using hp)
  rw [List.length_map] at e
  exact ⟨g, off, c, e, hg, fun i hi => by have := rAt_nth hr h.1.1 i (by simpa using hi); simpa using this⟩
theorem AsAt.form {w : World} {v : Value} {acs : List Ac} (h : AsAt w v acs) : ∃ a c, v = .slice a acs.length c := by
  obtain ⟨a, c, e⟩ := h.1.form; exact ⟨a, c, by rw [e, List.length_map]⟩
theorem bne_refl (x : Int) : (x != x) = false := by simp
theorem Ts.one {T k : Nat} {w : World} {v : Value} {es : List (List Value)} (h : Ts T k w v es) : v.oneCell' = true := RsAt.oneC h.rs
theorem PostAt.stp {w W : World} {b c cap d t : Nat} {L : List Lt} {gap last lost : Int} {xs : List Value} (h : PostAt w b c cap L gap last lost) (st : Rt.Stp d w W) (ha : Arr w d t xs) (hne : t ≠ 90) : PostAt W b c cap L gap last lost :=
  ⟨st.arr (arr_ne h.arr ha (fun e => hne e.symm)) h.arr, h.ch.to (st.other c (h.ch.ne ha).symm)⟩
theorem M_pk {N b c cap : Nat} {w0 w W : World} {Ls : List Mm.Bx} {L : List Lt} {gap last lost : Int} (h : Mm.M N w0 w Ls) (hk : Pk b c w W) (hp : PostAt w b c cap L gap last lost) (hb : N ≤ b) (hc : N ≤ c) (ht : ∀ x ∈ Ls, x.t ≠ 90) : Mm.M N w0 W Ls :=
  ⟨h.below.trans (hk.below h.le hb hc), Nat.le_trans h.le hk.size, h.ge, h.inc, fun x hx => hk.arr (h.has x hx) (arr_ne (h.has x hx) hp.arr (ht x hx)) (hp.ch.ne (h.has x hx))⟩
theorem ts_nil {N : Nat} {w0 w : World} {Ls : List Mm.Bx} (_ : Mm.M N w0 w Ls) : Ts 92 4 w (.slice none 0 0) (ones []) := ⟨AllK.nil, .inl ⟨rfl, rfl⟩⟩
/-- What stays true of a box. -/
structure Inv (L : List Lt) (n i : Nat) (last lost : Int) : Prop where
  cap : L.length ≤ n
  sz : ∀ x ∈ L, x.tx.size ≤ 140737488351232
  at_ : ∀ x ∈ L, 0 ≤ x.at_ ∧ x.at_ ≤ 1099511627776
  la : 0 ≤ last ∧ last ≤ (i : Int)
  lo : 0 ≤ lost ∧ lost ≤ (i : Int)
theorem Inv.up {L : List Lt} {n i : Nat} {last lost : Int} (h : Inv L n i last lost) : Inv L n (i + 1) last lost := ⟨h.cap, h.sz, h.at_, by have := h.la; omega, by have := h.lo; omega⟩
theorem Inv.lostUp {L : List Lt} {n i : Nat} {last lost : Int} (h : Inv L n i last lost) : Inv L n (i + 1) last (lost + 1) := ⟨h.cap, h.sz, h.at_, by have := h.la; omega, by have := h.lo; omega⟩
theorem Inv.putUp {L : List Lt} {n i : Nat} {last lost ni : Int} {tx : ByteArray} (h : Inv L n i last lost) (hc : (L ++ [(⟨last + 1, ni, tx, false, 0⟩ : Lt)]).length ≤ n) (ht : tx.size ≤ 140737488351232) : Inv (L ++ [⟨last + 1, ni, tx, false, 0⟩]) n (i + 1) (last + 1) lost :=
  ⟨hc, fun x hx => (List.mem_append.1 hx).elim (h.sz x) (fun hx => by rw [List.mem_singleton] at hx; subst hx; exact ht), fun x hx => (List.mem_append.1 hx).elim (h.at_ x) (fun hx => by rw [List.mem_singleton] at hx; subst hx; exact ⟨Int.le_refl _, by show (0 : Int) ≤ 1099511627776; decide⟩), by have := h.la; omega, by have := h.lo; omega⟩
theorem Inv.dueUp {L : List Lt} {n i : Nat} {last lost now gap : Int} (h : Inv L n i last lost) (hn : nowOk now = true) : Inv (L.map (mkF now gap)) n (i + 1) last lost := by
  have hn' : 0 ≤ now ∧ now ≤ 1099511627776 := by simp [nowOk] at hn; omega
  refine ⟨by rw [List.length_map]; exact h.cap, fun x hx => ?_, fun x hx => ?_, by have := h.la; omega, by have := h.lo; omega⟩
  · obtain ⟨y, hy, rfl⟩ := List.mem_map.1 hx
    unfold mkF mkD; split
    · exact h.sz y hy
    · exact h.sz y hy
  · obtain ⟨y, hy, rfl⟩ := List.mem_map.1 hx
    unfold mkF mkD; split
    · exact hn'
    · exact h.at_ y hy
theorem Inv.doneUp {L : List Lt} {n i : Nat} {last lost j : Int} (h : Inv L n i last lost) : Inv (dnL L j) n (i + 1) last lost :=
  ⟨Nat.le_trans (List.length_filter_le _ _) h.cap, fun x hx => h.sz x ((List.mem_filter.1 hx).1), fun x hx => h.at_ x ((List.mem_filter.1 hx).1), by have := h.la; omega, by have := h.lo; omega⟩
theorem Inv.clearUp {L : List Lt} {n i : Nat} {last lost : Int} (h : Inv L n i last lost) : Inv [] n (i + 1) last lost := ⟨Nat.zero_le _, fun x h => (by cases h), fun x h => (by cases h), by have := h.la; omega, by have := h.lo; omega⟩
set_option maxHeartbeats 64000000 in
theorem walk_postPlays (w : World) (room gap : Int) (va : Value) (acs : List Ac) (ha : AsAt w va acs) : Calls Try.prog 5 #[.int .i64 room, .int .i64 gap, va] w fun e w' => e = .returned (.bool true) ∧ Below w.heap.size w w' := by
  have HA := hidp ha
  have H := hidp (Mm.M.nil w)
  cases hno : newOk room gap with
  | false =>
    go_enter Try.func5, Try.ntmps5
    have tk0 := hidp trivial
    go_wp2_with (first | (clear tk0; (go_at_call 22; refine (lives23_any _).mono ?_; rintro e _ ⟨rfl, hb⟩; replace H := hidp (H.out.call hb); clear hb); (try simp only [Act.put, setIfInBounds_toArray, set_cons_zero, set_cons_succ]); have tk1 := hidp trivial) | (clear tk1; (go_at_call 23; refine (new_no _ room gap hno).mono ?_; rintro e _ ⟨rfl, hb⟩; replace H := hidp (H.out.call hb); clear hb); (try simp only [Act.put, setIfInBounds_toArray, set_cons_zero, set_cons_succ]); have tk2 := hidp trivial) | (clear tk2; (go_at_call 24; refine (rnew_any _ room gap).mono ?_; rintro e _ ⟨rfl, hb⟩; replace H := hidp (H.out.call hb); rw [hno]; clear hb); (try simp only [Act.put, setIfInBounds_toArray, set_cons_zero, set_cons_succ]); have tk3 := hidp trivial) | (clear tk3; (refine Mm.new rtD H (some 9) rfl rfl rfl ?_; clear H; intro b9 _ H nw; have hb := nw.below; clear hb nw); (try simp only [Act.put, setIfInBounds_toArray, set_cons_zero, set_cons_succ]); have tk4 := hidp trivial) | (clear tk4; (refine Mm.put0 rtD H rfl (.tmp 9) (.tmp 34) (dR room gap (.slice none 0 0) 0 0) rfl rfl rfl rfl (dR_one rfl) rfl ?_; intro _ H2 st; clear st H; have H := H2; clear H2); (try simp only [Act.put, setIfInBounds_toArray, set_cons_zero, set_cons_succ]); have tk5 := hidp trivial))
    try clear tk5
    go_ret
    exact ⟨rfl, H.out.below⟩
  | true =>
    have hr : 1 ≤ room ∧ room ≤ 256 := by simp [newOk] at hno; omega
    obtain ⟨n, rfl⟩ : ∃ n : Nat, room = (n : Int) := ⟨room.toNat, by omega⟩
    have hn256 := hidp (show n ≤ 256 from by omega)
    obtain ⟨a, cv, hva⟩ := ha.form
    obtain ⟨m, hm⟩ : ∃ m, acs.length = m := ⟨_, rfl⟩
    have HM := hidp hm
    rw [hm] at hva
    subst hva
    clear ha hm hr
    by_cases hbig : 100 < m
    · have eb : decide ((100 : Int) < (m : Int)) = true := by simp; omega
      clear hbig
      go_enter Try.func5, Try.ntmps5
      have tk0 := hidp trivial
      go_wp2_with (first | (clear tk0; (go_at_call 22; refine (lives23_any _).mono ?_; rintro e _ ⟨rfl, hb⟩; replace H := hidp (H.out.call hb); clear hb); (try simp only [Act.put, setIfInBounds_toArray, set_cons_zero, set_cons_succ]); have tk1 := hidp trivial) | (clear tk1; (go_at_call 23; refine (new_ok _ n gap hno).mono ?_; rintro e _ ⟨b, c, rfl, hp, hb, hgb, hgc⟩; have HGB := hidp (Nat.le_trans H.out.below.size hgb); have HGC := hidp (Nat.le_trans H.out.below.size hgc); replace H := hidp (H.out.call hb); have HP := hidp hp; clear hp hb hgb hgc); (try simp only [Act.put, setIfInBounds_toArray, set_cons_zero, set_cons_succ]); have tk2 := hidp trivial) | (clear tk2; (go_at_call 24; refine (rnew_any _ n gap).mono ?_; rintro e _ ⟨rfl, hb⟩; replace H := hidp (H.out.call hb); rw [hno]; replace HP := hidp (HP.out.to hb); clear hb); (try simp only [Act.put, setIfInBounds_toArray, set_cons_zero, set_cons_succ]); have tk3 := hidp trivial) | (clear tk3; (refine Mm.new rtD H (some 9) rfl rfl rfl ?_; clear H; intro b9 _ H nw; have hb := nw.below; replace HP := hidp (HP.out.to hb); clear hb nw); (try simp only [Act.put, setIfInBounds_toArray, set_cons_zero, set_cons_succ]); have tk4 := hidp trivial) | (clear tk4; (refine Mm.put0 rtD H rfl (.tmp 9) (.tmp 34) (dR (n : Int) gap (.slice none 0 0) 0 0) rfl rfl rfl rfl (dR_one rfl) rfl ?_; intro _ H2 st; replace HP := hidp (PostAt.stp HP.out st H.out.at0 (by decide)); clear st H; have H := H2; clear H2); (try simp only [Act.put, setIfInBounds_toArray, set_cons_zero, set_cons_succ]); have tk5 := hidp trivial))
      try clear tk5
      go_ret
      exact ⟨rfl, H.out.below⟩
    · have eb : decide ((100 : Int) < (m : Int)) = false := by simp; omega
      have hm100 : m ≤ 100 := by omega
      clear hbig
      go_enter Try.func5, Try.ntmps5
      have tk0 := hidp trivial
      go_wp2_with (first | (clear tk0; (go_at_call 22; refine (lives23_any _).mono ?_; rintro e _ ⟨rfl, hb⟩; replace H := hidp (H.out.call hb); clear hb); (try simp only [Act.put, setIfInBounds_toArray, set_cons_zero, set_cons_succ]); have tk1 := hidp trivial) | (clear tk1; (go_at_call 23; refine (new_ok _ n gap hno).mono ?_; rintro e _ ⟨b, c, rfl, hp, hb, hgb, hgc⟩; have HGB := hidp (Nat.le_trans H.out.below.size hgb); have HGC := hidp (Nat.le_trans H.out.below.size hgc); replace H := hidp (H.out.call hb); have HP := hidp hp; clear hp hb hgb hgc); (try simp only [Act.put, setIfInBounds_toArray, set_cons_zero, set_cons_succ]); have tk2 := hidp trivial) | (clear tk2; (go_at_call 24; refine (rnew_any _ n gap).mono ?_; rintro e _ ⟨rfl, hb⟩; replace H := hidp (H.out.call hb); rw [hno]; replace HP := hidp (HP.out.to hb); clear hb); (try simp only [Act.put, setIfInBounds_toArray, set_cons_zero, set_cons_succ]); have tk3 := hidp trivial) | (clear tk3; (refine Mm.new rtD H (some 9) rfl rfl rfl ?_; clear H; intro b9 _ H nw; have hb := nw.below; replace HP := hidp (HP.out.to hb); clear hb nw); (try simp only [Act.put, setIfInBounds_toArray, set_cons_zero, set_cons_succ]); have tk4 := hidp trivial) | (clear tk4; (refine Mm.put0 rtD H rfl (.tmp 9) (.tmp 34) (dR (n : Int) gap (.slice none 0 0) 0 0) rfl rfl rfl rfl (dR_one rfl) rfl ?_; intro _ H2 st; replace HP := hidp (PostAt.stp HP.out st H.out.at0 (by decide)); clear st H; have H := H2; clear H2); (try simp only [Act.put, setIfInBounds_toArray, set_cons_zero, set_cons_succ]); have tk5 := hidp trivial))
      try clear tk5
      go_loopw [63] (fun t63 wr => ∃ (i : Nat) (v : Value) (L : List Lt) (last lost : Int), t63 = .int .i64 (i : Int) ∧ i ≤ m ∧ PostAt wr b c n L gap last lost ∧ Ts 92 4 wr v (ones L) ∧ Mm.M w.heap.size w wr [⟨b9, 54, (dR (n : Int) gap v last lost)⟩] ∧ Inv L n i last lost) (fun t63 _ => m - (intOf t63).toNat)
      case atStart => exact ⟨0, _, [], 0, 0, rfl, Nat.zero_le _, HP.out, ⟨AllK.nil, .inl ⟨rfl, rfl⟩⟩, H.out, ⟨Nat.zero_le _, fun x h => (by cases h), fun x h => (by cases h), ⟨by decide, by decide⟩, ⟨by decide, by decide⟩⟩⟩
      case round =>
        obtain ⟨i, v, L, last, lost, rfl, hi, hp, ht, hm, hinv⟩ := hrel
        clear H HP
        have HP := hidp hp; have HT := hidp ht; have H := hidp hm; have HINV := hidp hinv
        clear hp ht hm
        by_cases hlt : i < m
        · have e1 : decide ((i : Int) < (m : Int)) = true := by simp; omega
          obtain ⟨BK, off, cc, e2, hBK, hR0⟩ := HA.out.get (by rw [HM.out]; omega)
          rw [HM.out] at e2
          simp only [Value.slice.injEq] at e2
          obtain ⟨rfl, -, rfl⟩ := e2
          have hgl : i < acs.length := by rw [HM.out]; exact hlt
          have hr1 := hR0 i hgl
          have htx : (acs[i]).t.size ≤ 140737488351232 := HA.out.2 _ (List.getElem_mem hgl)
          obtain ⟨⟨kd, ni, tx, at_⟩, hge⟩ : ∃ x, acs[i] = x := ⟨_, rfl⟩
          rw [hge] at hr1 htx
          have HRA := hidp (show w.rangeAt BK (off + 4 * i) [.int .i64 kd, .int .i64 ni, .string tx, .int .i64 at_] from hr1)
          have HBK := hidp hBK
          have HCAP := hidp hinv.cap
          have HLB := hidp (show L.length ≤ 1048575 from by have := hinv.cap; have := hn256.out; omega)
          have HLB2 := hidp (show L.length ≤ 1048576 from by have := hinv.cap; have := hn256.out; omega)
          have HSZ := hidp hinv.sz; have HAT := hidp hinv.at_
          have hla : 0 ≤ last ∧ last ≤ 1048576 := by have := hinv.la; omega
          have hlo : 0 ≤ lost ∧ lost ≤ 1048576 := by have := hinv.lo; omega
          have hone := HT.out.one
          clear hR0 hr1 hge hgl hinv hBK
          by_cases k0 : kd = 0
          · have q0 : (kd == 0) = true := by rw [k0]; rfl
            clear k0
            cases hpk : putOk ni with
            | false =>
              have tk0 := hidp trivial
              go_upto_region 33 with (first | (clear tk0; (refine wpL_idxR tyA rfl (.tmp 61) (.tmp 63) rfl BK off m _ i rfl rfl hlt ?_); (try simp only [Act.put, setIfInBounds_toArray, set_cons_zero, set_cons_succ]); have tk1 := hidp trivial) | (clear tk1; (refine wpL_atR tyA rfl (.tmp 65) rfl BK (off + 4 * i) [.int .i64 kd, .int .i64 ni, .string tx, .int .i64 at_] rfl rfl (rangeAt_below HRA.out H.out.below HBK.out) ?_); (try simp only [Act.put, setIfInBounds_toArray, set_cons_zero, set_cons_succ]); have tk2 := hidp trivial) | (clear tk2; (refine Mm.new rtA H (some 12) rfl rfl rfl ?_; clear H; intro b12 _ H nw; have hb := nw.below; replace HP := hidp (HP.out.to hb); replace HT := hidp (HT.out.to hb); clear hb nw); (try simp only [Act.put, setIfInBounds_toArray, set_cons_zero, set_cons_succ]); have tk3 := hidp trivial) | (clear tk3; (refine Mm.put0 rtA H rfl (.tmp 12) (.tmp 66) [.int .i64 kd, .int .i64 ni, .string tx, .int .i64 at_] rfl rfl rfl rfl (by simp [Value.oneCell']) rfl ?_; intro _ H2 st; replace HP := hidp (PostAt.stp HP.out st H.out.at0 (by decide)); replace HT := hidp (HT.out.stp st H.out.at0 (by decide)); clear st H; have H := H2; clear H2); (try simp only [Act.put, setIfInBounds_toArray, set_cons_zero, set_cons_succ]); have tk4 := hidp trivial) | (clear tk4; (refine Mm.ld0 naI H rfl (.tmp 67) 0 (.int .i64 kd) rfl rfl rfl ?_); (try simp only [Act.put, setIfInBounds_toArray, set_cons_zero, set_cons_succ]); have tk5 := hidp trivial) | (clear tk5; (refine Mm.get1 rtD H rfl (.tmp 9) rfl rfl rfl ?_); (try simp only [Act.put, setIfInBounds_toArray, set_cons_zero, set_cons_succ]); have tk6 := hidp trivial) | (clear tk6; (refine Mm.ld0 naI H rfl (.tmp 73) 1 (.int .i64 ni) rfl rfl rfl ?_); (try simp only [Act.put, setIfInBounds_toArray, set_cons_zero, set_cons_succ]); have tk7 := hidp trivial) | (clear tk7; (refine Mm.ld0 naS H rfl (.tmp 75) 2 (.string tx) rfl rfl rfl ?_); (try simp only [Act.put, setIfInBounds_toArray, set_cons_zero, set_cons_succ]); have tk8 := hidp trivial) | (clear tk8; (go_at_call 25; refine (rput_no _ n gap v last lost hone ni tx hpk).mono ?_; rintro e _ ⟨rfl, hb⟩; replace H := hidp (H.out.call hb); replace HP := hidp (HP.out.to hb); replace HT := hidp (HT.out.to hb); clear hb); (try simp only [Act.put, setIfInBounds_toArray, set_cons_zero, set_cons_succ]); have tk9 := hidp trivial) | (clear tk9; (refine Mm.new rtD H (some 13) rfl rfl rfl ?_; clear H; intro b13 _ H nw; have hb := nw.below; replace HP := hidp (HP.out.to hb); replace HT := hidp (HT.out.to hb); clear hb nw); (try simp only [Act.put, setIfInBounds_toArray, set_cons_zero, set_cons_succ]); have tk10 := hidp trivial) | (clear tk10; (refine Mm.put0 rtD H rfl (.tmp 13) (.tmp 78) (dR (n : Int) gap v last lost) rfl rfl rfl rfl (dR_one hone) rfl ?_; intro _ H2 st; replace HP := hidp (PostAt.stp HP.out st H.out.at0 (by decide)); replace HT := hidp (HT.out.stp st H.out.at0 (by decide)); clear st H; have H := H2; clear H2); (try simp only [Act.put, setIfInBounds_toArray, set_cons_zero, set_cons_succ]); have tk11 := hidp trivial) | (clear tk11; (refine Mm.ld1 naI H rfl (.tmp 83) 1 (.int .i64 ni) rfl rfl rfl ?_); (try simp only [Act.put, setIfInBounds_toArray, set_cons_zero, set_cons_succ]); have tk12 := hidp trivial) | (clear tk12; (refine Mm.ld1 naS H rfl (.tmp 85) 2 (.string tx) rfl rfl rfl ?_); (try simp only [Act.put, setIfInBounds_toArray, set_cons_zero, set_cons_succ]); have tk13 := hidp trivial) | (clear tk13; (go_at_call 26; refine (put_no _ b ni tx hpk).mono ?_; rintro e _ ⟨rfl, hb⟩; replace H := hidp (H.out.call hb); replace HP := hidp (HP.out.to hb); replace HT := hidp (HT.out.to hb); clear hb); (try simp only [Act.put, setIfInBounds_toArray, set_cons_zero, set_cons_succ]); have tk14 := hidp trivial) | (clear tk14; (refine Mm.get0 rtD H rfl (.tmp 13) rfl rfl rfl ?_); (try simp only [Act.put, setIfInBounds_toArray, set_cons_zero, set_cons_succ]); have tk15 := hidp trivial) | (clear tk15; (refine Mm.put2 rtD H rfl (.tmp 9) (.tmp 98) (dR (n : Int) gap v last lost) rfl rfl rfl rfl (dR_one hone) rfl ?_; intro _ H2 st; replace HP := hidp (PostAt.stp HP.out st H.out.at2 (by decide)); replace HT := hidp (HT.out.stp st H.out.at2 (by decide)); clear st H; have H := H2; clear H2); (try simp only [Act.put, setIfInBounds_toArray, set_cons_zero, set_cons_succ]); have tk16 := hidp trivial))
              try clear tk16
              refine regionQ (S := fun W => Arr W b9 54 (dR (n : Int) gap v last lost)) (.take 0 (.take 2 (.one 1 (.one 3 (.one 4 (.take 5 (.take 6 (.take 7 (.take 9 (.take 10 (.one 8 (.take 11 (.take 12 .done))))))))))))) (by kernel_rfl) (by kernel_rfl) (by simp [Scr.depth]) (by kernel_rfl) H.out.drew.at2 ?_
              replace H := hidp H.out.drew
              replace HP := hidp (HP.out.to (Below.refl _ _).drew)
              replace HT := hidp (HT.out.to (Below.refl _ _).drew)
              apply s_val
              case ho | hw => rfl
              case hv => intro w hw; go_simp; first | done | rfl
              simp only [Act.put, getElem_toArray, getElem_cons_zero, getElem_cons_succ, setIfInBounds_toArray, set_cons_zero, set_cons_succ]
              refine Rt.s_get rtD rfl rfl (.tmp 9) rfl b9 (dR (n : Int) gap v last lost) rfl rfl (fun W h => h) ?_
              simp only [Act.put, getElem_toArray, getElem_cons_zero, getElem_cons_succ, setIfInBounds_toArray, set_cons_zero, set_cons_succ]
              refine o_callG rfl rfl 33 #[(.pointer (some ⟨b, 0, none⟩))] (by go_simp; first | done | rfl) (all_any _ b c n L gap last lost HP.out HCAP.out HLB.out HSZ.out) ?_
              rintro e W1 ⟨ta, rfl, ho, hp, hk⟩
              have HV1 := hidp ho.rs
              replace HT := hidp (HT.out.pk HP.out hk)
              replace H := hidp (M_pk H.out hk HP.out HGB.out HGC.out (by intro x hx; simp at hx; rcases hx with rfl | rfl | rfl <;> first | exact (show 58 ≠ 90 from by decide) | exact (show 54 ≠ 90 from by decide) ))
              clear HP
              have HP := hidp hp
              clear ho hp hk
              refine ⟨ta, rfl, H.out.at2, ?_⟩
              simp only [Act.put, getElem_toArray, getElem_cons_zero, getElem_cons_succ, setIfInBounds_toArray, set_cons_zero, set_cons_succ]
              refine o_callG rfl rfl 34 #[.agg (dR (n : Int) gap v last lost).toArray] (by go_simp; first | done | rfl) (rall_any _ n gap v L HT.out.rs HLB.out last lost) ?_
              rintro e W2 ⟨tb, rfl, ho, hb⟩
              have HV2 := hidp ho.rs
              replace HV1 := hidp (HV1.out.to hb)
              replace H := hidp (H.out.call hb); replace HP := hidp (HP.out.to hb); replace HT := hidp (HT.out.to hb)
              clear ho hb
              refine ⟨tb, rfl, H.out.at2, ?_⟩
              simp only [Act.put, getElem_toArray, getElem_cons_zero, getElem_cons_succ, setIfInBounds_toArray, set_cons_zero, set_cons_succ]
              refine o_callG rfl rfl 28 #[ta, tb] (by go_simp; first | done | rfl) (rsame_any _ ta tb L HV1.out HV2.out HLB.out) ?_
              rintro e W3 ⟨rfl, hb⟩
              replace H := hidp (H.out.call hb); replace HP := hidp (HP.out.to hb); replace HT := hidp (HT.out.to hb)
              clear hb
              refine ⟨.bool true, rfl, H.out.at2, ?_⟩
              simp only [Act.put, getElem_toArray, getElem_cons_zero, getElem_cons_succ, setIfInBounds_toArray, set_cons_zero, set_cons_succ]
              apply s_val
              case ho | hw => rfl
              case hv => intro w hw; go_simp; first | done | rfl
              simp only [Act.put, getElem_toArray, getElem_cons_zero, getElem_cons_succ, setIfInBounds_toArray, set_cons_zero, set_cons_succ]
              apply s_val
              case ho | hw => rfl
              case hv => intro w hw; go_simp; first | done | rfl
              simp only [Act.put, getElem_toArray, getElem_cons_zero, getElem_cons_succ, setIfInBounds_toArray, set_cons_zero, set_cons_succ]
              apply s_val
              case ho | hw => rfl
              case hv => intro w hw; go_simp; first | done | rfl
              simp only [Act.put, getElem_toArray, getElem_cons_zero, getElem_cons_succ, setIfInBounds_toArray, set_cons_zero, set_cons_succ]
              apply s_val
              case ho | hw => rfl
              case hv => intro w hw; go_simp; first | done | rfl
              simp only [Act.put, getElem_toArray, getElem_cons_zero, getElem_cons_succ, setIfInBounds_toArray, set_cons_zero, set_cons_succ]
              refine Mm.s_ldc naI rfl rfl (.tmp 150) ⟨b9, 4, none⟩ (.int .i64 (lost)) rfl rfl (fun W h => h.cell 4 (by simp [dR])) ?_
              simp only [Act.put, getElem_toArray, getElem_cons_zero, getElem_cons_succ, setIfInBounds_toArray, set_cons_zero, set_cons_succ]
              refine o_callG rfl rfl 35 #[(.pointer (some ⟨b, 0, none⟩))] (by go_simp; first | done | rfl) (lost_any _ b c n L gap last lost HP.out) ?_
              rintro e W4 ⟨rfl, hb⟩
              replace H := hidp (H.out.call hb); replace HP := hidp (HP.out.to hb); replace HT := hidp (HT.out.to hb)
              clear hb
              refine ⟨.int .i64 (lost), rfl, H.out.at2, ?_⟩
              simp only [Act.put, getElem_toArray, getElem_cons_zero, getElem_cons_succ, setIfInBounds_toArray, set_cons_zero, set_cons_succ]
              apply s_val
              case ho | hw => rfl
              case hv => intro w hw; have hne := bne_refl (lost); go_simp; first | done | rfl
              simp only [Act.put, getElem_toArray, getElem_cons_zero, getElem_cons_succ, setIfInBounds_toArray, set_cons_zero, set_cons_succ]
              apply s_val
              case ho | hw => rfl
              case hv => intro w hw; go_simp; first | done | rfl
              simp only [Act.put, getElem_toArray, getElem_cons_zero, getElem_cons_succ, setIfInBounds_toArray, set_cons_zero, set_cons_succ]
              refine NoPanic.normal ?_
              go_wp2_with fail
              exact ⟨⟨i + 1, v, L, last, lost, by go_num, by omega, HP.out, HT.out, H.out.tail.tail, HINV.out.up⟩, by simp [intOf]; omega⟩
            | true =>
              by_cases hfe : (L.length : Int) = (n : Int)
              · have hfl : n ≤ L.length := by omega
                have tk0 := hidp trivial
                go_upto_region 33 with (first | (clear tk0; (refine wpL_idxR tyA rfl (.tmp 61) (.tmp 63) rfl BK off m _ i rfl rfl hlt ?_); (try simp only [Act.put, setIfInBounds_toArray, set_cons_zero, set_cons_succ]); have tk1 := hidp trivial) | (clear tk1; (refine wpL_atR tyA rfl (.tmp 65) rfl BK (off + 4 * i) [.int .i64 kd, .int .i64 ni, .string tx, .int .i64 at_] rfl rfl (rangeAt_below HRA.out H.out.below HBK.out) ?_); (try simp only [Act.put, setIfInBounds_toArray, set_cons_zero, set_cons_succ]); have tk2 := hidp trivial) | (clear tk2; (refine Mm.new rtA H (some 12) rfl rfl rfl ?_; clear H; intro b12 _ H nw; have hb := nw.below; replace HP := hidp (HP.out.to hb); replace HT := hidp (HT.out.to hb); clear hb nw); (try simp only [Act.put, setIfInBounds_toArray, set_cons_zero, set_cons_succ]); have tk3 := hidp trivial) | (clear tk3; (refine Mm.put0 rtA H rfl (.tmp 12) (.tmp 66) [.int .i64 kd, .int .i64 ni, .string tx, .int .i64 at_] rfl rfl rfl rfl (by simp [Value.oneCell']) rfl ?_; intro _ H2 st; replace HP := hidp (PostAt.stp HP.out st H.out.at0 (by decide)); replace HT := hidp (HT.out.stp st H.out.at0 (by decide)); clear st H; have H := H2; clear H2); (try simp only [Act.put, setIfInBounds_toArray, set_cons_zero, set_cons_succ]); have tk4 := hidp trivial) | (clear tk4; (refine Mm.ld0 naI H rfl (.tmp 67) 0 (.int .i64 kd) rfl rfl rfl ?_); (try simp only [Act.put, setIfInBounds_toArray, set_cons_zero, set_cons_succ]); have tk5 := hidp trivial) | (clear tk5; (refine Mm.get1 rtD H rfl (.tmp 9) rfl rfl rfl ?_); (try simp only [Act.put, setIfInBounds_toArray, set_cons_zero, set_cons_succ]); have tk6 := hidp trivial) | (clear tk6; (refine Mm.ld0 naI H rfl (.tmp 73) 1 (.int .i64 ni) rfl rfl rfl ?_); (try simp only [Act.put, setIfInBounds_toArray, set_cons_zero, set_cons_succ]); have tk7 := hidp trivial) | (clear tk7; (refine Mm.ld0 naS H rfl (.tmp 75) 2 (.string tx) rfl rfl rfl ?_); (try simp only [Act.put, setIfInBounds_toArray, set_cons_zero, set_cons_succ]); have tk8 := hidp trivial) | (clear tk8; (go_at_call 25; refine (rput_full _ n gap v L HT.out.rs last lost hlo hfe ni tx hpk).mono ?_; rintro e _ ⟨rfl, hb⟩; replace H := hidp (H.out.call hb); replace HP := hidp (HP.out.to hb); replace HT := hidp (HT.out.to hb); clear hb); (try simp only [Act.put, setIfInBounds_toArray, set_cons_zero, set_cons_succ]); have tk9 := hidp trivial) | (clear tk9; (refine Mm.new rtD H (some 13) rfl rfl rfl ?_; clear H; intro b13 _ H nw; have hb := nw.below; replace HP := hidp (HP.out.to hb); replace HT := hidp (HT.out.to hb); clear hb nw); (try simp only [Act.put, setIfInBounds_toArray, set_cons_zero, set_cons_succ]); have tk10 := hidp trivial) | (clear tk10; (refine Mm.put0 rtD H rfl (.tmp 13) (.tmp 78) (dR (n : Int) gap v last (lost + 1)) rfl rfl rfl rfl (dR_one hone) rfl ?_; intro _ H2 st; replace HP := hidp (PostAt.stp HP.out st H.out.at0 (by decide)); replace HT := hidp (HT.out.stp st H.out.at0 (by decide)); clear st H; have H := H2; clear H2); (try simp only [Act.put, setIfInBounds_toArray, set_cons_zero, set_cons_succ]); have tk11 := hidp trivial) | (clear tk11; (refine Mm.ld1 naI H rfl (.tmp 83) 1 (.int .i64 ni) rfl rfl rfl ?_); (try simp only [Act.put, setIfInBounds_toArray, set_cons_zero, set_cons_succ]); have tk12 := hidp trivial) | (clear tk12; (refine Mm.ld1 naS H rfl (.tmp 85) 2 (.string tx) rfl rfl rfl ?_); (try simp only [Act.put, setIfInBounds_toArray, set_cons_zero, set_cons_succ]); have tk13 := hidp trivial) | (clear tk13; (go_at_call 26; refine (put_fullP _ b c n L gap last lost HP.out hfl hla hlo ni tx htx hpk).mono ?_; rintro e W9 ⟨rfl, hp, hk⟩; replace HT := hidp (HT.out.pk HP.out hk); replace H := hidp (M_pk H.out hk HP.out HGB.out HGC.out (by intro x hx; simp at hx; rcases hx with rfl | rfl | rfl <;> first | exact (show 58 ≠ 90 from by decide) | exact (show 54 ≠ 90 from by decide) )); clear HP; have HP := hidp (show PostAt W9 b c n L gap last (lost + 1) from hp); clear hp hk); (try simp only [Act.put, setIfInBounds_toArray, set_cons_zero, set_cons_succ]); have tk14 := hidp trivial) | (clear tk14; (refine Mm.get0 rtD H rfl (.tmp 13) rfl rfl rfl ?_); (try simp only [Act.put, setIfInBounds_toArray, set_cons_zero, set_cons_succ]); have tk15 := hidp trivial) | (clear tk15; (refine Mm.put2 rtD H rfl (.tmp 9) (.tmp 98) (dR (n : Int) gap v last (lost + 1)) rfl rfl rfl rfl (dR_one hone) rfl ?_; intro _ H2 st; replace HP := hidp (PostAt.stp HP.out st H.out.at2 (by decide)); replace HT := hidp (HT.out.stp st H.out.at2 (by decide)); clear st H; have H := H2; clear H2); (try simp only [Act.put, setIfInBounds_toArray, set_cons_zero, set_cons_succ]); have tk16 := hidp trivial))
                try clear tk16
                refine regionQ (S := fun W => Arr W b9 54 (dR (n : Int) gap v last (lost + 1))) (.take 0 (.take 2 (.one 1 (.one 3 (.one 4 (.take 5 (.take 6 (.take 7 (.take 9 (.take 10 (.one 8 (.take 11 (.take 12 .done))))))))))))) (by kernel_rfl) (by kernel_rfl) (by simp [Scr.depth]) (by kernel_rfl) H.out.drew.at2 ?_
                replace H := hidp H.out.drew
                replace HP := hidp (HP.out.to (Below.refl _ _).drew)
                replace HT := hidp (HT.out.to (Below.refl _ _).drew)
                apply s_val
                case ho | hw => rfl
                case hv => intro w hw; go_simp; first | done | rfl
                simp only [Act.put, getElem_toArray, getElem_cons_zero, getElem_cons_succ, setIfInBounds_toArray, set_cons_zero, set_cons_succ]
                refine Rt.s_get rtD rfl rfl (.tmp 9) rfl b9 (dR (n : Int) gap v last (lost + 1)) rfl rfl (fun W h => h) ?_
                simp only [Act.put, getElem_toArray, getElem_cons_zero, getElem_cons_succ, setIfInBounds_toArray, set_cons_zero, set_cons_succ]
                refine o_callG rfl rfl 33 #[(.pointer (some ⟨b, 0, none⟩))] (by go_simp; first | done | rfl) (all_any _ b c n L gap last (lost + 1) HP.out HCAP.out HLB.out HSZ.out) ?_
                rintro e W1 ⟨ta, rfl, ho, hp, hk⟩
                have HV1 := hidp ho.rs
                replace HT := hidp (HT.out.pk HP.out hk)
                replace H := hidp (M_pk H.out hk HP.out HGB.out HGC.out (by intro x hx; simp at hx; rcases hx with rfl | rfl | rfl <;> first | exact (show 58 ≠ 90 from by decide) | exact (show 54 ≠ 90 from by decide) ))
                clear HP
                have HP := hidp hp
                clear ho hp hk
                refine ⟨ta, rfl, H.out.at2, ?_⟩
                simp only [Act.put, getElem_toArray, getElem_cons_zero, getElem_cons_succ, setIfInBounds_toArray, set_cons_zero, set_cons_succ]
                refine o_callG rfl rfl 34 #[.agg (dR (n : Int) gap v last (lost + 1)).toArray] (by go_simp; first | done | rfl) (rall_any _ n gap v L HT.out.rs HLB.out last (lost + 1)) ?_
                rintro e W2 ⟨tb, rfl, ho, hb⟩
                have HV2 := hidp ho.rs
                replace HV1 := hidp (HV1.out.to hb)
                replace H := hidp (H.out.call hb); replace HP := hidp (HP.out.to hb); replace HT := hidp (HT.out.to hb)
                clear ho hb
                refine ⟨tb, rfl, H.out.at2, ?_⟩
                simp only [Act.put, getElem_toArray, getElem_cons_zero, getElem_cons_succ, setIfInBounds_toArray, set_cons_zero, set_cons_succ]
                refine o_callG rfl rfl 28 #[ta, tb] (by go_simp; first | done | rfl) (rsame_any _ ta tb L HV1.out HV2.out HLB.out) ?_
                rintro e W3 ⟨rfl, hb⟩
                replace H := hidp (H.out.call hb); replace HP := hidp (HP.out.to hb); replace HT := hidp (HT.out.to hb)
                clear hb
                refine ⟨.bool true, rfl, H.out.at2, ?_⟩
                simp only [Act.put, getElem_toArray, getElem_cons_zero, getElem_cons_succ, setIfInBounds_toArray, set_cons_zero, set_cons_succ]
                apply s_val
                case ho | hw => rfl
                case hv => intro w hw; go_simp; first | done | rfl
                simp only [Act.put, getElem_toArray, getElem_cons_zero, getElem_cons_succ, setIfInBounds_toArray, set_cons_zero, set_cons_succ]
                apply s_val
                case ho | hw => rfl
                case hv => intro w hw; go_simp; first | done | rfl
                simp only [Act.put, getElem_toArray, getElem_cons_zero, getElem_cons_succ, setIfInBounds_toArray, set_cons_zero, set_cons_succ]
                apply s_val
                case ho | hw => rfl
                case hv => intro w hw; go_simp; first | done | rfl
                simp only [Act.put, getElem_toArray, getElem_cons_zero, getElem_cons_succ, setIfInBounds_toArray, set_cons_zero, set_cons_succ]
                apply s_val
                case ho | hw => rfl
                case hv => intro w hw; go_simp; first | done | rfl
                simp only [Act.put, getElem_toArray, getElem_cons_zero, getElem_cons_succ, setIfInBounds_toArray, set_cons_zero, set_cons_succ]
                refine Mm.s_ldc naI rfl rfl (.tmp 150) ⟨b9, 4, none⟩ (.int .i64 ((lost + 1))) rfl rfl (fun W h => h.cell 4 (by simp [dR])) ?_
                simp only [Act.put, getElem_toArray, getElem_cons_zero, getElem_cons_succ, setIfInBounds_toArray, set_cons_zero, set_cons_succ]
                refine o_callG rfl rfl 35 #[(.pointer (some ⟨b, 0, none⟩))] (by go_simp; first | done | rfl) (lost_any _ b c n L gap last (lost + 1) HP.out) ?_
                rintro e W4 ⟨rfl, hb⟩
                replace H := hidp (H.out.call hb); replace HP := hidp (HP.out.to hb); replace HT := hidp (HT.out.to hb)
                clear hb
                refine ⟨.int .i64 ((lost + 1)), rfl, H.out.at2, ?_⟩
                simp only [Act.put, getElem_toArray, getElem_cons_zero, getElem_cons_succ, setIfInBounds_toArray, set_cons_zero, set_cons_succ]
                apply s_val
                case ho | hw => rfl
                case hv => intro w hw; have hne := bne_refl ((lost + 1)); go_simp; first | done | rfl
                simp only [Act.put, getElem_toArray, getElem_cons_zero, getElem_cons_succ, setIfInBounds_toArray, set_cons_zero, set_cons_succ]
                apply s_val
                case ho | hw => rfl
                case hv => intro w hw; go_simp; first | done | rfl
                simp only [Act.put, getElem_toArray, getElem_cons_zero, getElem_cons_succ, setIfInBounds_toArray, set_cons_zero, set_cons_succ]
                refine NoPanic.normal ?_
                go_wp2_with fail
                exact ⟨⟨i + 1, v, L, last, (lost + 1), by go_num, by omega, HP.out, HT.out, H.out.tail.tail, HINV.out.lostUp⟩, by simp [intOf]; omega⟩
              · have hfn : (L.length : Int) ≠ (n : Int) := hfe
                have hfl : L.length < n := by have := HCAP.out; omega
                have tk0 := hidp trivial
                go_upto_region 33 with (first | (clear tk0; (refine wpL_idxR tyA rfl (.tmp 61) (.tmp 63) rfl BK off m _ i rfl rfl hlt ?_); (try simp only [Act.put, setIfInBounds_toArray, set_cons_zero, set_cons_succ]); have tk1 := hidp trivial) | (clear tk1; (refine wpL_atR tyA rfl (.tmp 65) rfl BK (off + 4 * i) [.int .i64 kd, .int .i64 ni, .string tx, .int .i64 at_] rfl rfl (rangeAt_below HRA.out H.out.below HBK.out) ?_); (try simp only [Act.put, setIfInBounds_toArray, set_cons_zero, set_cons_succ]); have tk2 := hidp trivial) | (clear tk2; (refine Mm.new rtA H (some 12) rfl rfl rfl ?_; clear H; intro b12 _ H nw; have hb := nw.below; replace HP := hidp (HP.out.to hb); replace HT := hidp (HT.out.to hb); clear hb nw); (try simp only [Act.put, setIfInBounds_toArray, set_cons_zero, set_cons_succ]); have tk3 := hidp trivial) | (clear tk3; (refine Mm.put0 rtA H rfl (.tmp 12) (.tmp 66) [.int .i64 kd, .int .i64 ni, .string tx, .int .i64 at_] rfl rfl rfl rfl (by simp [Value.oneCell']) rfl ?_; intro _ H2 st; replace HP := hidp (PostAt.stp HP.out st H.out.at0 (by decide)); replace HT := hidp (HT.out.stp st H.out.at0 (by decide)); clear st H; have H := H2; clear H2); (try simp only [Act.put, setIfInBounds_toArray, set_cons_zero, set_cons_succ]); have tk4 := hidp trivial) | (clear tk4; (refine Mm.ld0 naI H rfl (.tmp 67) 0 (.int .i64 kd) rfl rfl rfl ?_); (try simp only [Act.put, setIfInBounds_toArray, set_cons_zero, set_cons_succ]); have tk5 := hidp trivial) | (clear tk5; (refine Mm.get1 rtD H rfl (.tmp 9) rfl rfl rfl ?_); (try simp only [Act.put, setIfInBounds_toArray, set_cons_zero, set_cons_succ]); have tk6 := hidp trivial) | (clear tk6; (refine Mm.ld0 naI H rfl (.tmp 73) 1 (.int .i64 ni) rfl rfl rfl ?_); (try simp only [Act.put, setIfInBounds_toArray, set_cons_zero, set_cons_succ]); have tk7 := hidp trivial) | (clear tk7; (refine Mm.ld0 naS H rfl (.tmp 75) 2 (.string tx) rfl rfl rfl ?_); (try simp only [Act.put, setIfInBounds_toArray, set_cons_zero, set_cons_succ]); have tk8 := hidp trivial) | (clear tk8; (go_at_call 25; refine (rput_room _ n gap v L HT.out.rs last lost hla hfn HLB.out ni tx hpk).mono ?_; rintro e _ ⟨v2, rfl, ho, hb⟩; replace H := hidp (H.out.call hb); replace HP := hidp (HP.out.to hb); replace HT := hidp (HT.out.to hb); have HT2 := hidp (Ts.own ho); clear ho hb); (try simp only [Act.put, setIfInBounds_toArray, set_cons_zero, set_cons_succ]); have tk9 := hidp trivial) | (clear tk9; (refine Mm.new rtD H (some 13) rfl rfl rfl ?_; clear H; intro b13 _ H nw; have hb := nw.below; replace HP := hidp (HP.out.to hb); replace HT := hidp (HT.out.to hb); replace HT2 := hidp (HT2.out.to hb); clear hb nw); (try simp only [Act.put, setIfInBounds_toArray, set_cons_zero, set_cons_succ]); have tk10 := hidp trivial) | (clear tk10; (refine Mm.put0 rtD H rfl (.tmp 13) (.tmp 78) (dR (n : Int) gap v2 (last + 1) lost) rfl rfl rfl rfl (dR_one HT2.out.one) rfl ?_; intro _ H2 st; replace HP := hidp (PostAt.stp HP.out st H.out.at0 (by decide)); replace HT := hidp (HT.out.stp st H.out.at0 (by decide)); replace HT2 := hidp (HT2.out.stp st H.out.at0 (by decide)); clear st H; have H := H2; clear H2); (try simp only [Act.put, setIfInBounds_toArray, set_cons_zero, set_cons_succ]); have tk11 := hidp trivial) | (clear tk11; (refine Mm.ld1 naI H rfl (.tmp 83) 1 (.int .i64 ni) rfl rfl rfl ?_); (try simp only [Act.put, setIfInBounds_toArray, set_cons_zero, set_cons_succ]); have tk12 := hidp trivial) | (clear tk12; (refine Mm.ld1 naS H rfl (.tmp 85) 2 (.string tx) rfl rfl rfl ?_); (try simp only [Act.put, setIfInBounds_toArray, set_cons_zero, set_cons_succ]); have tk13 := hidp trivial) | (clear tk13; (go_at_call 26; refine (put_roomP _ b c n L gap last lost HP.out hfl hla ni tx htx hpk).mono ?_; rintro e W9 ⟨rfl, hp, hk⟩; replace HT := hidp (HT.out.pk HP.out hk); replace HT2 := hidp (HT2.out.pk HP.out hk); replace H := hidp (M_pk H.out hk HP.out HGB.out HGC.out (by intro x hx; simp at hx; rcases hx with rfl | rfl | rfl <;> first | exact (show 58 ≠ 90 from by decide) | exact (show 54 ≠ 90 from by decide) )); clear HP; have HP := hidp (show PostAt W9 b c n (L ++ [⟨last + 1, ni, tx, false, 0⟩]) gap (last + 1) lost from hp); clear hp hk); (try simp only [Act.put, setIfInBounds_toArray, set_cons_zero, set_cons_succ]); have tk14 := hidp trivial) | (clear tk14; (refine Mm.get0 rtD H rfl (.tmp 13) rfl rfl rfl ?_); (try simp only [Act.put, setIfInBounds_toArray, set_cons_zero, set_cons_succ]); have tk15 := hidp trivial) | (clear tk15; (refine Mm.put2 rtD H rfl (.tmp 9) (.tmp 98) (dR (n : Int) gap v2 (last + 1) lost) rfl rfl rfl rfl (dR_one HT2.out.one) rfl ?_; intro _ H2 st; replace HP := hidp (PostAt.stp HP.out st H.out.at2 (by decide)); replace HT := hidp (HT.out.stp st H.out.at2 (by decide)); replace HT2 := hidp (HT2.out.stp st H.out.at2 (by decide)); clear st H; have H := H2; clear H2); (try simp only [Act.put, setIfInBounds_toArray, set_cons_zero, set_cons_succ]); have tk16 := hidp trivial))
                try clear tk16
                clear HT
                have HT := HT2
                clear HT2
                have HCAP := hidp (show (L ++ [(⟨last + 1, ni, tx, false, 0⟩ : Lt)]).length ≤ n from by rw [List.length_append]; exact hfl)
                have HLB := hidp (show (L ++ [(⟨last + 1, ni, tx, false, 0⟩ : Lt)]).length ≤ 1048575 from by have := HCAP.out; have := hn256.out; omega)
                have HSZ := hidp (HINV.out.putUp HCAP.out htx).sz
                refine regionQ (S := fun W => Arr W b9 54 (dR (n : Int) gap v2 (last + 1) lost)) (.take 0 (.take 2 (.one 1 (.one 3 (.one 4 (.take 5 (.take 6 (.take 7 (.take 9 (.take 10 (.one 8 (.take 11 (.take 12 .done))))))))))))) (by kernel_rfl) (by kernel_rfl) (by simp [Scr.depth]) (by kernel_rfl) H.out.drew.at2 ?_
                replace H := hidp H.out.drew
                replace HP := hidp (HP.out.to (Below.refl _ _).drew)
                replace HT := hidp (HT.out.to (Below.refl _ _).drew)
                apply s_val
                case ho | hw => rfl
                case hv => intro w hw; go_simp; first | done | rfl
                simp only [Act.put, getElem_toArray, getElem_cons_zero, getElem_cons_succ, setIfInBounds_toArray, set_cons_zero, set_cons_succ]
                refine Rt.s_get rtD rfl rfl (.tmp 9) rfl b9 (dR (n : Int) gap v2 (last + 1) lost) rfl rfl (fun W h => h) ?_
                simp only [Act.put, getElem_toArray, getElem_cons_zero, getElem_cons_succ, setIfInBounds_toArray, set_cons_zero, set_cons_succ]
                refine o_callG rfl rfl 33 #[(.pointer (some ⟨b, 0, none⟩))] (by go_simp; first | done | rfl) (all_any _ b c n (L ++ [⟨last + 1, ni, tx, false, 0⟩]) gap (last + 1) lost HP.out HCAP.out HLB.out HSZ.out) ?_
                rintro e W1 ⟨ta, rfl, ho, hp, hk⟩
                have HV1 := hidp ho.rs
                replace HT := hidp (HT.out.pk HP.out hk)
                replace H := hidp (M_pk H.out hk HP.out HGB.out HGC.out (by intro x hx; simp at hx; rcases hx with rfl | rfl | rfl <;> first | exact (show 58 ≠ 90 from by decide) | exact (show 54 ≠ 90 from by decide) ))
                clear HP
                have HP := hidp hp
                clear ho hp hk
                refine ⟨ta, rfl, H.out.at2, ?_⟩
                simp only [Act.put, getElem_toArray, getElem_cons_zero, getElem_cons_succ, setIfInBounds_toArray, set_cons_zero, set_cons_succ]
                refine o_callG rfl rfl 34 #[.agg (dR (n : Int) gap v2 (last + 1) lost).toArray] (by go_simp; first | done | rfl) (rall_any _ n gap v2 (L ++ [⟨last + 1, ni, tx, false, 0⟩]) HT.out.rs HLB.out (last + 1) lost) ?_
                rintro e W2 ⟨tb, rfl, ho, hb⟩
                have HV2 := hidp ho.rs
                replace HV1 := hidp (HV1.out.to hb)
                replace H := hidp (H.out.call hb); replace HP := hidp (HP.out.to hb); replace HT := hidp (HT.out.to hb)
                clear ho hb
                refine ⟨tb, rfl, H.out.at2, ?_⟩
                simp only [Act.put, getElem_toArray, getElem_cons_zero, getElem_cons_succ, setIfInBounds_toArray, set_cons_zero, set_cons_succ]
                refine o_callG rfl rfl 28 #[ta, tb] (by go_simp; first | done | rfl) (rsame_any _ ta tb (L ++ [⟨last + 1, ni, tx, false, 0⟩]) HV1.out HV2.out HLB.out) ?_
                rintro e W3 ⟨rfl, hb⟩
                replace H := hidp (H.out.call hb); replace HP := hidp (HP.out.to hb); replace HT := hidp (HT.out.to hb)
                clear hb
                refine ⟨.bool true, rfl, H.out.at2, ?_⟩
                simp only [Act.put, getElem_toArray, getElem_cons_zero, getElem_cons_succ, setIfInBounds_toArray, set_cons_zero, set_cons_succ]
                apply s_val
                case ho | hw => rfl
                case hv => intro w hw; go_simp; first | done | rfl
                simp only [Act.put, getElem_toArray, getElem_cons_zero, getElem_cons_succ, setIfInBounds_toArray, set_cons_zero, set_cons_succ]
                apply s_val
                case ho | hw => rfl
                case hv => intro w hw; go_simp; first | done | rfl
                simp only [Act.put, getElem_toArray, getElem_cons_zero, getElem_cons_succ, setIfInBounds_toArray, set_cons_zero, set_cons_succ]
                apply s_val
                case ho | hw => rfl
                case hv => intro w hw; go_simp; first | done | rfl
                simp only [Act.put, getElem_toArray, getElem_cons_zero, getElem_cons_succ, setIfInBounds_toArray, set_cons_zero, set_cons_succ]
                apply s_val
                case ho | hw => rfl
                case hv => intro w hw; go_simp; first | done | rfl
                simp only [Act.put, getElem_toArray, getElem_cons_zero, getElem_cons_succ, setIfInBounds_toArray, set_cons_zero, set_cons_succ]
                refine Mm.s_ldc naI rfl rfl (.tmp 150) ⟨b9, 4, none⟩ (.int .i64 (lost)) rfl rfl (fun W h => h.cell 4 (by simp [dR])) ?_
                simp only [Act.put, getElem_toArray, getElem_cons_zero, getElem_cons_succ, setIfInBounds_toArray, set_cons_zero, set_cons_succ]
                refine o_callG rfl rfl 35 #[(.pointer (some ⟨b, 0, none⟩))] (by go_simp; first | done | rfl) (lost_any _ b c n (L ++ [⟨last + 1, ni, tx, false, 0⟩]) gap (last + 1) lost HP.out) ?_
                rintro e W4 ⟨rfl, hb⟩
                replace H := hidp (H.out.call hb); replace HP := hidp (HP.out.to hb); replace HT := hidp (HT.out.to hb)
                clear hb
                refine ⟨.int .i64 (lost), rfl, H.out.at2, ?_⟩
                simp only [Act.put, getElem_toArray, getElem_cons_zero, getElem_cons_succ, setIfInBounds_toArray, set_cons_zero, set_cons_succ]
                apply s_val
                case ho | hw => rfl
                case hv => intro w hw; have hne := bne_refl (lost); go_simp; first | done | rfl
                simp only [Act.put, getElem_toArray, getElem_cons_zero, getElem_cons_succ, setIfInBounds_toArray, set_cons_zero, set_cons_succ]
                apply s_val
                case ho | hw => rfl
                case hv => intro w hw; go_simp; first | done | rfl
                simp only [Act.put, getElem_toArray, getElem_cons_zero, getElem_cons_succ, setIfInBounds_toArray, set_cons_zero, set_cons_succ]
                refine NoPanic.normal ?_
                go_wp2_with fail
                exact ⟨⟨i + 1, v2, (L ++ [⟨last + 1, ni, tx, false, 0⟩]), (last + 1), lost, by go_num, by omega, HP.out, HT.out, H.out.tail.tail, HINV.out.putUp HCAP.out htx⟩, by simp [intOf]; omega⟩
          · have q0 : (kd == 0) = false := by rw [beq_eq_false_iff_ne]; exact k0
            clear k0
            by_cases k1 : kd = 1
            · have q1 : (kd == 1) = true := by rw [k1]; rfl
              clear k1
              cases hnk : nowOk at_ with
              | false =>
                have tk0 := hidp trivial
                go_upto_region 33 with (first | (clear tk0; (refine wpL_idxR tyA rfl (.tmp 61) (.tmp 63) rfl BK off m _ i rfl rfl hlt ?_); (try simp only [Act.put, setIfInBounds_toArray, set_cons_zero, set_cons_succ]); have tk1 := hidp trivial) | (clear tk1; (refine wpL_atR tyA rfl (.tmp 65) rfl BK (off + 4 * i) [.int .i64 kd, .int .i64 ni, .string tx, .int .i64 at_] rfl rfl (rangeAt_below HRA.out H.out.below HBK.out) ?_); (try simp only [Act.put, setIfInBounds_toArray, set_cons_zero, set_cons_succ]); have tk2 := hidp trivial) | (clear tk2; (refine Mm.new rtA H (some 12) rfl rfl rfl ?_; clear H; intro b12 _ H nw; have hb := nw.below; replace HP := hidp (HP.out.to hb); replace HT := hidp (HT.out.to hb); clear hb nw); (try simp only [Act.put, setIfInBounds_toArray, set_cons_zero, set_cons_succ]); have tk3 := hidp trivial) | (clear tk3; (refine Mm.put0 rtA H rfl (.tmp 12) (.tmp 66) [.int .i64 kd, .int .i64 ni, .string tx, .int .i64 at_] rfl rfl rfl rfl (by simp [Value.oneCell']) rfl ?_; intro _ H2 st; replace HP := hidp (PostAt.stp HP.out st H.out.at0 (by decide)); replace HT := hidp (HT.out.stp st H.out.at0 (by decide)); clear st H; have H := H2; clear H2); (try simp only [Act.put, setIfInBounds_toArray, set_cons_zero, set_cons_succ]); have tk4 := hidp trivial) | (clear tk4; (refine Mm.ld0 naI H rfl (.tmp 67) 0 (.int .i64 kd) rfl rfl rfl ?_); (try simp only [Act.put, setIfInBounds_toArray, set_cons_zero, set_cons_succ]); have tk5 := hidp trivial) | (clear tk5; (refine Mm.get1 rtD H rfl (.tmp 9) rfl rfl rfl ?_); (try simp only [Act.put, setIfInBounds_toArray, set_cons_zero, set_cons_succ]); have tk6 := hidp trivial) | (clear tk6; (refine Mm.ld0 naI64 H rfl (.tmp 103) 3 (.int .i64 at_) rfl rfl rfl ?_); (try simp only [Act.put, setIfInBounds_toArray, set_cons_zero, set_cons_succ]); have tk7 := hidp trivial) | (clear tk7; (go_at_call 27; refine (rdue_no _ n gap v last lost hone at_ hnk).mono ?_; rintro e _ ⟨rfl, hb⟩; replace H := hidp (H.out.call hb); replace HP := hidp (HP.out.to hb); replace HT := hidp (HT.out.to hb); clear hb); (try simp only [Act.put, setIfInBounds_toArray, set_cons_zero, set_cons_succ]); have tk8 := hidp trivial) | (clear tk8; (refine Mm.new rtD H (some 18) rfl rfl rfl ?_; clear H; intro b18 _ H nw; have hb := nw.below; replace HP := hidp (HP.out.to hb); replace HT := hidp (HT.out.to hb); clear hb nw); (try simp only [Act.put, setIfInBounds_toArray, set_cons_zero, set_cons_succ]); have tk9 := hidp trivial) | (clear tk9; (refine Mm.put0 rtD H rfl (.tmp 18) (.tmp 106) (dR (n : Int) gap v last lost) rfl rfl rfl rfl (dR_one hone) rfl ?_; intro _ H2 st; replace HP := hidp (PostAt.stp HP.out st H.out.at0 (by decide)); replace HT := hidp (HT.out.stp st H.out.at0 (by decide)); clear st H; have H := H2; clear H2); (try simp only [Act.put, setIfInBounds_toArray, set_cons_zero, set_cons_succ]); have tk10 := hidp trivial) | (clear tk10; (refine Mm.ld1 naI64 H rfl (.tmp 109) 3 (.int .i64 at_) rfl rfl rfl ?_); (try simp only [Act.put, setIfInBounds_toArray, set_cons_zero, set_cons_succ]); have tk11 := hidp trivial) | (clear tk11; (go_at_call 29; refine (due_no _ b at_ hnk).mono ?_; rintro e _ ⟨rfl, hb⟩; replace H := hidp (H.out.call hb); replace HP := hidp (HP.out.to hb); replace HT := hidp (HT.out.to hb); clear hb); (try simp only [Act.put, setIfInBounds_toArray, set_cons_zero, set_cons_succ]); have tk12 := hidp trivial) | (clear tk12; (go_at_call 28; refine (rsame_any _ (.slice none 0 0) (.slice none 0 0) [] (RsAt.nil _) (RsAt.nil _) (by decide)).mono ?_; rintro e _ ⟨rfl, hb⟩; replace H := hidp (H.out.call hb); replace HP := hidp (HP.out.to hb); replace HT := hidp (HT.out.to hb); clear hb); (try simp only [Act.put, setIfInBounds_toArray, set_cons_zero, set_cons_succ]); have tk13 := hidp trivial) | (clear tk13; (refine Mm.get0 rtD H rfl (.tmp 18) rfl rfl rfl ?_); (try simp only [Act.put, setIfInBounds_toArray, set_cons_zero, set_cons_succ]); have tk14 := hidp trivial) | (clear tk14; (refine Mm.put2 rtD H rfl (.tmp 9) (.tmp 115) (dR (n : Int) gap v last lost) rfl rfl rfl rfl (dR_one hone) rfl ?_; intro _ H2 st; replace HP := hidp (PostAt.stp HP.out st H.out.at2 (by decide)); replace HT := hidp (HT.out.stp st H.out.at2 (by decide)); clear st H; have H := H2; clear H2); (try simp only [Act.put, setIfInBounds_toArray, set_cons_zero, set_cons_succ]); have tk15 := hidp trivial))
                try clear tk15
                refine regionQ (S := fun W => Arr W b9 54 (dR (n : Int) gap v last lost)) (.take 0 (.take 2 (.one 1 (.one 3 (.one 4 (.take 5 (.take 6 (.take 7 (.take 9 (.take 10 (.one 8 (.take 11 (.take 12 .done))))))))))))) (by kernel_rfl) (by kernel_rfl) (by simp [Scr.depth]) (by kernel_rfl) H.out.drew.at2 ?_
                replace H := hidp H.out.drew
                replace HP := hidp (HP.out.to (Below.refl _ _).drew)
                replace HT := hidp (HT.out.to (Below.refl _ _).drew)
                apply s_val
                case ho | hw => rfl
                case hv => intro w hw; go_simp; first | done | rfl
                simp only [Act.put, getElem_toArray, getElem_cons_zero, getElem_cons_succ, setIfInBounds_toArray, set_cons_zero, set_cons_succ]
                refine Rt.s_get rtD rfl rfl (.tmp 9) rfl b9 (dR (n : Int) gap v last lost) rfl rfl (fun W h => h) ?_
                simp only [Act.put, getElem_toArray, getElem_cons_zero, getElem_cons_succ, setIfInBounds_toArray, set_cons_zero, set_cons_succ]
                refine o_callG rfl rfl 33 #[(.pointer (some ⟨b, 0, none⟩))] (by go_simp; first | done | rfl) (all_any _ b c n L gap last lost HP.out HCAP.out HLB.out HSZ.out) ?_
                rintro e W1 ⟨ta, rfl, ho, hp, hk⟩
                have HV1 := hidp ho.rs
                replace HT := hidp (HT.out.pk HP.out hk)
                replace H := hidp (M_pk H.out hk HP.out HGB.out HGC.out (by intro x hx; simp at hx; rcases hx with rfl | rfl | rfl <;> first | exact (show 58 ≠ 90 from by decide) | exact (show 54 ≠ 90 from by decide) ))
                clear HP
                have HP := hidp hp
                clear ho hp hk
                refine ⟨ta, rfl, H.out.at2, ?_⟩
                simp only [Act.put, getElem_toArray, getElem_cons_zero, getElem_cons_succ, setIfInBounds_toArray, set_cons_zero, set_cons_succ]
                refine o_callG rfl rfl 34 #[.agg (dR (n : Int) gap v last lost).toArray] (by go_simp; first | done | rfl) (rall_any _ n gap v L HT.out.rs HLB.out last lost) ?_
                rintro e W2 ⟨tb, rfl, ho, hb⟩
                have HV2 := hidp ho.rs
                replace HV1 := hidp (HV1.out.to hb)
                replace H := hidp (H.out.call hb); replace HP := hidp (HP.out.to hb); replace HT := hidp (HT.out.to hb)
                clear ho hb
                refine ⟨tb, rfl, H.out.at2, ?_⟩
                simp only [Act.put, getElem_toArray, getElem_cons_zero, getElem_cons_succ, setIfInBounds_toArray, set_cons_zero, set_cons_succ]
                refine o_callG rfl rfl 28 #[ta, tb] (by go_simp; first | done | rfl) (rsame_any _ ta tb L HV1.out HV2.out HLB.out) ?_
                rintro e W3 ⟨rfl, hb⟩
                replace H := hidp (H.out.call hb); replace HP := hidp (HP.out.to hb); replace HT := hidp (HT.out.to hb)
                clear hb
                refine ⟨.bool true, rfl, H.out.at2, ?_⟩
                simp only [Act.put, getElem_toArray, getElem_cons_zero, getElem_cons_succ, setIfInBounds_toArray, set_cons_zero, set_cons_succ]
                apply s_val
                case ho | hw => rfl
                case hv => intro w hw; go_simp; first | done | rfl
                simp only [Act.put, getElem_toArray, getElem_cons_zero, getElem_cons_succ, setIfInBounds_toArray, set_cons_zero, set_cons_succ]
                apply s_val
                case ho | hw => rfl
                case hv => intro w hw; go_simp; first | done | rfl
                simp only [Act.put, getElem_toArray, getElem_cons_zero, getElem_cons_succ, setIfInBounds_toArray, set_cons_zero, set_cons_succ]
                apply s_val
                case ho | hw => rfl
                case hv => intro w hw; go_simp; first | done | rfl
                simp only [Act.put, getElem_toArray, getElem_cons_zero, getElem_cons_succ, setIfInBounds_toArray, set_cons_zero, set_cons_succ]
                apply s_val
                case ho | hw => rfl
                case hv => intro w hw; go_simp; first | done | rfl
                simp only [Act.put, getElem_toArray, getElem_cons_zero, getElem_cons_succ, setIfInBounds_toArray, set_cons_zero, set_cons_succ]
                refine Mm.s_ldc naI rfl rfl (.tmp 150) ⟨b9, 4, none⟩ (.int .i64 (lost)) rfl rfl (fun W h => h.cell 4 (by simp [dR])) ?_
                simp only [Act.put, getElem_toArray, getElem_cons_zero, getElem_cons_succ, setIfInBounds_toArray, set_cons_zero, set_cons_succ]
                refine o_callG rfl rfl 35 #[(.pointer (some ⟨b, 0, none⟩))] (by go_simp; first | done | rfl) (lost_any _ b c n L gap last lost HP.out) ?_
                rintro e W4 ⟨rfl, hb⟩
                replace H := hidp (H.out.call hb); replace HP := hidp (HP.out.to hb); replace HT := hidp (HT.out.to hb)
                clear hb
                refine ⟨.int .i64 (lost), rfl, H.out.at2, ?_⟩
                simp only [Act.put, getElem_toArray, getElem_cons_zero, getElem_cons_succ, setIfInBounds_toArray, set_cons_zero, set_cons_succ]
                apply s_val
                case ho | hw => rfl
                case hv => intro w hw; have hne := bne_refl (lost); go_simp; first | done | rfl
                simp only [Act.put, getElem_toArray, getElem_cons_zero, getElem_cons_succ, setIfInBounds_toArray, set_cons_zero, set_cons_succ]
                apply s_val
                case ho | hw => rfl
                case hv => intro w hw; go_simp; first | done | rfl
                simp only [Act.put, getElem_toArray, getElem_cons_zero, getElem_cons_succ, setIfInBounds_toArray, set_cons_zero, set_cons_succ]
                refine NoPanic.normal ?_
                go_wp2_with fail
                exact ⟨⟨i + 1, v, L, last, lost, by go_num, by omega, HP.out, HT.out, H.out.tail.tail, HINV.out.up⟩, by simp [intOf]; omega⟩
              | true =>
                have tk0 := hidp trivial
                go_upto_region 33 with (first | (clear tk0; (refine wpL_idxR tyA rfl (.tmp 61) (.tmp 63) rfl BK off m _ i rfl rfl hlt ?_); (try simp only [Act.put, setIfInBounds_toArray, set_cons_zero, set_cons_succ]); have tk1 := hidp trivial) | (clear tk1; (refine wpL_atR tyA rfl (.tmp 65) rfl BK (off + 4 * i) [.int .i64 kd, .int .i64 ni, .string tx, .int .i64 at_] rfl rfl (rangeAt_below HRA.out H.out.below HBK.out) ?_); (try simp only [Act.put, setIfInBounds_toArray, set_cons_zero, set_cons_succ]); have tk2 := hidp trivial) | (clear tk2; (refine Mm.new rtA H (some 12) rfl rfl rfl ?_; clear H; intro b12 _ H nw; have hb := nw.below; replace HP := hidp (HP.out.to hb); replace HT := hidp (HT.out.to hb); clear hb nw); (try simp only [Act.put, setIfInBounds_toArray, set_cons_zero, set_cons_succ]); have tk3 := hidp trivial) | (clear tk3; (refine Mm.put0 rtA H rfl (.tmp 12) (.tmp 66) [.int .i64 kd, .int .i64 ni, .string tx, .int .i64 at_] rfl rfl rfl rfl (by simp [Value.oneCell']) rfl ?_; intro _ H2 st; replace HP := hidp (PostAt.stp HP.out st H.out.at0 (by decide)); replace HT := hidp (HT.out.stp st H.out.at0 (by decide)); clear st H; have H := H2; clear H2); (try simp only [Act.put, setIfInBounds_toArray, set_cons_zero, set_cons_succ]); have tk4 := hidp trivial) | (clear tk4; (refine Mm.ld0 naI H rfl (.tmp 67) 0 (.int .i64 kd) rfl rfl rfl ?_); (try simp only [Act.put, setIfInBounds_toArray, set_cons_zero, set_cons_succ]); have tk5 := hidp trivial) | (clear tk5; (refine Mm.get1 rtD H rfl (.tmp 9) rfl rfl rfl ?_); (try simp only [Act.put, setIfInBounds_toArray, set_cons_zero, set_cons_succ]); have tk6 := hidp trivial) | (clear tk6; (refine Mm.ld0 naI64 H rfl (.tmp 103) 3 (.int .i64 at_) rfl rfl rfl ?_); (try simp only [Act.put, setIfInBounds_toArray, set_cons_zero, set_cons_succ]); have tk7 := hidp trivial) | (clear tk7; (go_at_call 27; refine (rdue_any _ n gap v L HT.out.rs HLB.out HAT.out last lost at_ hnk).mono ?_; rintro e _ ⟨v2, u2, rfl, ht, ho, hb⟩; replace H := hidp (H.out.call hb); replace HP := hidp (HP.out.to hb); replace HT := hidp (HT.out.to hb); have HT2 := hidp ht; have HU := hidp ho; clear ht ho hb); (try simp only [Act.put, setIfInBounds_toArray, set_cons_zero, set_cons_succ]); have tk8 := hidp trivial) | (clear tk8; (refine Mm.new rtD H (some 18) rfl rfl rfl ?_; clear H; intro b18 _ H nw; have hb := nw.below; replace HP := hidp (HP.out.to hb); replace HT := hidp (HT.out.to hb); replace HT2 := hidp (HT2.out.to hb); replace HU := hidp (HU.out.to hb (Nat.le_refl _)); clear hb nw); (try simp only [Act.put, setIfInBounds_toArray, set_cons_zero, set_cons_succ]); have tk9 := hidp trivial) | (clear tk9; (refine Mm.put0 rtD H rfl (.tmp 18) (.tmp 106) (dR (n : Int) gap v2 last lost) rfl rfl rfl rfl (dR_one HT2.out.one) rfl ?_; intro _ H2 st; replace HP := hidp (PostAt.stp HP.out st H.out.at0 (by decide)); replace HT := hidp (HT.out.stp st H.out.at0 (by decide)); replace HT2 := hidp (HT2.out.stp st H.out.at0 (by decide)); replace HU := hidp (OwnR.stpR HU.out st H.out.at0 (by decide)); clear st H; have H := H2; clear H2); (try simp only [Act.put, setIfInBounds_toArray, set_cons_zero, set_cons_succ]); have tk10 := hidp trivial) | (clear tk10; (refine Mm.ld1 naI64 H rfl (.tmp 109) 3 (.int .i64 at_) rfl rfl rfl ?_); (try simp only [Act.put, setIfInBounds_toArray, set_cons_zero, set_cons_succ]); have tk11 := hidp trivial) | (clear tk11; (go_at_call 29; refine (dueP_any _ b c n L gap last lost HP.out HCAP.out HLB.out HSZ.out HAT.out at_ hnk).mono ?_; rintro e W9 ⟨v1, rfl, ho, hp, hk⟩; replace HT := hidp (HT.out.pk HP.out hk); replace HT2 := hidp (HT2.out.pk HP.out hk); replace HU := hidp (ownR_pk HU.out HP.out hk); replace H := hidp (M_pk H.out hk HP.out HGB.out HGC.out (by intro x hx; simp at hx; rcases hx with rfl | rfl | rfl <;> first | exact (show 58 ≠ 90 from by decide) | exact (show 54 ≠ 90 from by decide) )); clear HP; have HP := hidp (show PostAt W9 b c n (L.map (mkF at_ gap)) gap last lost from hp); have HV1 := hidp ho; clear ho; clear hp hk); (try simp only [Act.put, setIfInBounds_toArray, set_cons_zero, set_cons_succ]); have tk12 := hidp trivial) | (clear tk12; (go_at_call 28; refine (rsame_any _ v1 u2 (L.filter fun x => dueB x at_ gap) HV1.out.rs HU.out.rs (by have h1 := List.length_filter_le (fun x => dueB x at_ gap) L; have h2 := HLB.out; omega)).mono ?_; rintro e _ ⟨rfl, hb⟩; replace H := hidp (H.out.call hb); replace HP := hidp (HP.out.to hb); replace HT := hidp (HT.out.to hb); replace HT2 := hidp (HT2.out.to hb); replace HU := hidp (HU.out.to hb (Nat.le_refl _)); replace HV1 := hidp (HV1.out.to hb (Nat.le_refl _)); clear hb); (try simp only [Act.put, setIfInBounds_toArray, set_cons_zero, set_cons_succ]); have tk13 := hidp trivial) | (clear tk13; (refine Mm.get0 rtD H rfl (.tmp 18) rfl rfl rfl ?_); (try simp only [Act.put, setIfInBounds_toArray, set_cons_zero, set_cons_succ]); have tk14 := hidp trivial) | (clear tk14; (refine Mm.put2 rtD H rfl (.tmp 9) (.tmp 115) (dR (n : Int) gap v2 last lost) rfl rfl rfl rfl (dR_one HT2.out.one) rfl ?_; intro _ H2 st; replace HP := hidp (PostAt.stp HP.out st H.out.at2 (by decide)); replace HT := hidp (HT.out.stp st H.out.at2 (by decide)); replace HT2 := hidp (HT2.out.stp st H.out.at2 (by decide)); replace HU := hidp (OwnR.stpR HU.out st H.out.at2 (by decide)); replace HV1 := hidp (OwnR.stpR HV1.out st H.out.at2 (by decide)); clear st H; have H := H2; clear H2); (try simp only [Act.put, setIfInBounds_toArray, set_cons_zero, set_cons_succ]); have tk15 := hidp trivial))
                try clear tk15
                clear HT
                have HT := HT2
                clear HT2
                have HCAP := hidp (show (L.map (mkF at_ gap)).length ≤ n from by rw [List.length_map]; exact HINV.out.cap)
                have HLB := hidp (show (L.map (mkF at_ gap)).length ≤ 1048575 from by have := HCAP.out; have := hn256.out; omega)
                have HSZ := hidp (HINV.out.dueUp (gap := gap) hnk).sz
                refine regionQ (S := fun W => Arr W b9 54 (dR (n : Int) gap v2 last lost)) (.take 0 (.take 2 (.one 1 (.one 3 (.one 4 (.take 5 (.take 6 (.take 7 (.take 9 (.take 10 (.one 8 (.take 11 (.take 12 .done))))))))))))) (by kernel_rfl) (by kernel_rfl) (by simp [Scr.depth]) (by kernel_rfl) H.out.drew.at2 ?_
                replace H := hidp H.out.drew
                replace HP := hidp (HP.out.to (Below.refl _ _).drew)
                replace HT := hidp (HT.out.to (Below.refl _ _).drew)
                apply s_val
                case ho | hw => rfl
                case hv => intro w hw; go_simp; first | done | rfl
                simp only [Act.put, getElem_toArray, getElem_cons_zero, getElem_cons_succ, setIfInBounds_toArray, set_cons_zero, set_cons_succ]
                refine Rt.s_get rtD rfl rfl (.tmp 9) rfl b9 (dR (n : Int) gap v2 last lost) rfl rfl (fun W h => h) ?_
                simp only [Act.put, getElem_toArray, getElem_cons_zero, getElem_cons_succ, setIfInBounds_toArray, set_cons_zero, set_cons_succ]
                refine o_callG rfl rfl 33 #[(.pointer (some ⟨b, 0, none⟩))] (by go_simp; first | done | rfl) (all_any _ b c n (L.map (mkF at_ gap)) gap last lost HP.out HCAP.out HLB.out HSZ.out) ?_
                rintro e W1 ⟨ta, rfl, ho, hp, hk⟩
                have HV1 := hidp ho.rs
                replace HT := hidp (HT.out.pk HP.out hk)
                replace H := hidp (M_pk H.out hk HP.out HGB.out HGC.out (by intro x hx; simp at hx; rcases hx with rfl | rfl | rfl <;> first | exact (show 58 ≠ 90 from by decide) | exact (show 54 ≠ 90 from by decide) ))
                clear HP
                have HP := hidp hp
                clear ho hp hk
                refine ⟨ta, rfl, H.out.at2, ?_⟩
                simp only [Act.put, getElem_toArray, getElem_cons_zero, getElem_cons_succ, setIfInBounds_toArray, set_cons_zero, set_cons_succ]
                refine o_callG rfl rfl 34 #[.agg (dR (n : Int) gap v2 last lost).toArray] (by go_simp; first | done | rfl) (rall_any _ n gap v2 (L.map (mkF at_ gap)) HT.out.rs HLB.out last lost) ?_
                rintro e W2 ⟨tb, rfl, ho, hb⟩
                have HV2 := hidp ho.rs
                replace HV1 := hidp (HV1.out.to hb)
                replace H := hidp (H.out.call hb); replace HP := hidp (HP.out.to hb); replace HT := hidp (HT.out.to hb)
                clear ho hb
                refine ⟨tb, rfl, H.out.at2, ?_⟩
                simp only [Act.put, getElem_toArray, getElem_cons_zero, getElem_cons_succ, setIfInBounds_toArray, set_cons_zero, set_cons_succ]
                refine o_callG rfl rfl 28 #[ta, tb] (by go_simp; first | done | rfl) (rsame_any _ ta tb (L.map (mkF at_ gap)) HV1.out HV2.out HLB.out) ?_
                rintro e W3 ⟨rfl, hb⟩
                replace H := hidp (H.out.call hb); replace HP := hidp (HP.out.to hb); replace HT := hidp (HT.out.to hb)
                clear hb
                refine ⟨.bool true, rfl, H.out.at2, ?_⟩
                simp only [Act.put, getElem_toArray, getElem_cons_zero, getElem_cons_succ, setIfInBounds_toArray, set_cons_zero, set_cons_succ]
                apply s_val
                case ho | hw => rfl
                case hv => intro w hw; go_simp; first | done | rfl
                simp only [Act.put, getElem_toArray, getElem_cons_zero, getElem_cons_succ, setIfInBounds_toArray, set_cons_zero, set_cons_succ]
                apply s_val
                case ho | hw => rfl
                case hv => intro w hw; go_simp; first | done | rfl
                simp only [Act.put, getElem_toArray, getElem_cons_zero, getElem_cons_succ, setIfInBounds_toArray, set_cons_zero, set_cons_succ]
                apply s_val
                case ho | hw => rfl
                case hv => intro w hw; go_simp; first | done | rfl
                simp only [Act.put, getElem_toArray, getElem_cons_zero, getElem_cons_succ, setIfInBounds_toArray, set_cons_zero, set_cons_succ]
                apply s_val
                case ho | hw => rfl
                case hv => intro w hw; go_simp; first | done | rfl
                simp only [Act.put, getElem_toArray, getElem_cons_zero, getElem_cons_succ, setIfInBounds_toArray, set_cons_zero, set_cons_succ]
                refine Mm.s_ldc naI rfl rfl (.tmp 150) ⟨b9, 4, none⟩ (.int .i64 (lost)) rfl rfl (fun W h => h.cell 4 (by simp [dR])) ?_
                simp only [Act.put, getElem_toArray, getElem_cons_zero, getElem_cons_succ, setIfInBounds_toArray, set_cons_zero, set_cons_succ]
                refine o_callG rfl rfl 35 #[(.pointer (some ⟨b, 0, none⟩))] (by go_simp; first | done | rfl) (lost_any _ b c n (L.map (mkF at_ gap)) gap last lost HP.out) ?_
                rintro e W4 ⟨rfl, hb⟩
                replace H := hidp (H.out.call hb); replace HP := hidp (HP.out.to hb); replace HT := hidp (HT.out.to hb)
                clear hb
                refine ⟨.int .i64 (lost), rfl, H.out.at2, ?_⟩
                simp only [Act.put, getElem_toArray, getElem_cons_zero, getElem_cons_succ, setIfInBounds_toArray, set_cons_zero, set_cons_succ]
                apply s_val
                case ho | hw => rfl
                case hv => intro w hw; have hne := bne_refl (lost); go_simp; first | done | rfl
                simp only [Act.put, getElem_toArray, getElem_cons_zero, getElem_cons_succ, setIfInBounds_toArray, set_cons_zero, set_cons_succ]
                apply s_val
                case ho | hw => rfl
                case hv => intro w hw; go_simp; first | done | rfl
                simp only [Act.put, getElem_toArray, getElem_cons_zero, getElem_cons_succ, setIfInBounds_toArray, set_cons_zero, set_cons_succ]
                refine NoPanic.normal ?_
                go_wp2_with fail
                exact ⟨⟨i + 1, v2, (L.map (mkF at_ gap)), last, lost, by go_num, by omega, HP.out, HT.out, H.out.tail.tail, HINV.out.dueUp (gap := gap) hnk⟩, by simp [intOf]; omega⟩
            · have q1 : (kd == 1) = false := by rw [beq_eq_false_iff_ne]; exact k1
              clear k1
              by_cases k2 : kd = 2
              · have q2 : (kd == 2) = true := by rw [k2]; rfl
                clear k2
                have tk0 := hidp trivial
                go_upto_region 33 with (first | (clear tk0; (refine wpL_idxR tyA rfl (.tmp 61) (.tmp 63) rfl BK off m _ i rfl rfl hlt ?_); (try simp only [Act.put, setIfInBounds_toArray, set_cons_zero, set_cons_succ]); have tk1 := hidp trivial) | (clear tk1; (refine wpL_atR tyA rfl (.tmp 65) rfl BK (off + 4 * i) [.int .i64 kd, .int .i64 ni, .string tx, .int .i64 at_] rfl rfl (rangeAt_below HRA.out H.out.below HBK.out) ?_); (try simp only [Act.put, setIfInBounds_toArray, set_cons_zero, set_cons_succ]); have tk2 := hidp trivial) | (clear tk2; (refine Mm.new rtA H (some 12) rfl rfl rfl ?_; clear H; intro b12 _ H nw; have hb := nw.below; replace HP := hidp (HP.out.to hb); replace HT := hidp (HT.out.to hb); clear hb nw); (try simp only [Act.put, setIfInBounds_toArray, set_cons_zero, set_cons_succ]); have tk3 := hidp trivial) | (clear tk3; (refine Mm.put0 rtA H rfl (.tmp 12) (.tmp 66) [.int .i64 kd, .int .i64 ni, .string tx, .int .i64 at_] rfl rfl rfl rfl (by simp [Value.oneCell']) rfl ?_; intro _ H2 st; replace HP := hidp (PostAt.stp HP.out st H.out.at0 (by decide)); replace HT := hidp (HT.out.stp st H.out.at0 (by decide)); clear st H; have H := H2; clear H2); (try simp only [Act.put, setIfInBounds_toArray, set_cons_zero, set_cons_succ]); have tk4 := hidp trivial) | (clear tk4; (refine Mm.ld0 naI H rfl (.tmp 67) 0 (.int .i64 kd) rfl rfl rfl ?_); (try simp only [Act.put, setIfInBounds_toArray, set_cons_zero, set_cons_succ]); have tk5 := hidp trivial) | (clear tk5; (refine Mm.get1 rtD H rfl (.tmp 9) rfl rfl rfl ?_); (try simp only [Act.put, setIfInBounds_toArray, set_cons_zero, set_cons_succ]); have tk6 := hidp trivial) | (clear tk6; (refine Mm.ld0 naI H rfl (.tmp 120) 1 (.int .i64 ni) rfl rfl rfl ?_); (try simp only [Act.put, setIfInBounds_toArray, set_cons_zero, set_cons_succ]); have tk7 := hidp trivial) | (clear tk7; (go_at_call 30; refine (rdone_any _ n gap v L HT.out HLB.out last lost ni).mono ?_; rintro e _ ⟨v2, rfl, ht, hb⟩; replace H := hidp (H.out.call hb); replace HP := hidp (HP.out.to hb); replace HT := hidp (HT.out.to hb); have HT2 := hidp ht; clear ht hb); (try simp only [Act.put, setIfInBounds_toArray, set_cons_zero, set_cons_succ]); have tk8 := hidp trivial) | (clear tk8; (refine Mm.new rtD H (some 20) rfl rfl rfl ?_; clear H; intro b20 _ H nw; have hb := nw.below; replace HP := hidp (HP.out.to hb); replace HT := hidp (HT.out.to hb); replace HT2 := hidp (HT2.out.to hb); clear hb nw); (try simp only [Act.put, setIfInBounds_toArray, set_cons_zero, set_cons_succ]); have tk9 := hidp trivial) | (clear tk9; (refine Mm.put0 rtD H rfl (.tmp 20) (.tmp 123) (dR (n : Int) gap v2 last lost) rfl rfl rfl rfl (dR_one HT2.out.one) rfl ?_; intro _ H2 st; replace HP := hidp (PostAt.stp HP.out st H.out.at0 (by decide)); replace HT := hidp (HT.out.stp st H.out.at0 (by decide)); replace HT2 := hidp (HT2.out.stp st H.out.at0 (by decide)); clear st H; have H := H2; clear H2); (try simp only [Act.put, setIfInBounds_toArray, set_cons_zero, set_cons_succ]); have tk10 := hidp trivial) | (clear tk10; (refine Mm.ld1 naI H rfl (.tmp 126) 1 (.int .i64 ni) rfl rfl rfl ?_); (try simp only [Act.put, setIfInBounds_toArray, set_cons_zero, set_cons_succ]); have tk11 := hidp trivial) | (clear tk11; (go_at_call 31; refine (done_any _ b c n L gap last lost HP.out HCAP.out HLB2.out ni).mono ?_; rintro e W9 ⟨rfl, hp, hk⟩; replace HT := hidp (HT.out.pk HP.out hk); replace HT2 := hidp (HT2.out.pk HP.out hk); replace H := hidp (M_pk H.out hk HP.out HGB.out HGC.out (by intro x hx; simp at hx; rcases hx with rfl | rfl | rfl <;> first | exact (show 58 ≠ 90 from by decide) | exact (show 54 ≠ 90 from by decide) )); clear HP; have HP := hidp (show PostAt W9 b c n (dnL L ni) gap last lost from hp); clear hp hk); (try simp only [Act.put, setIfInBounds_toArray, set_cons_zero, set_cons_succ]); have tk12 := hidp trivial) | (clear tk12; (refine Mm.get0 rtD H rfl (.tmp 20) rfl rfl rfl ?_); (try simp only [Act.put, setIfInBounds_toArray, set_cons_zero, set_cons_succ]); have tk13 := hidp trivial) | (clear tk13; (refine Mm.put2 rtD H rfl (.tmp 9) (.tmp 131) (dR (n : Int) gap v2 last lost) rfl rfl rfl rfl (dR_one HT2.out.one) rfl ?_; intro _ H2 st; replace HP := hidp (PostAt.stp HP.out st H.out.at2 (by decide)); replace HT := hidp (HT.out.stp st H.out.at2 (by decide)); replace HT2 := hidp (HT2.out.stp st H.out.at2 (by decide)); clear st H; have H := H2; clear H2); (try simp only [Act.put, setIfInBounds_toArray, set_cons_zero, set_cons_succ]); have tk14 := hidp trivial))
                try clear tk14
                clear HT
                have HT := HT2
                clear HT2
                have HCAP := hidp (HINV.out.doneUp (j := ni)).cap
                have HLB := hidp (show (dnL L ni).length ≤ 1048575 from by have := HCAP.out; have := hn256.out; omega)
                have HSZ := hidp (HINV.out.doneUp (j := ni)).sz
                refine regionQ (S := fun W => Arr W b9 54 (dR (n : Int) gap v2 last lost)) (.take 0 (.take 2 (.one 1 (.one 3 (.one 4 (.take 5 (.take 6 (.take 7 (.take 9 (.take 10 (.one 8 (.take 11 (.take 12 .done))))))))))))) (by kernel_rfl) (by kernel_rfl) (by simp [Scr.depth]) (by kernel_rfl) H.out.drew.at2 ?_
                replace H := hidp H.out.drew
                replace HP := hidp (HP.out.to (Below.refl _ _).drew)
                replace HT := hidp (HT.out.to (Below.refl _ _).drew)
                apply s_val
                case ho | hw => rfl
                case hv => intro w hw; go_simp; first | done | rfl
                simp only [Act.put, getElem_toArray, getElem_cons_zero, getElem_cons_succ, setIfInBounds_toArray, set_cons_zero, set_cons_succ]
                refine Rt.s_get rtD rfl rfl (.tmp 9) rfl b9 (dR (n : Int) gap v2 last lost) rfl rfl (fun W h => h) ?_
                simp only [Act.put, getElem_toArray, getElem_cons_zero, getElem_cons_succ, setIfInBounds_toArray, set_cons_zero, set_cons_succ]
                refine o_callG rfl rfl 33 #[(.pointer (some ⟨b, 0, none⟩))] (by go_simp; first | done | rfl) (all_any _ b c n (dnL L ni) gap last lost HP.out HCAP.out HLB.out HSZ.out) ?_
                rintro e W1 ⟨ta, rfl, ho, hp, hk⟩
                have HV1 := hidp ho.rs
                replace HT := hidp (HT.out.pk HP.out hk)
                replace H := hidp (M_pk H.out hk HP.out HGB.out HGC.out (by intro x hx; simp at hx; rcases hx with rfl | rfl | rfl <;> first | exact (show 58 ≠ 90 from by decide) | exact (show 54 ≠ 90 from by decide) ))
                clear HP
                have HP := hidp hp
                clear ho hp hk
                refine ⟨ta, rfl, H.out.at2, ?_⟩
                simp only [Act.put, getElem_toArray, getElem_cons_zero, getElem_cons_succ, setIfInBounds_toArray, set_cons_zero, set_cons_succ]
                refine o_callG rfl rfl 34 #[.agg (dR (n : Int) gap v2 last lost).toArray] (by go_simp; first | done | rfl) (rall_any _ n gap v2 (dnL L ni) HT.out.rs HLB.out last lost) ?_
                rintro e W2 ⟨tb, rfl, ho, hb⟩
                have HV2 := hidp ho.rs
                replace HV1 := hidp (HV1.out.to hb)
                replace H := hidp (H.out.call hb); replace HP := hidp (HP.out.to hb); replace HT := hidp (HT.out.to hb)
                clear ho hb
                refine ⟨tb, rfl, H.out.at2, ?_⟩
                simp only [Act.put, getElem_toArray, getElem_cons_zero, getElem_cons_succ, setIfInBounds_toArray, set_cons_zero, set_cons_succ]
                refine o_callG rfl rfl 28 #[ta, tb] (by go_simp; first | done | rfl) (rsame_any _ ta tb (dnL L ni) HV1.out HV2.out HLB.out) ?_
                rintro e W3 ⟨rfl, hb⟩
                replace H := hidp (H.out.call hb); replace HP := hidp (HP.out.to hb); replace HT := hidp (HT.out.to hb)
                clear hb
                refine ⟨.bool true, rfl, H.out.at2, ?_⟩
                simp only [Act.put, getElem_toArray, getElem_cons_zero, getElem_cons_succ, setIfInBounds_toArray, set_cons_zero, set_cons_succ]
                apply s_val
                case ho | hw => rfl
                case hv => intro w hw; go_simp; first | done | rfl
                simp only [Act.put, getElem_toArray, getElem_cons_zero, getElem_cons_succ, setIfInBounds_toArray, set_cons_zero, set_cons_succ]
                apply s_val
                case ho | hw => rfl
                case hv => intro w hw; go_simp; first | done | rfl
                simp only [Act.put, getElem_toArray, getElem_cons_zero, getElem_cons_succ, setIfInBounds_toArray, set_cons_zero, set_cons_succ]
                apply s_val
                case ho | hw => rfl
                case hv => intro w hw; go_simp; first | done | rfl
                simp only [Act.put, getElem_toArray, getElem_cons_zero, getElem_cons_succ, setIfInBounds_toArray, set_cons_zero, set_cons_succ]
                apply s_val
                case ho | hw => rfl
                case hv => intro w hw; go_simp; first | done | rfl
                simp only [Act.put, getElem_toArray, getElem_cons_zero, getElem_cons_succ, setIfInBounds_toArray, set_cons_zero, set_cons_succ]
                refine Mm.s_ldc naI rfl rfl (.tmp 150) ⟨b9, 4, none⟩ (.int .i64 (lost)) rfl rfl (fun W h => h.cell 4 (by simp [dR])) ?_
                simp only [Act.put, getElem_toArray, getElem_cons_zero, getElem_cons_succ, setIfInBounds_toArray, set_cons_zero, set_cons_succ]
                refine o_callG rfl rfl 35 #[(.pointer (some ⟨b, 0, none⟩))] (by go_simp; first | done | rfl) (lost_any _ b c n (dnL L ni) gap last lost HP.out) ?_
                rintro e W4 ⟨rfl, hb⟩
                replace H := hidp (H.out.call hb); replace HP := hidp (HP.out.to hb); replace HT := hidp (HT.out.to hb)
                clear hb
                refine ⟨.int .i64 (lost), rfl, H.out.at2, ?_⟩
                simp only [Act.put, getElem_toArray, getElem_cons_zero, getElem_cons_succ, setIfInBounds_toArray, set_cons_zero, set_cons_succ]
                apply s_val
                case ho | hw => rfl
                case hv => intro w hw; have hne := bne_refl (lost); go_simp; first | done | rfl
                simp only [Act.put, getElem_toArray, getElem_cons_zero, getElem_cons_succ, setIfInBounds_toArray, set_cons_zero, set_cons_succ]
                apply s_val
                case ho | hw => rfl
                case hv => intro w hw; go_simp; first | done | rfl
                simp only [Act.put, getElem_toArray, getElem_cons_zero, getElem_cons_succ, setIfInBounds_toArray, set_cons_zero, set_cons_succ]
                refine NoPanic.normal ?_
                go_wp2_with fail
                exact ⟨⟨i + 1, v2, (dnL L ni), last, lost, by go_num, by omega, HP.out, HT.out, H.out.tail.tail, HINV.out.doneUp⟩, by simp [intOf]; omega⟩
              · have q2 : (kd == 2) = false := by rw [beq_eq_false_iff_ne]; exact k2
                clear k2
                by_cases k3 : kd = 3
                · have q3 : (kd == 3) = true := by rw [k3]; rfl
                  clear k3
                  have tk0 := hidp trivial
                  go_upto_region 30 with (first | (clear tk0; (refine wpL_idxR tyA rfl (.tmp 61) (.tmp 63) rfl BK off m _ i rfl rfl hlt ?_); (try simp only [Act.put, setIfInBounds_toArray, set_cons_zero, set_cons_succ]); have tk1 := hidp trivial) | (clear tk1; (refine wpL_atR tyA rfl (.tmp 65) rfl BK (off + 4 * i) [.int .i64 kd, .int .i64 ni, .string tx, .int .i64 at_] rfl rfl (rangeAt_below HRA.out H.out.below HBK.out) ?_); (try simp only [Act.put, setIfInBounds_toArray, set_cons_zero, set_cons_succ]); have tk2 := hidp trivial) | (clear tk2; (refine Mm.new rtA H (some 12) rfl rfl rfl ?_; clear H; intro b12 _ H nw; have hb := nw.below; replace HP := hidp (HP.out.to hb); replace HT := hidp (HT.out.to hb); clear hb nw); (try simp only [Act.put, setIfInBounds_toArray, set_cons_zero, set_cons_succ]); have tk3 := hidp trivial) | (clear tk3; (refine Mm.put0 rtA H rfl (.tmp 12) (.tmp 66) [.int .i64 kd, .int .i64 ni, .string tx, .int .i64 at_] rfl rfl rfl rfl (by simp [Value.oneCell']) rfl ?_; intro _ H2 st; replace HP := hidp (PostAt.stp HP.out st H.out.at0 (by decide)); replace HT := hidp (HT.out.stp st H.out.at0 (by decide)); clear st H; have H := H2; clear H2); (try simp only [Act.put, setIfInBounds_toArray, set_cons_zero, set_cons_succ]); have tk4 := hidp trivial) | (clear tk4; (refine Mm.ld0 naI H rfl (.tmp 67) 0 (.int .i64 kd) rfl rfl rfl ?_); (try simp only [Act.put, setIfInBounds_toArray, set_cons_zero, set_cons_succ]); have tk5 := hidp trivial))
                  try clear tk5
                  obtain ⟨av, cv, hva⟩ := HT.out.rs.form
                  rw [ones_len] at hva
                  obtain ⟨z, hz⟩ : ∃ z, L.length = z := ⟨_, rfl⟩
                  rw [hz] at hva
                  refine regionQ (S := fun W => Arr W b9 54 (dR (n : Int) gap v last lost)) (.take 0 (.take 2 (.take 3 (.take 4 (.one 1 (.take 5 .done)))))) (by kernel_rfl) (by kernel_rfl) (by simp [Scr.depth]) (by kernel_rfl) H.out.drew.at1 ?_
                  replace H := hidp H.out.drew
                  replace HP := hidp (HP.out.to (Below.refl _ _).drew)
                  replace HT := hidp (HT.out.to (Below.refl _ _).drew)
                  apply s_val
                  case ho | hw => rfl
                  case hv => intro w hw; go_simp; first | done | rfl
                  simp only [Act.put, getElem_toArray, getElem_cons_zero, getElem_cons_succ, setIfInBounds_toArray, set_cons_zero, set_cons_succ]
                  apply s_val
                  case ho | hw => rfl
                  case hv => intro w hw; go_simp; first | done | rfl
                  simp only [Act.put, getElem_toArray, getElem_cons_zero, getElem_cons_succ, setIfInBounds_toArray, set_cons_zero, set_cons_succ]
                  refine Mm.s_ldc na1S rfl rfl (.tmp 136) ⟨b9, 2, none⟩ (.slice av z cv) rfl rfl (fun W h => by have := h.cell 2 (by simp [dR]); simp only [dR, List.getElem_cons_succ, List.getElem_cons_zero] at this; rw [this, hva]) ?_
                  simp only [Act.put, getElem_toArray, getElem_cons_zero, getElem_cons_succ, setIfInBounds_toArray, set_cons_zero, set_cons_succ]
                  apply s_val
                  case ho | hw => rfl
                  case hv => intro w hw; go_simp; first | done | rfl
                  simp only [Act.put, getElem_toArray, getElem_cons_zero, getElem_cons_succ, setIfInBounds_toArray, set_cons_zero, set_cons_succ]
                  refine o_callG rfl rfl 32 #[(.pointer (some ⟨b, 0, none⟩))] (by go_simp; first | done | rfl) (clear_any _ b c n L gap last lost HP.out HCAP.out HLB2.out) ?_
                  rintro e W1 ⟨rfl, hp, hk⟩
                  replace H := hidp (M_pk H.out hk HP.out HGB.out HGC.out (by intro x hx; simp at hx; rcases hx with rfl | rfl <;> first | exact (show 58 ≠ 90 from by decide) | exact (show 54 ≠ 90 from by decide) ))
                  clear HP HT
                  have HP := hidp hp
                  clear hp hk
                  refine ⟨.int .i64 (L.length : Int), rfl, H.out.at1, ?_⟩
                  rw [hz]
                  simp only [Act.put, getElem_toArray, getElem_cons_zero, getElem_cons_succ, setIfInBounds_toArray, set_cons_zero, set_cons_succ]
                  apply s_val
                  case ho | hw => rfl
                  case hv => intro w hw; have hne := bne_refl (z : Int); go_simp; first | done | rfl
                  simp only [Act.put, getElem_toArray, getElem_cons_zero, getElem_cons_succ, setIfInBounds_toArray, set_cons_zero, set_cons_succ]
                  refine NoPanic.normal ?_
                  clear hva hz
                  have tk0 := hidp trivial
                  go_upto_region 33 with (first | (clear tk0; (refine Mm.putF1 H rfl 52 (.tmp 140) (.const (.slice none 0 0)) 2 (.slice none 0 0) rfl rfl rfl (by kernel_rfl) rfl (of_decide_eq_true rfl) ?_; intro _ H2 st; replace HP := hidp (PostAt.stp HP.out st H.out.at1 (by decide)); clear st H; have H : Hid (Mm.M w.heap.size w _ ([⟨b12, 58, [.int .i64 kd, .int .i64 ni, .string tx, .int .i64 at_]⟩, ⟨b9, 54, (dR (n : Int) gap (.slice none 0 0) last lost)⟩])) := H2; clear H2); (try simp only [Act.put, setIfInBounds_toArray, set_cons_zero, set_cons_succ]); have tk1 := hidp trivial))
                  try clear tk1
                  have HT := hidp (ts_nil H.out)
                  have HCAP := hidp (show ([] : List Lt).length ≤ n from Nat.zero_le _)
                  have HLB := hidp (show ([] : List Lt).length ≤ 1048575 from Nat.zero_le _)
                  have HSZ := hidp (show ∀ x ∈ ([] : List Lt), x.tx.size ≤ 140737488351232 from fun x h => by cases h)
                  refine regionQ (S := fun W => Arr W b9 54 (dR (n : Int) gap (.slice none 0 0) last lost)) (.take 0 (.take 2 (.one 1 (.one 3 (.one 4 (.take 5 (.take 6 (.take 7 (.take 9 (.take 10 (.one 8 (.take 11 (.take 12 .done))))))))))))) (by kernel_rfl) (by kernel_rfl) (by simp [Scr.depth]) (by kernel_rfl) H.out.drew.at1 ?_
                  replace H := hidp H.out.drew
                  replace HP := hidp (HP.out.to (Below.refl _ _).drew)
                  replace HT := hidp (HT.out.to (Below.refl _ _).drew)
                  apply s_val
                  case ho | hw => rfl
                  case hv => intro w hw; go_simp; first | done | rfl
                  simp only [Act.put, getElem_toArray, getElem_cons_zero, getElem_cons_succ, setIfInBounds_toArray, set_cons_zero, set_cons_succ]
                  refine Rt.s_get rtD rfl rfl (.tmp 9) rfl b9 (dR (n : Int) gap (.slice none 0 0) last lost) rfl rfl (fun W h => h) ?_
                  simp only [Act.put, getElem_toArray, getElem_cons_zero, getElem_cons_succ, setIfInBounds_toArray, set_cons_zero, set_cons_succ]
                  refine o_callG rfl rfl 33 #[(.pointer (some ⟨b, 0, none⟩))] (by go_simp; first | done | rfl) (all_any _ b c n [] gap last lost HP.out HCAP.out HLB.out HSZ.out) ?_
                  rintro e W1 ⟨ta, rfl, ho, hp, hk⟩
                  have HV1 := hidp ho.rs
                  replace HT := hidp (HT.out.pk HP.out hk)
                  replace H := hidp (M_pk H.out hk HP.out HGB.out HGC.out (by intro x hx; simp at hx; rcases hx with rfl | rfl <;> first | exact (show 58 ≠ 90 from by decide) | exact (show 54 ≠ 90 from by decide) ))
                  clear HP
                  have HP := hidp hp
                  clear ho hp hk
                  refine ⟨ta, rfl, H.out.at1, ?_⟩
                  simp only [Act.put, getElem_toArray, getElem_cons_zero, getElem_cons_succ, setIfInBounds_toArray, set_cons_zero, set_cons_succ]
                  refine o_callG rfl rfl 34 #[.agg (dR (n : Int) gap (.slice none 0 0) last lost).toArray] (by go_simp; first | done | rfl) (rall_any _ n gap (.slice none 0 0) [] HT.out.rs HLB.out last lost) ?_
                  rintro e W2 ⟨tb, rfl, ho, hb⟩
                  have HV2 := hidp ho.rs
                  replace HV1 := hidp (HV1.out.to hb)
                  replace H := hidp (H.out.call hb); replace HP := hidp (HP.out.to hb); replace HT := hidp (HT.out.to hb)
                  clear ho hb
                  refine ⟨tb, rfl, H.out.at1, ?_⟩
                  simp only [Act.put, getElem_toArray, getElem_cons_zero, getElem_cons_succ, setIfInBounds_toArray, set_cons_zero, set_cons_succ]
                  refine o_callG rfl rfl 28 #[ta, tb] (by go_simp; first | done | rfl) (rsame_any _ ta tb [] HV1.out HV2.out HLB.out) ?_
                  rintro e W3 ⟨rfl, hb⟩
                  replace H := hidp (H.out.call hb); replace HP := hidp (HP.out.to hb); replace HT := hidp (HT.out.to hb)
                  clear hb
                  refine ⟨.bool true, rfl, H.out.at1, ?_⟩
                  simp only [Act.put, getElem_toArray, getElem_cons_zero, getElem_cons_succ, setIfInBounds_toArray, set_cons_zero, set_cons_succ]
                  apply s_val
                  case ho | hw => rfl
                  case hv => intro w hw; go_simp; first | done | rfl
                  simp only [Act.put, getElem_toArray, getElem_cons_zero, getElem_cons_succ, setIfInBounds_toArray, set_cons_zero, set_cons_succ]
                  apply s_val
                  case ho | hw => rfl
                  case hv => intro w hw; go_simp; first | done | rfl
                  simp only [Act.put, getElem_toArray, getElem_cons_zero, getElem_cons_succ, setIfInBounds_toArray, set_cons_zero, set_cons_succ]
                  apply s_val
                  case ho | hw => rfl
                  case hv => intro w hw; go_simp; first | done | rfl
                  simp only [Act.put, getElem_toArray, getElem_cons_zero, getElem_cons_succ, setIfInBounds_toArray, set_cons_zero, set_cons_succ]
                  apply s_val
                  case ho | hw => rfl
                  case hv => intro w hw; go_simp; first | done | rfl
                  simp only [Act.put, getElem_toArray, getElem_cons_zero, getElem_cons_succ, setIfInBounds_toArray, set_cons_zero, set_cons_succ]
                  refine Mm.s_ldc naI rfl rfl (.tmp 150) ⟨b9, 4, none⟩ (.int .i64 (lost)) rfl rfl (fun W h => h.cell 4 (by simp [dR])) ?_
                  simp only [Act.put, getElem_toArray, getElem_cons_zero, getElem_cons_succ, setIfInBounds_toArray, set_cons_zero, set_cons_succ]
                  refine o_callG rfl rfl 35 #[(.pointer (some ⟨b, 0, none⟩))] (by go_simp; first | done | rfl) (lost_any _ b c n [] gap last lost HP.out) ?_
                  rintro e W4 ⟨rfl, hb⟩
                  replace H := hidp (H.out.call hb); replace HP := hidp (HP.out.to hb); replace HT := hidp (HT.out.to hb)
                  clear hb
                  refine ⟨.int .i64 (lost), rfl, H.out.at1, ?_⟩
                  simp only [Act.put, getElem_toArray, getElem_cons_zero, getElem_cons_succ, setIfInBounds_toArray, set_cons_zero, set_cons_succ]
                  apply s_val
                  case ho | hw => rfl
                  case hv => intro w hw; have hne := bne_refl (lost); go_simp; first | done | rfl
                  simp only [Act.put, getElem_toArray, getElem_cons_zero, getElem_cons_succ, setIfInBounds_toArray, set_cons_zero, set_cons_succ]
                  apply s_val
                  case ho | hw => rfl
                  case hv => intro w hw; go_simp; first | done | rfl
                  simp only [Act.put, getElem_toArray, getElem_cons_zero, getElem_cons_succ, setIfInBounds_toArray, set_cons_zero, set_cons_succ]
                  refine NoPanic.normal ?_
                  go_wp2_with fail
                  exact ⟨⟨i + 1, (.slice none 0 0), [], last, lost, by go_num, by omega, HP.out, HT.out, H.out.tail, HINV.out.clearUp⟩, by simp [intOf]; omega⟩
                · have q3 : (kd == 3) = false := by rw [beq_eq_false_iff_ne]; exact k3
                  clear k3
                  have tk0 := hidp trivial
                  go_upto_region 33 with (first | (clear tk0; (refine wpL_idxR tyA rfl (.tmp 61) (.tmp 63) rfl BK off m _ i rfl rfl hlt ?_); (try simp only [Act.put, setIfInBounds_toArray, set_cons_zero, set_cons_succ]); have tk1 := hidp trivial) | (clear tk1; (refine wpL_atR tyA rfl (.tmp 65) rfl BK (off + 4 * i) [.int .i64 kd, .int .i64 ni, .string tx, .int .i64 at_] rfl rfl (rangeAt_below HRA.out H.out.below HBK.out) ?_); (try simp only [Act.put, setIfInBounds_toArray, set_cons_zero, set_cons_succ]); have tk2 := hidp trivial) | (clear tk2; (refine Mm.new rtA H (some 12) rfl rfl rfl ?_; clear H; intro b12 _ H nw; have hb := nw.below; replace HP := hidp (HP.out.to hb); replace HT := hidp (HT.out.to hb); clear hb nw); (try simp only [Act.put, setIfInBounds_toArray, set_cons_zero, set_cons_succ]); have tk3 := hidp trivial) | (clear tk3; (refine Mm.put0 rtA H rfl (.tmp 12) (.tmp 66) [.int .i64 kd, .int .i64 ni, .string tx, .int .i64 at_] rfl rfl rfl rfl (by simp [Value.oneCell']) rfl ?_; intro _ H2 st; replace HP := hidp (PostAt.stp HP.out st H.out.at0 (by decide)); replace HT := hidp (HT.out.stp st H.out.at0 (by decide)); clear st H; have H := H2; clear H2); (try simp only [Act.put, setIfInBounds_toArray, set_cons_zero, set_cons_succ]); have tk4 := hidp trivial) | (clear tk4; (refine Mm.ld0 naI H rfl (.tmp 67) 0 (.int .i64 kd) rfl rfl rfl ?_); (try simp only [Act.put, setIfInBounds_toArray, set_cons_zero, set_cons_succ]); have tk5 := hidp trivial))
                  try clear tk5
                  refine regionQ (S := fun W => Arr W b9 54 (dR (n : Int) gap v last lost)) (.take 0 (.take 2 (.one 1 (.one 3 (.one 4 (.take 5 (.take 6 (.take 7 (.take 9 (.take 10 (.one 8 (.take 11 (.take 12 .done))))))))))))) (by kernel_rfl) (by kernel_rfl) (by simp [Scr.depth]) (by kernel_rfl) H.out.drew.at1 ?_
                  replace H := hidp H.out.drew
                  replace HP := hidp (HP.out.to (Below.refl _ _).drew)
                  replace HT := hidp (HT.out.to (Below.refl _ _).drew)
                  apply s_val
                  case ho | hw => rfl
                  case hv => intro w hw; go_simp; first | done | rfl
                  simp only [Act.put, getElem_toArray, getElem_cons_zero, getElem_cons_succ, setIfInBounds_toArray, set_cons_zero, set_cons_succ]
                  refine Rt.s_get rtD rfl rfl (.tmp 9) rfl b9 (dR (n : Int) gap v last lost) rfl rfl (fun W h => h) ?_
                  simp only [Act.put, getElem_toArray, getElem_cons_zero, getElem_cons_succ, setIfInBounds_toArray, set_cons_zero, set_cons_succ]
                  refine o_callG rfl rfl 33 #[(.pointer (some ⟨b, 0, none⟩))] (by go_simp; first | done | rfl) (all_any _ b c n L gap last lost HP.out HCAP.out HLB.out HSZ.out) ?_
                  rintro e W1 ⟨ta, rfl, ho, hp, hk⟩
                  have HV1 := hidp ho.rs
                  replace HT := hidp (HT.out.pk HP.out hk)
                  replace H := hidp (M_pk H.out hk HP.out HGB.out HGC.out (by intro x hx; simp at hx; rcases hx with rfl | rfl <;> first | exact (show 58 ≠ 90 from by decide) | exact (show 54 ≠ 90 from by decide) ))
                  clear HP
                  have HP := hidp hp
                  clear ho hp hk
                  refine ⟨ta, rfl, H.out.at1, ?_⟩
                  simp only [Act.put, getElem_toArray, getElem_cons_zero, getElem_cons_succ, setIfInBounds_toArray, set_cons_zero, set_cons_succ]
                  refine o_callG rfl rfl 34 #[.agg (dR (n : Int) gap v last lost).toArray] (by go_simp; first | done | rfl) (rall_any _ n gap v L HT.out.rs HLB.out last lost) ?_
                  rintro e W2 ⟨tb, rfl, ho, hb⟩
                  have HV2 := hidp ho.rs
                  replace HV1 := hidp (HV1.out.to hb)
                  replace H := hidp (H.out.call hb); replace HP := hidp (HP.out.to hb); replace HT := hidp (HT.out.to hb)
                  clear ho hb
                  refine ⟨tb, rfl, H.out.at1, ?_⟩
                  simp only [Act.put, getElem_toArray, getElem_cons_zero, getElem_cons_succ, setIfInBounds_toArray, set_cons_zero, set_cons_succ]
                  refine o_callG rfl rfl 28 #[ta, tb] (by go_simp; first | done | rfl) (rsame_any _ ta tb L HV1.out HV2.out HLB.out) ?_
                  rintro e W3 ⟨rfl, hb⟩
                  replace H := hidp (H.out.call hb); replace HP := hidp (HP.out.to hb); replace HT := hidp (HT.out.to hb)
                  clear hb
                  refine ⟨.bool true, rfl, H.out.at1, ?_⟩
                  simp only [Act.put, getElem_toArray, getElem_cons_zero, getElem_cons_succ, setIfInBounds_toArray, set_cons_zero, set_cons_succ]
                  apply s_val
                  case ho | hw => rfl
                  case hv => intro w hw; go_simp; first | done | rfl
                  simp only [Act.put, getElem_toArray, getElem_cons_zero, getElem_cons_succ, setIfInBounds_toArray, set_cons_zero, set_cons_succ]
                  apply s_val
                  case ho | hw => rfl
                  case hv => intro w hw; go_simp; first | done | rfl
                  simp only [Act.put, getElem_toArray, getElem_cons_zero, getElem_cons_succ, setIfInBounds_toArray, set_cons_zero, set_cons_succ]
                  apply s_val
                  case ho | hw => rfl
                  case hv => intro w hw; go_simp; first | done | rfl
                  simp only [Act.put, getElem_toArray, getElem_cons_zero, getElem_cons_succ, setIfInBounds_toArray, set_cons_zero, set_cons_succ]
                  apply s_val
                  case ho | hw => rfl
                  case hv => intro w hw; go_simp; first | done | rfl
                  simp only [Act.put, getElem_toArray, getElem_cons_zero, getElem_cons_succ, setIfInBounds_toArray, set_cons_zero, set_cons_succ]
                  refine Mm.s_ldc naI rfl rfl (.tmp 150) ⟨b9, 4, none⟩ (.int .i64 (lost)) rfl rfl (fun W h => h.cell 4 (by simp [dR])) ?_
                  simp only [Act.put, getElem_toArray, getElem_cons_zero, getElem_cons_succ, setIfInBounds_toArray, set_cons_zero, set_cons_succ]
                  refine o_callG rfl rfl 35 #[(.pointer (some ⟨b, 0, none⟩))] (by go_simp; first | done | rfl) (lost_any _ b c n L gap last lost HP.out) ?_
                  rintro e W4 ⟨rfl, hb⟩
                  replace H := hidp (H.out.call hb); replace HP := hidp (HP.out.to hb); replace HT := hidp (HT.out.to hb)
                  clear hb
                  refine ⟨.int .i64 (lost), rfl, H.out.at1, ?_⟩
                  simp only [Act.put, getElem_toArray, getElem_cons_zero, getElem_cons_succ, setIfInBounds_toArray, set_cons_zero, set_cons_succ]
                  apply s_val
                  case ho | hw => rfl
                  case hv => intro w hw; have hne := bne_refl (lost); go_simp; first | done | rfl
                  simp only [Act.put, getElem_toArray, getElem_cons_zero, getElem_cons_succ, setIfInBounds_toArray, set_cons_zero, set_cons_succ]
                  apply s_val
                  case ho | hw => rfl
                  case hv => intro w hw; go_simp; first | done | rfl
                  simp only [Act.put, getElem_toArray, getElem_cons_zero, getElem_cons_succ, setIfInBounds_toArray, set_cons_zero, set_cons_succ]
                  refine NoPanic.normal ?_
                  go_wp2_with fail
                  exact ⟨⟨i + 1, v, L, last, lost, by go_num, by omega, HP.out, HT.out, H.out.tail, HINV.out.up⟩, by simp [intOf]; omega⟩
        · have e1 : decide ((i : Int) < (m : Int)) = false := by simp; omega
          go_wp2_with fail
          go_ret
          exact ⟨rfl, H.out.below⟩

end Go.Proofs.Ytokakgjcegmabaa.Po
