
/-
  state: Get, Member.
-/
import Derived.Test.YtiakfopdohcigaaGreatDoorStI
namespace Go.Proofs.YtiakfopdohcigaaGreatDoor
set_option maxRecDepth 100000
set_option linter.unusedVariables false
set_option linter.unusedSimpArgs false
open Go.RowKit Rw

def wLeave : ByteArray := ⟨#[108, 101, 97, 118, 101]⟩
def memS (cs : List Ce) (u : ByteArray) : ByteArray := ((firS cs 2 u).map (·.body)).getD wLeave
def geV (cs : List Ce) (k : Nat) (y : ByteArray) : Ev := if okS cs = true then (firS cs k y).getD zEv else zEv
def geE (cs : List Ce) (k : Nat) (y : ByteArray) : Int := if okS cs = true then (if (firS cs k y).isSome = true then 0 else 3) else 2
theorem firS_ok {cs : List Ce} (h : ∀ c ∈ cs, c.ok) {k : Nat} {y : ByteArray} {e : Ev} (he : firS cs k y = some e) : e.ok := by
  unfold firS at he
  cases hf : cs.find? (isC k y) with
  | none => rw [hf] at he; cases he
  | some c =>
    rw [hf] at he
    simp only [Option.map_some, Option.some.injEq] at he
    subst he
    exact (h c (List.mem_of_find?_eq_some hf)).e
theorem zE_row : zEv.row = zE := rfl

set_option maxHeartbeats 8000000 in
theorem get_any (w : World) (v : Value) (cs : List Ce) (hv : CsAt w v cs) (k : Nat) (y : ByteArray) (hI : IT w) :
    Calls Tryz.prog 9 #[v, .int .u8 (k : Int), .string y] w fun x w' => x = .returned (.tuple #[.agg (geV cs k y).row.toArray, .int .i64 (geE cs k y)]) ∧ Below w.heap.size w w' := by
  have HI := hidp hI; have HV := hidp hv
  clear hI
  have ck := hidp (fun W h h' => stCheck_any W v cs h h')
  have cf := hidp (fun W h => sfirst_any W v cs h k y)
  have H := hidp (Mm.M.nil w)
  cases hok : okS cs with
  | false =>
    rw [show ckS cs = 2 from if_neg (by rw [hok]; exact Bool.false_ne_true)] at ck
    have HGV := hidp (show geV cs k y = zEv from by unfold geV; rw [hok]; rfl); have HGE := hidp (show geE cs k y = 2 from by unfold geE; rw [hok]; rfl)
    clear hok hv
    go_enter Tryz.func9, Tryz.ntmps9
    go_wp2_with (first | (refine Mm.new rtE H (some 6) rfl rfl rfl ?_; clear H; intro b6 _ H nw; have hb := nw.below; clear hb nw) | (go_at_call 53; refine (ck.out _ (HV.out.to H.out.below) (HI.out.below H.out.below (Nat.le_refl _))).mono ?_; rintro e _ ⟨rfl, hb⟩; replace H := hidp (H.out.call hb); clear hb) | (refine Rt.wpL_build rfl 25 _ rfl zE (by kernel_rfl) ?_) | (refine Mm.put0 rtE H rfl (.tmp 6) (.tmp 15) zE rfl rfl rfl rfl (by simp [zE, Value.oneCell']) rfl ?_; intro _ H2 st; clear st H; have H := H2; clear H2))
    refine bodyPost_ret (Mm.ret_rowv rtE Tryz.results9 _ b6 _ _ rfl rfl H.out.at0 rfl) rfl ⟨by rw [HGV.out, HGE.out]; rfl, H.out.below⟩
  | true =>
    rw [show ckS cs = 0 from if_pos hok] at ck
    cases hf : firS cs k y with
    | none =>
      rw [hf] at cf
      have HGV := hidp (show geV cs k y = zEv from by unfold geV; rw [hok, hf]; rfl); have HGE := hidp (show geE cs k y = 3 from by unfold geE; rw [hok, hf]; rfl)
      simp only [foV] at cf
      clear hok hv hf
      go_enter Tryz.func9, Tryz.ntmps9
      go_wp2_with (first | (refine Mm.new rtE H (some 6) rfl rfl rfl ?_; clear H; intro b6 _ H nw; have hb := nw.below; clear hb nw) | (go_at_call 53; refine (ck.out _ (HV.out.to H.out.below) (HI.out.below H.out.below (Nat.le_refl _))).mono ?_; rintro e _ ⟨rfl, hb⟩; replace H := hidp (H.out.call hb); clear hb) | (go_at_call 54; refine (cf.out _ (HV.out.to H.out.below)).mono ?_; rintro e _ ⟨rfl, hb⟩; replace H := hidp (H.out.call hb); clear hb) | (refine Mm.new rtE H (some 9) rfl rfl rfl ?_; clear H; intro b9 _ H nw; have hb := nw.below; clear hb nw) | (refine Mm.put0 rtE H rfl (.tmp 9) (.tmp 22) zEv.row rfl rfl rfl rfl (Ev.one _) rfl ?_; intro _ H2 st; clear st H; have H := H2; clear H2) | (refine Rt.wpL_build rfl 25 _ rfl zE (by kernel_rfl) ?_) | (refine Mm.put1 rtE H rfl (.tmp 6) (.tmp 26) zE rfl rfl rfl rfl (by simp [zE, Value.oneCell']) rfl ?_; intro _ H2 st; clear st H; have H := H2; clear H2))
      refine bodyPost_ret (Mm.ret_rowv rtE Tryz.results9 _ b6 _ _ rfl rfl H.out.at1 rfl) rfl ⟨by rw [HGV.out, HGE.out]; rfl, H.out.below⟩
    | some e =>
      have he := firS_ok hv.ok hf
      rw [hf] at cf
      have HGV := hidp (show geV cs k y = e from by unfold geV; rw [hok, hf]; rfl); have HGE := hidp (show geE cs k y = 0 from by unfold geE; rw [hok, hf]; rfl)
      have cc := hidp (fun W => clone_ev W e he)
      simp only [foV] at cf
      clear hok hv hf
      go_enter Tryz.func9, Tryz.ntmps9
      go_wp2_with (first | (refine Mm.new rtE H (some 6) rfl rfl rfl ?_; clear H; intro b6 _ H nw; have hb := nw.below; clear hb nw) | (go_at_call 53; refine (ck.out _ (HV.out.to H.out.below) (HI.out.below H.out.below (Nat.le_refl _))).mono ?_; rintro e _ ⟨rfl, hb⟩; replace H := hidp (H.out.call hb); clear hb) | (go_at_call 54; refine (cf.out _ (HV.out.to H.out.below)).mono ?_; rintro e _ ⟨rfl, hb⟩; replace H := hidp (H.out.call hb); clear hb) | (refine Mm.new rtE H (some 9) rfl rfl rfl ?_; clear H; intro b9 _ H nw; have hb := nw.below; clear hb nw) | (refine Mm.put0 rtE H rfl (.tmp 9) (.tmp 22) e.row rfl rfl rfl rfl (Ev.one _) rfl ?_; intro _ H2 st; clear st H; have H := H2; clear H2) | (refine Mm.get0 rtE H rfl (.tmp 9) rfl rfl rfl ?_) | (go_at_call 55; refine (cc.out _).mono ?_; rintro e _ ⟨rfl, hb⟩; replace H := hidp (H.out.call hb); clear hb) | (refine Mm.put1 rtE H rfl (.tmp 6) (.tmp 28) e.row rfl rfl rfl rfl (Ev.one _) rfl ?_; intro _ H2 st; clear st H; have H := H2; clear H2))
      refine bodyPost_ret (Mm.ret_rowv rtE Tryz.results9 _ b6 _ _ rfl rfl H.out.at1 rfl) rfl ⟨by rw [HGV.out, HGE.out]; rfl, H.out.below⟩

set_option maxHeartbeats 8000000 in
theorem mem_any (w : World) (v : Value) (cs : List Ce) (hv : CsAt w v cs) (y : ByteArray) :
    Calls Tryz.prog 15 #[v, .string y] w fun x w' => x = .returned (.string (memS cs y)) ∧ Below w.heap.size w w' := by
  have HV := hidp hv
  have cf := hidp (fun W h => sfirst_any W v cs h 2 y)
  have H := hidp (Mm.M.nil w)
  cases hf : firS cs 2 y with
  | none =>
    rw [hf] at cf
    have HM := hidp (show memS cs y = wLeave from by unfold memS; rw [hf]; rfl)
    simp only [foV] at cf
    clear hv hf
    go_enter Tryz.func15, Tryz.ntmps15
    go_wp2_with (first | (go_at_call 54; refine (cf.out _ (HV.out.to H.out.below)).mono ?_; rintro e _ ⟨rfl, hb⟩; replace H := hidp (H.out.call hb); clear hb) | (refine Mm.new rtE H (some 5) rfl rfl rfl ?_; clear H; intro b5 _ H nw; have hb := nw.below; clear hb nw) | (refine Mm.put0 rtE H rfl (.tmp 5) (.tmp 11) zEv.row rfl rfl rfl rfl (Ev.one _) rfl ?_; intro _ H2 st; clear st H; have H := H2; clear H2))
    go_ret
    exact ⟨by rw [HM.out]; rfl, H.out.below⟩
  | some e =>
    have he := firS_ok hv.ok hf
    rw [hf] at cf
    have HM := hidp (show memS cs y = e.body from by unfold memS; rw [hf]; rfl)
    have cc := hidp (fun W => strClone_any e.body W he.b)
    simp only [foV] at cf
    clear hv hf
    go_enter Tryz.func15, Tryz.ntmps15
    go_wp2_with (first | (go_at_call 54; refine (cf.out _ (HV.out.to H.out.below)).mono ?_; rintro e _ ⟨rfl, hb⟩; replace H := hidp (H.out.call hb); clear hb) | (refine Mm.new rtE H (some 5) rfl rfl rfl ?_; clear H; intro b5 _ H nw; have hb := nw.below; clear hb nw) | (refine Mm.put0 rtE H rfl (.tmp 5) (.tmp 11) e.row rfl rfl rfl rfl (Ev.one _) rfl ?_; intro _ H2 st; clear st H; have H := H2; clear H2) | (refine Mm.ld0 naS H rfl (.tmp 15) 4 (.string e.body) rfl rfl rfl ?_) | (go_at_call 59; refine (cc.out _).mono ?_; rintro e _ ⟨rfl, hb⟩; replace H := hidp (H.out.call hb); clear hb))
    go_ret
    exact ⟨by rw [HM.out]; rfl, H.out.below⟩
end Go.Proofs.YtiakfopdohcigaaGreatDoor
