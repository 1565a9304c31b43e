/-
  post: a queue's put and take.
-/
import Derived.Test.YtokakgjcegmabaaPoA
import Derived.Test.YtokakgjcegmabaaMm
import Derived.Test.YtokakgjcegmabaaOctJ
namespace Go.Proofs.Ytokakgjcegmabaa.Po
set_option maxRecDepth 100000
set_option linter.unusedVariables false
set_option linter.unusedSimpArgs false
open Go.RowKit
open List (getElem_toArray getElem_cons_zero getElem_cons_succ setIfInBounds_toArray set_cons_zero set_cons_succ)

open Go.Conc
/-- A letter. -/
structure Lt where
  id : Int
  to : Int
  tx : ByteArray
  sent : Bool
  at_ : Int
def Lt.row (x : Lt) : List Value := [.int .i64 x.id, .int .i64 x.to, .string x.tx, .bool x.sent, .int .i64 x.at_]
def zL : List Value := [.int .i64 0, .int .i64 0, .string ⟨#[]⟩, .bool false, .int .i64 0]
theorem rtL : Rt.RT Try.prog 96 5 zL := ⟨rfl, .inl ⟨_, Try.underlying96⟩, by kernel_rfl⟩
theorem Lt.one (x : Lt) : ∀ v ∈ x.row, v.oneCell' = true := by intro v hv; simp [Lt.row] at hv; rcases hv with rfl | rfl | rfl | rfl | rfl <;> rfl
def Ch (c : Nat) (w W : World) : Prop := Im all c (fun _ _ => False) w W
theorem load_L (W : World) (b : Nat) (xs : List Value) (hl : xs.length = 5) (h : Arr W b 96 xs) : (loadVar 96 ⟨b, 0, none⟩).run Try.prog W = .ok (.agg xs.toArray) W := by
  obtain ⟨fs, hu⟩ | ⟨n, e, hu⟩ := rtL.ut
  · exact run_loadVar_row W b 96 96 _ (0, 0) _ h hu rfl (rtL.size hl)
  · exact run_loadVar_row W b 96 96 _ (0, 0) _ h hu rfl (rtL.size hl)
theorem Ch.set (w : World) (c cap : Nat) (buf : Array Value) (cl : Bool) (s r : Nat) (tm : Bool) : Ch c w (w.setChan c cap buf cl s r tm) :=
  ⟨rfl, rfl, rfl, by rw [size_setChan]; exact Nat.le_refl _, fun k o hk hc _ _ => by simp only [World.setChan]; rw [Array.getElem?_setIfInBounds_ne (by omega)]; exact hk⟩
theorem loadop_L (W : World) (b : Nat) (xs : List Value) (hl : xs.length = 5) (h : Arr W b 96 xs) (o : Oper) (a : Act) (x : Operand) (ho : o.op = .load 96 x) (ex : a.eval x = .pointer (some ⟨b, 0, none⟩)) : (execOp a.eval o).run Try.prog W = .ok (.value (.agg xs.toArray)) W := by
  unfold execOp
  simp only [ho, ex, Instr.loadAt, Instr.sureAddr, Sem.run_bind, Sem.run_pure, Result.andThen_ok, load_L W b xs hl h]
theorem store_L (W : World) (b : Nat) (xs : List Value) (hx : xs.length = 5) (h : Arr W b 96 xs) (ys : List Value) (hy : ys.length = 5) (h1 : ∀ v ∈ ys, v.oneCell' = true) (o : Oper) (a : Act) (x y : Operand) (ho : o.op = .store 96 x y) (ex : a.eval x = .pointer (some ⟨b, 0, none⟩)) (ey : a.eval y = .agg ys.toArray) : (execOp a.eval o).run Try.prog W = .ok .skip (W.setRow b ys.toArray) := by
  unfold execOp
  simp only [ho, ex, ey, Instr.storeAt, Instr.sureAddr, Sem.run_bind, Sem.run_pure, Result.andThen_ok, run_storeVar_row W b 96 96 _ ys.toArray h (rtL.size hy) (by simp [hx, hy]) (by rw [Array.all_eq_true]; intro i hi; exact h1 _ (by simp))]
set_option maxHeartbeats 4000000 in
theorem put_room (w : World) (c cap : Nat) (xs : List Value) (x : Lt) (h : ChAt w c cap xs) (hr : xs.length < cap) :
    Calls Try.prog 45 #[.chan (some c), .agg x.row.toArray] w fun e w' => e = .returned (.bool true) ∧ ChAt w' c cap (xs ++ [.agg x.row.toArray]) ∧ Ch c w w' := by
  obtain ⟨s, r, h⟩ := h
  obtain ⟨id, to, tx, sent, at_⟩ := x
  simp only [Lt.row]
  have hlt := (Array.getElem?_eq_some_iff.1 h).1
  have h1 : (w.alloc (.cells #[.int .i64 id, .int .i64 to, .string tx, .bool sent, .int .i64 at_] 96)).heap[c]? = some (.chan cap xs.toArray false s r false) := (Below.heap_alloc _ _ _ hlt).trans h
  refine calls_of_loneTo fun cs => ?_
  have e : Frame.enter Try.prog 45 #[.chan (some c), .agg #[.int .i64 id, .int .i64 to, .string tx, .bool sent, .int .i64 at_]] .normal = (base 45).at ⟨#[.chan (some c), .agg #[.int .i64 id, .int .i64 to, .string tx, .bool sent, .int .i64 at_], undef, undef, undef, undef, undef, undef, undef, undef], []⟩ [.code (Try.f45.body.getD .skip)] := by
    simp [Frame.enter, Frame.at, Try.func45, base, Try.f45]
  rw [e]
  clear e
  have hld := load_L (w.alloc (.cells #[.int .i64 id, .int .i64 to, .string tx, .bool sent, .int .i64 at_] 96)) w.heap.size [.int .i64 id, .int .i64 to, .string tx, .bool sent, .int .i64 at_] rfl (Arr.new _ _ _)
  have hz := fun W => rtL.zero W
  simp only [zL] at hz
  refine LoneTo.goes (n := 30) ?_
  simp only [Try.f45, Option.getD_some]
  s_c stepG_seq
  s_reg
  s_op
  s_op
  s_c stepG_region_end
  s_c stepG_seq
  s_c stepG_seq
  s_reg
  s_op
  s_c stepG_region_end
  s_reg
  s_op
  s_c stepG_region_end
  s_c stepG_seq
  s_reg
  s_stop
  refine LoneTo.step (step_lone_select_send_room (c := c) (cap := cap) (buf := xs.toArray) (s := s) (r := r) (tm := false) (stepG_comm (cases := #[scase c (.agg #[.int .i64 id, .int .i64 to, .string tx, .bool sent, .int .i64 at_]) (.agg #[.int .i64 0, .int .i64 0, .string ⟨#[]⟩, .bool false, .int .i64 0])]) (blocking := false) (shape := .select) (w' := (w.alloc (.cells #[.int .i64 id, .int .i64 to, .string tx, .bool sent, .int .i64 at_] 96))) rfl rfl (by decide) (by simp [go_sem, execOp, scase, Act.eval, hz])) h1 (by simpa using hr)) ?_
  rw [Frame.finish_at]
  walk_nrm
  refine LoneTo.goes (n := 30) ?_
  s_op
  s_op
  s_c stepG_region_end
  s_c stepG_block
  s_cond true
  s_c stepG_seq
  s_reg
  s_op
  s_c stepG_region_end
  s_c stepG_ret'
  s_stop
  refine LoneTo.done ⟨.returned (.bool true), _, rfl, ⟨rfl, ?_, ?_⟩, rfl, rfl, rfl, rfl, _, Try.func45, by simp [results, Try.f45, Frame.at]⟩
  · exact ⟨s + 1, r, by
      have := heap_setChan (w.alloc (.cells #[.int .i64 id, .int .i64 to, .string tx, .bool sent, .int .i64 at_] 96)) c cap (xs.toArray.push (.agg #[.int .i64 id, .int .i64 to, .string tx, .bool sent, .int .i64 at_])) false (s + 1) r false (by simp; omega)
      simpa using this⟩
  · refine (Im.of_below ((Below.refl _ w).alloc (Nat.le_refl _) _)).trans (Ch.set _ _ _ _ _ _ _ _)

set_option maxHeartbeats 4000000 in
theorem put_full (w : World) (c cap : Nat) (xs : List Value) (x : Lt) (h : ChAt w c cap xs) (hr : cap ≤ xs.length) :
    Calls Try.prog 45 #[.chan (some c), .agg x.row.toArray] w fun e w' => e = .returned (.bool false) ∧ Below w.heap.size w w' := by
  obtain ⟨s, r, h⟩ := h
  obtain ⟨id, to, tx, sent, at_⟩ := x
  simp only [Lt.row]
  have hlt := (Array.getElem?_eq_some_iff.1 h).1
  have h1 : (w.alloc (.cells #[.int .i64 id, .int .i64 to, .string tx, .bool sent, .int .i64 at_] 96)).heap[c]? = some (.chan cap xs.toArray false s r false) := (Below.heap_alloc _ _ _ hlt).trans h
  refine calls_of_loneTo fun cs => ?_
  have e : Frame.enter Try.prog 45 #[.chan (some c), .agg #[.int .i64 id, .int .i64 to, .string tx, .bool sent, .int .i64 at_]] .normal = (base 45).at ⟨#[.chan (some c), .agg #[.int .i64 id, .int .i64 to, .string tx, .bool sent, .int .i64 at_], undef, undef, undef, undef, undef, undef, undef, undef], []⟩ [.code (Try.f45.body.getD .skip)] := by
    simp [Frame.enter, Frame.at, Try.func45, base, Try.f45]
  rw [e]
  clear e
  have hld := load_L (w.alloc (.cells #[.int .i64 id, .int .i64 to, .string tx, .bool sent, .int .i64 at_] 96)) w.heap.size [.int .i64 id, .int .i64 to, .string tx, .bool sent, .int .i64 at_] rfl (Arr.new _ _ _)
  have hz := fun W => rtL.zero W
  simp only [zL] at hz
  refine LoneTo.goes (n := 30) ?_
  simp only [Try.f45, Option.getD_some]
  s_c stepG_seq
  s_reg
  s_op
  s_op
  s_c stepG_region_end
  s_c stepG_seq
  s_c stepG_seq
  s_reg
  s_op
  s_c stepG_region_end
  s_reg
  s_op
  s_c stepG_region_end
  s_c stepG_seq
  s_reg
  s_stop
  refine LoneTo.step (step_lone_select_send_full (c := c) (cap := cap) (buf := xs.toArray) (s := s) (r := r) (tm := false) (stepG_comm (cases := #[scase c (.agg #[.int .i64 id, .int .i64 to, .string tx, .bool sent, .int .i64 at_]) (.agg #[.int .i64 0, .int .i64 0, .string ⟨#[]⟩, .bool false, .int .i64 0])]) (blocking := false) (shape := .select) (w' := (w.alloc (.cells #[.int .i64 id, .int .i64 to, .string tx, .bool sent, .int .i64 at_] 96))) rfl rfl (by decide) (by simp [go_sem, execOp, scase, Act.eval, hz])) h1 (by simpa using hr)) ?_
  rw [Frame.finish_at]
  walk_nrm
  refine LoneTo.goes (n := 30) ?_
  s_op
  s_op
  s_c stepG_region_end
  s_c stepG_block
  s_cond false
  s_c stepG_seq
  s_reg
  s_op
  s_c stepG_region_end
  s_c stepG_ret'
  s_stop
  refine LoneTo.done ⟨.returned (.bool false), _, rfl, ⟨rfl, ?_⟩, rfl, rfl, rfl, rfl, _, Try.func45, by simp [results, Try.f45, Frame.at]⟩
  exact (Below.refl _ w).alloc (Nat.le_refl _) _

set_option maxHeartbeats 4000000 in
theorem take_any (w : World) (c cap : Nat) (ys : List Value) (x : Lt) (h : ChAt w c cap (.agg x.row.toArray :: ys)) :
    Calls Try.prog 56 #[.chan (some c)] w fun e w' => e = .returned (.agg x.row.toArray) ∧ ChAt w' c cap ys ∧ Ch c w w' := by
  obtain ⟨s, r, h⟩ := h
  obtain ⟨id, to, tx, sent, at_⟩ := x
  simp only [Lt.row] at h ⊢
  have hlt := (Array.getElem?_eq_some_iff.1 h).1
  have h1 : (w.alloc (.cells #[.int .i64 0, .int .i64 0, .string ⟨#[]⟩, .bool false, .int .i64 0] 96)).heap[c]? = some (.chan cap (Value.agg #[.int .i64 id, .int .i64 to, .string tx, .bool sent, .int .i64 at_] :: ys).toArray false s r false) := (Below.heap_alloc _ _ _ hlt).trans h
  refine calls_of_loneTo fun cs => ?_
  have e : Frame.enter Try.prog 56 #[.chan (some c)] .normal = (base 56).at ⟨#[.chan (some c), undef, undef, undef, undef, undef, undef, undef, undef], []⟩ [.code (Try.f56.body.getD .skip)] := by
    simp [Frame.enter, Frame.at, Try.func56, base, Try.f56]
  rw [e]
  clear e
  have hz := fun W => rtL.zero W
  simp only [zL] at hz
  have ha1 : Arr (w.alloc (.cells #[.int .i64 0, .int .i64 0, .string ⟨#[]⟩, .bool false, .int .i64 0] 96)) w.heap.size 96 zL := Arr.new _ _ _
  obtain ⟨W2, hW2⟩ : ∃ W2, (w.alloc (.cells #[.int .i64 0, .int .i64 0, .string ⟨#[]⟩, .bool false, .int .i64 0] 96)).setChan c cap ((Value.agg #[.int .i64 id, .int .i64 to, .string tx, .bool sent, .int .i64 at_] :: ys).toArray.extract 1 (ys.length + 1)) false s (r + 1) false = W2 := ⟨_, rfl⟩
  have hc2 : Ch c (w.alloc (.cells #[.int .i64 0, .int .i64 0, .string ⟨#[]⟩, .bool false, .int .i64 0] 96)) W2 := by rw [← hW2]; exact Ch.set _ _ _ _ _ _ _ _
  have ha2 : Arr W2 w.heap.size 96 zL := hc2.arr ha1 (by omega) (fun h => h) trivial
  have hch2 : W2.heap[c]? = some (.chan cap ys.toArray false s (r + 1) false) := by
    rw [← hW2]
    have := heap_setChan (w.alloc (.cells #[.int .i64 0, .int .i64 0, .string ⟨#[]⟩, .bool false, .int .i64 0] 96)) c cap ((Value.agg #[.int .i64 id, .int .i64 to, .string tx, .bool sent, .int .i64 at_] :: ys).toArray.extract 1 (ys.length + 1)) false s (r + 1) false (by simp; omega)
    rw [this]; simp
  have hst := fun o a => store_L W2 w.heap.size zL rfl ha2 [.int .i64 id, .int .i64 to, .string tx, .bool sent, .int .i64 at_] rfl (by intro v hv; simp at hv; rcases hv with rfl | rfl | rfl | rfl | rfl <;> rfl) o a (.tmp 2) (.tmp 7)
  obtain ⟨W3, hW3⟩ : ∃ W3, W2.setRow w.heap.size #[.int .i64 id, .int .i64 to, .string tx, .bool sent, .int .i64 at_] = W3 := ⟨_, rfl⟩
  have ha3 : Arr W3 w.heap.size 96 [.int .i64 id, .int .i64 to, .string tx, .bool sent, .int .i64 at_] := by rw [← hW3]; exact Arr.row ha2 _
  have st3 : Rt.Stp w.heap.size W2 W3 := by rw [← hW3]; exact Rt.Stp.setRow _ _ _
  simp only [hW3] at hst
  have hld := fun o a => loadop_L W3 w.heap.size _ rfl ha3 o a (.tmp 2)
  have hst3 := fun o a => store_L W3 w.heap.size _ rfl ha3 [.int .i64 id, .int .i64 to, .string tx, .bool sent, .int .i64 at_] rfl (by intro v hv; simp at hv; rcases hv with rfl | rfl | rfl | rfl | rfl <;> rfl) o a (.tmp 2) (.tmp 8)
  obtain ⟨W4, hW4⟩ : ∃ W4, W3.setRow w.heap.size #[.int .i64 id, .int .i64 to, .string tx, .bool sent, .int .i64 at_] = W4 := ⟨_, rfl⟩
  have ha4 : Arr W4 w.heap.size 96 [.int .i64 id, .int .i64 to, .string tx, .bool sent, .int .i64 at_] := by rw [← hW4]; exact Arr.row ha3 _
  have st4 : Rt.Stp w.heap.size W3 W4 := by rw [← hW4]; exact Rt.Stp.setRow _ _ _
  simp only [hW4] at hst3
  have hld4 := load_L W4 w.heap.size _ rfl ha4
  refine LoneTo.goes (n := 30) ?_
  simp only [Try.f56, Option.getD_some]
  s_c stepG_seq
  s_reg
  s_op
  s_c stepG_region_end
  s_c stepG_seq
  s_c stepG_seq
  s_reg
  s_op
  s_c stepG_region_end
  s_c stepG_seq
  s_reg
  s_stop
  refine LoneTo.step (step_lone_select_recv_buf (c := c) (cap := cap) (buf := (Value.agg #[.int .i64 id, .int .i64 to, .string tx, .bool sent, .int .i64 at_] :: ys).toArray) (closed := false) (s := s) (r := r) (tm := false) (stepG_comm (cases := #[rcase c (.agg #[.int .i64 0, .int .i64 0, .string ⟨#[]⟩, .bool false, .int .i64 0])]) (blocking := false) (shape := .select) (w' := (w.alloc (.cells #[.int .i64 0, .int .i64 0, .string ⟨#[]⟩, .bool false, .int .i64 0] 96))) rfl rfl (by decide) (by simp [go_sem, execOp, rcase, Act.eval, hz])) h1 (by simp)) ?_
  rw [show (Value.agg #[.int .i64 id, .int .i64 to, .string tx, .bool sent, .int .i64 at_] :: ys).toArray.size = ys.length + 1 from by simp, hW2, show (Value.agg #[.int .i64 id, .int .i64 to, .string tx, .bool sent, .int .i64 at_] :: ys).toArray.getD 0 undef = .agg #[.int .i64 id, .int .i64 to, .string tx, .bool sent, .int .i64 at_] from by simp]
  rw [Frame.finish_at]
  walk_nrm
  refine LoneTo.goes (n := 30) ?_
  s_op
  s_op
  s_c stepG_region_end
  s_c stepG_block
  s_cond true
  s_reg
  s_op
  s_in
  refine goes_oper_k rfl rfl (by decide) (fun K hK => ?_)
  rw [hst _ _ rfl rfl rfl]
  refine hK _ _ ⟨trivial, ?_⟩
  clear hK K
  walk_nrm
  s_c stepG_region_end
  s_c stepG_inBlock
  s_c stepG_seq
  s_reg
  s_in
  refine goes_oper_k rfl rfl (by decide) (fun K hK => ?_)
  rw [hld _ _ rfl rfl]
  refine hK _ _ ⟨trivial, ?_⟩
  clear hK K
  walk_nrm
  s_in
  refine goes_oper_k rfl rfl (by decide) (fun K hK => ?_)
  rw [hst3 _ _ rfl rfl rfl]
  refine hK _ _ ⟨trivial, ?_⟩
  clear hK K
  walk_nrm
  s_c stepG_region_end
  s_c stepG_ret'
  s_stop
  refine LoneTo.done ⟨.returned (.agg #[.int .i64 id, .int .i64 to, .string tx, .bool sent, .int .i64 at_]), _, rfl, ⟨rfl, ?_, ?_⟩, rfl, rfl, rfl, rfl, _, Try.func56, by simp [results, Try.f56, Frame.at, asAddr, hld4]⟩
  · exact ⟨s, r + 1, ((st4.other c (by omega)).trans (st3.other c (by omega))).trans hch2⟩
  · have h01 : Below w.heap.size w (w.alloc (.cells #[.int .i64 0, .int .i64 0, .string ⟨#[]⟩, .bool false, .int .i64 0] 96)) := (Below.refl _ w).alloc (Nat.le_refl _) _
    refine ⟨?_, ?_, ?_, ?_, fun k o hk hc hl hp => ?_⟩
    · exact ((st4.below 0 (Nat.zero_le _)).os.trans (st3.below 0 (Nat.zero_le _)).os).trans (hc2.os.trans h01.os)
    · exact ((st4.below 0 (Nat.zero_le _)).tape.trans (st3.below 0 (Nat.zero_le _)).tape).trans (hc2.tape.trans h01.tape)
    · exact ((st4.below 0 (Nat.zero_le _)).output.trans (st3.below 0 (Nat.zero_le _)).output).trans (hc2.output.trans h01.output)
    · rw [st4.size, st3.size]; exact Nat.le_trans h01.size hc2.size
    · have hkl := (Array.getElem?_eq_some_iff.1 hk).1
      rw [st4.other k (by omega), st3.other k (by omega)]
      exact hc2.same k o ((h01.block k hkl).trans hk) hc hl hp

end Go.Proofs.Ytokakgjcegmabaa.Po
