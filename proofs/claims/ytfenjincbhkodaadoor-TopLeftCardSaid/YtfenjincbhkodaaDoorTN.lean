/-
  Joined: RdA.
-/
import Derived.Test.YtfenjincbhkodaaDoorTL
import Derived.Test.YtfenjincbhkodaaDoorTE
import Derived.Test.YtfenjincbhkodaaDoorTM
import Derived.Test.YtfenjincbhkodaaDoorTB
import Derived.Laws.Rows
namespace Go.Proofs.YtfenjincbhkodaaDoor
set_option maxRecDepth 100000
set_option linter.unusedVariables false
set_option linter.unusedSimpArgs false
open Go.RowKit

def z32 : List UInt8 := List.replicate 32 0
theorem infoHash : (Tryd.prog.info? 24).map (fun i => (i.zero, i.size, i.bytes)) = some (some (.agg (u8s z32).toArray), 32, 32) := by kernel_rfl
theorem hash_row : Tryd.prog.underlying 24 = some (.array 32 5) := by kernel_rfl
theorem zero_hash (w : World) : (zeroValue 24).run Tryd.prog w = .ok (.agg (u8s z32).toArray) w := by
  obtain ⟨i0, hi, hz0, hz1, hz2⟩ := info_parts infoHash
  simp [zeroValue, typeInfo, hi, hz0]
theorem hash_size {l : List UInt8} (h : l.length = 32) : (Tryd.prog.info? 24).map (·.size) = some (u8s l).toArray.size := by
  rw [show (Tryd.prog.info? 24).map (·.size) = some 32 from by kernel_rfl]; simp [u8s_length, h]
/-- What a step to a new world leaves: all blocks but one stand, and as many as there were. -/
structure Stp (b : Nat) (w W : World) : Prop where
  size : W.heap.size = w.heap.size
  other : ∀ c, c ≠ b → W.heap[c]? = w.heap[c]?
  below : ∀ N, N ≤ b → Below N w W
theorem Stp.setRow (w : World) (b : Nat) (xs : Array Value) : Stp b w (w.setRow b xs) := ⟨by simp, fun c hc => setRow_other w b c xs hc, fun N hN => below_setRow (Below.refl N w) hN xs⟩
theorem Stp.arr {w W : World} {b c t : Nat} {xs : List Value} (h : Stp b w W) (hc : c ≠ b) (ha : Arr w c t xs) : Arr W c t xs := (h.other c hc).trans ha
theorem Stp.below' {w0 w W : World} {b N : Nat} (h : Stp b w W) (hb : Below N w0 w) (hN : N ≤ b) : Below N w0 W := hb.trans (h.below N hN)

/-- A new block b that holds xs. -/
structure NewAt (w W : World) (b t : Nat) (xs : List Value) : Prop where
  at_ : b = w.heap.size
  size : W.heap.size = b + 1
  arr : Arr W b t xs
  below : Below w.heap.size w W
theorem NewAt.mk' (w : World) (t : Nat) (xs : List Value) : NewAt w (w.alloc (.cells xs.toArray t)) w.heap.size t xs := ⟨rfl, by simp, Arr.new _ _ _, (Below.refl _ w).alloc (Nat.le_refl _) _⟩
theorem NewAt.old {w W : World} {b t c u : Nat} {xs ys : List Value} (h : NewAt w W b t xs) (ha : Arr w c u ys) : Arr W c u ys := ha.below h.below ha.lt
theorem NewAt.lt {w W : World} {b t : Nat} {xs : List Value} (h : NewAt w W b t xs) : b < W.heap.size := h.arr.lt

theorem NewAt.put {w W W' : World} {b t : Nat} {xs : List Value} (h : NewAt w W b t xs) (k : Stp b W W') : Below w.heap.size w W' := h.below.trans (k.below _ (by rw [h.at_]; exact Nat.le_refl _))
theorem NewAt.le {w W : World} {b t : Nat} {xs : List Value} (h : NewAt w W b t xs) : w.heap.size ≤ b := by rw [h.at_]; exact Nat.le_refl _
theorem Stp.old {w W : World} {b c t : Nat} {xs : List Value} (h : Stp b w W) (ha : Arr w c t xs) (hc : c < b) : Arr W c t xs := h.arr (by omega) ha
section
variable {ops : Array Oper} {rest : List Oper} {o : Oper} {a : Act} {w : World} {Q : Exit → Act → World → Prop}
/-- A new variable of a hash's type. -/
theorem wpL_new (hgd : o.guard = none) (ho : o.op = .alloc 24)
    (h : ∀ b W, NewAt w W b 24 (u8s z32) → wpList Tryd.prog ops Q rest (a.put o.dst (.pointer (some ⟨b, 0, none⟩))) W) :
    wpList Tryd.prog ops Q (o :: rest) a w := by
  refine wpList_plain hgd fun K hK => ?_
  have := hK _ _ (h w.heap.size (w.alloc (.cells (u8s z32).toArray 24)) (NewAt.mk' _ _ _))
  unfold Oper.wp execOp
  simp only [ho, Instr.alloc, Sem.run_bind, Result.andThen_ok, zero_hash w]
  simp [newVar, newRow, Value.cells]
  exact this
/-- A hash is stored into a variable. -/
theorem wpL_put (hgd : o.guard = none) (x y : Operand) (ho : o.op = .store 24 x y) (b : Nat) (l : List UInt8) (hx : a.eval x = .pointer (some ⟨b, 0, none⟩)) (hy : a.eval y = .agg (u8s l).toArray) (hl : l.length = 32)
    (old : List Value) (hold : old.length = 32) (hg : Arr w b 24 old)
    (h : ∀ W, Arr W b 24 (u8s l) → Stp b w W → wpList Tryd.prog ops Q rest (a.put o.dst undef) W) : wpList Tryd.prog ops Q (o :: rest) a w :=
  wpList_store_row hgd 24 x y ho b (u8s l).toArray hx hy 24 _ hg (hash_size hl) (by simp [u8s_length, hl, hold]) (u8s_one _) (h _ (Arr.row hg _) (Stp.setRow _ _ _))
end
theorem build_hash (w : World) : (Instr.build 24 #[]).run Tryd.prog w = .ok (.agg (u8s z32).toArray) w := by
  obtain ⟨i0, hi, hz0, hz1, hz2⟩ := info_parts info5
  unfold Instr.build
  simp [Sem.run_bind, zero_hash w, run_underlying hash_row, sizeOf, typeInfo, hi, Instr.fill, Value.cells]
theorem wpL_zero {ops : Array Oper} {rest : List Oper} {o : Oper} {a : Act} {w : World} {Q : Exit → Act → World → Prop} (hgd : o.guard = none) (ho : o.op = .build 24 #[])
    (h : wpList Tryd.prog ops Q rest (a.put o.dst (.agg (u8s z32).toArray)) w) : wpList Tryd.prog ops Q (o :: rest) a w := by
  refine wpList_plain hgd fun K hK => ?_
  have := hK _ _ h
  unfold Oper.wp execOp
  simp only [ho, List.map_toArray, List.map_nil, Array.map_empty, Sem.run_bind, build_hash, Result.andThen_ok]
  exact this
theorem set1 {w : World} {b T : Nat} {xs : List Value} (h : Arr w b T xs) (i : Nat) (v : Value) : ∃ W, w.setCell ⟨b, i, none⟩ v = W ∧ Arr W b T (xs.set i v) ∧ Stp b w W :=
  ⟨_, rfl, h.set i v, by simp, fun c hc => Below.heap_setCell w ⟨b, i, none⟩ v c hc, fun N hN => (Below.refl N w).setCell (p := ⟨b, i, none⟩) hN v⟩
theorem sum_b (w : World) (s : ByteArray) (hs : s.size ≤ 281474976710656) (hK : Sh.KT w) :
    Calls Tryd.prog 91 #[.string s] w fun e w' => e = .returned (.agg (u8s (Sh.shaL s.data.toList)).toArray) ∧ Below w.heap.size w w' := Sh.sum_any w s hs hK
theorem ev_size (xs : List Value) (h : xs.length = 6) : (Tryd.prog.info? 59).map (·.size) = some xs.toArray.size := by
  rw [show (Tryd.prog.info? 59).map (·.size) = some 6 from by kernel_rfl]; simp [h]
theorem ev_row : ∃ fs, Tryd.prog.underlying 59 = some (.struct fs) := ⟨_, Tryd.underlying59⟩
theorem infoEv : (Tryd.prog.info? 59).map (fun i => (i.zero, i.size)) = some (some (.agg #[.string ⟨#[]⟩, .string ⟨#[]⟩, .int .u8 0, .string ⟨#[]⟩, .string ⟨#[]⟩, .int .i64 0]), 6) := by kernel_rfl
theorem zero_ev (w : World) : (zeroValue 59).run Tryd.prog w = .ok (.agg #[.string ⟨#[]⟩, .string ⟨#[]⟩, .int .u8 0, .string ⟨#[]⟩, .string ⟨#[]⟩, .int .i64 0]) w := by
  have hi0 := infoEv
  cases hi : Tryd.prog.info? 59 with
  | none => rw [hi] at hi0; cases hi0
  | some i0 =>
    rw [hi] at hi0
    simp only [Option.map_some, Option.some.injEq, Prod.mk.injEq] at hi0
    obtain ⟨hz0, -⟩ := hi0
    simp [zeroValue, typeInfo, hi, hz0]
section
variable {ops : Array Oper} {rest : List Oper} {o : Oper} {a : Act} {w : World} {Q : Exit → Act → World → Prop}
theorem wpL_newE (hgd : o.guard = none) (ho : o.op = .alloc 59)
    (h : ∀ b W, NewAt w W b 59 [.string ⟨#[]⟩, .string ⟨#[]⟩, .int .u8 0, .string ⟨#[]⟩, .string ⟨#[]⟩, .int .i64 0] → wpList Tryd.prog ops Q rest (a.put o.dst (.pointer (some ⟨b, 0, none⟩))) W) :
    wpList Tryd.prog ops Q (o :: rest) a w := by
  refine wpList_plain hgd fun K hK => ?_
  have := hK _ _ (h w.heap.size (w.alloc (.cells #[.string ⟨#[]⟩, .string ⟨#[]⟩, .int .u8 0, .string ⟨#[]⟩, .string ⟨#[]⟩, .int .i64 0] 59)) (NewAt.mk' _ _ _))
  unfold Oper.wp execOp
  simp only [ho, Instr.alloc, Sem.run_bind, Result.andThen_ok, zero_ev w]
  simp [newVar, newRow, Value.cells]
  exact this
theorem wpL_boxT (T : TypeId) (hgd : o.guard = none) (x : Operand) (ho : o.op = .box T x) (xs : List Value) (hx : a.eval x = .agg xs.toArray)
    (h : ∀ b W, NewAt w W b T xs → wpList Tryd.prog ops Q rest (a.put o.dst (.pointer (some ⟨b, 0, none⟩))) W) :
    wpList Tryd.prog ops Q (o :: rest) a w := by
  refine wpList_plain hgd fun K hK => ?_
  have := hK _ _ (h w.heap.size (w.alloc (.cells xs.toArray T)) (NewAt.mk' _ _ _))
  unfold Oper.wp execOp
  simp only [ho, Instr.box, Sem.run_bind, Result.andThen_ok, hx]
  simp [newVar, newRow, Value.cells]
  exact this
theorem wpL_putE (hgd : o.guard = none) (x y : Operand) (ho : o.op = .store 59 x y) (b : Nat) (xs : List Value) (hx : a.eval x = .pointer (some ⟨b, 0, none⟩)) (hy : a.eval y = .agg xs.toArray) (hl : xs.length = 6)
    (h1 : xs.toArray.all (·.oneCell') = true) (ys : List Value) (hl2 : ys.length = 6) (hg : Arr w b 59 ys)
    (h : ∀ W, Arr W b 59 xs → Stp b w W → wpList Tryd.prog ops Q rest (a.put o.dst undef) W) : wpList Tryd.prog ops Q (o :: rest) a w :=
  wpList_store_row hgd 59 x y ho b xs.toArray hx hy 59 _ hg (ev_size xs hl) (by simp [hl, hl2]) h1 (h _ (Arr.row hg _) (Stp.setRow _ _ _))
theorem wpL_getE (hgd : o.guard = none) (x : Operand) (ho : o.op = .load 59 x) (b : Nat) (xs : List Value) (hx : a.eval x = .pointer (some ⟨b, 0, none⟩)) (hl : xs.length = 6) (hg : Arr w b 59 xs)
    (h : wpList Tryd.prog ops Q rest (a.put o.dst (.agg xs.toArray)) w) : wpList Tryd.prog ops Q (o :: rest) a w := by
  obtain ⟨fs, hu⟩ := ev_row
  exact wpList_load_row hgd 59 x ho b hx 59 _ (0, 0) _ hg hu rfl (ev_size xs hl) h
end

/-- What remains of a body. -/
def rdb (k : Nat) (b : ByteArray) : ByteArray := if k = 6 ∨ k = 5 then ⟨#[]⟩ else b
theorem rdb_size (k : Nat) (b : ByteArray) : (rdb k b).size ≤ b.size := by unfold rdb; split; exact Nat.zero_le _; exact Nat.le_refl _
theorem rdb_twice (k : Nat) (b : ByteArray) : rdb k (rdb k b) = rdb k b := by unfold rdb; split <;> simp_all
/-- The hash of a mark and an event's bytes. -/
def markH (c : UInt8) (e : Ev) : List UInt8 := if evOk e = true then Sh.shaL (c :: (evB e).data.toList) else z32
theorem markH_len (c : UInt8) (e : Ev) : (markH c e).length = 32 := by unfold markH; split; exact Sh.shaL_len _; rfl
/-- The hash of what remains of an event. -/
def refH (r s : ByteArray) (k : Nat) (y b : ByteArray) (n : Int) : List UInt8 := if evOk (⟨r, s, k, y, b, n⟩ : Ev) = true then markH 6 (⟨r, s, k, y, rdb k b, n⟩ : Ev) else z32
theorem refH_len (r s : ByteArray) (k : Nat) (y b : ByteArray) (n : Int) : (refH r s k y b n).length = 32 := by unfold refH; split; exact markH_len _ _; rfl
theorem rd_ok (r s : ByteArray) (k : Nat) (y b : ByteArray) (n : Int) (h : evOk (⟨r, s, k, y, b, n⟩ : Ev) = true) : evOk (⟨r, s, k, y, rdb k b, n⟩ : Ev) = true := by
  obtain ⟨⟨n1, h1⟩, ⟨n2, h2⟩, h3, h4, h5, h6, h7, h8⟩ := evOk_parts h
  have := rdb_size k b
  unfold evOk
  simp only at h1 h2 h3 h4 h5 h6 h7 h8 ⊢
  rw [h1, h2, h5]
  simp
  omega
theorem evB_size {e : Ev} (h : evOk e = true) : (evB e).size ≤ 65536 := by
  have hL := evL_ok h
  unfold evB; rw [if_pos h, mkS_size]; unfold encL
  have h1 := encTs_len _ hL.2
  have h2 := encN_len64 (evL e).length (by unfold evL; simp)
  have h3 : (evL e).length = 6 := rfl
  simp only [List.length_append] at h1 h2 ⊢; omega

set_option maxHeartbeats 8000000 in
theorem evClone_any (w : World) (r s : ByteArray) (k : Nat) (y b : ByteArray) (n : Int) (hk : k < 256) (hr : r.size ≤ 281474976710656) (hs : s.size ≤ 281474976710656) (hy : y.size ≤ 281474976710656) (hb : b.size ≤ 281474976710656) :
    Calls Tryd.prog 61 #[.agg #[.string r, .string s, .int .u8 (k : Int), .string y, .string b, .int .i64 n]] w fun e w' => e = .returned (.agg #[.string r, .string s, .int .u8 (k : Int), .string y, .string b, .int .i64 n]) ∧ Below w.heap.size w w' := by
  have c0 := hidp (fun W => strClone_any r W hr); have c1 := hidp (fun W => strClone_any s W hs); have c3 := hidp (fun W => strClone_any y W hy); have c4 := hidp (fun W => strClone_any b W hb)
  go_enter Tryd.func61, Tryd.ntmps61
  go_wp2_with (first | (refine wpL_boxT 59 rfl _ rfl [.string r, .string s, .int .u8 (k : Int), .string y, .string b, .int .i64 n] rfl ?_; intro b1 w1 n1) | (refine wpL_newE rfl rfl ?_; intro b2 w2 n2; have HA := hidp (n2.old n1.arr); have HR := hidp n2.arr; have HB := hidp (n1.below.trans (n2.below.mono n1.below.size)); have h1w := hidp n1.le; have h2w := hidp (Nat.le_trans n1.below.size n2.le); have hne : b1 ≠ b2 := (by have := n2.at_; have := n1.lt; omega); clear n1 n2; obtain ⟨x0, x1, x2, x3, x4, x5, f0, f1, f2, f3, f4, f5⟩ := arr6f HA.out))
  clear x0 x1 x2 x3 x4 x5 f0 f1 f2 f3 f4 f5
  refine (c0.out _).mono ?_
  rintro e w03 ⟨rfl, hb03⟩
  have HB03 := hidp (HB.out.trans (hb03.mono HB.out.size)); have HA03 := hidp (HA.out.below hb03 HA.out.lt); have HR03 := hidp (HR.out.below hb03 HR.out.lt)
  clear hb03 HB HA HR
  obtain ⟨x0, x1, x2, x3, x4, x5, f0, f1, f2, f3, f4, f5⟩ := arr6f HA03.out
  go_wp2_with fail
  clear x0 x1 x2 x3 x4 x5 f0 f1 f2 f3 f4 f5
  obtain ⟨W0, hW0, ha0, hp0⟩ := set1 HA03.out 0 (.string r)
  rw [hW0]
  have HA04 := hidp (show Arr W0 b1 59 [.string r, .string s, .int .u8 (k : Int), .string y, .string b, .int .i64 n] from ha0); have HR04 := hidp (hp0.arr (Ne.symm hne) HR03.out); have HB04 := hidp (hp0.below' HB03.out h1w.out)
  clear hW0 ha0 hp0 HA03 HR03 HB03
  refine (c1.out _).mono ?_
  rintro e w13 ⟨rfl, hb13⟩
  have HB13 := hidp (HB04.out.trans (hb13.mono HB04.out.size)); have HA13 := hidp (HA04.out.below hb13 HA04.out.lt); have HR13 := hidp (HR04.out.below hb13 HR04.out.lt)
  clear hb13 HB04 HA04 HR04
  obtain ⟨x0, x1, x2, x3, x4, x5, f0, f1, f2, f3, f4, f5⟩ := arr6f HA13.out
  go_wp2_with fail
  clear x0 x1 x2 x3 x4 x5 f0 f1 f2 f3 f4 f5
  obtain ⟨W1, hW1, ha1, hp1⟩ := set1 HA13.out 1 (.string s)
  rw [hW1]
  have HA14 := hidp (show Arr W1 b1 59 [.string r, .string s, .int .u8 (k : Int), .string y, .string b, .int .i64 n] from ha1); have HR14 := hidp (hp1.arr (Ne.symm hne) HR13.out); have HB14 := hidp (hp1.below' HB13.out h1w.out)
  clear hW1 ha1 hp1 HA13 HR13 HB13
  refine (c3.out _).mono ?_
  rintro e w23 ⟨rfl, hb23⟩
  have HB23 := hidp (HB14.out.trans (hb23.mono HB14.out.size)); have HA23 := hidp (HA14.out.below hb23 HA14.out.lt); have HR23 := hidp (HR14.out.below hb23 HR14.out.lt)
  clear hb23 HB14 HA14 HR14
  obtain ⟨x0, x1, x2, x3, x4, x5, f0, f1, f2, f3, f4, f5⟩ := arr6f HA23.out
  go_wp2_with fail
  clear x0 x1 x2 x3 x4 x5 f0 f1 f2 f3 f4 f5
  obtain ⟨W2, hW2, ha2, hp2⟩ := set1 HA23.out 3 (.string y)
  rw [hW2]
  have HA24 := hidp (show Arr W2 b1 59 [.string r, .string s, .int .u8 (k : Int), .string y, .string b, .int .i64 n] from ha2); have HR24 := hidp (hp2.arr (Ne.symm hne) HR23.out); have HB24 := hidp (hp2.below' HB23.out h1w.out)
  clear hW2 ha2 hp2 HA23 HR23 HB23
  refine (c4.out _).mono ?_
  rintro e w33 ⟨rfl, hb33⟩
  have HB33 := hidp (HB24.out.trans (hb33.mono HB24.out.size)); have HA33 := hidp (HA24.out.below hb33 HA24.out.lt); have HR33 := hidp (HR24.out.below hb33 HR24.out.lt)
  clear hb33 HB24 HA24 HR24
  obtain ⟨x0, x1, x2, x3, x4, x5, f0, f1, f2, f3, f4, f5⟩ := arr6f HA33.out
  have HA34 := hidp (show Arr (w33.setCell ⟨b1, 4, none⟩ (.string b)) b1 59 [.string r, .string s, .int .u8 (k : Int), .string y, .string b, .int .i64 n] from HA33.out.set 4 (.string b)); have HR34 := hidp (HR33.out.other ⟨b1, 4, none⟩ (Ne.symm hne) (.string b)); have HB34 := hidp (HB33.out.setCell (p := ⟨b1, 4, none⟩) h1w.out (.string b))
  go_wp2_with (first | (refine wpL_getE rfl (.tmp 1) rfl b1 [.string r, .string s, .int .u8 (k : Int), .string y, .string b, .int .i64 n] rfl rfl HA34.out ?_) | (refine wpL_putE rfl (.tmp 2) (.tmp 19) rfl b2 [.string r, .string s, .int .u8 (k : Int), .string y, .string b, .int .i64 n] rfl rfl rfl (by simp [Value.oneCell']) _ rfl HR34.out ?_; intro w9 ha9 hp9))
  have HB9 := hidp (hp9.below' HB34.out h2w.out)
  obtain ⟨fs, hu⟩ := ev_row
  refine bodyPost_ret (results_cell_row (P := Tryd.prog) (p := 2) (ty := 59) Tryd.results61 _ _ b2 59 _ (0, 0) _ rfl ha9 hu rfl (ev_size [.string r, .string s, .int .u8 (k : Int), .string y, .string b, .int .i64 n] rfl)) rfl ⟨rfl, HB9.out⟩

set_option maxHeartbeats 8000000 in
theorem redact_any (w : World) (r s : ByteArray) (k : Nat) (y b : ByteArray) (n : Int) (hk : k < 256) (hr : r.size ≤ 281474976710656) (hs : s.size ≤ 281474976710656) (hy : y.size ≤ 281474976710656) (hb : b.size ≤ 281474976710656) :
    Calls Tryd.prog 27 #[.agg #[.string r, .string s, .int .u8 (k : Int), .string y, .string b, .int .i64 n]] w fun e w' => e = .returned (.agg #[.string r, .string s, .int .u8 (k : Int), .string y, .string (rdb k b), .int .i64 n]) ∧ Below w.heap.size w w' := by
  have cc := hidp (fun W => evClone_any W r s k y b n hk hr hs hy hb)
  have c0 := hidp (fun W => evClone_any W r s k y ⟨#[]⟩ n hk hr hs hy (by decide))
  by_cases h6 : k = 6
  · have e6 : ((k : Int) == 6) = true := by rw [h6]; rfl
    have hk56 : k = 6 := h6
    clear h6
    go_enter Tryd.func27, Tryd.ntmps27
    have hrb := hidp (show rdb k b = ⟨#[]⟩ from if_pos (by omega))
    clear hk56
    go_wp2_with (first | (refine wpL_boxT 59 rfl _ rfl [.string r, .string s, .int .u8 (k : Int), .string y, .string b, .int .i64 n] rfl ?_; intro b1 w1 n1) | (refine wpL_newE rfl rfl ?_; intro b2 w2 n2; have HA := hidp (n2.old n1.arr); have HR := hidp n2.arr; have HB := hidp (n1.below.trans (n2.below.mono n1.below.size)); have h1w := hidp n1.le; have h2w := hidp (Nat.le_trans n1.below.size n2.le); have hne : b1 ≠ b2 := (by have := n2.at_; have := n1.lt; omega); clear n1 n2; obtain ⟨x0, x1, x2, x3, x4, x5, f0, f1, f2, f3, f4, f5⟩ := arr6f HA.out; have HA5 := hidp (show Arr (w2.setCell ⟨b1, 4, none⟩ (.string ⟨#[]⟩)) b1 59 [.string r, .string s, .int .u8 (k : Int), .string y, .string ⟨#[]⟩, .int .i64 n] from HA.out.set 4 (.string ⟨#[]⟩)); have HR5 := hidp (HR.out.other ⟨b1, 4, none⟩ (Ne.symm hne) (.string ⟨#[]⟩)); have HB5 := hidp (HB.out.setCell (p := ⟨b1, 4, none⟩) h1w.out (.string ⟨#[]⟩))) | (refine wpL_getE rfl (.tmp 1) rfl b1 [.string r, .string s, .int .u8 (k : Int), .string y, .string ⟨#[]⟩, .int .i64 n] rfl rfl HA5.out ?_))
    clear x0 x1 x2 x3 x4 x5 f0 f1 f2 f3 f4 f5
    refine (c0.out _).mono ?_
    rintro e w8 ⟨rfl, hb8⟩
    have HB8 := hidp (HB5.out.trans (hb8.mono HB5.out.size)); have HR8 := hidp (HR5.out.below hb8 HR5.out.lt)
    clear hb8 HB5 HR5
    go_wp2_with (refine wpL_putE rfl (.tmp 2) (.tmp 10) rfl b2 [.string r, .string s, .int .u8 (k : Int), .string y, .string ⟨#[]⟩, .int .i64 n] rfl rfl rfl (by simp [Value.oneCell']) _ rfl HR8.out ?_; intro w9 ha9 hp9)
    have HB9 := hidp (hp9.below' HB8.out h2w.out)
    obtain ⟨fs, hu⟩ := ev_row
    refine bodyPost_ret (results_cell_row (P := Tryd.prog) (p := 2) (ty := 59) Tryd.results27 _ _ b2 59 _ (0, 0) _ rfl ha9 hu rfl (ev_size [.string r, .string s, .int .u8 (k : Int), .string y, .string ⟨#[]⟩, .int .i64 n] rfl)) rfl ⟨by rw [hrb.out], HB9.out⟩
  · have e6 : ((k : Int) == 6) = false := by simp; omega
    have n6 : ¬ k = 6 := h6
    by_cases h5 : k = 5
    · have e5 : ((k : Int) == 5) = true := by rw [h5]; rfl
      have hk56 : k = 5 := h5
      clear h5 n6 h6
      go_enter Tryd.func27, Tryd.ntmps27
      have hrb := hidp (show rdb k b = ⟨#[]⟩ from if_pos (by omega))
      clear hk56
      go_wp2_with (first | (refine wpL_boxT 59 rfl _ rfl [.string r, .string s, .int .u8 (k : Int), .string y, .string b, .int .i64 n] rfl ?_; intro b1 w1 n1) | (refine wpL_newE rfl rfl ?_; intro b2 w2 n2; have HA := hidp (n2.old n1.arr); have HR := hidp n2.arr; have HB := hidp (n1.below.trans (n2.below.mono n1.below.size)); have h1w := hidp n1.le; have h2w := hidp (Nat.le_trans n1.below.size n2.le); have hne : b1 ≠ b2 := (by have := n2.at_; have := n1.lt; omega); clear n1 n2; obtain ⟨x0, x1, x2, x3, x4, x5, f0, f1, f2, f3, f4, f5⟩ := arr6f HA.out; have HA5 := hidp (show Arr (w2.setCell ⟨b1, 4, none⟩ (.string ⟨#[]⟩)) b1 59 [.string r, .string s, .int .u8 (k : Int), .string y, .string ⟨#[]⟩, .int .i64 n] from HA.out.set 4 (.string ⟨#[]⟩)); have HR5 := hidp (HR.out.other ⟨b1, 4, none⟩ (Ne.symm hne) (.string ⟨#[]⟩)); have HB5 := hidp (HB.out.setCell (p := ⟨b1, 4, none⟩) h1w.out (.string ⟨#[]⟩))) | (refine wpL_getE rfl (.tmp 1) rfl b1 [.string r, .string s, .int .u8 (k : Int), .string y, .string ⟨#[]⟩, .int .i64 n] rfl rfl HA5.out ?_))
      clear x0 x1 x2 x3 x4 x5 f0 f1 f2 f3 f4 f5
      refine (c0.out _).mono ?_
      rintro e w8 ⟨rfl, hb8⟩
      have HB8 := hidp (HB5.out.trans (hb8.mono HB5.out.size)); have HR8 := hidp (HR5.out.below hb8 HR5.out.lt)
      clear hb8 HB5 HR5
      go_wp2_with (refine wpL_putE rfl (.tmp 2) (.tmp 10) rfl b2 [.string r, .string s, .int .u8 (k : Int), .string y, .string ⟨#[]⟩, .int .i64 n] rfl rfl rfl (by simp [Value.oneCell']) _ rfl HR8.out ?_; intro w9 ha9 hp9)
      have HB9 := hidp (hp9.below' HB8.out h2w.out)
      obtain ⟨fs, hu⟩ := ev_row
      refine bodyPost_ret (results_cell_row (P := Tryd.prog) (p := 2) (ty := 59) Tryd.results27 _ _ b2 59 _ (0, 0) _ rfl ha9 hu rfl (ev_size [.string r, .string s, .int .u8 (k : Int), .string y, .string ⟨#[]⟩, .int .i64 n] rfl)) rfl ⟨by rw [hrb.out], HB9.out⟩
    · have e5 : ((k : Int) == 5) = false := by simp; omega
      have n5 : ¬ k = 5 := h5
      have hk56 : k ≠ 5 ∧ k ≠ 6 := ⟨h5, h6⟩
      go_enter Tryd.func27, Tryd.ntmps27
      have hrb := hidp (show rdb k b = b from if_neg (by omega))
      clear hk56
      go_wp2_with (first | (refine wpL_boxT 59 rfl _ rfl [.string r, .string s, .int .u8 (k : Int), .string y, .string b, .int .i64 n] rfl ?_; intro b1 w1 n1) | (refine wpL_newE rfl rfl ?_; intro b2 w2 n2; have HA := hidp (n2.old n1.arr); have HR := hidp n2.arr; have HB := hidp (n1.below.trans (n2.below.mono n1.below.size)); have h1w := hidp n1.le; have h2w := hidp (Nat.le_trans n1.below.size n2.le); have hne : b1 ≠ b2 := (by have := n2.at_; have := n1.lt; omega); clear n1 n2; obtain ⟨x0, x1, x2, x3, x4, x5, f0, f1, f2, f3, f4, f5⟩ := arr6f HA.out) | (refine wpL_getE rfl (.tmp 1) rfl b1 [.string r, .string s, .int .u8 (k : Int), .string y, .string b, .int .i64 n] rfl rfl HA.out ?_))
      clear x0 x1 x2 x3 x4 x5 f0 f1 f2 f3 f4 f5
      refine (cc.out _).mono ?_
      rintro e w8 ⟨rfl, hb8⟩
      have HB8 := hidp (HB.out.trans (hb8.mono HB.out.size)); have HR8 := hidp (HR.out.below hb8 HR.out.lt)
      clear hb8 HB HR
      go_wp2_with (refine wpL_putE rfl (.tmp 2) (.tmp 10) rfl b2 [.string r, .string s, .int .u8 (k : Int), .string y, .string b, .int .i64 n] rfl rfl rfl (by simp [Value.oneCell']) _ rfl HR8.out ?_; intro w9 ha9 hp9)
      have HB9 := hidp (hp9.below' HB8.out h2w.out)
      obtain ⟨fs, hu⟩ := ev_row
      refine bodyPost_ret (results_cell_row (P := Tryd.prog) (p := 2) (ty := 59) Tryd.results27 _ _ b2 59 _ (0, 0) _ rfl ha9 hu rfl (ev_size [.string r, .string s, .int .u8 (k : Int), .string y, .string b, .int .i64 n] rfl)) rfl ⟨by rw [hrb.out], HB9.out⟩

theorem mark_cat (c : UInt8) (s : ByteArray) : ((⟨#[c]⟩ : ByteArray) ++ s).data.toList = c :: s.data.toList := by simp
set_option maxHeartbeats 8000000 in
theorem esum_any (w : World) (c : UInt8) (r s : ByteArray) (k : Nat) (y b : ByteArray) (n : Int) (hk : k < 256) (hr : r.size ≤ 281474976710656) (hs : s.size ≤ 281474976710656) (hy : y.size ≤ 281474976710656) (hb : b.size ≤ 281474976710656) (hI : IT w) (hW : WT w) (hK : Sh.KT w) :
    Calls Tryd.prog 67 #[.string ⟨#[c]⟩, .agg #[.string r, .string s, .int .u8 (k : Int), .string y, .string b, .int .i64 n]] w fun e w' => e = .returned (.tuple #[.agg (u8s (markH c (⟨r, s, k, y, b, n⟩ : Ev))).toArray, .int .i64 (evE (⟨r, s, k, y, b, n⟩ : Ev))]) ∧ Below w.heap.size w w' := by
  have cb := hidp (fun W (h : IT W) (h2 : WT W) => evBytes_any W r s k y b n hk hr hs hy hb h h2)
  have HI := hidp hI; have HW := hidp hW; have HK := hidp hK; have hkp := hK.pos; clear hI hW hK
  cases hok : evOk (⟨r, s, k, y, b, n⟩ : Ev) with
  | false =>
    have HE := hidp (show evE (⟨r, s, k, y, b, n⟩ : Ev) = 2 from by unfold evE; rw [hok]; rfl)
    have h2 : evB (⟨r, s, k, y, b, n⟩ : Ev) = ⟨#[]⟩ := by unfold evB; rw [hok]; rfl
    have HF := hidp (show markH c (⟨r, s, k, y, b, n⟩ : Ev) = z32 from by unfold markH; rw [hok]; rfl)
    rw [HE.out, h2] at cb
    clear h2 hok
    go_enter Tryd.func67, Tryd.ntmps67
    go_wp2_with (first | (refine wpL_boxT 59 rfl _ rfl [.string r, .string s, .int .u8 (k : Int), .string y, .string b, .int .i64 n] rfl ?_; intro b1 w1 n1) | (refine wpL_new rfl rfl ?_; intro b2 w2 n2; have HA := hidp (n2.old n1.arr); have HR := hidp n2.arr; have HB := hidp (n1.below.trans (n2.below.mono n1.below.size)); have h1w := hidp n1.le; have h2w := hidp (Nat.le_trans n1.below.size n2.le); have hne : b1 ≠ b2 := (by have := n2.at_; have := n1.lt; omega); clear n1 n2; obtain ⟨x0, x1, x2, x3, x4, x5, f0, f1, f2, f3, f4, f5⟩ := arr6f HA.out))
    clear x0 x1 x2 x3 x4 x5 f0 f1 f2 f3 f4 f5
    refine (cb.out _ (HI.out.below HB.out (Nat.le_refl _)) (HW.out.below HB.out (Nat.le_refl _))).mono ?_
    rintro e w8 ⟨rfl, hb8⟩
    have HB8 := hidp (HB.out.trans (hb8.mono HB.out.size)); have HR8 := hidp (HR.out.below hb8 HR.out.lt)
    clear hb8 HB HR
    go_wp2_with (first | (refine wpL_zero rfl rfl ?_) | (refine wpL_put rfl (.tmp 4) (.tmp 15) rfl b2 z32 rfl rfl rfl _ rfl HR8.out ?_; intro w9 ha9 hp9))
    have HBZ := hidp (hp9.below' HB8.out h2w.out)
    refine bodyPost_ret (results_row_tmp (P := Tryd.prog) (p := 4) (u := 5) (ty := 24) Tryd.results67 _ _ b2 24 (u8s z32).toArray (0, 0) _ rfl ha9 hash_row rfl (hash_size rfl) _ rfl) rfl ⟨by rw [HF.out, HE.out]; rfl, HBZ.out⟩
  | true =>
    have HE := hidp (show evE (⟨r, s, k, y, b, n⟩ : Ev) = 0 from by unfold evE; rw [hok]; rfl)
    have hbs := evB_size hok
    have HF := hidp (show markH c (⟨r, s, k, y, b, n⟩ : Ev) = Sh.shaL (c :: (evB (⟨r, s, k, y, b, n⟩ : Ev)).data.toList) from if_pos hok)
    rw [HE.out] at cb
    obtain ⟨B, hB⟩ : ∃ B, evB (⟨r, s, k, y, b, n⟩ : Ev) = B := ⟨_, rfl⟩
    rw [hB] at cb hbs HF
    obtain ⟨C, hC⟩ : ∃ C, (⟨#[c]⟩ : ByteArray) = C := ⟨_, rfl⟩
    have hCs : C.size = 1 := by rw [← hC]; rfl
    have hsz : (C ++ B).size ≤ 65537 := by rw [ByteArray.size_append]; omega
    have cs := hidp (show ∀ W, Sh.KT W → Calls Tryd.prog 91 #[.string (C ++ B)] W fun e w' => e = .returned (.agg (u8s (Sh.shaL (c :: B.data.toList))).toArray) ∧ Below W.heap.size W w' from fun W k => by
      have := sum_b W (C ++ B) (by omega) k
      rw [← hC, mark_cat, hC] at this; exact this)
    have hl := hidp (Sh.shaL_len (c :: B.data.toList))
    obtain ⟨S, hS⟩ : ∃ S, Sh.shaL (c :: B.data.toList) = S := ⟨_, rfl⟩
    rw [hS] at cs hl HF
    rw [hC]
    have hns : ¬ 9223372036854775807 < C.size + B.size := by omega
    clear hok hB hC hS hsz
    go_enter Tryd.func67, Tryd.ntmps67
    go_wp2_with (first | (refine wpL_boxT 59 rfl _ rfl [.string r, .string s, .int .u8 (k : Int), .string y, .string b, .int .i64 n] rfl ?_; intro b1 w1 n1) | (refine wpL_new rfl rfl ?_; intro b2 w2 n2; have HA := hidp (n2.old n1.arr); have HR := hidp n2.arr; have HB := hidp (n1.below.trans (n2.below.mono n1.below.size)); have h1w := hidp n1.le; have h2w := hidp (Nat.le_trans n1.below.size n2.le); have hne : b1 ≠ b2 := (by have := n2.at_; have := n1.lt; omega); clear n1 n2; obtain ⟨x0, x1, x2, x3, x4, x5, f0, f1, f2, f3, f4, f5⟩ := arr6f HA.out))
    clear x0 x1 x2 x3 x4 x5 f0 f1 f2 f3 f4 f5
    refine (cb.out _ (HI.out.below HB.out (Nat.le_refl _)) (HW.out.below HB.out (Nat.le_refl _))).mono ?_
    rintro e w8 ⟨rfl, hb8⟩
    have HB8 := hidp (HB.out.trans (hb8.mono HB.out.size)); have HR8 := hidp (HR.out.below hb8 HR.out.lt)
    clear hb8 HB HR
    go_wp2_with fail
    refine (cs.out _ (HK.out.below HB8.out hkp)).mono ?_
    rintro e w7 ⟨rfl, hb7⟩
    have HB7 := hidp (HB8.out.trans (hb7.mono HB8.out.size)); have HR7 := hidp (HR8.out.below hb7 HR8.out.lt)
    clear hb7 HB8 HR8
    go_wp2_with (refine wpL_put rfl (.tmp 4) (.tmp 20) rfl b2 S rfl rfl hl.out _ rfl HR7.out ?_; intro w9 ha9 hp9)
    have HBZ := hidp (hp9.below' HB7.out h2w.out)
    refine bodyPost_ret (results_row_tmp (P := Tryd.prog) (p := 4) (u := 5) (ty := 24) Tryd.results67 _ _ b2 24 (u8s S).toArray (0, 0) _ rfl ha9 hash_row rfl (hash_size hl.out) _ rfl) rfl ⟨by rw [HF.out, HE.out]; rfl, HBZ.out⟩

set_option maxHeartbeats 8000000 in
theorem ref_any (w : World) (r s : ByteArray) (k : Nat) (y b : ByteArray) (n : Int) (hk : k < 256) (hr : r.size ≤ 281474976710656) (hs : s.size ≤ 281474976710656) (hy : y.size ≤ 281474976710656) (hb : b.size ≤ 281474976710656) (hI : IT w) (hW : WT w) (hK : Sh.KT w) :
    Calls Tryd.prog 30 #[.agg #[.string r, .string s, .int .u8 (k : Int), .string y, .string b, .int .i64 n]] w fun e w' => e = .returned (.tuple #[.agg (u8s (refH r s k y b n)).toArray, .int .i64 (evE (⟨r, s, k, y, b, n⟩ : Ev))]) ∧ Below w.heap.size w w' := by
  have ck := hidp (fun W (h : IT W) => evCheck_any W r s k y b n hk hr hs hy hb h)
  have HI := hidp hI; have HW := hidp hW; have HK := hidp hK; have hkp := hK.pos; clear hI hW hK
  cases hok : evOk (⟨r, s, k, y, b, n⟩ : Ev) with
  | false =>
    have HE := hidp (show evE (⟨r, s, k, y, b, n⟩ : Ev) = 2 from by unfold evE; rw [hok]; rfl)
    have HF := hidp (show refH r s k y b n = z32 from by unfold refH; rw [hok]; rfl)
    rw [HE.out] at ck
    clear hok
    go_enter Tryd.func30, Tryd.ntmps30
    go_wp2_with (first | (refine wpL_boxT 59 rfl _ rfl [.string r, .string s, .int .u8 (k : Int), .string y, .string b, .int .i64 n] rfl ?_; intro b1 w1 n1) | (refine wpL_new rfl rfl ?_; intro b2 w2 n2; have HA := hidp (n2.old n1.arr); have HR := hidp n2.arr; have HB := hidp (n1.below.trans (n2.below.mono n1.below.size)); have h1w := hidp n1.le; have h2w := hidp (Nat.le_trans n1.below.size n2.le); have hne : b1 ≠ b2 := (by have := n2.at_; have := n1.lt; omega); clear n1 n2; obtain ⟨x0, x1, x2, x3, x4, x5, f0, f1, f2, f3, f4, f5⟩ := arr6f HA.out))
    clear x0 x1 x2 x3 x4 x5 f0 f1 f2 f3 f4 f5
    refine (ck.out _ (HI.out.below HB.out (Nat.le_refl _))).mono ?_
    rintro e w8 ⟨rfl, hb8⟩
    have HB8 := hidp (HB.out.trans (hb8.mono HB.out.size)); have HR8 := hidp (HR.out.below hb8 HR.out.lt)
    clear hb8 HB HR
    go_wp2_with (first | (refine wpL_zero rfl rfl ?_) | (refine wpL_put rfl (.tmp 2) (.tmp 9) rfl b2 z32 rfl rfl rfl _ rfl HR8.out ?_; intro w9 ha9 hp9))
    have HBZ := hidp (hp9.below' HB8.out h2w.out)
    refine bodyPost_ret (results_row_tmp (P := Tryd.prog) (p := 2) (u := 3) (ty := 24) Tryd.results30 _ _ b2 24 (u8s z32).toArray (0, 0) _ rfl ha9 hash_row rfl (hash_size rfl) _ rfl) rfl ⟨by rw [HF.out, HE.out]; rfl, HBZ.out⟩
  | true =>
    have HE := hidp (show evE (⟨r, s, k, y, b, n⟩ : Ev) = 0 from by unfold evE; rw [hok]; rfl)
    have HF := hidp (show refH r s k y b n = markH 6 (⟨r, s, k, y, rdb k b, n⟩ : Ev) from if_pos hok)
    have hrs := rdb_size k b
    have hE2 : evE (⟨r, s, k, y, rdb k b, n⟩ : Ev) = 0 := by unfold evE; rw [rd_ok r s k y b n hok]; rfl
    have cr := hidp (fun W => redact_any W r s k y b n hk hr hs hy hb)
    have cm := hidp (fun W (h : IT W) (h2 : WT W) (h3 : Sh.KT W) => esum_any W 6 r s k y (rdb k b) n hk hr hs hy (by omega) h h2 h3)
    have hl := hidp (markH_len 6 (⟨r, s, k, y, rdb k b, n⟩ : Ev))
    rw [HE.out] at ck
    rw [hE2] at cm
    obtain ⟨S, hS⟩ : ∃ S, markH 6 (⟨r, s, k, y, rdb k b, n⟩ : Ev) = S := ⟨_, rfl⟩
    rw [hS] at cm hl HF
    obtain ⟨d, hd⟩ : ∃ d, rdb k b = d := ⟨_, rfl⟩
    rw [hd] at cm cr
    clear hok hS hE2 hrs hd
    go_enter Tryd.func30, Tryd.ntmps30
    go_wp2_with (first | (refine wpL_boxT 59 rfl _ rfl [.string r, .string s, .int .u8 (k : Int), .string y, .string b, .int .i64 n] rfl ?_; intro b1 w1 n1) | (refine wpL_new rfl rfl ?_; intro b2 w2 n2; have HA := hidp (n2.old n1.arr); have HR := hidp n2.arr; have HB := hidp (n1.below.trans (n2.below.mono n1.below.size)); have h1w := hidp n1.le; have h2w := hidp (Nat.le_trans n1.below.size n2.le); have hne : b1 ≠ b2 := (by have := n2.at_; have := n1.lt; omega); clear n1 n2; obtain ⟨x0, x1, x2, x3, x4, x5, f0, f1, f2, f3, f4, f5⟩ := arr6f HA.out))
    clear x0 x1 x2 x3 x4 x5 f0 f1 f2 f3 f4 f5
    refine (ck.out _ (HI.out.below HB.out (Nat.le_refl _))).mono ?_
    rintro e w8 ⟨rfl, hb8⟩
    have HB8 := hidp (HB.out.trans (hb8.mono HB.out.size)); have HA8 := hidp (HA.out.below hb8 HA.out.lt); have HR8 := hidp (HR.out.below hb8 HR.out.lt)
    clear hb8 HB HA HR
    obtain ⟨x0, x1, x2, x3, x4, x5, f0, f1, f2, f3, f4, f5⟩ := arr6f HA8.out
    go_wp2_with fail
    clear x0 x1 x2 x3 x4 x5 f0 f1 f2 f3 f4 f5
    refine (cr.out _).mono ?_
    rintro e w7 ⟨rfl, hb7⟩
    have HB7 := hidp (HB8.out.trans (hb7.mono HB8.out.size)); have HR7 := hidp (HR8.out.below hb7 HR8.out.lt)
    clear hb7 HB8 HR8
    go_wp2_with fail
    refine (cm.out _ (HI.out.below HB7.out (Nat.le_refl _)) (HW.out.below HB7.out (Nat.le_refl _)) (HK.out.below HB7.out hkp)).mono ?_
    rintro e w6 ⟨rfl, hb6⟩
    have HB6 := hidp (HB7.out.trans (hb6.mono HB7.out.size)); have HR6 := hidp (HR7.out.below hb6 HR7.out.lt)
    clear hb6 HB7 HR7
    go_wp2_with (refine wpL_put rfl (.tmp 2) (.tmp 14) rfl b2 S rfl rfl hl.out _ rfl HR6.out ?_; intro w9 ha9 hp9)
    have HBZ := hidp (hp9.below' HB6.out h2w.out)
    refine bodyPost_ret (results_row_tmp (P := Tryd.prog) (p := 2) (u := 3) (ty := 24) Tryd.results30 _ _ b2 24 (u8s S).toArray (0, 0) _ rfl ha9 hash_row rfl (hash_size hl.out) _ rfl) rfl ⟨by rw [HF.out, HE.out]; rfl, HBZ.out⟩
end Go.Proofs.YtfenjincbhkodaaDoor
