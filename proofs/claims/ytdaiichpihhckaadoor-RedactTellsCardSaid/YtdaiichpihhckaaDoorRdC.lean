/-
  Laws of redaction: what is asked of answers that the document gives.
-/
import Derived.Test.YtdaiichpihhckaaDoorRdB
import Derived.Deep.WholeRow
import Derived.Lib.LaidTab
namespace Go.Proofs.YtdaiichpihhckaaDoor.Sh
set_option maxRecDepth 100000
set_option linter.unusedVariables false
set_option linter.unusedSimpArgs false
open Go.RowKit Go.ChangeShapes Go.WideShapes Go.ChangeAt
def kkI : List Int := kk.map fun (n : Nat) => (n : Int)
theorem gTab : Tryd.prog.globalNamed "palaver/sha.constants" = some 1 := by kernel_rfl
theorem gTabType : (Tryd.prog.globals[1]?).map (·.type) = some 62 := by kernel_rfl
theorem cellsTab : Tryd.prog.cellsOf 62 = 64 := by kernel_rfl
theorem cells32 : Tryd.prog.cellsOf 58 = 1 := by kernel_rfl
theorem tabData_eq {H : Type} : (Rows.laid_palaver_sha_constants : DataW H) = Lib.tabData .u32 kkI := by kernel_rfl
theorem kt_of_laid {W : World} {rest : List (String × DataW Unit)} (h : laidMet Tryd.prog (("palaver/sha.constants", Rows.laid_palaver_sha_constants) :: rest) W) : KT W := by
  rw [tabData_eq] at h
  have t : Lib.TabIs Tryd.prog W "palaver/sha.constants" .u32 kkI := Lib.tabIs_of_head gTab gTabType Tryd.underlying62 Tryd.underlying58 cells32 cellsTab h
  intro i hi
  have hk : kkI.length = 64 := by kernel_rfl
  have := t.cell gTab i (by omega)
  rw [this]
  congr 2
  simp [kkI, List.getD_eq_getElem?_getD, show kk.length = 64 from by kernel_rfl, hi]
end Go.Proofs.YtdaiichpihhckaaDoor.Sh
namespace Go.Proofs.YtdaiichpihhckaaDoor
set_option maxRecDepth 100000
set_option linter.unusedVariables false
set_option linter.unusedSimpArgs false
open Go.RowKit

section
variable {ops : Array Oper} {Q : Exit → Act → World → Prop} {S : World → Prop} {k : Nat} {o : Oper} {s : Scr} {a : Act} {w : World}
theorem s_getH (ho : ops[k]? = some o) (hw : Region.wanted o (yielded ops a.tmps) = true) (x : Operand) (hop : o.op = .load 26 x) (b : Nat) (l : List UInt8) (hx : a.eval x = .pointer (some ⟨b, 0, none⟩)) (hl : l.length = 32) (hg : ∀ w, S w → Arr w b 26 (u8s l))
    (h : wpScr Tryd.prog ops Q s S (a.put o.dst (.agg (u8s l).toArray)) w) : wpScr Tryd.prog ops Q (.take k s) S a w :=
  s_val ho hw (fun w hS => by
    unfold execOp
    simp only [hop, hx, Instr.loadAt, Instr.sureAddr, Sem.run_bind, Sem.run_pure, Result.andThen_ok, run_loadVar_row (P := Tryd.prog) w b 26 26 _ (0, 0) _ (hg w hS) hash_row rfl (hash_size hl)]) h
end
section
variable {ops : Array Oper} {Q : Exit → Act → World → Prop} {S : World → Prop} {k : Nat} {o : Oper} {s : Scr} {a : Act} {w : World}
theorem s_getE (ho : ops[k]? = some o) (hw : Region.wanted o (yielded ops a.tmps) = true) (x : Operand) (hop : o.op = .load 24 x) (b : Nat) (xs : List Value) (hx : a.eval x = .pointer (some ⟨b, 0, none⟩)) (hl : xs.length = 6) (hg : ∀ w, S w → Arr w b 24 xs)
    (h : wpScr Tryd.prog ops Q s S (a.put o.dst (.agg xs.toArray)) w) : wpScr Tryd.prog ops Q (.take k s) S a w := by
  obtain ⟨fs, hu⟩ := ev_row
  exact s_val ho hw (fun w hS => by
    unfold execOp
    simp only [hop, hx, Instr.loadAt, Instr.sureAddr, Sem.run_bind, Sem.run_pure, Result.andThen_ok, run_loadVar_row (P := Tryd.prog) w b 24 24 _ (0, 0) _ (hg w hS) hu rfl (ev_size xs hl)]) h
end
theorem eqin_event (W : World) (r s : ByteArray) (k : Int) (y b : ByteArray) (n : Int) :
    (Op.equalIn 10000 24 (.agg #[.string r, .string s, .int .u8 k, .string y, .string b, .int .i64 n]) (.agg #[.string r, .string s, .int .u8 k, .string y, .string b, .int .i64 n])).run Tryd.prog W = .ok true W := by
  have ht : Tryd.prog.underlying 24 = some (.struct (Tryd.prog.fieldsOf 24)) := by kernel_rfl
  have hp : Tryd.prog.stoodInHeld 24 = false := by kernel_rfl
  have hu := Tryd.underlying24
  have hus := Tryd.underlying9
  have hui := Tryd.underlying2
  have huk := Tryd.underlying22
  rw [run_equalIn_agg W 9999 _ _ _ ht hp]
  unfold Program.fieldsOf
  rw [hu]
  go_simp
theorem eq_event (W : World) (r s : ByteArray) (k : Int) (y b : ByteArray) (n : Int) :
    (binOp .eql 24 (.agg #[.string r, .string s, .int .u8 k, .string y, .string b, .int .i64 n]) (.agg #[.string r, .string s, .int .u8 k, .string y, .string b, .int .i64 n])).run Tryd.prog W = .ok (.bool true) W := by
  rw [run_eql_struct, eqin_event]; rfl
theorem ev0_ok : evOk (⟨⟨#[33, 104, 97, 108, 108, 58, 48]⟩, ⟨#[64, 97, 110, 110, 58, 48]⟩, 6, ⟨#[]⟩, ⟨#[104, 105]⟩, 7⟩ : Ev) = true := by decide +kernel
theorem evz_no : evOk (⟨⟨#[]⟩, ⟨#[]⟩, 0, ⟨#[]⟩, ⟨#[]⟩, 0⟩ : Ev) = false := by decide +kernel
theorem eqin_same (W : World) (l : List UInt8) (h : l.length = 32) : (Op.equalIn 10000 26 (.agg (u8s l).toArray) (.agg (u8s l).toArray)).run Tryd.prog W = .ok true W := by
  rw [eqin_hash W l l h h]; simp
theorem eqin_other (W : World) (a b : List UInt8) (ha : a.length = 32) (hb : b.length = 32) (h : a ≠ b) : (Op.equalIn 10000 26 (.agg (u8s a).toArray) (.agg (u8s b).toArray)).run Tryd.prog W = .ok false W := by
  rw [eqin_hash W a b ha hb, decide_eq_false h]
theorem eqin_ev_ne (W : World) (r s : ByteArray) (k : Nat) (y b : ByteArray) (n : Int) (r2 s2 : ByteArray) (k2 : Nat) (y2 b2 : ByteArray) (n2 : Int) (h : ¬ (r = r2 ∧ s = s2 ∧ k = k2 ∧ y = y2 ∧ b = b2 ∧ n = n2)) :
    (Op.equalIn 10000 24 (.agg #[.string r, .string s, .int .u8 (k : Int), .string y, .string b, .int .i64 n]) (.agg #[.string r2, .string s2, .int .u8 (k2 : Int), .string y2, .string b2, .int .i64 n2])).run Tryd.prog W = .ok false W := by
  have ht : Tryd.prog.underlying 24 = some (.struct (Tryd.prog.fieldsOf 24)) := by kernel_rfl
  have hp : Tryd.prog.stoodInHeld 24 = false := by kernel_rfl
  have hu := Tryd.underlying24
  have hus := Tryd.underlying9
  have hui := Tryd.underlying2
  have huk := Tryd.underlying22
  rw [run_equalIn_agg W 9999 _ _ _ ht hp]
  unfold Program.fieldsOf
  rw [hu]
  by_cases h0 : r = r2
  · subst h0
    by_cases h1 : s = s2
    · subst h1
      by_cases h2 : k = k2
      · subst h2
        by_cases h3 : y = y2
        · subst h3
          by_cases h4 : b = b2
          · subst h4
            by_cases h5 : n = n2
            · subst h5
              exact absurd ⟨rfl, rfl, rfl, rfl, rfl, rfl⟩ h
            · have t : (n == n2) = false := by simpa using h5
              go_simp
          · have t := toList_no h4
            go_simp
        · have t := toList_no h3
          go_simp
      · have t : ((k : Int) == (k2 : Int)) = false := by simp; omega
        have t2 : ¬ k = k2 := h2
        go_simp
    · have t := toList_no h1
      go_simp
  · have t := toList_no h0
    go_simp

theorem ref_twice (r s : ByteArray) (k : Nat) (y b : ByteArray) (n : Int) (h : evOk (⟨r, s, k, y, b, n⟩ : Ev) = true) : refH r s k y (rdb k b) n = refH r s k y b n := by
  unfold refH
  rw [if_pos h, if_pos (rd_ok r s k y b n h), rdb_twice]
theorem encL_small (ss : List ByteArray) (h : ss.length < 128) (h2 : ∀ s ∈ ss, s.size < 128) : encL ss = lastB ss.length :: ss.flatMap fun t => lastB t.size :: t.data.toList := by
  have key : ∀ ss : List ByteArray, (∀ s ∈ ss, s.size < 128) → ss.flatMap encT = ss.flatMap fun t => lastB t.size :: t.data.toList := by
    intro ss
    induction ss with
    | nil => intro _; rfl
    | cons a r ih =>
      intro h2
      rw [List.flatMap_cons, List.flatMap_cons, ih (fun s hs => h2 s (by simp [hs]))]
      unfold encT
      rw [encN_lt (h2 a (by simp))]; rfl
  unfold encL encTs
  rw [encN_lt h, key ss h2]; rfl
theorem f0_ok : evOk (⟨⟨#[33, 104, 97, 108, 108, 58, 48]⟩, ⟨#[64, 97, 110, 110, 58, 48]⟩, 6, ⟨#[]⟩, ⟨#[]⟩, 7⟩ : Ev) = true := by decide +kernel
theorem ev0_l (b : ByteArray) : evL (⟨⟨#[33, 104, 97, 108, 108, 58, 48]⟩, ⟨#[64, 97, 110, 110, 58, 48]⟩, 6, ⟨#[]⟩, b, 7⟩ : Ev) = [⟨#[33, 104, 97, 108, 108, 58, 48]⟩, ⟨#[64, 97, 110, 110, 58, 48]⟩, ⟨#[109, 101, 115, 115, 97, 103, 101]⟩, ⟨#[]⟩, b, ⟨#[7]⟩] := by
  unfold evL
  rw [show mkS (encN (Int.toNat 7)) = ⟨#[7]⟩ from by rw [encN_lt (by decide)]; rfl]
  rfl
theorem e0_bytes : (evB (⟨⟨#[33, 104, 97, 108, 108, 58, 48]⟩, ⟨#[64, 97, 110, 110, 58, 48]⟩, 6, ⟨#[]⟩, ⟨#[104, 105]⟩, 7⟩ : Ev)).data.toList = [6, 7, 33, 104, 97, 108, 108, 58, 48, 6, 64, 97, 110, 110, 58, 48, 7, 109, 101, 115, 115, 97, 103, 101, 0, 2, 104, 105, 1, 7] := by
  unfold evB; rw [if_pos ev0_ok, ev0_l, mkS_data, encL_small _ (by decide) (by decide)]; decide +kernel
theorem f0_bytes : (evB (⟨⟨#[33, 104, 97, 108, 108, 58, 48]⟩, ⟨#[64, 97, 110, 110, 58, 48]⟩, 6, ⟨#[]⟩, ⟨#[]⟩, 7⟩ : Ev)).data.toList = [6, 7, 33, 104, 97, 108, 108, 58, 48, 6, 64, 97, 110, 110, 58, 48, 7, 109, 101, 115, 115, 97, 103, 101, 0, 0, 1, 7] := by
  unfold evB; rw [if_pos f0_ok, ev0_l, mkS_data, encL_small _ (by decide) (by decide)]; decide +kernel
theorem sums_part : markH 6 (⟨⟨#[33, 104, 97, 108, 108, 58, 48]⟩, ⟨#[64, 97, 110, 110, 58, 48]⟩, 6, ⟨#[]⟩, ⟨#[]⟩, 7⟩ : Ev) ≠ markH 7 (⟨⟨#[33, 104, 97, 108, 108, 58, 48]⟩, ⟨#[64, 97, 110, 110, 58, 48]⟩, 6, ⟨#[]⟩, ⟨#[104, 105]⟩, 7⟩ : Ev) := by
  unfold markH
  rw [if_pos f0_ok, if_pos ev0_ok, f0_bytes, e0_bytes, Sh.shaL_small _ (by decide), Sh.shaL_small _ (by decide)]
  decide +kernel

set_option maxHeartbeats 16000000 in
theorem lives13_any (w : World) (hI : IT w) (hW : WT w) (hK : Sh.KT w) : Calls Tryd.prog 13 #[] w fun e w' => e = .returned (.bool true) ∧ Below w.heap.size w w' := by
  have HI := hidp hI; have HW := hidp hW; have HK := hidp hK; have hkp := hK.pos; clear hI hW hK
  have h1 : evE (⟨⟨#[33, 104, 97, 108, 108, 58, 48]⟩, ⟨#[64, 97, 110, 110, 58, 48]⟩, 6, ⟨#[]⟩, ⟨#[104, 105]⟩, 7⟩ : Ev) = 0 := by unfold evE; rw [ev0_ok]; rfl
  have h2 : evE (⟨⟨#[33, 104, 97, 108, 108, 58, 48]⟩, ⟨#[64, 97, 110, 110, 58, 48]⟩, 6, ⟨#[]⟩, ⟨#[]⟩, 7⟩ : Ev) = 0 := by unfold evE; rw [f0_ok]; rfl
  have h3 : evE (⟨⟨#[]⟩, ⟨#[]⟩, 0, ⟨#[]⟩, ⟨#[]⟩, 0⟩ : Ev) = 2 := by unfold evE; rw [evz_no]; rfl
  have cr := hidp (show ∀ W, Calls Tryd.prog 14 #[.agg #[.string ⟨#[33, 104, 97, 108, 108, 58, 48]⟩, .string ⟨#[64, 97, 110, 110, 58, 48]⟩, .int .u8 6, .string ⟨#[]⟩, .string ⟨#[104, 105]⟩, .int .i64 7]] W fun e w' => e = .returned (.agg #[.string ⟨#[33, 104, 97, 108, 108, 58, 48]⟩, .string ⟨#[64, 97, 110, 110, 58, 48]⟩, .int .u8 6, .string ⟨#[]⟩, .string ⟨#[]⟩, .int .i64 7]) ∧ Below W.heap.size W w' from fun W =>
    redact_any W ⟨#[33, 104, 97, 108, 108, 58, 48]⟩ ⟨#[64, 97, 110, 110, 58, 48]⟩ 6 ⟨#[]⟩ ⟨#[104, 105]⟩ 7 (by decide) (by decide) (by decide) (by decide) (by decide))
  have hRF : refH ⟨#[33, 104, 97, 108, 108, 58, 48]⟩ ⟨#[64, 97, 110, 110, 58, 48]⟩ 6 ⟨#[]⟩ ⟨#[104, 105]⟩ 7 = markH 6 (⟨⟨#[33, 104, 97, 108, 108, 58, 48]⟩, ⟨#[64, 97, 110, 110, 58, 48]⟩, 6, ⟨#[]⟩, ⟨#[]⟩, 7⟩ : Ev) := if_pos ev0_ok
  have ca := hidp (show ∀ W, IT W → WT W → Sh.KT W → Calls Tryd.prog 9 #[.agg #[.string ⟨#[33, 104, 97, 108, 108, 58, 48]⟩, .string ⟨#[64, 97, 110, 110, 58, 48]⟩, .int .u8 6, .string ⟨#[]⟩, .string ⟨#[104, 105]⟩, .int .i64 7]] W fun e w' => e = .returned (.tuple #[.agg (u8s (markH 6 (⟨⟨#[33, 104, 97, 108, 108, 58, 48]⟩, ⟨#[64, 97, 110, 110, 58, 48]⟩, 6, ⟨#[]⟩, ⟨#[]⟩, 7⟩ : Ev))).toArray, .int .i64 0]) ∧ Below W.heap.size W w' from fun W a b c => by
    have := ref_any W ⟨#[33, 104, 97, 108, 108, 58, 48]⟩ ⟨#[64, 97, 110, 110, 58, 48]⟩ 6 ⟨#[]⟩ ⟨#[104, 105]⟩ 7 (by decide) (by decide) (by decide) (by decide) (by decide) a b c
    rw [hRF, h1] at this; exact this)
  have cb := hidp (show ∀ W, IT W → WT W → Sh.KT W → Calls Tryd.prog 11 #[.agg #[.string ⟨#[33, 104, 97, 108, 108, 58, 48]⟩, .string ⟨#[64, 97, 110, 110, 58, 48]⟩, .int .u8 6, .string ⟨#[]⟩, .string ⟨#[104, 105]⟩, .int .i64 7]] W fun e w' => e = .returned (.tuple #[.agg (u8s (markH 7 (⟨⟨#[33, 104, 97, 108, 108, 58, 48]⟩, ⟨#[64, 97, 110, 110, 58, 48]⟩, 6, ⟨#[]⟩, ⟨#[104, 105]⟩, 7⟩ : Ev))).toArray, .int .i64 0]) ∧ Below W.heap.size W w' from fun W a b c => by
    have := content_any W ⟨#[33, 104, 97, 108, 108, 58, 48]⟩ ⟨#[64, 97, 110, 110, 58, 48]⟩ 6 ⟨#[]⟩ ⟨#[104, 105]⟩ 7 (by decide) (by decide) (by decide) (by decide) (by decide) a b c
    rw [h1] at this; exact this)
  have cs := hidp (show ∀ W, IT W → WT W → Calls Tryd.prog 32 #[.agg #[.string ⟨#[33, 104, 97, 108, 108, 58, 48]⟩, .string ⟨#[64, 97, 110, 110, 58, 48]⟩, .int .u8 6, .string ⟨#[]⟩, .string ⟨#[]⟩, .int .i64 7]] W fun e w' => e = .returned (.tuple #[.string (evB (⟨⟨#[33, 104, 97, 108, 108, 58, 48]⟩, ⟨#[64, 97, 110, 110, 58, 48]⟩, 6, ⟨#[]⟩, ⟨#[]⟩, 7⟩ : Ev)), .int .i64 0]) ∧ Below W.heap.size W w' from fun W a b => by
    have := evBytes_any W ⟨#[33, 104, 97, 108, 108, 58, 48]⟩ ⟨#[64, 97, 110, 110, 58, 48]⟩ 6 ⟨#[]⟩ ⟨#[]⟩ 7 (by decide) (by decide) (by decide) (by decide) (by decide) a b
    rw [h2] at this; exact this)
  have hZ0 : refH ⟨#[]⟩ ⟨#[]⟩ 0 ⟨#[]⟩ ⟨#[]⟩ 0 = z32 := by unfold refH; rw [evz_no]; rfl
  have cz := hidp (show ∀ W, IT W → WT W → Sh.KT W → Calls Tryd.prog 9 #[.agg #[.string ⟨#[]⟩, .string ⟨#[]⟩, .int .u8 0, .string ⟨#[]⟩, .string ⟨#[]⟩, .int .i64 0]] W fun e w' => e = .returned (.tuple #[.agg (u8s z32).toArray, .int .i64 2]) ∧ Below W.heap.size W w' from fun W a b c => by
    have := ref_any W ⟨#[]⟩ ⟨#[]⟩ 0 ⟨#[]⟩ ⟨#[]⟩ 0 (by decide) (by decide) (by decide) (by decide) (by decide) a b c
    rw [hZ0, h3] at this; exact this)
  have hAB := hidp sums_part
  have hAl := hidp (markH_len 6 (⟨⟨#[33, 104, 97, 108, 108, 58, 48]⟩, ⟨#[64, 97, 110, 110, 58, 48]⟩, 6, ⟨#[]⟩, ⟨#[]⟩, 7⟩ : Ev)); have hBl := hidp (markH_len 7 (⟨⟨#[33, 104, 97, 108, 108, 58, 48]⟩, ⟨#[64, 97, 110, 110, 58, 48]⟩, 6, ⟨#[]⟩, ⟨#[104, 105]⟩, 7⟩ : Ev))
  have hA : Sh.shaL (6 :: (evB (⟨⟨#[33, 104, 97, 108, 108, 58, 48]⟩, ⟨#[64, 97, 110, 110, 58, 48]⟩, 6, ⟨#[]⟩, ⟨#[]⟩, 7⟩ : Ev)).data.toList) = markH 6 (⟨⟨#[33, 104, 97, 108, 108, 58, 48]⟩, ⟨#[64, 97, 110, 110, 58, 48]⟩, 6, ⟨#[]⟩, ⟨#[]⟩, 7⟩ : Ev) := (if_pos f0_ok).symm
  have hss := evB_size f0_ok
  obtain ⟨s, hs⟩ : ∃ s, evB (⟨⟨#[33, 104, 97, 108, 108, 58, 48]⟩, ⟨#[64, 97, 110, 110, 58, 48]⟩, 6, ⟨#[]⟩, ⟨#[]⟩, 7⟩ : Ev) = s := ⟨_, rfl⟩
  obtain ⟨A, hAe⟩ : ∃ A, markH 6 (⟨⟨#[33, 104, 97, 108, 108, 58, 48]⟩, ⟨#[64, 97, 110, 110, 58, 48]⟩, 6, ⟨#[]⟩, ⟨#[]⟩, 7⟩ : Ev) = A := ⟨_, rfl⟩
  obtain ⟨B, hBe⟩ : ∃ B, markH 7 (⟨⟨#[33, 104, 97, 108, 108, 58, 48]⟩, ⟨#[64, 97, 110, 110, 58, 48]⟩, 6, ⟨#[]⟩, ⟨#[104, 105]⟩, 7⟩ : Ev) = B := ⟨_, rfl⟩
  obtain ⟨Z, hZe⟩ : ∃ Z, z32 = Z := ⟨_, rfl⟩
  have hZl := hidp (show Z.length = 32 from by rw [← hZe]; rfl)
  obtain ⟨G, hG⟩ : ∃ G, (⟨#[6]⟩ : ByteArray) ++ s = G := ⟨_, rfl⟩
  rw [hs] at cs hA hss
  rw [hAe] at ca hAB hAl hA
  rw [hBe] at cb hAB hBl
  rw [hZe] at cz
  have hcat := hidp hG
  have hGs : G.size ≤ 65537 := by rw [← hG, ByteArray.size_append]; show 1 + s.size ≤ 65537; omega
  have cG := hidp (show ∀ W, Sh.KT W → Calls Tryd.prog 33 #[.string G] W fun e w' => e = .returned (.agg (u8s A).toArray) ∧ Below W.heap.size W w' from fun W k => by
    have := sum_b W G (by omega) k
    rw [show G.data.toList = 6 :: s.data.toList from by rw [← hG, mark_cat], hA] at this; exact this)
  have hns : ¬ 9223372036854775807 < (⟨#[6]⟩ : ByteArray).size + s.size := by show ¬ 9223372036854775807 < 1 + s.size; omega
  have hns1 : ¬ 9223372036854775807 < 1 + s.size := by omega
  clear h1 h2 h3 hRF hZ0 hA hs hAe hBe hG hGs
  go_enter Tryd.func13, Tryd.ntmps13
  go_wp2_with (first | (refine wpL_newE rfl rfl ?_; intro b1 w1 n1; have HB1 := hidp n1.below; have hg_b1 := hidp n1.le; have HA1 := hidp n1.arr; clear n1) | (refine wpL_putE rfl (.tmp 1) (.tmp 11) rfl b1 [.string ⟨#[33, 104, 97, 108, 108, 58, 48]⟩, .string ⟨#[64, 97, 110, 110, 58, 48]⟩, .int .u8 6, .string ⟨#[]⟩, .string ⟨#[104, 105]⟩, .int .i64 7] rfl rfl rfl (by simp [Value.oneCell']) _ rfl HA1.out ?_; intro w2 ha hp; have HB2 := hidp (hp.below' HB1.out hg_b1.out); have HA2 := hidp ha; clear ha hp HB1 HA1) | (refine wpL_getE rfl (.tmp 1) rfl b1 [.string ⟨#[33, 104, 97, 108, 108, 58, 48]⟩, .string ⟨#[64, 97, 110, 110, 58, 48]⟩, .int .u8 6, .string ⟨#[]⟩, .string ⟨#[104, 105]⟩, .int .i64 7] rfl rfl HA2.out ?_))
  refine (cr.out _).mono ?_
  rintro e w3 ⟨rfl, hb⟩
  have HB3 := hidp (HB2.out.trans (hb.mono HB2.out.size))
  have HA3 := hidp (HA2.out.below hb HA2.out.lt)
  clear hb HB2 HA2
  go_wp2_with (first | (refine wpL_newE rfl rfl ?_; intro b2 w4 n4; have HB4 := hidp (HB3.out.trans (n4.below.mono HB3.out.size)); have hg_b2 := hidp (Nat.le_trans HB3.out.size n4.le); have HA4 := hidp (n4.old HA3.out); have hl_HA_b2 := hidp (show b1 < b2 from by have := n4.at_; have := HA3.out.lt; omega); have HF4 := hidp n4.arr; clear n4 HA3 HB3) | (refine wpL_putE rfl (.tmp 2) (.tmp 13) rfl b2 [.string ⟨#[33, 104, 97, 108, 108, 58, 48]⟩, .string ⟨#[64, 97, 110, 110, 58, 48]⟩, .int .u8 6, .string ⟨#[]⟩, .string ⟨#[]⟩, .int .i64 7] rfl rfl rfl (by simp [Value.oneCell']) _ rfl HF4.out ?_; intro w5 ha hp; have HB5 := hidp (hp.below' HB4.out hg_b2.out); have HA5 := hidp (hp.arr (by have := hl_HA_b2.out; omega) HA4.out); have HF5 := hidp ha; clear ha hp HB4 HA4 HF4) | (refine wpL_getE rfl (.tmp 1) rfl b1 [.string ⟨#[33, 104, 97, 108, 108, 58, 48]⟩, .string ⟨#[64, 97, 110, 110, 58, 48]⟩, .int .u8 6, .string ⟨#[]⟩, .string ⟨#[104, 105]⟩, .int .i64 7] rfl rfl HA5.out ?_))
  refine (ca.out _ (HI.out.below HB5.out (Nat.le_refl _)) (HW.out.below HB5.out (Nat.le_refl _)) (HK.out.below HB5.out hkp)).mono ?_
  rintro e w6 ⟨rfl, hb⟩
  have HB6 := hidp (HB5.out.trans (hb.mono HB5.out.size))
  have HA6 := hidp (HA5.out.below hb HA5.out.lt)
  have HF6 := hidp (HF5.out.below hb HF5.out.lt)
  clear hb HB5 HA5 HF5
  go_wp2_with (first | (refine wpL_new rfl rfl ?_; intro b3 w7 n7; have HB7 := hidp (HB6.out.trans (n7.below.mono HB6.out.size)); have hg_b3 := hidp (Nat.le_trans HB6.out.size n7.le); have HA7 := hidp (n7.old HA6.out); have hl_HA_b3 := hidp (show b1 < b3 from by have := n7.at_; have := HA6.out.lt; omega); have HF7 := hidp (n7.old HF6.out); have hl_HF_b3 := hidp (show b2 < b3 from by have := n7.at_; have := HF6.out.lt; omega); have H37 := hidp n7.arr; clear n7 HA6 HF6 HB6) | (refine wpL_put rfl (.tmp 3) (.tmp 17) rfl b3 A rfl rfl hAl.out _ rfl H37.out ?_; intro w8 ha hp; have HB8 := hidp (hp.below' HB7.out hg_b3.out); have HA8 := hidp (hp.arr (by have := hl_HA_b3.out; omega) HA7.out); have HF8 := hidp (hp.arr (by have := hl_HF_b3.out; omega) HF7.out); have H38 := hidp ha; clear ha hp HB7 HA7 HF7 H37) | (refine wpL_getE rfl (.tmp 1) rfl b1 [.string ⟨#[33, 104, 97, 108, 108, 58, 48]⟩, .string ⟨#[64, 97, 110, 110, 58, 48]⟩, .int .u8 6, .string ⟨#[]⟩, .string ⟨#[104, 105]⟩, .int .i64 7] rfl rfl HA8.out ?_))
  refine (cb.out _ (HI.out.below HB8.out (Nat.le_refl _)) (HW.out.below HB8.out (Nat.le_refl _)) (HK.out.below HB8.out hkp)).mono ?_
  rintro e w9 ⟨rfl, hb⟩
  have HB9 := hidp (HB8.out.trans (hb.mono HB8.out.size))
  have HA9 := hidp (HA8.out.below hb HA8.out.lt)
  have HF9 := hidp (HF8.out.below hb HF8.out.lt)
  have H39 := hidp (H38.out.below hb H38.out.lt)
  clear hb HB8 HA8 HF8 H38
  go_wp2_with (first | (refine wpL_new rfl rfl ?_; intro b5 w10 n10; have HB10 := hidp (HB9.out.trans (n10.below.mono HB9.out.size)); have hg_b5 := hidp (Nat.le_trans HB9.out.size n10.le); have HA10 := hidp (n10.old HA9.out); have hl_HA_b5 := hidp (show b1 < b5 from by have := n10.at_; have := HA9.out.lt; omega); have HF10 := hidp (n10.old HF9.out); have hl_HF_b5 := hidp (show b2 < b5 from by have := n10.at_; have := HF9.out.lt; omega); have H310 := hidp (n10.old H39.out); have hl_H3_b5 := hidp (show b3 < b5 from by have := n10.at_; have := H39.out.lt; omega); have H510 := hidp n10.arr; clear n10 HA9 HF9 H39 HB9) | (refine wpL_put rfl (.tmp 5) (.tmp 22) rfl b5 B rfl rfl hBl.out _ rfl H510.out ?_; intro w11 ha hp; have HB11 := hidp (hp.below' HB10.out hg_b5.out); have HA11 := hidp (hp.arr (by have := hl_HA_b5.out; omega) HA10.out); have HF11 := hidp (hp.arr (by have := hl_HF_b5.out; omega) HF10.out); have H311 := hidp (hp.arr (by have := hl_H3_b5.out; omega) H310.out); have H511 := hidp ha; clear ha hp HB10 HA10 HF10 H310 H510) | (refine wpL_getE rfl (.tmp 2) rfl b2 [.string ⟨#[33, 104, 97, 108, 108, 58, 48]⟩, .string ⟨#[64, 97, 110, 110, 58, 48]⟩, .int .u8 6, .string ⟨#[]⟩, .string ⟨#[]⟩, .int .i64 7] rfl rfl HF11.out ?_))
  refine (cs.out _ (HI.out.below HB11.out (Nat.le_refl _)) (HW.out.below HB11.out (Nat.le_refl _))).mono ?_
  rintro e w12 ⟨rfl, hb⟩
  have HB12 := hidp (HB11.out.trans (hb.mono HB11.out.size))
  have HA12 := hidp (HA11.out.below hb HA11.out.lt)
  have HF12 := hidp (HF11.out.below hb HF11.out.lt)
  have H312 := hidp (H311.out.below hb H311.out.lt)
  have H512 := hidp (H511.out.below hb H511.out.lt)
  clear hb HB11 HA11 HF11 H311 H511
  go_wp2_with fail
  refine (cz.out _ (HI.out.below HB12.out (Nat.le_refl _)) (HW.out.below HB12.out (Nat.le_refl _)) (HK.out.below HB12.out hkp)).mono ?_
  rintro e w13 ⟨rfl, hb⟩
  have HB13 := hidp (HB12.out.trans (hb.mono HB12.out.size))
  have HA13 := hidp (HA12.out.below hb HA12.out.lt)
  have HF13 := hidp (HF12.out.below hb HF12.out.lt)
  have H313 := hidp (H312.out.below hb H312.out.lt)
  have H513 := hidp (H512.out.below hb H512.out.lt)
  clear hb HB12 HA12 HF12 H312 H512
  go_wp2_with (first | (refine wpL_new rfl rfl ?_; intro b9 w14 n14; have HB14 := hidp (HB13.out.trans (n14.below.mono HB13.out.size)); have hg_b9 := hidp (Nat.le_trans HB13.out.size n14.le); have HA14 := hidp (n14.old HA13.out); have hl_HA_b9 := hidp (show b1 < b9 from by have := n14.at_; have := HA13.out.lt; omega); have HF14 := hidp (n14.old HF13.out); have hl_HF_b9 := hidp (show b2 < b9 from by have := n14.at_; have := HF13.out.lt; omega); have H314 := hidp (n14.old H313.out); have hl_H3_b9 := hidp (show b3 < b9 from by have := n14.at_; have := H313.out.lt; omega); have H514 := hidp (n14.old H513.out); have hl_H5_b9 := hidp (show b5 < b9 from by have := n14.at_; have := H513.out.lt; omega); have H914 := hidp n14.arr; clear n14 HA13 HF13 H313 H513 HB13) | (refine wpL_put rfl (.tmp 9) (.tmp 32) rfl b9 Z rfl rfl hZl.out _ rfl H914.out ?_; intro w15 ha hp; have HB15 := hidp (hp.below' HB14.out hg_b9.out); have HA15 := hidp (hp.arr (by have := hl_HA_b9.out; omega) HA14.out); have HF15 := hidp (hp.arr (by have := hl_HF_b9.out; omega) HF14.out); have H315 := hidp (hp.arr (by have := hl_H3_b9.out; omega) H314.out); have H515 := hidp (hp.arr (by have := hl_H5_b9.out; omega) H514.out); have H915 := hidp ha; clear ha hp HB14 HA14 HF14 H314 H514 H914))
  obtain ⟨U, hU⟩ : ∃ U, ({ w15 with drawn := w15.drawn + 1 } : World) = U := ⟨_, rfl⟩
  have bU : Below w15.heap.size w15 U := by rw [← hU]; exact (Below.refl _ _).drew
  have HB16 := hidp (HB15.out.trans (bU.mono HB15.out.size))
  have HA16 := hidp (HA15.out.below bU HA15.out.lt)
  have HF16 := hidp (HF15.out.below bU HF15.out.lt)
  have H316 := hidp (H315.out.below bU H315.out.lt)
  have H516 := hidp (H515.out.below bU H515.out.lt)
  have H916 := hidp (H915.out.below bU H915.out.lt)
  clear bU HB15 HA15 HF15 H315 H515 H915
  have HS := hidp (show Arr U b2 24 [.string ⟨#[33, 104, 97, 108, 108, 58, 48]⟩, .string ⟨#[64, 97, 110, 110, 58, 48]⟩, .int .u8 6, .string ⟨#[]⟩, .string ⟨#[]⟩, .int .i64 7] ∧ Arr U b3 26 (u8s A) ∧ Arr U b5 26 (u8s B) from ⟨HF16.out, H316.out, H516.out⟩)
  refine wp_region_noPanic ?_
  refine wp_region_scr (S := fun W => Arr W b2 24 [.string ⟨#[33, 104, 97, 108, 108, 58, 48]⟩, .string ⟨#[64, 97, 110, 110, 58, 48]⟩, .int .u8 6, .string ⟨#[]⟩, .string ⟨#[]⟩, .int .i64 7] ∧ Arr W b3 26 (u8s A) ∧ Arr W b5 26 (u8s B)) (.take 0 (.take 1 (.take 2 (.take 3 (.take 4 (.take 5 (.take 6 (.take 7 (.take 8 (.take 9 (.take 10 (.take 11 (.take 12 (.take 13 (.take 14 (.take 15 (.take 16 (.take 17 (.take 18 (.take 19 (.take 20 (.take 21 (.take 22 (.take 23 (.one 24 (.take 25 (.take 26 (.take 27 (.take 28 (.take 29 (.take 30 (.take 31 (.take 32 (.take 33 (.take 34 (.take 35 (.take 36 .done))))))))))))))))))))))))))))))))))))) (by kernel_rfl) (by kernel_rfl) (fun _ _ _ _ _ h => h) (by simp [Scr.depth]) (by kernel_rfl) (by rw [hU]; exact HS.out) ?_
  simp only [hU]
  clear hU
  apply s_val
  case ho => rfl
  case hw => rfl
  case hv => intro w hw; obtain ⟨x0, x1, x2, x3, x4, x5⟩ := arr6 hw.1; go_simp; first | done | with_reducible rfl | rfl
  simp only [Act.put, List.getElem_toArray, List.getElem_cons_zero, List.getElem_cons_succ, List.setIfInBounds_toArray, List.set_cons_zero, List.set_cons_succ]
  apply s_val
  case ho => rfl
  case hw => rfl
  case hv => intro w hw; obtain ⟨x0, x1, x2, x3, x4, x5⟩ := arr6 hw.1; go_simp; first | done | with_reducible rfl | rfl
  simp only [Act.put, List.getElem_toArray, List.getElem_cons_zero, List.getElem_cons_succ, List.setIfInBounds_toArray, List.set_cons_zero, List.set_cons_succ]
  apply s_val (v := .bool true)
  case ho => rfl
  case hw => rfl
  case hv => intro w hw; obtain ⟨x0, x1, x2, x3, x4, x5⟩ := arr6 hw.1; go_simp; first | done | with_reducible rfl | rfl
  simp only [Act.put, List.getElem_toArray, List.getElem_cons_zero, List.getElem_cons_succ, List.setIfInBounds_toArray, List.set_cons_zero, List.set_cons_succ]
  apply s_val
  case ho => rfl
  case hw => rfl
  case hv => intro w hw; obtain ⟨x0, x1, x2, x3, x4, x5⟩ := arr6 hw.1; go_simp; first | done | with_reducible rfl | rfl
  simp only [Act.put, List.getElem_toArray, List.getElem_cons_zero, List.getElem_cons_succ, List.setIfInBounds_toArray, List.set_cons_zero, List.set_cons_succ]
  apply s_val
  case ho => rfl
  case hw => rfl
  case hv => intro w hw; obtain ⟨x0, x1, x2, x3, x4, x5⟩ := arr6 hw.1; go_simp; first | done | with_reducible rfl | rfl
  simp only [Act.put, List.getElem_toArray, List.getElem_cons_zero, List.getElem_cons_succ, List.setIfInBounds_toArray, List.set_cons_zero, List.set_cons_succ]
  apply s_val
  case ho => rfl
  case hw => rfl
  case hv => intro w hw; obtain ⟨x0, x1, x2, x3, x4, x5⟩ := arr6 hw.1; go_simp; first | done | with_reducible rfl | rfl
  simp only [Act.put, List.getElem_toArray, List.getElem_cons_zero, List.getElem_cons_succ, List.setIfInBounds_toArray, List.set_cons_zero, List.set_cons_succ]
  apply s_val (v := .bool true)
  case ho => rfl
  case hw => rfl
  case hv => intro w hw; obtain ⟨x0, x1, x2, x3, x4, x5⟩ := arr6 hw.1; go_simp; first | done | with_reducible rfl | rfl
  simp only [Act.put, List.getElem_toArray, List.getElem_cons_zero, List.getElem_cons_succ, List.setIfInBounds_toArray, List.set_cons_zero, List.set_cons_succ]
  apply s_val
  case ho => rfl
  case hw => rfl
  case hv => intro w hw; obtain ⟨x0, x1, x2, x3, x4, x5⟩ := arr6 hw.1; go_simp; first | done | with_reducible rfl | rfl
  simp only [Act.put, List.getElem_toArray, List.getElem_cons_zero, List.getElem_cons_succ, List.setIfInBounds_toArray, List.set_cons_zero, List.set_cons_succ]
  apply s_val
  case ho => rfl
  case hw => rfl
  case hv => intro w hw; obtain ⟨x0, x1, x2, x3, x4, x5⟩ := arr6 hw.1; go_simp; first | done | with_reducible rfl | rfl
  simp only [Act.put, List.getElem_toArray, List.getElem_cons_zero, List.getElem_cons_succ, List.setIfInBounds_toArray, List.set_cons_zero, List.set_cons_succ]
  apply s_val
  case ho => rfl
  case hw => rfl
  case hv => intro w hw; obtain ⟨x0, x1, x2, x3, x4, x5⟩ := arr6 hw.1; go_simp; first | done | with_reducible rfl | rfl
  simp only [Act.put, List.getElem_toArray, List.getElem_cons_zero, List.getElem_cons_succ, List.setIfInBounds_toArray, List.set_cons_zero, List.set_cons_succ]
  apply s_val (v := .bool true)
  case ho => rfl
  case hw => rfl
  case hv => intro w hw; obtain ⟨x0, x1, x2, x3, x4, x5⟩ := arr6 hw.1; go_simp; first | done | with_reducible rfl | rfl
  simp only [Act.put, List.getElem_toArray, List.getElem_cons_zero, List.getElem_cons_succ, List.setIfInBounds_toArray, List.set_cons_zero, List.set_cons_succ]
  apply s_val
  case ho => rfl
  case hw => rfl
  case hv => intro w hw; obtain ⟨x0, x1, x2, x3, x4, x5⟩ := arr6 hw.1; go_simp; first | done | with_reducible rfl | rfl
  simp only [Act.put, List.getElem_toArray, List.getElem_cons_zero, List.getElem_cons_succ, List.setIfInBounds_toArray, List.set_cons_zero, List.set_cons_succ]
  apply s_val
  case ho => rfl
  case hw => rfl
  case hv => intro w hw; obtain ⟨x0, x1, x2, x3, x4, x5⟩ := arr6 hw.1; go_simp; first | done | with_reducible rfl | rfl
  simp only [Act.put, List.getElem_toArray, List.getElem_cons_zero, List.getElem_cons_succ, List.setIfInBounds_toArray, List.set_cons_zero, List.set_cons_succ]
  apply s_val
  case ho => rfl
  case hw => rfl
  case hv => intro w hw; obtain ⟨x0, x1, x2, x3, x4, x5⟩ := arr6 hw.1; go_simp; first | done | with_reducible rfl | rfl
  simp only [Act.put, List.getElem_toArray, List.getElem_cons_zero, List.getElem_cons_succ, List.setIfInBounds_toArray, List.set_cons_zero, List.set_cons_succ]
  apply s_val (v := .bool true)
  case ho => rfl
  case hw => rfl
  case hv => intro w hw; obtain ⟨x0, x1, x2, x3, x4, x5⟩ := arr6 hw.1; go_simp; first | done | with_reducible rfl | rfl
  simp only [Act.put, List.getElem_toArray, List.getElem_cons_zero, List.getElem_cons_succ, List.setIfInBounds_toArray, List.set_cons_zero, List.set_cons_succ]
  apply s_val
  case ho => rfl
  case hw => rfl
  case hv => intro w hw; obtain ⟨x0, x1, x2, x3, x4, x5⟩ := arr6 hw.1; go_simp; first | done | with_reducible rfl | rfl
  simp only [Act.put, List.getElem_toArray, List.getElem_cons_zero, List.getElem_cons_succ, List.setIfInBounds_toArray, List.set_cons_zero, List.set_cons_succ]
  apply s_val
  case ho => rfl
  case hw => rfl
  case hv => intro w hw; obtain ⟨x0, x1, x2, x3, x4, x5⟩ := arr6 hw.1; go_simp; first | done | with_reducible rfl | rfl
  simp only [Act.put, List.getElem_toArray, List.getElem_cons_zero, List.getElem_cons_succ, List.setIfInBounds_toArray, List.set_cons_zero, List.set_cons_succ]
  apply s_val
  case ho => rfl
  case hw => rfl
  case hv => intro w hw; obtain ⟨x0, x1, x2, x3, x4, x5⟩ := arr6 hw.1; go_simp; first | done | with_reducible rfl | rfl
  simp only [Act.put, List.getElem_toArray, List.getElem_cons_zero, List.getElem_cons_succ, List.setIfInBounds_toArray, List.set_cons_zero, List.set_cons_succ]
  apply s_val (v := .bool true)
  case ho => rfl
  case hw => rfl
  case hv => intro w hw; obtain ⟨x0, x1, x2, x3, x4, x5⟩ := arr6 hw.1; go_simp; first | done | with_reducible rfl | rfl
  simp only [Act.put, List.getElem_toArray, List.getElem_cons_zero, List.getElem_cons_succ, List.setIfInBounds_toArray, List.set_cons_zero, List.set_cons_succ]
  apply s_val
  case ho => rfl
  case hw => rfl
  case hv => intro w hw; obtain ⟨x0, x1, x2, x3, x4, x5⟩ := arr6 hw.1; go_simp; first | done | with_reducible rfl | rfl
  simp only [Act.put, List.getElem_toArray, List.getElem_cons_zero, List.getElem_cons_succ, List.setIfInBounds_toArray, List.set_cons_zero, List.set_cons_succ]
  apply s_val
  case ho => rfl
  case hw => rfl
  case hv => intro w hw; obtain ⟨x0, x1, x2, x3, x4, x5⟩ := arr6 hw.1; go_simp; first | done | with_reducible rfl | rfl
  simp only [Act.put, List.getElem_toArray, List.getElem_cons_zero, List.getElem_cons_succ, List.setIfInBounds_toArray, List.set_cons_zero, List.set_cons_succ]
  refine s_getH rfl rfl (.tmp 3) rfl b3 A rfl hAl.out (fun w h => h.2.1) ?_
  simp only [Act.put, List.getElem_toArray, List.getElem_cons_zero, List.getElem_cons_succ, List.setIfInBounds_toArray, List.set_cons_zero, List.set_cons_succ]
  apply s_val
  case ho => rfl
  case hw => rfl
  case hv => intro w hw; obtain ⟨x0, x1, x2, x3, x4, x5⟩ := arr6 hw.1; go_simp; first | done | with_reducible rfl | rfl
  simp only [Act.put, List.getElem_toArray, List.getElem_cons_zero, List.getElem_cons_succ, List.setIfInBounds_toArray, List.set_cons_zero, List.set_cons_succ]
  apply s_val (v := .string G)
  case ho => rfl
  case hw => rfl
  case hv => intro w hw; have hn := hns; have hn1 := hns1; have hc := hcat.out; go_simp; first | done | with_reducible rfl | rfl
  simp only [Act.put, List.getElem_toArray, List.getElem_cons_zero, List.getElem_cons_succ, List.setIfInBounds_toArray, List.set_cons_zero, List.set_cons_succ]
  apply o_call (f := 33) (args := #[.string G]) (v := .agg (u8s A).toArray) (hc := cG.out _ (HK.out.below HB16.out hkp))
  case ho => rfl
  case hw => rfl
  case hop => go_simp; first | done | rfl
  rintro X1 hb
  have HBX := hidp (HB16.out.trans (hb.mono HB16.out.size))
  refine ⟨⟨HS.out.1.below hb HS.out.1.lt, HS.out.2.1.below hb HS.out.2.1.lt, HS.out.2.2.below hb HS.out.2.2.lt⟩, ?_⟩
  clear hb
  simp only [Act.put, List.getElem_toArray, List.getElem_cons_zero, List.getElem_cons_succ, List.setIfInBounds_toArray, List.set_cons_zero, List.set_cons_succ]
  apply s_val (v := .bool true)
  case ho => rfl
  case hw => rfl
  case hv => intro w hw; have q := eqin_same w A hAl.out; go_simp; first | done | with_reducible rfl | rfl
  simp only [Act.put, List.getElem_toArray, List.getElem_cons_zero, List.getElem_cons_succ, List.setIfInBounds_toArray, List.set_cons_zero, List.set_cons_succ]
  apply s_val
  case ho => rfl
  case hw => rfl
  case hv => intro w hw; obtain ⟨x0, x1, x2, x3, x4, x5⟩ := arr6 hw.1; go_simp; first | done | with_reducible rfl | rfl
  simp only [Act.put, List.getElem_toArray, List.getElem_cons_zero, List.getElem_cons_succ, List.setIfInBounds_toArray, List.set_cons_zero, List.set_cons_succ]
  apply s_val
  case ho => rfl
  case hw => rfl
  case hv => intro w hw; obtain ⟨x0, x1, x2, x3, x4, x5⟩ := arr6 hw.1; go_simp; first | done | with_reducible rfl | rfl
  simp only [Act.put, List.getElem_toArray, List.getElem_cons_zero, List.getElem_cons_succ, List.setIfInBounds_toArray, List.set_cons_zero, List.set_cons_succ]
  refine s_getH rfl rfl (.tmp 3) rfl b3 A rfl hAl.out (fun w h => h.2.1) ?_
  simp only [Act.put, List.getElem_toArray, List.getElem_cons_zero, List.getElem_cons_succ, List.setIfInBounds_toArray, List.set_cons_zero, List.set_cons_succ]
  refine s_getH rfl rfl (.tmp 5) rfl b5 B rfl hBl.out (fun w h => h.2.2) ?_
  simp only [Act.put, List.getElem_toArray, List.getElem_cons_zero, List.getElem_cons_succ, List.setIfInBounds_toArray, List.set_cons_zero, List.set_cons_succ]
  apply s_val (v := .bool true)
  case ho => rfl
  case hw => rfl
  case hv => intro w hw; have q := eqin_other w A B hAl.out hBl.out hAB.out; go_simp; first | done | with_reducible rfl | rfl
  simp only [Act.put, List.getElem_toArray, List.getElem_cons_zero, List.getElem_cons_succ, List.setIfInBounds_toArray, List.set_cons_zero, List.set_cons_succ]
  apply s_val
  case ho => rfl
  case hw => rfl
  case hv => intro w hw; obtain ⟨x0, x1, x2, x3, x4, x5⟩ := arr6 hw.1; go_simp; first | done | with_reducible rfl | rfl
  simp only [Act.put, List.getElem_toArray, List.getElem_cons_zero, List.getElem_cons_succ, List.setIfInBounds_toArray, List.set_cons_zero, List.set_cons_succ]
  apply s_val
  case ho => rfl
  case hw => rfl
  case hv => intro w hw; obtain ⟨x0, x1, x2, x3, x4, x5⟩ := arr6 hw.1; go_simp; first | done | with_reducible rfl | rfl
  simp only [Act.put, List.getElem_toArray, List.getElem_cons_zero, List.getElem_cons_succ, List.setIfInBounds_toArray, List.set_cons_zero, List.set_cons_succ]
  apply s_val
  case ho => rfl
  case hw => rfl
  case hv => intro w hw; obtain ⟨x0, x1, x2, x3, x4, x5⟩ := arr6 hw.1; go_simp; first | done | with_reducible rfl | rfl
  simp only [Act.put, List.getElem_toArray, List.getElem_cons_zero, List.getElem_cons_succ, List.setIfInBounds_toArray, List.set_cons_zero, List.set_cons_succ]
  apply s_val (v := .bool true)
  case ho => rfl
  case hw => rfl
  case hv => intro w hw; obtain ⟨x0, x1, x2, x3, x4, x5⟩ := arr6 hw.1; go_simp; first | done | with_reducible rfl | rfl
  simp only [Act.put, List.getElem_toArray, List.getElem_cons_zero, List.getElem_cons_succ, List.setIfInBounds_toArray, List.set_cons_zero, List.set_cons_succ]
  apply s_val
  case ho => rfl
  case hw => rfl
  case hv => intro w hw; obtain ⟨x0, x1, x2, x3, x4, x5⟩ := arr6 hw.1; go_simp; first | done | with_reducible rfl | rfl
  simp only [Act.put, List.getElem_toArray, List.getElem_cons_zero, List.getElem_cons_succ, List.setIfInBounds_toArray, List.set_cons_zero, List.set_cons_succ]
  apply s_val
  case ho => rfl
  case hw => rfl
  case hv => intro w hw; obtain ⟨x0, x1, x2, x3, x4, x5⟩ := arr6 hw.1; go_simp; first | done | with_reducible rfl | rfl
  simp only [Act.put, List.getElem_toArray, List.getElem_cons_zero, List.getElem_cons_succ, List.setIfInBounds_toArray, List.set_cons_zero, List.set_cons_succ]
  refine NoPanic.normal ?_
  go_wp2_with fail
  go_ret
  exact ⟨rfl, HBX.out⟩
end Go.Proofs.YtdaiichpihhckaaDoor
