
/-
  A checksum among a law's arguments; the table of the constants out of a row's list.
-/
import Derived.Test.YtgfdhgnkanekhaaDoorShaW
import Derived.Test.YtgfdhgnkanekhaaDoorCards
import Derived.Test.YtgfdhgnkanekhaaDoorTie
import Derived.ProofKit
import Derived.OpenShut
import Derived.ShutString
import Derived.SliceStrings
import Derived.SizedLaws
import Derived.Deep.DeepHandedRow
import Derived.Lib.LaidTab
namespace Go.Proofs.YtgfdhgnkanekhaaDoor
set_option linter.unusedVariables false
set_option linter.unusedSimpArgs false
open Go.RowKit Go.ChangeShapes Go.WideShapes Go.ChangeAt

theorem mapM_all {α β : Type} {f : α → Option β} {g : α → β} : ∀ (l : List α), (∀ a ∈ l, f a = some (g a)) → l.mapM f = some (l.map g)
  | [], _ => rfl
  | a :: l, h => by
    rw [List.mapM_cons, h a (by simp), mapM_all l (fun b hb => h b (by simp [hb]))]; rfl
def hashD {H : Type} (l : List UInt8) : DataW H := .agg (l.map fun b => .lit (.int .u8 (b.toNat : Int)))
section
variable {H : Type} {enc : TypeId × Value → H} {w : World} {base : Nat} {spare : Nat → Bool} {held : Bool}
set_option maxRecDepth 100000 in
theorem shut_hash (l : List UInt8) (hl : l.length = 32) : DataW.Trod enc Tryd.prog w base spare held 26 (.agg (u8s l).toArray) (hashD l) [] := by
  have ht : Tryd.prog.underlying 26 = some (.array 32 5) := by kernel_rfl
  have he : Tryd.prog.underlying 5 = some (.int .u8) := Tryd.underlying5
  have hce : Tryd.prog.cellsOf 5 = 1 := by kernel_rfl
  have hct : Tryd.prog.cellsOf 26 = 32 := by kernel_rfl
  refine ⟨2, ?_⟩
  have hlen : (Value.cells (.agg (u8s l).toArray)).toList.length = 32 := by simp [Value.cells, u8s, hl]
  have hm : ((List.range 32).mapM fun i => DataW.trod enc Tryd.prog w base spare held 1 5 (((Value.cells (.agg (u8s l).toArray)).toList.drop (i * 1)).take 1)) = some ((List.range 32).map fun i => (DataW.lit (.int .u8 ((l.getD i 0).toNat : Int)), ([] : List MemPlace))) := by
    refine mapM_all _ fun i hi => ?_
    have hi32 : i < 32 := by simpa using hi
    have hd : ((Value.cells (.agg (u8s l).toArray)).toList.drop (i * 1)).take 1 = [.int .u8 ((l.getD i 0).toNat : Int)] := by
      simp [Value.cells, u8s, List.drop_eq_getElem_cons (show i < (List.map (fun b : UInt8 => Value.int .u8 (b.toNat : Int)) l).length by simp [hl]; omega), List.getD_eq_getElem?_getD, hl, hi32]
    rw [hd]
    obtain ⟨c, hc⟩ : ∃ c, l.getD i 0 = c := ⟨_, rfl⟩
    rw [hc]
    have hb := c.toNat_lt
    simp only [DataW.trod, he]
    have hwf : (Lit.int .u8 (c.toNat : Int)).wf = true := by simp [Lit.wf, IntKind.min, IntKind.max, IntKind.signed, IntKind.bits]; omega
    simp [hwf]
  show DataW.trod enc Tryd.prog w base spare held (1 + 1) 26 _ = _
  unfold DataW.trod
  rw [ht]
  simp only [hce, hct, hlen, if_true, hm, Option.map_some]
  have e1 : (((List.range 32).map fun i => (DataW.lit (H := H) (.int .u8 ((l.getD i 0).toNat : Int)), ([] : List MemPlace))).map (·.1)) = l.map fun b => .lit (.int .u8 (b.toNat : Int)) := by
    apply List.ext_getElem (by simp [hl])
    intro i h1 h2
    simp at h1
    simp [List.getD_eq_getElem?_getD, hl, h1]
  have e2 : (((List.range 32).map fun i => (DataW.lit (H := H) (.int .u8 ((l.getD i 0).toNat : Int)), ([] : List MemPlace))).flatMap (·.2)) = [] := by
    rw [List.flatMap_eq_nil_iff]
    intro x hx
    obtain ⟨i, _, rfl⟩ := List.mem_map.1 hx
    rfl
  rw [e1, e2]
  rfl
set_option maxRecDepth 100000 in
theorem open_hash {r : Reach} {b0 : Nat} {v : Value} {d : DataW H} {ps : List MemPlace} (hval : Value.okWide Tryd.prog w r b0 26 v) (hd : DataW.Trod enc Tryd.prog w base spare held 26 v d ps) :
    ∃ l : List UInt8, v = .agg (u8s l).toArray ∧ d = hashD l ∧ ps = [] ∧ l.length = 32 := by
  have ht : Tryd.prog.underlying 26 = some (.array 32 5) := by kernel_rfl
  have he : Tryd.prog.underlying 5 = some (.int .u8) := Tryd.underlying5
  have hce : Tryd.prog.cellsOf 5 = 1 := by kernel_rfl
  have hct : Tryd.prog.cellsOf 26 = 32 := by kernel_rfl
  unfold Value.okWide at hval
  rw [ht] at hval
  obtain ⟨cs, rfl, hcs, _⟩ := hval
  rw [hct] at hcs
  obtain ⟨fuel, hf⟩ := hd
  obtain ⟨xs, m, rfl, hx, hl, hxl, hel⟩ := DataW.trod_array ht hf
  rw [hce] at hel
  have hone : ∀ i (hi : i < 32), ∃ z : Int, cs[i]? = some (.int .u8 z) ∧ xs[i]? = some (.lit (.int .u8 z), []) ∧ 0 ≤ z ∧ z < 256 := by
    intro i hi
    have h := hel i hi
    have hxi : i < xs.length := by omega
    rw [List.getElem?_eq_getElem hxi] at h
    obtain ⟨z, hc, hz, hw⟩ := DataW.trod_int he h
    refine ⟨z, ?_, ?_, ?_⟩
    · have := congrArg (·[0]?) hc
      simp [Value.cells, List.getElem?_take, List.getElem?_drop] at this
      exact this
    · rw [List.getElem?_eq_getElem hxi, hz]
    · simp [Lit.wf, IntKind.min, IntKind.max, IntKind.signed, IntKind.bits] at hw; omega
  have hz : ∀ i (hi : i < 32), ∃ b : UInt8, cs[i]? = some (.int .u8 (b.toNat : Int)) ∧ xs[i]? = some (.lit (.int .u8 (b.toNat : Int)), []) := by
    intro i hi
    obtain ⟨z, h1, h2, h3, h4⟩ := hone i hi
    refine ⟨UInt8.ofNat z.toNat, ?_⟩
    rw [u8n _ (by omega), show ((z.toNat : Nat) : Int) = z from by omega]
    exact ⟨h1, h2⟩
  have hall : ∀ n, n ≤ 32 → ∃ l : List UInt8, l.length = n ∧ ∀ i, i < n → ∃ b : UInt8, l[i]? = some b ∧ cs[i]? = some (.int .u8 (b.toNat : Int)) ∧ xs[i]? = some (.lit (.int .u8 (b.toNat : Int)), []) := by
    intro n
    induction n with
    | zero => intro _; exact ⟨[], rfl, fun i hi => by omega⟩
    | succ n ih =>
      intro hn
      obtain ⟨l, hl1, hl2⟩ := ih (by omega)
      obtain ⟨b, hb1, hb2⟩ := hz n (by omega)
      refine ⟨l ++ [b], by simp [hl1], fun i hi => ?_⟩
      rcases (by omega : i < n ∨ i = n) with h | rfl
      · obtain ⟨c, h1, h2, h3⟩ := hl2 i h
        exact ⟨c, by rw [List.getElem?_append_left (by omega)]; exact h1, h2, h3⟩
      · exact ⟨b, by rw [List.getElem?_append_right (by omega), hl1]; simp, hb1, hb2⟩
  obtain ⟨l, hll, hlg⟩ := hall 32 (Nat.le_refl _)
  refine ⟨l, ?_, ?_, ?_, hll⟩
  · have e : cs = (u8s l).toArray := by
      apply Array.ext_getElem?
      intro i
      by_cases hi : i < 32
      · obtain ⟨c, h1, h2, h3⟩ := hlg i hi
        rw [h2]
        simp [u8s, h1]
      · rw [Array.getElem?_eq_none (by omega), Array.getElem?_eq_none (by simp [u8s, hll]; omega)]
    rw [e]
  · have := congrArg Prod.fst hx
    simp only at this
    rw [this]
    unfold hashD
    have e : xs.map (·.1) = l.map fun b => (DataW.lit (.int .u8 (b.toNat : Int)) : DataW H) := by
      apply List.ext_getElem?
      intro i
      by_cases hi : i < 32
      · obtain ⟨c, h1, h2, h3⟩ := hlg i hi
        rw [List.getElem?_map, h3, List.getElem?_map, h1]; rfl
      · rw [List.getElem?_eq_none (by simp; omega), List.getElem?_eq_none (by simp [hll]; omega)]
    rw [e]
  · have := congrArg Prod.snd hx
    simp only at this
    rw [this, List.flatMap_eq_nil_iff]
    intro x hxm
    obtain ⟨i, hi, rfl⟩ := List.getElem_of_mem hxm
    obtain ⟨c, h1, h2, h3⟩ := hlg i (by omega)
    rw [List.getElem?_eq_getElem hi] at h3
    rw [Option.some.inj h3]
end
def kkI : List Int := kk.map fun (n : Nat) => (n : Int)
theorem gTab : Tryd.prog.globalNamed "palaver/sha.constants" = some 0 := by kernel_rfl
theorem gTabType : (Tryd.prog.globals[0]?).map (·.type) = some 124 := by kernel_rfl
theorem cellsTab : Tryd.prog.cellsOf 124 = 64 := by kernel_rfl
theorem cells32 : Tryd.prog.cellsOf 116 = 1 := by kernel_rfl
theorem tabData_eq {H : Type} : (Rows.laid_palaver_sha_constants : DataW H) = Lib.tabData .u32 kkI := by kernel_rfl
theorem kt_of_laid {W : World} {rest : List (String × DataW Unit)} (h : laidMet Tryd.prog (("palaver/sha.constants", Rows.laid_palaver_sha_constants) :: rest) W) : KT W := by
  rw [tabData_eq] at h
  have t : Lib.TabIs Tryd.prog W "palaver/sha.constants" .u32 kkI := Lib.tabIs_of_head gTab gTabType Tryd.underlying124 Tryd.underlying116 cells32 cellsTab h
  intro i hi
  have hk : kkI.length = 64 := by kernel_rfl
  have := t.cell gTab i (by omega)
  rw [this]
  congr 2
  simp [kkI, List.getD_eq_getElem?_getD, show kk.length = 64 from by kernel_rfl, hi]
end Go.Proofs.YtgfdhgnkanekhaaDoor
