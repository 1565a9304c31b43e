
/-
  auth: Levels, Rule; what the examples ask.
-/
import Derived.Test.YtkcgmimcopoknaaGreatDoorAuD
namespace Go.Proofs.YtkcgmimcopoknaaGreatDoor
set_option maxRecDepth 100000
set_option linter.unusedVariables false
set_option linter.unusedSimpArgs false
open Go.RowKit Rw

def aLv (cs : List Ce) : Lv := if okS cs = true then lvS cs else zLv
def aLx (cs : List Ce) : Int := if okS cs = true then lvX cs else 2
def aRu (cs : List Ce) : ByteArray := if okS cs = true then ruS cs else ⟨#[]⟩
def aRx (cs : List Ce) : Int := if okS cs = true then ruX cs else 2
theorem CsAt.stp {w W : World} {v : Value} {cs : List Ce} {b t : Nat} {xs : List Value} (h : CsAt w v cs) (st : Rt.Stp b w W) (ha : Arr w b t xs) (hx : ∀ x ∈ xs, ∀ n, x ≠ Value.int .u8 n) : CsAt W v cs := by
  refine ⟨⟨h.rs.1, ?_⟩, h.ok, h.len⟩
  rcases h.rs.2 with h0 | ⟨B, o, c, e, hc, hB, hr⟩
  · exact .inl h0
  · cases cs with
    | nil => exact .inr ⟨B, o, c, e, hc, by rw [st.size]; exact hB, fun j u hj => by simp [rowsC] at hj⟩
    | cons p r =>
      refine .inr ⟨B, o, c, e, hc, by rw [st.size]; exact hB, fun j u hj => ?_⟩
      have hne : B ≠ b := by
        rintro rfl
        have h0 := hr 0 (.int .u8 (p.k : Int)) rfl
        have hc0 : w.cell? ⟨B, o + 0, none⟩ = xs[o + 0]? := by simp [World.cell?, show w.heap[B]? = _ from ha]
        rw [hc0] at h0
        exact hx _ (List.mem_of_getElem? h0) _ rfl
      have hcell : W.cell? ⟨B, o + j, none⟩ = w.cell? ⟨B, o + j, none⟩ := World.cell?_of_block (w := w) (st.other B hne)
      rw [hcell]; exact hr j u hj

theorem ruS_size {cs : List Ce} (h : ∀ c ∈ cs, c.e.body.size ≤ 140737488351232 ∧ c.e.sender.size ≤ 140737488351232) : (ruS cs).size ≤ 281474976710656 := by
  unfold ruS
  cases ho : onlyS cs 4 with
  | none => exact by decide
  | some e =>
    simp only
    split
    · have := (only_sz h ho).1; omega
    · exact by decide
def xE1 : Ev := (⟨(⟨#[33, 104, 97, 108, 108, 58, 48]⟩ : ByteArray), (⟨#[64, 97, 110, 110, 58, 48]⟩ : ByteArray), 1, (⟨#[]⟩ : ByteArray), (⟨#[]⟩ : ByteArray), 0⟩ : Ev)
def xE2 : Ev := (⟨(⟨#[33, 104, 97, 108, 108, 58, 48]⟩ : ByteArray), (⟨#[64, 97, 110, 110, 58, 48]⟩ : ByteArray), 2, (⟨#[64, 97, 110, 110, 58, 48]⟩ : ByteArray), (⟨#[106, 111, 105, 110]⟩ : ByteArray), 0⟩ : Ev)
def xEB : Ev := (⟨(⟨#[33, 104, 97, 108, 108, 58, 48]⟩ : ByteArray), (⟨#[64, 98, 111, 98, 58, 49]⟩ : ByteArray), 1, (⟨#[]⟩ : ByteArray), (⟨#[]⟩ : ByteArray), 0⟩ : Ev)
def xM1 : Ev := (⟨(⟨#[33, 104, 97, 108, 108, 58, 48]⟩ : ByteArray), (⟨#[64, 98, 111, 98, 58, 49]⟩ : ByteArray), 6, (⟨#[]⟩ : ByteArray), (⟨#[104, 105]⟩ : ByteArray), 0⟩ : Ev)
def xM2 : Ev := (⟨(⟨#[33, 104, 97, 108, 108, 58, 48]⟩ : ByteArray), (⟨#[64, 97, 110, 110, 58, 48]⟩ : ByteArray), 6, (⟨#[]⟩ : ByteArray), (⟨#[104, 105]⟩ : ByteArray), 0⟩ : Ev)
def xT3 : Ev := (⟨(⟨#[33, 104, 97, 108, 108, 58, 48]⟩ : ByteArray), (⟨#[64, 97, 110, 110, 58, 48]⟩ : ByteArray), 2, (⟨#[64, 98, 111, 98, 58, 49]⟩ : ByteArray), (⟨#[116, 104, 105, 114, 100]⟩ : ByteArray), 0⟩ : Ev)
def xS1 : List Ce := [newC xE1]
def xS2 : List Ce := [newC xE1, newC xE2]
theorem l_a1 : auE [] xE1 = 0 := by kernel_rfl
theorem l_a2 : auE [] xEB = 12 := by kernel_rfl
theorem l_s1 : setV [] xE1 = xS1 := by kernel_rfl
theorem l_a3 : auE xS1 xE2 = 0 := by kernel_rfl
theorem l_s2 : setV xS1 xE2 = xS2 := by kernel_rfl
theorem l_a4 : auE xS2 xM1 = 12 := by kernel_rfl
theorem l_a5 : auE xS2 xM2 = 0 := by kernel_rfl
theorem l_a6 : auE xS2 xT3 = 2 := by kernel_rfl
theorem l_lx : aLx xS2 = 0 := by kernel_rfl
theorem l_lo : ofL (aLv xS2) (⟨#[64, 97, 110, 110, 58, 48]⟩ : ByteArray) = 100 := by kernel_rfl
theorem l_ru : aRu xS2 = (⟨#[105, 110, 118, 105, 116, 101]⟩ : ByteArray) := by kernel_rfl
theorem l_rx : aRx xS2 = 0 := by kernel_rfl
theorem l_n1 : nxO (⟨#[49, 50]⟩ : ByteArray) = some 12 := by kernel_rfl
theorem l_n2 : nxO (⟨#[54, 52]⟩ : ByteArray) = none := by kernel_rfl
end Go.Proofs.YtkcgmimcopoknaaGreatDoor
