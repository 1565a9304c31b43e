
/-
  TopAbove: the greatest level, and what changes keep.
-/
import Derived.Test.YtlgmgllilmlffaaDoorPwO
namespace Go.Proofs.YtlgmgllilmlffaaDoor
set_option maxRecDepth 100000
set_option linter.unusedVariables false
set_option linter.unusedSimpArgs false
open Go.RowKit Rw


def mostU (m : Int) (us : List (ByteArray × Int)) : Int := us.foldl (fun m p => max m p.2) m
/-- The greatest of All and every user's number. -/
def mostL (l : Lv) : Int := mostU l.a l.us
theorem mostU_ge : ∀ (us : List (ByteArray × Int)) (m : Int), m ≤ mostU m us ∧ ∀ p ∈ us, p.2 ≤ mostU m us
  | [], m => ⟨Int.le_refl _, fun p h => by cases h⟩
  | q :: r, m => by
    obtain ⟨h1, h2⟩ := mostU_ge r (max m q.2)
    have e : mostU m (q :: r) = mostU (max m q.2) r := rfl
    rw [e]
    refine ⟨by omega, fun p hp => ?_⟩
    rcases List.mem_cons.1 hp with rfl | hp
    · omega
    · exact h2 p hp
/-- One round of the loop over the users. -/
theorem mostU_take (us : List (ByteArray × Int)) (m : Int) (i : Nat) (h : i < us.length) : mostU m (us.take (i + 1)) = max (mostU m (us.take i)) us[i].2 := by
  unfold mostU
  rw [List.take_add_one, List.getElem?_eq_getElem h, List.foldl_append]
  rfl
theorem of_most (l : Lv) (x : ByteArray) : ofL l x ≤ mostL l := by
  obtain ⟨h1, h2⟩ := mostU_ge l.us l.a
  unfold ofL
  cases hx : ownL l.us x with
  | none => exact h1
  | some k =>
    obtain ⟨p, hp, -, rfl⟩ := own_mem hx
    exact h2 p hp
/-- A change that may be keeps every bound of all levels. -/
theorem keep_most {l m : Lv} {u : ByteArray} {k : Int} (h : chE l m u = 0) (hk : ∀ x, ofL l x ≤ k) (x : ByteArray) : ofL m x ≤ k := by
  have h1 := hk x; have h2 := hk u
  rcases no_higher h x with ⟨_, h3⟩ | h3
  · omega
  · omega
end Go.Proofs.YtlgmgllilmlffaaDoor
