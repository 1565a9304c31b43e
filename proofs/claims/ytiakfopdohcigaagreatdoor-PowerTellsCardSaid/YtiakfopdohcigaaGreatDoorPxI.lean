
/-
  power: the document's words.
-/
import Derived.Test.YtiakfopdohcigaaGreatDoorPxG
import Derived.Test.YtiakfopdohcigaaGreatDoorMm
import Derived.Test.YtiakfopdohcigaaGreatDoorPxQ
import Derived.Test.YtiakfopdohcigaaGreatDoorOctAll
namespace Go.Proofs.YtiakfopdohcigaaGreatDoor
set_option maxRecDepth 100000
set_option linter.unusedVariables false
set_option linter.unusedSimpArgs false
open Go.RowKit Rw
open List (getElem_toArray getElem_cons_zero getElem_cons_succ setIfInBounds_toArray set_cons_zero set_cons_succ)

def wdS (ws : List ByteArray) (b : UInt8) : List ByteArray := if b = 32 then ws ++ [⟨#[]⟩] else ws.dropLast ++ [(ws.getLast?.getD ⟨#[]⟩) ++ ⟨#[b]⟩]
def wdT (s : ByteArray) (i : Nat) : List ByteArray := (s.data.toList.take i).foldl wdS [⟨#[]⟩]
def wdL (s : ByteArray) : List ByteArray := wdT s s.size
def goodW (ws : List ByteArray) (pre : List UInt8) : Prop := ∃ ini x, ws = ini ++ [x] ∧ (spW ini ++ x).data.toList = pre ∧ ∀ w ∈ ws, (32 : UInt8) ∉ w.data.toList
theorem goodW_step {ws : List ByteArray} {pre : List UInt8} (h : goodW ws pre) (b : UInt8) : goodW (wdS ws b) (pre ++ [b]) := by
  obtain ⟨ini, x, rfl, h2, h3⟩ := h
  unfold wdS
  by_cases hb : b = 32
  · subst hb
    rw [if_pos rfl]
    refine ⟨ini ++ [x], ⟨#[]⟩, rfl, ?_, fun w hw => ?_⟩
    · rw [ba_nil, spW_snoc, ← h2, ← ByteArray.append_assoc]
      simp only [ByteArray.data_append, Array.toList_append]; rfl
    · rcases List.mem_append.1 hw with hw | hw
      · exact h3 w hw
      · simp at hw; subst hw; simp
  · rw [if_neg hb]
    have e1 : (ini ++ [x]).dropLast = ini := by simp
    have e2 : (ini ++ [x]).getLast?.getD ⟨#[]⟩ = x := by simp
    rw [e1, e2]
    refine ⟨ini, x ++ ⟨#[b]⟩, rfl, ?_, fun w hw => ?_⟩
    · rw [← ByteArray.append_assoc, ← h2]
      simp only [ByteArray.data_append, Array.toList_append]
    · rcases List.mem_append.1 hw with hw | hw
      · exact h3 w (List.mem_append_left _ hw)
      · simp only [List.mem_singleton] at hw
        subst hw
        simp only [ByteArray.data_append, Array.toList_append, List.mem_append, not_or]
        exact ⟨h3 x (by simp), by simpa using Ne.symm hb⟩
theorem goodW_all : ∀ (l : List UInt8) (ws : List ByteArray) (pre : List UInt8), goodW ws pre → goodW (l.foldl wdS ws) (pre ++ l)
  | [], ws, pre, h => by simpa using h
  | b :: r, ws, pre, h => by
    have := goodW_all r (wdS ws b) (pre ++ [b]) (goodW_step h b)
    simpa using this
theorem wdT_good (s : ByteArray) (i : Nat) : goodW (wdT s i) (s.data.toList.take i) := by
  have := goodW_all (s.data.toList.take i) [⟨#[]⟩] [] ⟨[], ⟨#[]⟩, rfl, rfl, fun w hw => by simp at hw; subst hw; simp⟩
  simpa [wdT] using this
theorem joinW_snoc (ini : List ByteArray) (x : ByteArray) : joinW (ini ++ [x]) = spW ini ++ x := by
  induction ini with
  | nil => simp only [List.nil_append, spW]; rw [joinW_one, ba_nil']
  | cons a r ih =>
    have : ∃ y q, r ++ [x] = y :: q := by cases r with
      | nil => exact ⟨x, [], rfl⟩
      | cons b q => exact ⟨b, q ++ [x], rfl⟩
    obtain ⟨y, q, e⟩ := this
    rw [List.cons_append, e]
    apply ba_eq
    rw [joinW_cons, ← e, ih]
    simp only [spW, ByteArray.data_append, Array.toList_append]
    simp [blank]
theorem wdL_join (s : ByteArray) : joinW (wdL s) = s := by
  obtain ⟨ini, x, h1, h2, -⟩ := wdT_good s s.size
  unfold wdL
  rw [h1, joinW_snoc]
  apply ba_eq
  rw [h2, List.take_of_length_le (by simp)]
theorem wdL_some (s : ByteArray) : ∃ x r, wdL s = x :: r := by
  obtain ⟨ini, x, h1, -, -⟩ := wdT_good s s.size
  unfold wdL
  rw [h1]
  cases ini with
  | nil => exact ⟨x, [], rfl⟩
  | cons a r => exact ⟨a, r ++ [x], rfl⟩
theorem wdL_blank (s : ByteArray) : ∀ w ∈ wdL s, (32 : UInt8) ∉ w.data.toList := by
  obtain ⟨ini, x, h1, -, h3⟩ := wdT_good s s.size
  exact h3
/-- Words without blanks are told by their text. -/
theorem words_one {x y : ByteArray} {r q : List ByteArray} (h1 : ∀ z ∈ x :: r, (32 : UInt8) ∉ z.data.toList) (h2 : ∀ z ∈ y :: q, (32 : UInt8) ∉ z.data.toList) (he : joinW (x :: r) = joinW (y :: q)) : x :: r = y :: q := by
  have a := cutB_join r x (max r.length q.length) h1 (by omega)
  have b := cutB_join q y (max r.length q.length) h2 (by omega)
  rw [← a, ← b, he]
theorem wdL_words {t : ByteArray} {l : Lv} (h : lvOk l = true) (ht : txL l = t) : wdL t = wordsL l := by
  obtain ⟨x, r, e1⟩ := wdL_some t
  obtain ⟨y, q, e2⟩ := words_some l
  have hb1 := wdL_blank t
  have hb2 := words_blank (lvOk_parts h)
  rw [e1] at hb1
  rw [e2] at hb2
  rw [e1, e2]
  refine words_one hb1 hb2 ?_
  rw [← e1, ← e2, wdL_join]
  exact ht.symm
theorem wdT_len (s : ByteArray) : ∀ i, (wdT s i).length ≤ i + 1 ∧ 1 ≤ (wdT s i).length := by
  have key : ∀ (l : List UInt8) (ws : List ByteArray), 1 ≤ ws.length → (l.foldl wdS ws).length ≤ ws.length + l.length ∧ 1 ≤ (l.foldl wdS ws).length := by
    intro l
    induction l with
    | nil => intro ws h; exact ⟨by simp, h⟩
    | cons b r ih =>
      intro ws h
      have hl : (wdS ws b).length ≤ ws.length + 1 ∧ 1 ≤ (wdS ws b).length := by
        unfold wdS; split <;> simp <;> omega
      have := ih (wdS ws b) hl.2
      simp only [List.foldl_cons, List.length_cons]
      omega
  intro i
  have := key (s.data.toList.take i) [⟨#[]⟩] (by simp)
  unfold wdT
  simp only [List.length_cons, List.length_nil, List.length_take] at this
  omega
theorem wdT_succ (s : ByteArray) {i : Nat} (h : i < s.size) : wdT s (i + 1) = wdS (wdT s i) (s[i]'h) := by
  unfold wdT
  have hl : i < s.data.toList.length := by simpa using h
  rw [List.take_add_one, List.getElem?_eq_getElem hl, List.foldl_append]
  rfl
theorem mem_totW : ∀ (ini : List ByteArray) (w : ByteArray), w ∈ ini → w.size + 1 ≤ totW ini
  | [], w, h => by cases h
  | a :: r, w, h => by
    simp only [totW, List.map_cons, List.sum_cons]
    rcases List.mem_cons.1 h with rfl | h
    · omega
    · have := mem_totW r w h; unfold totW at this; omega
theorem wdT_sz (s : ByteArray) (i : Nat) : ∀ w ∈ wdT s i, w.size ≤ s.size := by
  obtain ⟨ini, x, h1, h2, -⟩ := wdT_good s i
  intro w hw
  have hsz : (spW ini ++ x).size ≤ s.size := by
    have : (spW ini ++ x).size = (spW ini ++ x).data.toList.length := by simp
    rw [this, h2]; simp; omega
  rw [ByteArray.size_append, spW_size] at hsz
  rw [h1] at hw
  rcases List.mem_append.1 hw with hw | hw
  · have := mem_totW ini w hw
    omega
  · simp at hw; subst hw; omega
end Go.Proofs.YtiakfopdohcigaaGreatDoor
