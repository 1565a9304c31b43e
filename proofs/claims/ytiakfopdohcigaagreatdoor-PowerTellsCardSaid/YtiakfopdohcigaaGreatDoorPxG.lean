
/-
  power: what the document's Text and words come to; plain mathematics.
-/
import Derived.Test.YtiakfopdohcigaaGreatDoorPxF
namespace Go.Proofs.YtiakfopdohcigaaGreatDoor
set_option maxRecDepth 100000
set_option linter.unusedVariables false
set_option linter.unusedSimpArgs false
open Go.RowKit Rw
def blank : ByteArray := ⟨#[32]⟩
/-- Words, each with a blank behind it. -/
def spW : List ByteArray → ByteArray
  | [] => ⟨#[]⟩
  | w :: r => w ++ blank ++ spW r
theorem ba_nil (a : ByteArray) : a ++ (⟨#[]⟩ : ByteArray) = a := ByteArray.append_empty
theorem ba_nil' (a : ByteArray) : (⟨#[]⟩ : ByteArray) ++ a = a := ByteArray.empty_append
theorem spW_snoc (ws : List ByteArray) (w : ByteArray) : spW (ws ++ [w]) = spW ws ++ (w ++ blank) := by
  induction ws with
  | nil => simp only [List.nil_append, spW]; rw [ba_nil, ba_nil']
  | cons a r ih => simp only [List.cons_append, spW]; rw [ih]; simp only [ByteArray.append_assoc]
theorem spW_two (ws : List ByteArray) (x y : ByteArray) : spW (ws ++ [x, y]) = spW ws ++ (x ++ blank ++ y ++ blank) := by
  rw [show ws ++ [x, y] = (ws ++ [x]) ++ [y] from by simp, spW_snoc, spW_snoc]
  simp only [ByteArray.append_assoc]
theorem spW_join (w : ByteArray) (r : List ByteArray) : spW (w :: r) = joinW (w :: r) ++ blank := by
  induction r generalizing w with
  | nil => simp only [spW]; rw [joinW_one, ba_nil]
  | cons a r ih =>
    have h1 : spW (w :: a :: r) = w ++ blank ++ spW (a :: r) := rfl
    rw [h1, ih]
    apply ba_eq
    simp only [ByteArray.data_append, Array.toList_append]
    rw [joinW_cons]
    simp [blank]
theorem spW_size (ws : List ByteArray) : (spW ws).size = totW ws := by
  induction ws with
  | nil => rfl
  | cons a r ih =>
    simp only [spW, totW, List.map_cons, List.sum_cons, ByteArray.size_append]
    rw [ih]
    show a.size + 1 + totW r = a.size + 1 + totW r
    rfl
/-- The document's text, place by place. -/
def six_w (l : Lv) (i : Nat) : List ByteArray := ((sixL l).take i).map itT
def us_w (l : Lv) (i : Nat) : List ByteArray := (sixL l).map itT ++ (l.us.take i).flatMap fun p => [p.1, itT p.2]
theorem six_w_succ (l : Lv) {i : Nat} {z : Int} (hi : i < 6) (hz : (sixL l).getD i 0 = z) : six_w l (i + 1) = six_w l i ++ [itT z] := by
  unfold six_w
  have h : i < (sixL l).length := hi
  rw [List.take_add_one, List.getElem?_eq_getElem h, List.map_append]
  rw [List.getD_eq_getElem?_getD, List.getElem?_eq_getElem h] at hz
  simp only [Option.getD_some] at hz
  rw [hz]; rfl
theorem us_w_succ (l : Lv) {i : Nat} {p : ByteArray × Int} (hi : i < l.us.length) (hp : l.us[i] = p) : us_w l (i + 1) = us_w l i ++ [p.1, itT p.2] := by
  unfold us_w
  rw [List.take_add_one, List.getElem?_eq_getElem hi, List.flatMap_append, ← List.append_assoc, hp]
  simp
theorem us_w_end (l : Lv) : us_w l l.us.length = wordsL l := by unfold us_w wordsL; rw [List.take_length]
theorem words_some (l : Lv) : ∃ w r, wordsL l = w :: r := ⟨_, _, words_cons l⟩
/-- Without the last blank. -/
theorem spW_cut (l : Lv) : (spW (wordsL l)).extract 0 ((spW (wordsL l)).size - 1) = txL l := by
  obtain ⟨w, r, e⟩ := words_some l
  unfold txL
  rw [e, spW_join]
  have hs : (joinW (w :: r) ++ blank).size - 1 = (joinW (w :: r)).size := by rw [ByteArray.size_append]; show _ + 1 - 1 = _; omega
  rw [hs]
  apply ba_eq
  simp only [ByteArray.data_extract, ByteArray.data_append, Array.toList_extract, Array.toList_append]
  have h2 : (joinW (w :: r)).size = (joinW (w :: r)).data.toList.length := by simp
  rw [h2]
  simp
end Go.Proofs.YtiakfopdohcigaaGreatDoor
