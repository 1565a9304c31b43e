
/-
  PowerBack: the text of levels, read.
-/
import Derived.Test.YtiakfopdohcigaaGreatDoorPwJ
namespace Go.Proofs.YtiakfopdohcigaaGreatDoor
set_option maxRecDepth 100000
set_option linter.unusedVariables false
set_option linter.unusedSimpArgs false
open Go.RowKit Rw


theorem idx_app : ∀ (a : List UInt8) (r : List UInt8), 32 ∉ a → Lib.indexByte (a ++ 32 :: r) 32 = (a.length : Int)
  | [], r, _ => rfl
  | b :: a, r, h => by
    have hb : (b == (32 : UInt8)) = false := by
      cases hq : (b == (32 : UInt8)) with
      | false => rfl
      | true => exact absurd (by rw [beq_iff_eq.1 hq]; exact List.mem_cons_self ..) h
    have ih := idx_app a r (fun hm => h (List.mem_cons_of_mem _ hm))
    rw [List.cons_append, Lib.indexByte, hb, ih]
    have : ((a.length : Int) == -1) = false := by
      cases hq : ((a.length : Int) == -1) with
      | false => rfl
      | true => have := beq_iff_eq.1 hq; omega
    rw [this]
    simp only [Bool.false_eq_true, if_false, List.length_cons]
    omega
theorem idx_not : ∀ (a : List UInt8), 32 ∉ a → Lib.indexByte a 32 = -1
  | [], _ => rfl
  | b :: a, h => by
    have hb : (b == (32 : UInt8)) = false := by
      cases hq : (b == (32 : UInt8)) with
      | false => rfl
      | true => exact absurd (by rw [beq_iff_eq.1 hq]; exact List.mem_cons_self ..) h
    have ih := idx_not a (fun hm => h (List.mem_cons_of_mem _ hm))
    rw [Lib.indexByte, hb, ih]
    rfl
theorem joinW_cons (x y : ByteArray) (r : List ByteArray) : (joinW (x :: y :: r)).data.toList = x.data.toList ++ 32 :: (joinW (y :: r)).data.toList := by
  unfold joinW
  simp only [List.map_cons]
  rw [Lib.join_cons, Lib.join_cons]
  simp [Lib.joinTail]
theorem joinW_one (x : ByteArray) : joinW [x] = x := by
  unfold joinW
  simp only [List.map_cons, List.map_nil]
  rw [Lib.join_one]
theorem ba_eq {a b : ByteArray} (h : a.data.toList = b.data.toList) : a = b := by
  cases a; cases b; simp only [ByteArray.mk.injEq]; exact Array.toList_inj.1 h
theorem cutB_join : ∀ (r : List ByteArray) (x : ByteArray) (k : Nat), (∀ y ∈ x :: r, (32 : UInt8) ∉ y.data.toList) → r.length ≤ k → cutB k (joinW (x :: r)) = x :: r
  | [], x, k, h, _ => by
    rw [joinW_one]
    exact cutB_miss (by rw [idx_not _ (h x (List.mem_cons_self ..))]; omega)
  | y :: r, x, k, h, hk => by
    obtain ⟨k, rfl⟩ : ∃ m, k = m + 1 := ⟨k - 1, by simp only [List.length_cons] at hk; omega⟩
    have hx := h x (List.mem_cons_self ..)
    have hj := joinW_cons x y r
    have hi : Lib.indexByte (joinW (x :: y :: r)).data.toList 32 = (x.data.toList.length : Int) := by rw [hj]; exact idx_app _ _ hx
    have ih := cutB_join r y k (fun z hz => h z (List.mem_cons_of_mem _ hz)) (by simp only [List.length_cons] at hk; omega)
    rw [cutB, if_neg (by rw [hi]; omega), hi]
    have e1 : (joinW (x :: y :: r)).extract 0 ((x.data.toList.length : Int)).toNat = x := by
      apply ba_eq
      rw [ByteArray.data_extract, Array.toList_extract, hj]
      simp
    have e2 : (joinW (x :: y :: r)).extract (((x.data.toList.length : Int)).toNat + 1) (joinW (x :: y :: r)).size = joinW (y :: r) := by
      apply ba_eq
      have hs : (joinW (x :: y :: r)).size = x.data.toList.length + 1 + (joinW (y :: r)).data.toList.length := by
        have : (joinW (x :: y :: r)).size = (joinW (x :: y :: r)).data.toList.length := (Array.length_toList ..).symm
        rw [this, hj]; simp only [List.length_append, List.length_cons]; omega
      rw [ByteArray.data_extract, Array.toList_extract, hj, hs]
      simp only [Int.toNat_natCast, List.extract_eq_take_drop]
      rw [show x.data.toList ++ 32 :: (joinW (y :: r)).data.toList = (x.data.toList ++ [32]) ++ (joinW (y :: r)).data.toList from by simp]
      rw [List.drop_append_of_le_length (by simp only [List.length_append, List.length_cons, List.length_nil]; omega), List.drop_of_length_le (by simp only [List.length_append, List.length_cons, List.length_nil]; omega), List.nil_append]
      exact List.take_of_length_le (by omega)
    rw [e1, e2, ih]
theorem num_itT : ((List.range 101).all fun n => decide (numW (itT (n : Int)) = (n : Int)) && decide ((32 : UInt8) ∉ (itT (n : Int)).data.toList)) = true := by kernel_rfl
theorem num_it {n : Int} (h : inR n = true) : numW (itT n) = n ∧ (32 : UInt8) ∉ (itT n).data.toList := by
  unfold inR at h
  simp only [Bool.and_eq_true, decide_eq_true_eq] at h
  have := List.all_eq_true.1 num_itT n.toNat (List.mem_range.2 (by omega))
  simp only [Bool.and_eq_true, decide_eq_true_eq, Int.toNat_of_nonneg h.1] at this
  exact this

theorem usr_blank {t : ByteArray} (h : usr t = true) : (32 : UInt8) ∉ t.data.toList := by
  unfold usr who at h
  cases hp : idP t with
  | none => rw [hp] at h; cases h
  | some q =>
    obtain ⟨k, nm, n⟩ := q
    obtain ⟨h1, h2⟩ := idP_some hp
    rw [← h2]
    show (32 : UInt8) ∉ (mkS (idL k nm n)).data.toList
    rw [← ByteArray.toList_eq, mkS_toList]
    intro hm
    unfold idOk nameL at h1
    simp only [Bool.and_eq_true, decide_eq_true_eq, List.all_eq_true] at h1
    simp only [idL, List.mem_cons, List.mem_append] at hm
    rcases hm with hm | hm | hm | hm
    · unfold kmark at hm; split at hm <;> exact absurd hm (by decide)
    · have := h1.1.1.2.2 _ hm; exact absurd this (by decide)
    · exact absurd hm (by decide)
    · have hd : ∀ n : Fin 64, (32 : UInt8) ∉ dig n.val := by decide
      exact hd ⟨n, by omega⟩ hm
theorem words_blank {l : Lv} (h : LvOk l) : ∀ x ∈ wordsL l, (32 : UInt8) ∉ x.data.toList := by
  intro x hx
  unfold wordsL at hx
  rw [List.mem_append] at hx
  rcases hx with hx | hx
  · obtain ⟨n, hn, rfl⟩ := List.mem_map.1 hx
    exact (num_it (h.six n hn)).2
  · obtain ⟨p, hp, hx⟩ := List.mem_flatMap.1 hx
    simp at hx
    rcases hx with rfl | rfl
    · exact usr_blank (h.us p hp).1
    · exact (num_it (h.us p hp).2).2
theorem joinW_size (x y : ByteArray) (r : List ByteArray) : (joinW (x :: y :: r)).size = x.size + 1 + (joinW (y :: r)).size := by
  have h := congrArg List.length (joinW_cons x y r)
  simp only [List.length_append, List.length_cons, Array.length_toList] at h
  simp only [ByteArray.size]; omega
theorem joinW_ge : ∀ (r : List ByteArray) (x : ByteArray), r.length ≤ (joinW (x :: r)).size
  | [], _ => Nat.zero_le _
  | y :: r, x => by rw [joinW_size]; have := joinW_ge r y; simp only [List.length_cons]; omega
def totW (ws : List ByteArray) : Nat := (ws.map fun y => y.size + 1).sum
theorem joinW_tot : ∀ (r : List ByteArray) (x : ByteArray), (joinW (x :: r)).size + 1 = totW (x :: r)
  | [], x => by rw [joinW_one]; simp [totW]
  | y :: r, x => by rw [joinW_size]; have := joinW_tot r y; simp only [totW, List.map_cons, List.sum_cons] at this ⊢; omega
theorem words_cons (l : Lv) : wordsL l = itT l.a :: ([itT l.s, itT l.i, itT l.k, itT l.b, itT l.r] ++ l.us.flatMap fun p => [p.1, itT p.2]) := rfl
theorem spl_tx {l : Lv} (h : lvOk l = true) : spl (txL l) = wordsL l := by
  have h' := lvOk_parts h
  have hb := words_blank h'
  have hl := words_len l
  have h16 := h'.len
  unfold spl txL
  obtain ⟨r, hr⟩ : ∃ r, [itT l.s, itT l.i, itT l.k, itT l.b, itT l.r] ++ l.us.flatMap (fun p => [p.1, itT p.2]) = r := ⟨_, rfl⟩
  rw [words_cons, hr] at hb hl ⊢
  have hg := joinW_ge r (itT l.a)
  simp only [List.length_cons] at hl
  exact cutB_join r _ _ hb (by omega)
theorem flat_get : ∀ (us : List (ByteArray × Int)) (i : Nat) (h : i < us.length), (us.flatMap fun p => [p.1, itT p.2])[2 * i]? = some us[i].1 ∧ (us.flatMap fun p => [p.1, itT p.2])[2 * i + 1]? = some (itT us[i].2)
  | [], i, h => by simp at h
  | p :: r, 0, _ => ⟨rfl, rfl⟩
  | p :: r, i + 1, h => by
    have := flat_get r i (by simpa using h)
    simpa [List.flatMap_cons, show 2 * (i + 1) = 2 * i + 1 + 1 from by omega] using this
theorem cand_tx {l : Lv} (h : LvOk l) : candL (wordsL l) = l := by
  have n0 : ∀ n ∈ sixL l, numW (itT n) = n := fun n hn => (num_it (h.six n hn)).1
  have hw : ∀ i, (wordsL l)[6 + i]? = (l.us.flatMap fun p => [p.1, itT p.2])[i]? := fun i => by
    unfold wordsL
    rw [List.getElem?_append_right (by simp [sixL]), show ((sixL l).map itT).length = 6 from rfl, Nat.add_sub_cancel_left]
  have hu : usN (wordsL l) (((wordsL l).length - 6) / 2) = l.us := by
    rw [words_len, show (6 + 2 * l.us.length - 6) / 2 = l.us.length from by omega]
    unfold usN
    apply List.ext_getElem
    · simp
    · intro i h1 h2
      have hi : i < l.us.length := h2
      obtain ⟨f1, f2⟩ := flat_get l.us i hi
      simp only [List.getElem_map, List.getElem_finRange]
      have e1 : wAt (wordsL l) (6 + 2 * i) = l.us[i].1 := by unfold wAt; rw [List.getD_eq_getElem?_getD, hw, f1]; rfl
      have e2 : wAt (wordsL l) (7 + 2 * i) = itT l.us[i].2 := by unfold wAt; rw [List.getD_eq_getElem?_getD, show 7 + 2 * i = 6 + (2 * i + 1) from by omega, hw, f2]; rfl
      have e3 : nAt (wordsL l) (7 + 2 * i) = l.us[i].2 := by unfold nAt; rw [e2]; exact (num_it (h.us _ (List.getElem_mem hi)).2).1
      simp only [Fin.cast_mk, Fin.val_mk]
      rw [e1, e3]
  unfold candL
  rw [hu]
  have a0 : nAt (wordsL l) 0 = l.a := n0 l.a (by simp [sixL])
  have a1 : nAt (wordsL l) 1 = l.s := n0 l.s (by simp [sixL])
  have a2 : nAt (wordsL l) 2 = l.i := n0 l.i (by simp [sixL])
  have a3 : nAt (wordsL l) 3 = l.k := n0 l.k (by simp [sixL])
  have a4 : nAt (wordsL l) 4 = l.b := n0 l.b (by simp [sixL])
  have a5 : nAt (wordsL l) 5 = l.r := n0 l.r (by simp [sixL])
  rw [a0, a1, a2, a3, a4, a5]
theorem ps_tx {l : Lv} (h : lvOk l = true) : psL (txL l) = some l := by
  unfold psL
  rw [spl_tx h, cand_tx (lvOk_parts h), words_len, if_neg (by omega), if_pos ⟨h, rfl⟩]
theorem tot_app (a b : List ByteArray) : totW (a ++ b) = totW a + totW b := by simp [totW]
theorem tot_le (m : Nat) : ∀ (ws : List ByteArray), (∀ x ∈ ws, x.size ≤ m) → totW ws ≤ ws.length * (m + 1)
  | [], _ => Nat.zero_le _
  | x :: r, h => by
    have h1 := h x (List.mem_cons_self ..)
    have h2 := tot_le m r (fun y hy => h y (List.mem_cons_of_mem _ hy))
    simp only [totW, List.map_cons, List.sum_cons, List.length_cons] at h2 ⊢
    rw [Nat.add_mul]; omega
theorem tot_us : ∀ (us : List (ByteArray × Int)), (∀ p ∈ us, usr p.1 = true ∧ inR p.2 = true) → totW (us.flatMap fun p => [p.1, itT p.2]) ≤ us.length * 25
  | [], _ => Nat.zero_le _
  | p :: r, h => by
    obtain ⟨h1, h2⟩ := h p (List.mem_cons_self ..)
    have h3 := usr_size h1; have h4 := itT_size h2
    have h5 := tot_us r (fun y hy => h y (List.mem_cons_of_mem _ hy))
    rw [List.flatMap_cons, tot_app]
    simp only [totW, List.map_cons, List.map_nil, List.sum_cons, List.sum_nil, List.length_cons] at h5 ⊢
    omega
theorem tx_size {l : Lv} (h : lvOk l = true) : (txL l).size ≤ 512 := by
  have h' := lvOk_parts h
  have h1 := tot_us l.us h'.us
  have h2 := tot_le 3 ((sixL l).map itT) (fun x hx => by obtain ⟨n, hn, rfl⟩ := List.mem_map.1 hx; exact itT_size (h'.six n hn))
  have h3 : ((sixL l).map itT).length = 6 := rfl
  have h4 : totW (wordsL l) = totW ((sixL l).map itT) + totW (l.us.flatMap fun p => [p.1, itT p.2]) := by unfold wordsL; exact tot_app _ _
  have h5 : (joinW (wordsL l)).size + 1 = totW (wordsL l) := by rw [words_cons]; exact joinW_tot _ _
  have h16 := h'.len
  unfold txL
  omega
end Go.Proofs.YtiakfopdohcigaaGreatDoor
