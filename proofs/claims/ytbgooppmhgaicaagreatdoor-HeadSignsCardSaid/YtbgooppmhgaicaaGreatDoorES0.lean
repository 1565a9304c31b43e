import Derived.Test.YtbgooppmhgaicaaGreatDoorEK
import Derived.Test.YtbgooppmhgaicaaGreatDoorEE
set_option linter.unusedVariables false
set_option linter.unusedSimpArgs false
set_option maxHeartbeats 64000000
set_option maxRecDepth 100000
namespace Go.Proofs.YtbgooppmhgaicaaGreatDoor
def blkF (l : List UInt8) : Nat → S8
 | 0 => init8
 | i + 1 => compF (blkF l i) ((l.drop (64 * i)).take 64)
theorem blkF_eq (l : List UInt8) (i : Nat) : blk l i = blkF l i := by
 induction i with
 | zero => rw [blk_zero]; rfl
 | succ i ih => rw [blk_succ, ih, compF_eq]; rfl
def shaSF (l : List UInt8) : S8 :=
 if 55 < (l.drop (64 * (l.length / 64))).length then compF (compF (blkF l (l.length / 64)) (ended (l.drop (64 * (l.length / 64))))) (sized (List.replicate 64 0) l.length) else compF (blkF l (l.length / 64)) (sized (ended (l.drop (64 * (l.length / 64)))) l.length)
def shaF (l : List UInt8) : List UInt8 := joinL (shaSF l)
theorem shaF_eq (l : List UInt8) : shaL l = shaF l := by
 unfold shaL shaF shaSF
 by_cases h : 55 < (l.drop (64 * (l.length / 64))).length
 · rw [shaS_long l h, if_pos h, compF_eq, compF_eq, blkF_eq]
 · rw [shaS_short l h, if_neg h, compF_eq, blkF_eq]
def midF (l : List UInt8) : List UInt8 := (shaF l).take 16
theorem midF_eq (l : List UInt8) : midL l = midF l := by unfold midL midF; rw [shaF_eq]
def walkF (x : List UInt8) : Nat → List UInt8
 | 0 => x
 | k + 1 => midF (2 :: walkF x k)
theorem walkF_eq (x : List UInt8) (k : Nat) : walkL x k = walkF x k := by
 induction k with
 | zero => rfl
 | succ k ih => rw [walkL, ih, midF_eq]; rfl
def chF (seed : List UInt8) (j : Nat) : List UInt8 := walkF (midF (3 :: UInt8.ofNat j :: seed)) 3
theorem pubF_eq (seed : List UInt8) : pubL seed = shaF (4 :: (List.range 68).flatMap (chF seed)) := by
 unfold pubL catL
 rw [shaF_eq]
 have e : (fun j => walkL (startL seed j) 3) = chF seed := by
  funext j
  unfold startL chF
  rw [walkF_eq, midF_eq]
 rw [e]
end Go.Proofs.YtbgooppmhgaicaaGreatDoor
namespace Go.Proofs.YtbgooppmhgaicaaGreatDoor.En
open Go.RowKit
def h (n : Nat) : List UInt8 := (List.range 16).map fun i => UInt8.ofNat (n / 256 ^ (15 - i))
def frc {α : Type} (n : Nat) (f : Nat → α) : α := match n with | 0 => f 0 | k + 1 => f (k + 1)
theorem joinL_take (s : S8) : (joinL s).take 16 = be4 s.a ++ be4 s.b ++ be4 s.c ++ be4 s.d := by unfold joinL be4; rfl
theorem shaF_small (l : List UInt8) (h : l.length ≤ 55) : shaF l = joinL (compF init8 (sized (ended l) l.length)) := by
 unfold shaF shaSF
 have h0 : l.length / 64 = 0 := by omega
 rw [h0]; simp only [Nat.mul_zero, List.drop_zero]
 rw [if_neg (by omega)]; rfl
theorem frc_eq {α : Type} (n : Nat) (f : Nat → α) : frc n f = f n := by cases n <;> rfl
def schG {α : Type} (l : List UInt8) : Nat → Nat → List Nat → (List Nat → α) → α
 | 0, _, r, k => k r
 | n + 1, t, r, k => frc (if t < 16 then firstW l t else add32 (add32 (add32 (r.getD 15 0) (sg0 (r.getD 14 0))) (r.getD 6 0)) (sg1 (r.getD 1 0))) fun x => schG l n (t + 1) (x :: r) k
theorem rev_getD (r : List Nat) (i : Nat) (h : i < r.length) : r.reverse.getD (r.length - (i + 1)) 0 = r.getD i 0 := by
 rw [List.getD_eq_getElem?_getD, List.getD_eq_getElem?_getD, List.getElem?_reverse (by omega), show r.length - 1 - (r.length - (i + 1)) = i from by omega]
theorem schG_eq {α : Type} (l : List UInt8) : ∀ (n t : Nat) (r : List Nat) (k : List Nat → α), t = r.length → schG l n t r k = k (schedF l n r.reverse).reverse
 | 0, _, r, k, _ => by rw [schG, schedF, List.reverse_reverse]
 | n + 1, t, r, k, h => by
   subst h
   rw [schG, frc_eq, schG_eq l n (r.length + 1) _ k (by rw [List.length_cons]), schedF, List.reverse_cons, List.length_reverse]
   by_cases h : r.length < 16
   · rw [if_pos h, if_pos h]
   · rw [if_neg h, if_neg h]
     unfold nextW
     rw [rev_getD r 15 (by omega), rev_getD r 14 (by omega), rev_getD r 6 (by omega), rev_getD r 1 (by omega)]
def rndG {α : Type} (k : S8 → α) : List Nat → List Nat → Nat → Nat → Nat → Nat → Nat → Nat → Nat → Nat → α
 | q :: ks, x :: ws, a, b, c, d, e, f, g, h => frc (t1f ⟨a, b, c, d, e, f, g, h⟩ q x) fun t => frc (add32 t (add32 (bs0 a) (maj a b c))) fun y => frc (add32 d t) fun z => rndG k ks ws y a b c z e f g
 | _, _, a, b, c, d, e, f, g, h => k ⟨a, b, c, d, e, f, g, h⟩
theorem rndG_eq {α : Type} (k : S8 → α) : ∀ (ks ws : List Nat) (a b c d e f g h : Nat), rndG k ks ws a b c d e f g h = k (roundsF ks ws ⟨a, b, c, d, e, f, g, h⟩)
 | q :: ks, x :: ws, a, b, c, d, e, f, g, h => by
   rw [rndG, frc_eq, frc_eq, frc_eq, rndG_eq k ks ws]; rfl
 | [], _, _, _, _, _, _, _, _, _ => by unfold rndG roundsF; rfl
 | _ :: _, [], _, _, _, _, _, _, _, _ => by unfold rndG roundsF; rfl
def fin8 (s : S8) : S8 := ⟨add32 1779033703 s.a, add32 3144134277 s.b, add32 1013904242 s.c, add32 2773480762 s.d, add32 1359893119 s.e, add32 2600822924 s.f, add32 528734635 s.g, add32 1541459225 s.h⟩
def numS (s : S8) : Nat := ((s.a * 4294967296 + s.b) * 4294967296 + s.c) * 4294967296 + s.d
theorem compF_fin (l : List UInt8) : compF init8 l = fin8 (roundsF kk (schedF l 64 []) init8) := rfl
def sumG {α : Type} (l : List UInt8) (k : Nat → α) : α :=
 schG (sized (ended l) l.length) 64 0 [] fun r => rndG (fun s => frc (numS (fin8 s)) k) kk r.reverse 1779033703 3144134277 1013904242 2773480762 1359893119 2600822924 528734635 1541459225
theorem h_num (a b c d : Nat) (ha : a < 4294967296) (hb : b < 4294967296) (hc : c < 4294967296) (hd : d < 4294967296) : h (((a * 4294967296 + b) * 4294967296 + c) * 4294967296 + d) = be4 a ++ be4 b ++ be4 c ++ be4 d := by
 have key : ∀ x y : Nat, x % 256 = y % 256 → UInt8.ofNat x = UInt8.ofNat y := fun x y h => by
  apply UInt8.toNat_inj.1; rw [UInt8.toNat_ofNat', UInt8.toNat_ofNat']; exact h
 have e3 : ∀ p q r : Nat, q < 4294967296 → (p * 4294967296 + q) / 4294967296 = p := fun p q r h => by omega
 obtain ⟨p, hp⟩ : ∃ p, a * 4294967296 + b = p := ⟨_, rfl⟩
 obtain ⟨q, hq⟩ : ∃ q, p * 4294967296 + c = q := ⟨_, rfl⟩
 obtain ⟨n, hn⟩ : ∃ n, q * 4294967296 + d = n := ⟨_, rfl⟩
 have f1 : n / 4294967296 = q := by rw [← hn]; exact e3 _ _ 0 hd
 have f2 : q / 4294967296 = p := by rw [← hq]; exact e3 _ _ 0 hc
 have f3 : p / 4294967296 = a := by rw [← hp]; exact e3 _ _ 0 hb
 have w : ∀ (m x : Nat) (k : Nat), m / 4294967296 = x → m / (4294967296 * k) = x / k := fun m x k h => by rw [← h, Nat.div_div_eq_div_mul]
 have t : ∀ p b : Nat, b < 4294967296 → [UInt8.ofNat ((p * 4294967296 + b) / 16777216), UInt8.ofNat ((p * 4294967296 + b) / 65536), UInt8.ofNat ((p * 4294967296 + b) / 256), UInt8.ofNat (p * 4294967296 + b)] = be4 b := fun p b _ => by
  unfold be4
  exact List.cons_eq_cons.2 ⟨key _ _ (by omega), List.cons_eq_cons.2 ⟨key _ _ (by omega), List.cons_eq_cons.2 ⟨key _ _ (by omega), List.cons_eq_cons.2 ⟨key _ _ (by omega), rfl⟩⟩⟩⟩
 rw [hp, hq, hn, ← t 0 a ha, ← t a b hb, ← t p c hc, ← t q d hd, hp, hq, hn, Nat.zero_mul, Nat.zero_add]
 unfold h
 rw [show List.range 16 = [0, 1, 2, 3, 4, 5, 6, 7, 8, 9, 10, 11, 12, 13, 14, 15] from rfl]
 simp only [List.map_cons, List.map_nil, List.cons_append, List.nil_append]
 rw [show 256 ^ (15 - 0) = 4294967296 * (4294967296 * (4294967296 * 16777216)) from rfl, show 256 ^ (15 - 1) = 4294967296 * (4294967296 * (4294967296 * 65536)) from rfl, show 256 ^ (15 - 2) = 4294967296 * (4294967296 * (4294967296 * 256)) from rfl, show 256 ^ (15 - 3) = 4294967296 * (4294967296 * (4294967296 * 1)) from rfl, show 256 ^ (15 - 4) = 4294967296 * (4294967296 * 16777216) from rfl, show 256 ^ (15 - 5) = 4294967296 * (4294967296 * 65536) from rfl, show 256 ^ (15 - 6) = 4294967296 * (4294967296 * 256) from rfl, show 256 ^ (15 - 7) = 4294967296 * (4294967296 * 1) from rfl, show 256 ^ (15 - 8) = 4294967296 * 16777216 from rfl, show 256 ^ (15 - 9) = 4294967296 * 65536 from rfl, show 256 ^ (15 - 10) = 4294967296 * 256 from rfl, show 256 ^ (15 - 11) = 4294967296 * 1 from rfl, show 256 ^ (15 - 12) = 16777216 from rfl, show 256 ^ (15 - 13) = 65536 from rfl, show 256 ^ (15 - 14) = 256 from rfl, show 256 ^ (15 - 15) = 1 from rfl]
 simp only [w _ _ _ f1, w _ _ _ f2, w _ _ _ f3, Nat.div_one]
def sN (l : List UInt8) : Nat := numS (fin8 (roundsF kk (schedF (sized (ended l) l.length) 64 []) init8))
theorem sumG_eq {α : Type} (l : List UInt8) (k : Nat → α) : sumG l k = k (sN l) := by
 unfold sumG sN
 rw [schG_eq _ 64 0 [] _ rfl, rndG_eq, frc_eq, List.reverse_reverse, List.reverse_nil]
 unfold init8
 rfl
theorem h_fin (R : S8) : h (numS (fin8 R)) = be4 (fin8 R).a ++ be4 (fin8 R).b ++ be4 (fin8 R).c ++ be4 (fin8 R).d :=
 h_num _ _ _ _ (Nat.mod_lt _ (by decide)) (Nat.mod_lt _ (by decide)) (Nat.mod_lt _ (by decide)) (Nat.mod_lt _ (by decide))
theorem h_gen (x : List UInt8) (R : S8) (e : x = joinL (fin8 R)) : h (numS (fin8 R)) = x.take 16 := by
 rw [e, joinL_take]; exact h_fin R
theorem h_sN (l : List UInt8) (hl : l.length ≤ 55) : h (sN l) = midF l :=
 h_gen (shaF l) _ ((shaF_small l hl).trans (congrArg joinL (compF_fin _)))
theorem h_len (n : Nat) : (h n).length = 16 := rfl
def stG {α : Type} : Nat → Nat → (Nat → α) → α
 | 0, x, k => k x
 | n + 1, x, k => sumG (2 :: h x) fun y => stG n y k
theorem walk_out (x : List UInt8) : ∀ n, walkF (midF (2 :: x)) n = walkF x (n + 1)
 | 0 => rfl
 | n + 1 => by show midF (2 :: walkF (midF (2 :: x)) n) = _; rw [walk_out x n]; rfl
theorem stG_eq : ∀ (n x : Nat), ∃ y, walkF (h x) n = h y ∧ ∀ (α : Type) (k : Nat → α), stG n x k = k y
 | 0, x => ⟨x, rfl, fun _ _ => rfl⟩
 | n + 1, x => by
   obtain ⟨y, h1, h2⟩ := stG_eq n (sN (2 :: h x))
   refine ⟨y, ?_, fun α k => by rw [stG, sumG_eq, h2]⟩
   rw [← walk_out, ← h_sN _ (by rw [List.length_cons, h_len]; decide), h1]
def chsG {α : Type} (s : Nat) : List Nat → Nat → (List Nat → α) → α
 | [], _, k => k []
 | e :: es, j, k => sumG (3 :: UInt8.ofNat j :: h s) fun x => stG e x fun y => chsG s es (j + 1) fun l => k (y :: l)
theorem range_lift (F : Nat → Nat → List UInt8) (e : Nat) (es : List Nat) (j : Nat) : (List.range (e :: es).length).flatMap (fun i => F (j + i) ((e :: es).getD i 0)) = F j e ++ (List.range es.length).flatMap (fun i => F (j + 1 + i) (es.getD i 0)) := by
 rw [List.length_cons, List.range_succ_eq_map, List.flatMap_cons, List.flatMap_map]
 congr 2
 funext i
 rw [show j + Nat.succ i = j + 1 + i from by omega]; rfl
theorem chsG_eq (s : Nat) : ∀ (es : List Nat) (j : Nat), ∃ l, l.flatMap h = (List.range es.length).flatMap (fun i => walkF (midF (3 :: UInt8.ofNat (j + i) :: h s)) (es.getD i 0)) ∧ ∀ (α : Type) (k : List Nat → α), chsG s es j k = k l := by
 intro es
 induction es with
 | nil => exact fun _ => ⟨[], by simp, fun α k => by rw [chsG]⟩
 | cons e es ih =>
   intro j
   obtain ⟨y, h1, h2⟩ := stG_eq e (sN (3 :: UInt8.ofNat j :: h s))
   obtain ⟨l, h3, h4⟩ := ih (j + 1)
   rw [h_sN _ (by rw [List.length_cons, List.length_cons, h_len]; decide)] at h1
   refine ⟨y :: l, ?_, fun α k => ?_⟩
   · rw [List.flatMap_cons, ← h1, h3]
     exact (range_lift (fun a b => walkF (midF (3 :: UInt8.ofNat a :: h s)) b) e es j).symm
   · rw [chsG, sumG_eq, h2, h4]
theorem chs_val {s : Nat} {es l : List Nat} (h0 : chsG s es 0 id = l) : (List.range es.length).flatMap (fun i => walkF (midF (3 :: UInt8.ofNat i :: h s)) (es.getD i 0)) = l.flatMap h := by
 obtain ⟨l', h1, h2⟩ := chsG_eq s es 0
 rw [h2] at h0
 rw [← h0]
 simp only [Nat.zero_add] at h1
 exact h1.symm
theorem chsG_k {α : Type} (s : Nat) (es : List Nat) (j : Nat) (k : List Nat → α) : chsG s es j k = k (chsG s es j id) := by
 obtain ⟨l, -, h2⟩ := chsG_eq s es j
 rw [h2, h2]; rfl
theorem chsG_app (s : Nat) : ∀ (a b : List Nat) (j : Nat), chsG s (a ++ b) j id = chsG s a j id ++ chsG s b (j + a.length) id := by
 intro a
 induction a with
 | nil => intro b j; rw [List.nil_append, chsG]; rfl
 | cons e a ih =>
   intro b j
   obtain ⟨y, -, h2⟩ := stG_eq e (sN (3 :: UInt8.ofNat j :: h s))
   rw [List.cons_append, chsG, sumG_eq, h2, chsG_k s (a ++ b), ih b (j + 1), chsG, sumG_eq, h2, chsG_k s a (j + 1) (fun l => id (y :: l)), List.length_cons, show j + (a.length + 1) = j + 1 + a.length from by omega]
   rfl
theorem chs4 {s : Nat} {a b c d k l m n : List Nat} (h0 : chsG s a 0 id = k) (h1 : chsG s b a.length id = l) (h2 : chsG s c (a.length + b.length) id = m) (h3 : chsG s d (a.length + b.length + c.length) id = n) : chsG s (a ++ (b ++ (c ++ d))) 0 id = k ++ (l ++ (m ++ n)) := by
 rw [chsG_app, chsG_app, chsG_app, Nat.zero_add, h0, h1, h2, h3]
theorem fm_congr {f g : Nat → List UInt8} : ∀ {l : List Nat}, (∀ x ∈ l, f x = g x) → l.flatMap f = l.flatMap g
 | [], _ => rfl
 | a :: l, h => by rw [List.flatMap_cons, List.flatMap_cons, h a (by simp), fm_congr (l := l) fun x hx => h x (by simp [hx])]
theorem pub_val {s : Nat} {k l m n : List Nat} (h0 : chsG s (List.replicate 17 3) 0 id = k) (h1 : chsG s (List.replicate 17 3) 17 id = l) (h2 : chsG s (List.replicate 17 3) 34 id = m) (h3 : chsG s (List.replicate 17 3) 51 id = n) : (List.range 68).flatMap (chF (h s)) = (k ++ (l ++ (m ++ n))).flatMap h := by
 have e : List.replicate 17 3 ++ (List.replicate 17 3 ++ (List.replicate 17 3 ++ List.replicate 17 3)) = List.replicate 68 3 := rfl
 have h4 := chs4 h0 h1 h2 h3
 rw [e] at h4
 rw [← chs_val h4, List.length_replicate]
 refine fm_congr fun x hx => ?_
 rw [List.getD_eq_getElem?_getD, List.getElem?_replicate, if_pos (List.mem_range.1 hx)]; rfl
theorem seedP0 : seedL [115] 0 = h 0x669c0d41a1ef701c6dfa7045f441ac4d := by unfold seedL; rw [midF_eq]; decide +kernel
theorem seedP1 : seedL [115] 1 = h 0x98756a8b53a4508fc97cf95dec621e59 := by unfold seedL; rw [midF_eq]; decide +kernel
end Go.Proofs.YtbgooppmhgaicaaGreatDoor.En
