import Derived.Test.YtokakgjcegmabaaGreatDoorLA
import Derived.Test.YtokakgjcegmabaaGreatDoorRows
import Derived.WalkSpells
import Derived.WalkLawsBesides
import Derived.Handy
import Derived.BigQuiet
import Derived.Deep.QuietTactic
import Derived.RegionTactic
import Derived.StillTailTactics
import Derived.Lib.BufferWrite
set_option linter.unusedVariables false
set_option linter.unusedSimpArgs false
set_option maxHeartbeats 64000000
set_option maxRecDepth 100000
namespace Go.Proofs.YtokakgjcegmabaaGreatDoor
section
open Go.RowKit
def rotr (n x:Nat):Nat:=x / 2 ^ n ||| x * 2 ^ (32 - n) % 4294967296
def add32 (a b:Nat):Nat:=(a + b) % 4294967296
def sg0 (x:Nat):Nat:=(rotr 7 x ^^^ rotr 18 x) ^^^ x / 8
def sg1 (x:Nat):Nat:=(rotr 17 x ^^^ rotr 19 x) ^^^ x / 1024
def bs0 (x:Nat):Nat:=(rotr 2 x ^^^ rotr 13 x) ^^^ rotr 22 x
def bs1 (x:Nat):Nat:=(rotr 6 x ^^^ rotr 11 x) ^^^ rotr 25 x
def chf (e f g:Nat):Nat:=(e &&& f) ^^^ ((4294967295 ^^^ e) &&& g)
def maj (a b c:Nat):Nat:=((a &&& b) ^^^ (a &&& c)) ^^^ (b &&& c)
def kk:List Nat:=[1116352408,1899447441,3049323471,3921009573,961987163,1508970993,2453635748,2870763221,3624381080,310598401,607225278,1426881987,1925078388,2162078206,2614888103,3248222580,3835390401,4022224774,264347078,604807628,770255983,1249150122,1555081692,1996064986,2554220882,2821834349,2952996808,3210313671,3336571891,3584528711,113926993,338241895,666307205,773529912,1294757372,1396182291,1695183700,1986661051,2177026350,2456956037,2730485921,2820302411,3259730800,3345764771,3516065817,3600352804,4094571909,275423344,430227734,506948616,659060556,883997877,958139571,1322822218,1537002063,1747873779,1955562222,2024104815,2227730452,2361852424,2428436474,2756734187,3204031479,3329325298]
def firstW (l:List UInt8) (t:Nat):Nat:=(((l.getD (4 * t) 0).toNat * 256 + (l.getD (4 * t + 1) 0).toNat) * 256 + (l.getD (4 * t + 2) 0).toNat) * 256 + (l.getD (4 * t + 3) 0).toNat
def nextW (ws:List Nat) (t:Nat):Nat:=add32 (add32 (add32 (ws.getD (t - 16) 0) (sg0 (ws.getD (t - 15) 0))) (ws.getD (t - 7) 0)) (sg1 (ws.getD (t - 2) 0))
def sched (l:List UInt8):Nat→List Nat
 | 0=>[]
 | t + 1=>sched l t++[if t<16 then firstW l t else nextW (sched l t) t]
structure S8 where
 a:Nat
 b:Nat
 c:Nat
 d:Nat
 e:Nat
 f:Nat
 g:Nat
 h:Nat
def t1f (s:S8) (k w:Nat):Nat:=add32 (add32 (add32 (add32 s.h (bs1 s.e)) (chf s.e s.f s.g)) k) w
def t2f (s:S8):Nat:=add32 (bs0 s.a) (maj s.a s.b s.c)
def stp (s:S8) (k w:Nat):S8:=⟨add32 (t1f s k w) (t2f s),s.a,s.b,s.c,add32 s.d (t1f s k w),s.e,s.f,s.g⟩
def rounds8 (ws:List Nat):Nat→S8→S8
 | 0,s=>s
 | t + 1,s=>stp (rounds8 ws t s) (kk.getD t 0) (ws.getD t 0)
def comp (v:S8) (l:List UInt8):S8 :=
 let r:=rounds8 (sched l 64) 64 v
 ⟨add32 v.a r.a,add32 v.b r.b,add32 v.c r.c,add32 v.d r.d,add32 v.e r.e,add32 v.f r.f,add32 v.g r.g,add32 v.h r.h⟩
def S8.list (s:S8):List Nat:=[s.a,s.b,s.c,s.d,s.e,s.f,s.g,s.h]
def S8.ok (s:S8):Prop:=∀ x ∈ s.list,x<4294967296
def init8:S8:=⟨1779033703,3144134277,1013904242,2773480762,1359893119,2600822924,528734635,1541459225⟩
theorem add32_lt (a b:Nat):add32 a b<4294967296:=Nat.mod_lt _ (by omega)
theorem lt32_or {a b:Nat} (ha:a<4294967296) (hb:b<4294967296):a ||| b<4294967296:=Nat.or_lt_two_pow (n:=32) ha hb
theorem lt32_xor {a b:Nat} (ha:a<4294967296) (hb:b<4294967296):a ^^^ b<4294967296:=Nat.xor_lt_two_pow (n:=32) ha hb
theorem lt32_and {a b:Nat} (ha:a<4294967296):a &&& b<4294967296:=Nat.lt_of_le_of_lt Nat.and_le_left ha
theorem lt32_div {a n:Nat} (ha:a<4294967296):a / n<4294967296:=Nat.lt_of_le_of_lt (Nat.div_le_self _ _) ha
theorem rotr_lt (n x:Nat) (h:x<4294967296):rotr n x<4294967296:=lt32_or (lt32_div h) (Nat.mod_lt _ (by omega))
theorem sg0_lt (x:Nat) (h:x<4294967296):sg0 x<4294967296:=lt32_xor (lt32_xor (rotr_lt _ _ h) (rotr_lt _ _ h)) (lt32_div h)
theorem sg1_lt (x:Nat) (h:x<4294967296):sg1 x<4294967296:=lt32_xor (lt32_xor (rotr_lt _ _ h) (rotr_lt _ _ h)) (lt32_div h)
theorem firstW_lt (l:List UInt8) (t:Nat):firstW l t<4294967296:=by
 unfold firstW
 have h1:=(l.getD (4 * t) 0).toNat_lt
 have h2:=(l.getD (4 * t + 1) 0).toNat_lt
 have h3:=(l.getD (4 * t + 2) 0).toNat_lt
 have h4:=(l.getD (4 * t + 3) 0).toNat_lt
 omega
theorem sched_len (l:List UInt8) (t:Nat):(sched l t).length=t:=by
 induction t with
 | zero=>rfl
 | succ t ih=>simp [sched,ih]
theorem sched_lt (l:List UInt8) (t:Nat):∀ x ∈ sched l t,x<4294967296:=by
 induction t with
 | zero=>simp [sched]
 | succ t ih =>
   intro x hx
   rw [sched,List.mem_append] at hx
   rcases hx with hx | hx
   · exact ih x hx
   · simp at hx;subst hx;split
     · exact firstW_lt _ _
     · exact add32_lt _ _
theorem sched_getD_lt (l:List UInt8) (t i:Nat):(sched l t).getD i 0<4294967296:=by
 rw [List.getD_eq_getElem?_getD]
 cases h:(sched l t)[i]? with
 | none=>simp
 | some x=>exact sched_lt l t x (List.mem_of_getElem? h)
theorem kk_lt (i:Nat):kk.getD i 0<4294967296:=by
 by_cases h:i<64
 · have:∀ i:Fin 64,kk.getD i.val 0<4294967296:=by decide +kernel
   exact this ⟨i,h⟩
 · rw [List.getD_eq_getElem?_getD, List.getElem?_eq_none (by have : kk.length = 64 := by decide
                                                             omega)];simp
theorem stp_ok (s:S8) (k w:Nat) (h:s.ok):(stp s k w).ok:=by
 unfold S8.ok S8.list at *
 simp only [List.mem_cons,List.not_mem_nil,or_false,forall_eq_or_imp,forall_eq] at h
 obtain ⟨h1,h2,h3,h4,h5,h6,h7,h8⟩:=h
 simp only [stp,List.mem_cons,List.not_mem_nil,or_false,forall_eq_or_imp,forall_eq]
 exact ⟨add32_lt _ _,h1,h2,h3,add32_lt _ _,h5,h6,h7⟩
theorem rounds8_ok (ws:List Nat) (t:Nat) (s:S8) (h:s.ok):(rounds8 ws t s).ok:=by
 induction t with
 | zero=>exact h
 | succ t ih=>exact stp_ok _ _ _ ih
theorem comp_ok (v:S8) (l:List UInt8):(comp v l).ok:=by
 unfold S8.ok S8.list comp
 simp only [List.mem_cons,List.not_mem_nil,or_false,forall_eq_or_imp,forall_eq]
 exact ⟨add32_lt _ _,add32_lt _ _,add32_lt _ _,add32_lt _ _,add32_lt _ _,add32_lt _ _,add32_lt _ _,add32_lt _ _⟩
theorem init8_ok:init8.ok:=by unfold S8.ok S8.list init8;decide
/-! The walk's words for these. -/
theorem xor32 (a b:Nat) (ha:a<4294967296) (hb:b<4294967296):bits .xor .u32 (a:Int) (b:Int)=((a ^^^ b:Nat):Int):=Go.u32_xor_nat a b ha hb
theorem or32 (a b:Nat) (ha:a<4294967296) (hb:b<4294967296):bits .or .u32 (a:Int) (b:Int)=((a ||| b:Nat):Int):=Go.u32_or_nat a b ha hb
theorem and32 (a b:Nat) (ha:a<4294967296) (hb:b<4294967296):bits .and .u32 (a:Int) (b:Int)=((a &&& b:Nat):Int):=Go.u32_and_nat a b ha hb
theorem rot_eq' (n x:Nat) (P Q:Int) (hP:P=((2 ^ n:Nat):Int)) (hQ:Q=((2 ^ (32 - n):Nat):Int)) (hx:x<4294967296):bits .or .u32 ((x:Int) * Q % 4294967296) ((x:Int) / P)=((rotr n x:Nat):Int):=by
 subst hP hQ
 have e1:(x:Int) / ((2 ^ n:Nat):Int)=((x / 2 ^ n:Nat):Int):=by simp
 have e2:(x:Int) * ((2 ^ (32 - n):Nat):Int) % 4294967296=((x * 2 ^ (32 - n) % 4294967296:Nat):Int):=by simp
 rw [e1,e2,or32 _ _ (Nat.mod_lt _ (by omega)) (lt32_div hx)]
 unfold rotr;rw [Nat.or_comm]
theorem mod_add32 (a b:Nat):((a:Int) + (b:Int)) % 4294967296=((add32 a b:Nat):Int):=by unfold add32;omega
theorem sg0_eq (x:Nat) (h:x<4294967296):bits .xor .u32 (bits .xor .u32 ((rotr 7 x:Nat):Int) ((rotr 18 x:Nat):Int)) ((x:Int) / 8)=((sg0 x:Nat):Int):=by
 have e:(x:Int) / 8=((x / 8:Nat):Int):=by simp
 rw [xor32 _ _ (rotr_lt _ _ h) (rotr_lt _ _ h),e,xor32 _ _ (lt32_xor (rotr_lt _ _ h) (rotr_lt _ _ h)) (lt32_div h)];rfl
theorem sg1_eq (x:Nat) (h:x<4294967296):bits .xor .u32 (bits .xor .u32 ((rotr 17 x:Nat):Int) ((rotr 19 x:Nat):Int)) ((x:Int) / 1024)=((sg1 x:Nat):Int):=by
 have e:(x:Int) / 1024=((x / 1024:Nat):Int):=by simp
 rw [xor32 _ _ (rotr_lt _ _ h) (rotr_lt _ _ h),e,xor32 _ _ (lt32_xor (rotr_lt _ _ h) (rotr_lt _ _ h)) (lt32_div h)];rfl
theorem bs0_eq (x:Nat) (h:x<4294967296):bits .xor .u32 (bits .xor .u32 ((rotr 2 x:Nat):Int) ((rotr 13 x:Nat):Int)) ((rotr 22 x:Nat):Int)=((bs0 x:Nat):Int):=by
 rw [xor32 _ _ (rotr_lt _ _ h) (rotr_lt _ _ h),xor32 _ _ (lt32_xor (rotr_lt _ _ h) (rotr_lt _ _ h)) (rotr_lt _ _ h)];rfl
theorem bs1_eq (x:Nat) (h:x<4294967296):bits .xor .u32 (bits .xor .u32 ((rotr 6 x:Nat):Int) ((rotr 11 x:Nat):Int)) ((rotr 25 x:Nat):Int)=((bs1 x:Nat):Int):=by
 rw [xor32 _ _ (rotr_lt _ _ h) (rotr_lt _ _ h),xor32 _ _ (lt32_xor (rotr_lt _ _ h) (rotr_lt _ _ h)) (rotr_lt _ _ h)];rfl
theorem chf_eq (e f g:Nat) (he:e<4294967296) (hf:f<4294967296) (hg:g<4294967296):bits .xor .u32 (bits .and .u32 (e:Int) (f:Int)) (bits .and .u32 (bits .xor .u32 (if IntKind.u32.signed=true then -1 else IntKind.u32.max) (e:Int)) (g:Int))=((chf e f g:Nat):Int):=by
 have e1:(if IntKind.u32.signed=true then -1 else IntKind.u32.max)=((4294967295:Nat):Int):=by decide
 rw [e1,xor32 _ _ (by omega) he,and32 _ _ he hf,and32 _ _ (lt32_xor (by omega) he) hg,xor32 _ _ (lt32_and he) (lt32_and (lt32_xor (by omega) he))];rfl
theorem maj_eq (a b c:Nat) (ha:a<4294967296) (hb:b<4294967296) (hc:c<4294967296):bits .xor .u32 (bits .xor .u32 (bits .and .u32 (a:Int) (b:Int)) (bits .and .u32 (a:Int) (c:Int))) (bits .and .u32 (b:Int) (c:Int))=((maj a b c:Nat):Int):=by
 rw [and32 _ _ ha hb,and32 _ _ ha hc,and32 _ _ hb hc,xor32 _ _ (lt32_and ha) (lt32_and ha),xor32 _ _ (lt32_xor (lt32_and ha) (lt32_and ha)) (lt32_and hb)];rfl
/-! Arrays in memory. -/
def mixl (v r:S8) (i:Nat):List Nat:=(List.zipWith add32 v.list r.list).take i++v.list.drop i
theorem mixl_set (v r:S8) (i:Nat) (h:i<8):(mixl v r i).set i (add32 (v.list.getD i 0) (r.list.getD i 0))=mixl v r (i + 1):=by
 rcases (by omega:i=0∨i=1∨i=2∨i=3∨i=4∨i=5∨i=6∨i=7) with rfl | rfl | rfl | rfl | rfl | rfl | rfl | rfl <;> rfl
theorem mixl_get (v r:S8) (i:Nat) (h:i<8):(mixl v r i).getD i 0=v.list.getD i 0:=by
 rcases (by omega:i=0∨i=1∨i=2∨i=3∨i=4∨i=5∨i=6∨i=7) with rfl | rfl | rfl | rfl | rfl | rfl | rfl | rfl <;> rfl
theorem mixl_len (v r:S8) (i:Nat) (h:i≤8):(mixl v r i).length=8:=by simp [mixl,S8.list];omega
theorem list_getD_lt (v:S8) (h:v.ok) (i:Nat) (hi:i<8):v.list.getD i 0<4294967296:=by
 have hl:i<v.list.length:=by simp [S8.list];omega
 rw [List.getD_eq_getElem?_getD,List.getElem?_eq_getElem hl];exact h _ (List.getElem_mem hl)
theorem mixl_zero (v r:S8):mixl v r 0=v.list:=rfl
theorem mixl_eight (v:S8) (l:List UInt8):mixl v (rounds8 (sched l 64) 64 v) 8=(comp v l).list:=rfl
theorem round_eq (a b c d e f g h k w:Nat) :
 ((((h:Int) + ((bs1 e:Nat):Int) + ((chf e f g:Nat):Int) + (k:Int) + (w:Int)) % 4294967296 + (((bs0 a:Nat):Int) + ((maj a b c:Nat):Int)) % 4294967296) % 4294967296=(((stp ⟨a,b,c,d,e,f,g,h⟩ k w).a:Nat):Int)) ∧
 (((d:Int) + ((h:Int) + ((bs1 e:Nat):Int) + ((chf e f g:Nat):Int) + (k:Int) + (w:Int)) % 4294967296) % 4294967296=(((stp ⟨a,b,c,d,e,f,g,h⟩ k w).e:Nat):Int)):=by
 simp only [stp,t1f,t2f,add32]
 omega
def u32s (l:List Nat):List Value:=l.map fun (n:Nat)=>.int .u32 (n:Int)
theorem u32s_length (l:List Nat):(u32s l).length=l.length:=by simp [u32s]
theorem u32s_get (l:List Nat) (i:Nat) (h:i<(u32s l).length):(u32s l)[i]=.int .u32 ((l.getD i 0:Nat):Int):=by
 have h':i<l.length:=by simpa [u32s] using h
 simp [u32s,List.getD_eq_getElem?_getD,h']
theorem u32s_set (l:List Nat) (i n:Nat):(u32s l).set i (.int .u32 (n:Int))=u32s (l.set i n):=by simp [u32s,List.map_set]
def KT (w:World):Prop:=∀ i,i<64→w.cell? ⟨2,i,none⟩=some (.int .u32 ((kk.getD i 0:Nat):Int))
theorem KT.pos {w:World} (h:KT w):2<w.heap.size:=by have:=World.block_lt_of_cell? w _ (h 0 (by omega));simpa using this
theorem KT.below {w w':World} (h:KT w) {B:Nat} (hb:Below B w w') (hB:2<B):KT w':=fun i hi=>(hb.cell (p:=⟨2,i,none⟩) hB).trans (h i hi)
theorem sched_first (l:List UInt8) (t:Nat) (h:t<16):sched l (t + 1)=sched l t++[firstW l t]:=by rw [sched,if_pos h]
theorem sched_next (l:List UInt8) (t:Nat) (h:¬ t<16):sched l (t + 1)=sched l t++[nextW (sched l t) t]:=by rw [sched,if_neg h]
theorem sched_zero (l:List UInt8):sched l 0=[]:=rfl
theorem rounds8_zero (ws:List Nat) (s:S8):rounds8 ws 0 s=s:=rfl
theorem rounds8_succ (ws:List Nat) (t:Nat) (s:S8):rounds8 ws (t + 1) s=stp (rounds8 ws t s) (kk.getD t 0) (ws.getD t 0):=rfl
theorem nextW_eq (ws:List Nat) (t:Nat):nextW ws t=add32 (add32 (add32 (ws.getD (t - 16) 0) (sg0 (ws.getD (t - 15) 0))) (ws.getD (t - 7) 0)) (sg1 (ws.getD (t - 2) 0)):=rfl
attribute [irreducible] sched rounds8 rotr kk nextW firstW
end
section
open Go.RowKit
def IsRot (N:Int):Prop:=N=2∨N=6∨N=7∨N=11∨N=13∨N=17∨N=18∨N=19∨N=22∨N=25
theorem right_2 (x:Nat) (hx:x<4294967296) (w:World):Calls Tryz.prog 199 #[.int .u32 x,.int .i64 2] w fun e w'=>e=.returned (.int .u32 (rotr 2 x:Nat))∧w=w':=by
 have ha:bits .and .u64 (IntKind.u64.wrap (-2)) 31=30:=by decide
 have H:=hidp (rot_eq' 2 x 4 1073741824 (by decide) (by decide) hx)
 go_enter Tryz.func199,Tryz.ntmps199
 go_wp2
 go_ret
 exact ⟨by rw [← H.out];rfl,rfl⟩
theorem right_6 (x:Nat) (hx:x<4294967296) (w:World):Calls Tryz.prog 199 #[.int .u32 x,.int .i64 6] w fun e w'=>e=.returned (.int .u32 (rotr 6 x:Nat))∧w=w':=by
 have ha:bits .and .u64 (IntKind.u64.wrap (-6)) 31=26:=by decide
 have H:=hidp (rot_eq' 6 x 64 67108864 (by decide) (by decide) hx)
 go_enter Tryz.func199,Tryz.ntmps199
 go_wp2
 go_ret
 exact ⟨by rw [← H.out];rfl,rfl⟩
theorem right_7 (x:Nat) (hx:x<4294967296) (w:World):Calls Tryz.prog 199 #[.int .u32 x,.int .i64 7] w fun e w'=>e=.returned (.int .u32 (rotr 7 x:Nat))∧w=w':=by
 have ha:bits .and .u64 (IntKind.u64.wrap (-7)) 31=25:=by decide
 have H:=hidp (rot_eq' 7 x 128 33554432 (by decide) (by decide) hx)
 go_enter Tryz.func199,Tryz.ntmps199
 go_wp2
 go_ret
 exact ⟨by rw [← H.out];rfl,rfl⟩
theorem right_11 (x:Nat) (hx:x<4294967296) (w:World):Calls Tryz.prog 199 #[.int .u32 x,.int .i64 11] w fun e w'=>e=.returned (.int .u32 (rotr 11 x:Nat))∧w=w':=by
 have ha:bits .and .u64 (IntKind.u64.wrap (-11)) 31=21:=by decide
 have H:=hidp (rot_eq' 11 x 2048 2097152 (by decide) (by decide) hx)
 go_enter Tryz.func199,Tryz.ntmps199
 go_wp2
 go_ret
 exact ⟨by rw [← H.out];rfl,rfl⟩
theorem right_13 (x:Nat) (hx:x<4294967296) (w:World):Calls Tryz.prog 199 #[.int .u32 x,.int .i64 13] w fun e w'=>e=.returned (.int .u32 (rotr 13 x:Nat))∧w=w':=by
 have ha:bits .and .u64 (IntKind.u64.wrap (-13)) 31=19:=by decide
 have H:=hidp (rot_eq' 13 x 8192 524288 (by decide) (by decide) hx)
 go_enter Tryz.func199,Tryz.ntmps199
 go_wp2
 go_ret
 exact ⟨by rw [← H.out];rfl,rfl⟩
theorem right_17 (x:Nat) (hx:x<4294967296) (w:World):Calls Tryz.prog 199 #[.int .u32 x,.int .i64 17] w fun e w'=>e=.returned (.int .u32 (rotr 17 x:Nat))∧w=w':=by
 have ha:bits .and .u64 (IntKind.u64.wrap (-17)) 31=15:=by decide
 have H:=hidp (rot_eq' 17 x 131072 32768 (by decide) (by decide) hx)
 go_enter Tryz.func199,Tryz.ntmps199
 go_wp2
 go_ret
 exact ⟨by rw [← H.out];rfl,rfl⟩
theorem right_18 (x:Nat) (hx:x<4294967296) (w:World):Calls Tryz.prog 199 #[.int .u32 x,.int .i64 18] w fun e w'=>e=.returned (.int .u32 (rotr 18 x:Nat))∧w=w':=by
 have ha:bits .and .u64 (IntKind.u64.wrap (-18)) 31=14:=by decide
 have H:=hidp (rot_eq' 18 x 262144 16384 (by decide) (by decide) hx)
 go_enter Tryz.func199,Tryz.ntmps199
 go_wp2
 go_ret
 exact ⟨by rw [← H.out];rfl,rfl⟩
theorem right_19 (x:Nat) (hx:x<4294967296) (w:World):Calls Tryz.prog 199 #[.int .u32 x,.int .i64 19] w fun e w'=>e=.returned (.int .u32 (rotr 19 x:Nat))∧w=w':=by
 have ha:bits .and .u64 (IntKind.u64.wrap (-19)) 31=13:=by decide
 have H:=hidp (rot_eq' 19 x 524288 8192 (by decide) (by decide) hx)
 go_enter Tryz.func199,Tryz.ntmps199
 go_wp2
 go_ret
 exact ⟨by rw [← H.out];rfl,rfl⟩
theorem right_22 (x:Nat) (hx:x<4294967296) (w:World):Calls Tryz.prog 199 #[.int .u32 x,.int .i64 22] w fun e w'=>e=.returned (.int .u32 (rotr 22 x:Nat))∧w=w':=by
 have ha:bits .and .u64 (IntKind.u64.wrap (-22)) 31=10:=by decide
 have H:=hidp (rot_eq' 22 x 4194304 1024 (by decide) (by decide) hx)
 go_enter Tryz.func199,Tryz.ntmps199
 go_wp2
 go_ret
 exact ⟨by rw [← H.out];rfl,rfl⟩
theorem right_25 (x:Nat) (hx:x<4294967296) (w:World):Calls Tryz.prog 199 #[.int .u32 x,.int .i64 25] w fun e w'=>e=.returned (.int .u32 (rotr 25 x:Nat))∧w=w':=by
 have ha:bits .and .u64 (IntKind.u64.wrap (-25)) 31=7:=by decide
 have H:=hidp (rot_eq' 25 x 33554432 128 (by decide) (by decide) hx)
 go_enter Tryz.func199,Tryz.ntmps199
 go_wp2
 go_ret
 exact ⟨by rw [← H.out];rfl,rfl⟩
theorem right_any (x:Nat) (N:Int) (hx:x<4294967296) (hN:IsRot N) (w:World):Calls Tryz.prog 199 #[.int .u32 x,.int .i64 N] w fun e w'=>e=.returned (.int .u32 (rotr N.toNat x:Nat))∧w=w':=by
 rcases hN with rfl | rfl | rfl | rfl | rfl | rfl | rfl | rfl | rfl | rfl
 · exact right_2 x hx w
 · exact right_6 x hx w
 · exact right_7 x hx w
 · exact right_11 x hx w
 · exact right_13 x hx w
 · exact right_17 x hx w
 · exact right_18 x hx w
 · exact right_19 x hx w
 · exact right_22 x hx w
 · exact right_25 x hx w
theorem right_q (x:Nat) (N:Int) (hx:x<4294967296) (hN:IsRot N) (w:World):Calls Tryz.prog 199 #[.int .u32 x,.int .i64 N] w fun e w'=>e=.returned (.int .u32 (rotr N.toNat x:Nat))∧w'=w :=
 (right_any x N hx hN w).mono fun _ _ ⟨h,k⟩=>⟨h,k.symm⟩
end
section
open Go.RowKit
def fill (ws:List Nat):List Nat:=ws++List.replicate (64 - ws.length) 0
theorem fill_len (ws:List Nat) (h:ws.length≤64):(fill ws).length=64:=by simp [fill];omega
theorem fill_getD (ws:List Nat) (i:Nat) (h:i<ws.length):(fill ws).getD i 0=ws.getD i 0:=by
 unfold fill;rw [List.getD_eq_getElem?_getD,List.getElem?_append_left h,← List.getD_eq_getElem?_getD]
theorem fill_set (ws:List Nat) (n:Nat) (h:ws.length<64):(fill ws).set ws.length n=fill (ws++[n]):=by
 unfold fill
 rw [List.set_append_right _ _ (Nat.le_refl _),Nat.sub_self]
 have e:64 - ws.length=(64 - (ws++[n]).length) + 1:=by simp;omega
 rw [e,List.replicate_succ,List.set_cons_zero]
 simp
theorem fill_snoc_zero (ws:List Nat) (h:ws.length<64):fill (ws++[0])=fill ws:=by
 unfold fill
 have e:64 - ws.length=(64 - (ws++[0]).length) + 1:=by simp;omega
 rw [e,List.replicate_succ];simp
theorem fill_set_last (ws:List Nat) (v n:Nat) (h:ws.length<64):(fill (ws++[v])).set ws.length n=fill (ws++[n]):=by
 unfold fill
 rw [List.append_assoc,List.append_assoc,List.set_append_right _ _ (Nat.le_refl _),Nat.sub_self]
 simp
theorem fill_last (ws:List Nat) (v:Nat):(fill (ws++[v])).getD ws.length 0=v:=by
 rw [fill_getD _ _ (by simp)];simp
def partW (l:List UInt8) (t:Nat):Nat→Nat
 | 0=>0
 | j + 1=>partW l t j * 256 + (l.getD (4 * t + j) 0).toNat
theorem partW_four (l:List UInt8) (t:Nat):partW l t 4=firstW l t:=by unfold firstW;simp [partW]
theorem partW_lt (l:List UInt8) (t j:Nat):partW l t j<256 ^ j:=by
 induction j with
 | zero=>simp [partW]
 | succ j ih=>have:=(l.getD (4 * t + j) 0).toNat_lt;simp only [partW,Nat.pow_succ];omega
theorem shl_or (x b:Nat) (hx:x<16777216) (hb:b<256):bits .or .u32 ((x:Int) * 256) (b:Int)=((x * 256 + b:Nat):Int):=by
 have e:(x:Int) * 256=((x * 256:Nat):Int):=by omega
 rw [e,or32 _ _ (by omega) (by omega)]
 have:=Nat.two_pow_add_eq_or_of_lt (i:=8) (b:=b) (by simpa using hb) x
 rw [Nat.mul_comm] at this
 simp only [Nat.reducePow] at this
 rw [← this]
theorem slice64 (bb t:Nat) (h:t<16) (W:World):(Instr.sliceAt 235 (.pointer (some ⟨bb,0,none⟩)) (some (.int .i64 (4 * (t:Int)))) (some (.int .i64 (4 * ((t:Int) + 1)))) none).run Tryz.prog W=.ok (.slice (some ⟨bb,4 * t,none⟩) 4 (64 - 4 * t)) W:=by
 have hal:Tryz.prog.arrayLen 235=64:=by kernel_rfl
 have hel:Tryz.prog.elem 235=5:=by kernel_rfl
 have hu:Tryz.prog.underlying 235=some (.array (Tryz.prog.arrayLen 235) (Tryz.prog.elem 235)):=by kernel_rfl
 have hs:=run_sliceAt_array_lh (P:=Tryz.prog) W 235 ⟨bb,0,none⟩ hu .i64 .i64 (4 * (t:Int)) (4 * ((t:Int) + 1)) (by omega) (by omega) (by rw [hal];omega)
 obtain ⟨i0,hi,hz0,hz1,hz2⟩:=info_parts info5
 have hsz:(sizeOf 5).run Tryz.prog W=.ok 1 W:=by simp [sizeOf,typeInfo,hi,hz1]
 rw [hs,hal,hel,hsz]
 have e1:(4 * (t:Int)).toNat=4 * t:=by omega
 have e2:(4 * ((t:Int) + 1)).toNat=4 * (t + 1):=by omega
 have e3:4 * (t + 1) - 4 * t=4:=by omega
 simp only [Result.andThen,slicedAt,e1,e2,e3,Nat.mul_one]
 rw [if_neg (by omega)]
 unfold Addr.add
 by_cases h0:t=0
 · subst h0;simp
 · rw [if_neg (by omega)];simp
set_option maxRecDepth 100000 in
theorem spread_any (w:World) (bb tb:Nat) (l:List UInt8) (hl:l.length=64) (hb:Arr w bb tb (u8s l)) :
 Calls Tryz.prog 198 #[.pointer (some ⟨bb,0,none⟩)] w fun e w'=>e=.returned (.agg (u32s (sched l 64)).toArray)∧Below w.heap.size w w':=by
 have hbl:=hb.lt
 go_enter Tryz.func198,Tryz.ntmps198
 go_wp2
 go_loopw [12] (fun t12 wr=>∃ t:Nat,t12=.int .i64 t∧t≤16∧Arr wr (w.heap.size + 1) 247 (u32s (fill (sched l t)))∧Arr wr w.heap.size 247 (u32s (fill []))∧Below w.heap.size w wr) (fun t12 _=>16 - (intOf t12).toNat)
 case atStart =>
  refine ⟨0,rfl,by omega,?_,?_,((Below.refl _ w).alloc (Nat.le_refl _) _).alloc (by simp) _⟩
  · have h:=Arr.new (w.alloc (.cells (u32s (fill [])).toArray 247)) 247 (u32s (fill []))
    rw [heap_size_alloc] at h;rw [sched_zero];exact h
  · exact (Arr.new w 247 (u32s (fill []))).alloc _
 case round =>
  obtain ⟨t,rfl,ht,hA,hZ,hbw⟩:=hrel
  have hsl:=sched_len l t
  have HA:=hidp hA;have HZ:=hidp hZ;have HSL:=hidp hsl;clear hA hZ hsl
  have hlen:=hbw.size
  by_cases h16:t<16
  · obtain ⟨wo,hwo⟩:∃ wo:World,wo=wr:=⟨_,rfl⟩
    have hslc:∀ W:World,(Instr.sliceAt 235 (.pointer (some ⟨bb,0,none⟩)) (some (.int .i64 (4 * (t:Int)))) (some (.int .i64 (4 * ((t:Int) + 1)))) none).run Tryz.prog W=.ok (.slice (some ⟨bb,4 * t,none⟩) 4 (64 - 4 * t)) W:=slice64 bb t h16
    have hpw:=hidp (fill_snoc_zero (sched l t) (by rw [HSL.out];omega))
    go_wp2
    go_loopw [24] (fun t24 wr=>∃ j:Nat,t24=.int .i64 j∧j≤4∧Arr wr (w.heap.size + 1) 247 (u32s (fill (sched l t++[partW l t j])))∧Arr wr w.heap.size 247 (u32s (fill []))∧Below w.heap.size w wr) (fun t24 _=>4 - (intOf t24).toNat)
    case atStart=>exact ⟨0,rfl,by omega,by rw [partW,hpw.out];exact HA.out,HZ.out,hbw⟩
    case round =>
     obtain ⟨j,rfl,hj,hA,hZ,hbw2⟩:=hrel
     have hlen2:=hbw2.size
     have HA2:=hidp hA;have HZ2:=hidp hZ;clear hA hZ
     by_cases h4:j<4
     · have hcb:=((hb.below hbw2 hbl).cell (4 * t + j) (by rw [u8s_length];omega)).trans (congrArg some (u8s_get l (4 * t + j) (by rw [u8s_length];omega)))
       have hlenA:t<(u32s (fill (sched l t++[partW l t j]))).length:=by rw [u32s_length,fill_len _ (by simp [HSL.out];omega)];omega
       have hcw:=(HA2.out.cell t hlenA).trans (congrArg some (u32s_get _ t hlenA))
       have hlast:=fill_last (sched l t) (partW l t j)
       rw [HSL.out] at hlast
       rw [hlast] at hcw
       clear hlast
       have hfz:=HA2.out.frozen t
       have hpl:partW l t j<16777216:=by
        have h1:=partW_lt l t j
        have h2:(256:Nat) ^ j≤256 ^ 3:=Nat.pow_le_pow_right (by omega) (by omega)
        have h3:(256:Nat) ^ 3=16777216:=by decide
        omega
       have hb256:=(l.getD (4 * t + j) 0).toNat_lt
       have hor:=shl_or (partW l t j) (l.getD (4 * t + j) 0).toNat (by omega) (by omega)
       have hst:=hidp (HA2.out.set t (.int .u32 ((partW l t (j + 1):Nat):Int)))
       rw [u32s_set] at hst
       have hset:=fill_set_last (sched l t) (partW l t j) (partW l t (j + 1)) (by rw [HSL.out];omega)
       rw [HSL.out] at hset
       have hst:=hidp (hset ▸ hst.out)
       clear hset
       have hstep:partW l t (j + 1)=partW l t j * 256 + (l.getD (4 * t + j) 0).toNat:=rfl
       rw [← hstep] at hor
       clear hstep
       obtain ⟨pj,hpj⟩:∃ p,partW l t j=p:=⟨_,rfl⟩
       obtain ⟨pj1,hpj1⟩:∃ p,partW l t (j + 1)=p:=⟨_,rfl⟩
       obtain ⟨bn,hbn⟩:∃ b,(l.getD (4 * t + j) 0).toNat=b:=⟨_,rfl⟩
       rw [hpj] at hcw hor hpl
       rw [hpj1] at hor hst
       rw [hbn] at hcb hor hb256
       have HP:=hidp hpj1
       clear hpj hpj1 hbn
       go_wp2
       refine ⟨⟨j + 1,by go_num,by omega,by rw [HP.out];exact hst.out,HZ2.out.other _ (by simp) _,hbw2.setCell (p:=⟨w.heap.size + 1,t,none⟩) (by simp) _⟩,by simp [intOf];omega⟩
     · obtain rfl:j=4:=by omega
       have hfin:=HA2.out
       rw [partW_four] at hfin
       have hsch:sched l (t + 1)=sched l t++[firstW l t]:=sched_first l t h16
       have hfin:=hidp (hsch ▸ hfin)
       clear hsch
       go_wp2
       refine ⟨⟨t + 1,by go_num,by omega,hfin.out,HZ2.out,hbw2⟩,by simp [intOf];omega⟩
  · have HA16:=hidp (show Arr wr (w.heap.size + 1) 247 (u32s (fill (sched l 16))) from by have h:=HA.out;rw [show t=16 from by omega] at h;exact h)
    go_wp2
    go_loopw [7] (fun t7 wr=>∃ t:Nat,t7=.int .i64 t∧16≤t∧t≤64∧Arr wr (w.heap.size + 1) 247 (u32s (fill (sched l t)))∧Arr wr w.heap.size 247 (u32s (fill []))∧Below w.heap.size w wr) (fun t7 _=>64 - (intOf t7).toNat)
    case atStart=>exact ⟨16,rfl,by omega,by omega,HA16.out,HZ.out,hbw⟩
    case round =>
     obtain ⟨t,rfl,h16,h64,hA,hZ,hbw2⟩:=hrel
     have hlen2:=hbw2.size
     have hsl2:=hidp (sched_len l t)
     have HA2:=hidp hA;have HZ2:=hidp hZ;clear hA hZ HSL
     by_cases hlt:t<64
     · have cellf:Hid (∀ i,i<t→wr.cell? ⟨w.heap.size + 1,i,none⟩=some (.int .u32 (((sched l t).getD i 0:Nat):Int))):=hidp fun i hi=>by
        have hlenA:i<(u32s (fill (sched l t))).length:=by rw [u32s_length,fill_len _ (by rw [hsl2.out];omega)];omega
        rw [HA2.out.cell i hlenA,u32s_get,fill_getD _ _ (by rw [hsl2.out];omega)]
       have c15:=cellf.out (t - 15) (by omega)
       have c2:=cellf.out (t - 2) (by omega)
       have c16:=cellf.out (t - 16) (by omega)
       have c7:=cellf.out (t - 7) (by omega)
       have hold:∃ v,wr.cell? ⟨w.heap.size + 1,t,none⟩=some v:=⟨_,HA2.out.cell t (by rw [u32s_length,fill_len _ (by rw [hsl2.out];omega)];omega)⟩
       obtain ⟨vold,hold⟩:=hold
       have hfz:=HA2.out.frozen t
       have b15:=sched_getD_lt l t (t - 15)
       have b2:=sched_getD_lt l t (t - 2)
       have b16:=sched_getD_lt l t (t - 16)
       have b7:=sched_getD_lt l t (t - 7)
       have hnext:=hidp (show sched l (t + 1)=sched l t++[nextW (sched l t) t] from sched_next l t (by omega))
       have hnw:=hidp (show nextW (sched l t) t=add32 (add32 (add32 ((sched l t).getD (t - 16) 0) (sg0 ((sched l t).getD (t - 15) 0))) ((sched l t).getD (t - 7) 0)) (sg1 ((sched l t).getD (t - 2) 0)) from nextW_eq _ _)
       have hst:=hidp (HA2.out.set t (.int .u32 ((nextW (sched l t) t:Nat):Int)))
       obtain ⟨x,hx⟩:∃ x,(sched l t).getD (t - 15) 0=x:=⟨_,rfl⟩
       obtain ⟨y,hy⟩:∃ y,(sched l t).getD (t - 2) 0=y:=⟨_,rfl⟩
       obtain ⟨p,hp⟩:∃ p,(sched l t).getD (t - 16) 0=p:=⟨_,rfl⟩
       obtain ⟨q,hq⟩:∃ q,(sched l t).getD (t - 7) 0=q:=⟨_,rfl⟩
       rw [hx] at c15 b15
       rw [hy] at c2 b2
       rw [hp] at c16 b16
       rw [hq] at c7 b7
       have hnw:=hidp (show nextW (sched l t) t=add32 (add32 (add32 p (sg0 x)) q) (sg1 y) from by rw [← hx,← hy,← hp,← hq];exact hnw.out)
       clear hx hy hp hq
       have i15:((t:Int) - 15).toNat=t - 15:=by omega
       have i2:((t:Int) - 2).toNat=t - 2:=by omega
       have i16:((t:Int) - 16).toNat=t - 16:=by omega
       have i7:((t:Int) - 7).toNat=t - 7:=by omega
       have k1:(0:Int)≤(t:Int) - 15:=by omega
       have k2:(t:Int) - 15<64:=by omega
       have k3:(0:Int)≤(t:Int) - 2:=by omega
       have k4:(t:Int) - 2<64:=by omega
       have hs0:=sg0_eq x b15
       have hs1:=sg1_eq y b2
       have n0:=sg0_lt x b15
       have n1:=sg1_lt y b2
       have m1:=mod_add32 p (sg0 x)
       have m2:=mod_add32 (add32 p (sg0 x)) q
       have m3:=mod_add32 (add32 (add32 p (sg0 x)) q) (sg1 y)
       have n2:=add32_lt p (sg0 x)
       have n3:=add32_lt (add32 p (sg0 x)) q
       go_wp2
       go_quiet (fail)
       go_wp2_with ((go_at_call 199;refine (right_any _ _ (by assumption) (by unfold IsRot;omega) _).mono ?_;rintro e w9 ⟨rfl,rfl⟩))
       have hst2:=hst.out
       rw [u32s_set] at hst2
       have hsetl:=fill_set (sched l t) (nextW (sched l t) t) (by rw [hsl2.out];omega)
       rw [hsl2.out] at hsetl
       rw [hsetl,← hnext.out,hnw.out] at hst2
       have HST:=hidp hst2
       clear hst2 hsetl
       go_region
       go_wp2
       go_roundw
       case rel=>exact ⟨t + 1,by go_num,by omega,by omega,HST.out,(HZ2.out.other ⟨w.heap.size + 1,t,none⟩ (by simp) _),(below_drewN hbw2 (nq + 1)).setCell (p:=⟨w.heap.size + 1,t,none⟩) (by simp) _⟩
       case measure=>simp [intOf];omega
     · obtain rfl:t=64:=by omega
       have hfull:fill (sched l 64)=sched l 64:=by unfold fill;rw [sched_len];simp
       rw [hfull] at HA2
       have hi64:(Tryz.prog.info? 247).map (·.size)=some (u32s (sched l 64)).toArray.size:=by
        have h1:(Tryz.prog.info? 247).map (·.size)=some 64:=by kernel_rfl
        rw [h1];simp [u32s,sched_len]
       obtain ⟨xs,hxs⟩:∃ xs,(u32s (sched l 64)).toArray=xs:=⟨_,rfl⟩
       have hg1:=HA2.out
       have hg2:=HZ2.out
       unfold Arr at hg1 hg2
       rw [hxs] at hg1 hi64
       have HXS:=hidp hxs
       have hlenx:=hidp (show (u32s (fill [])).toArray.size=xs.size from by rw [← hxs];simp [u32s,sched_len,fill])
       have hone:=hidp (show xs.all (·.oneCell')=true from by rw [← hxs];simp [u32s,Value.oneCell'])
       clear hxs
       have H1:=hidp hg1;have H2:=hidp hg2;have HI:=hidp hi64
       clear hg1 hg2 hi64
       go_wp2_with (first
        | (refine wpList_load_row rfl 247 (.tmp 3) rfl (w.heap.size + 1) rfl 247 xs (0,0) _ H1.out Tryz.underlying247 rfl HI.out ?_)
        | (refine wpList_store_row rfl 247 (.tmp 2) (.tmp 82) rfl w.heap.size xs rfl rfl 247 _ H2.out HI.out hlenx.out hone.out ?_))
       have hfin:(wr.setRow w.heap.size xs).heap[w.heap.size]?=some (.cells xs 247 (0,0)):=setRow_heap _ _ _ _ _ _ H2.out
       refine bodyPost_ret (results_cell_row (P:=Tryz.prog) (p:=2) (ty:=247) Tryz.results198 _ _ w.heap.size 247 xs (0,0) _ rfl hfin Tryz.underlying247 rfl HI.out) rfl ?_
       exact ⟨by rw [HXS.out],below_setRow hbw2 (Nat.le_refl _) _⟩
end
section
open Go.RowKit
theorem grown_trans {a b c:World} {row:Option Nat} (h:a.grownBy b row) (k:b.grownBy c row):a.grownBy c row :=
 ⟨k.os.trans h.os,k.tape.trans h.tape,k.output.trans h.output,Nat.le_trans h.size k.size,fun i hi hne=>(k.block i (Nat.lt_of_lt_of_le hi h.size) hne).trans (h.block i hi hne)⟩
theorem grown_of_below' {w w':World} (h:Below w.heap.size w w') (row:Option Nat):w.grownBy w' row:=⟨h.os,h.tape,h.output,h.size,fun k hk _=>h.block k hk⟩
theorem grownBy_setCellAt (W:World) (B i:Nat) (u:Value):W.grownBy (W.setCell ⟨B,i,none⟩ u) (some B) :=
 ⟨rfl,rfl,rfl,by simp [World.setCell],fun k _ hk=>Below.heap_setCell W ⟨B,i,none⟩ u k (fun e=>hk (by simp at e;rw [e]))⟩
theorem Arr.grown {w w':World} {b t:Nat} {xs:List Value} (h:Arr w b t xs) {row:Option Nat} (hg:w.grownBy w' row) (hne:some b≠row):Arr w' b t xs:=(hg.block b h.lt hne).trans h
set_option maxRecDepth 100000 in
theorem mix_any (w:World) (bv tv bb tb:Nat) (v:S8) (hv:v.ok) (l:List UInt8) (hl:l.length=64) (hA:Arr w bv tv (u32s v.list)) (hB:Arr w bb tb (u8s l)) (hK:KT w) (h0:2<bv) (hne:bv≠bb) :
 Calls Tryz.prog 179 #[.pointer (some ⟨bv,0,none⟩),.pointer (some ⟨bb,0,none⟩)] w fun e w'=>e=.returned (.tuple #[])∧Arr w' bv tv (u32s (comp v l).list)∧w.grownBy w' (some bv):=by
 have hsp:=spread_any w bb tb l hl hB
 have hi64:(Tryz.prog.info? 247).map (·.size)=some (u32s (sched l 64)).toArray.size:=by
  have h1:(Tryz.prog.info? 247).map (·.size)=some 64:=by kernel_rfl
  rw [h1];simp [u32s,sched_len]
 obtain ⟨xs,hxs⟩:∃ xs,(u32s (sched l 64)).toArray=xs:=⟨_,rfl⟩
 have hone:=hidp (show xs.all (·.oneCell')=true from by rw [← hxs];simp [u32s,Value.oneCell'])
 have hsize:=hidp (show xs.size=64 from by rw [← hxs];simp [u32s,sched_len])
 rw [hxs] at hi64 hsp
 have hsp:=hidp hsp
 have HI:=hidp hi64;clear hi64
 have HXS:=hidp hxs;clear hxs
 have HA:=hidp hA;have HB:=hidp hB;have HK:=hidp hK;clear hB hK hA
 go_enter Tryz.func179,Tryz.ntmps179
 go_wp2_with fail
 refine hsp.out.mono ?_
 rintro e w1 ⟨rfl,hb1⟩
 have HB1:=hidp hb1;clear hb1
 have hnew:=fun o=>hidp (heap_alloc_new w1 o)
 go_wp2_with (refine wpList_store_row rfl 247 (.tmp 4) (.tmp 19) rfl w1.heap.size xs rfl rfl 247 _ (hnew _).out HI.out ?_ hone.out ?_)
 · rw [hsize.out];rfl
 · generalize hW2:World.setRow _ w1.heap.size xs=W2
   have hAn:Arr W2 w1.heap.size 247 (u32s (sched l 64)):=by
    unfold Arr;rw [HXS.out,← hW2];exact setRow_heap _ _ _ _ _ _ (hnew _).out
   have hg2:w.grownBy W2 (some bv):=by
    have hb1:=HB1.out
    have hb2:Below w.heap.size w W2:=by rw [← hW2];exact below_setRow (hb1.alloc hb1.size _) hb1.size _
    exact grown_of_below' hb2 _
   have hbn:Below w.heap.size w W2:=by
    have hb1:=HB1.out
    rw [← hW2];exact below_setRow (hb1.alloc hb1.size _) hb1.size _
   clear hnew hW2
   have hA2:=HA.out.below hbn HA.out.lt
   have hK2:=HK.out.below hbn HK.out.pos
   obtain ⟨a0,b0,c0,d0,e0,f0,g0,h0'⟩:=v
   have hca:W2.cell? ⟨bv,0,none⟩=some (.int .u32 (a0:Int)):=hA2.cell 0 (by simp [u32s,S8.list])
   have hcb:W2.cell? ⟨bv,1,none⟩=some (.int .u32 (b0:Int)):=hA2.cell 1 (by simp [u32s,S8.list])
   have hcc:W2.cell? ⟨bv,2,none⟩=some (.int .u32 (c0:Int)):=hA2.cell 2 (by simp [u32s,S8.list])
   have hcd:W2.cell? ⟨bv,3,none⟩=some (.int .u32 (d0:Int)):=hA2.cell 3 (by simp [u32s,S8.list])
   have hce:W2.cell? ⟨bv,4,none⟩=some (.int .u32 (e0:Int)):=hA2.cell 4 (by simp [u32s,S8.list])
   have hcf:W2.cell? ⟨bv,5,none⟩=some (.int .u32 (f0:Int)):=hA2.cell 5 (by simp [u32s,S8.list])
   have hcg:W2.cell? ⟨bv,6,none⟩=some (.int .u32 (g0:Int)):=hA2.cell 6 (by simp [u32s,S8.list])
   have hch:W2.cell? ⟨bv,7,none⟩=some (.int .u32 (h0':Int)):=hA2.cell 7 (by simp [u32s,S8.list])
   have HA2:=hidp hA2;have HK2:=hidp hK2;have HAN:=hidp hAn;have HG2:=hidp hg2;have HV:=hidp hv
   clear hA2 hK2 hAn hg2 hbn hv
   go_quiet (fail)
   go_wp2
   go_quiet (fail)
   clear hca hcb hcc hcd hce hcf hcg hch
   go_wp2
   go_loopw [5,6,7,8,9,10,11,12,52] (fun t5 t6 t7 t8 t9 t10 t11 t12 t52 wr=>∃ (t:Nat) (s:S8),t52=.int .i64 t∧t≤64∧s=rounds8 (sched l 64) t ⟨a0,b0,c0,d0,e0,f0,g0,h0'⟩ ∧
    t5=.int .u32 s.a∧t6=.int .u32 s.b∧t7=.int .u32 s.c∧t8=.int .u32 s.d∧t9=.int .u32 s.e∧t10=.int .u32 s.f∧t11=.int .u32 s.g∧t12=.int .u32 s.h∧Below W2.heap.size W2 wr)
    (fun _ _ _ _ _ _ _ _ t52 _=>64 - (intOf t52).toNat)
   case atStart=>exact ⟨0,⟨a0,b0,c0,d0,e0,f0,g0,h0'⟩,rfl,by omega,(rounds8_zero _ _).symm,rfl,rfl,rfl,rfl,rfl,rfl,rfl,rfl,by repeat (first | exact Below.refl _ _ | refine below_drewN ?_ _)⟩
   case round =>
    obtain ⟨t,⟨a,b,c,d,e,f,g,h⟩,rfl,ht,hs,rfl,rfl,rfl,rfl,rfl,rfl,rfl,rfl,hbw⟩:=hrel
    have hok:=rounds8_ok (sched l 64) t _ HV.out
    rw [← hs] at hok
    unfold S8.ok S8.list at hok
    simp only [List.mem_cons,List.not_mem_nil,or_false,forall_eq_or_imp,forall_eq] at hok
    obtain ⟨ha,hb,hc,hd,he,hf,hg,hh⟩:=hok
    have HS:=hidp hs;clear hs
    have HB2:=hidp hbw;clear hbw
    by_cases hlt:t<64
    · have hck:=(HK2.out.below HB2.out HK2.out.pos) t hlt
      have hlen64:t<(u32s (sched l 64)).length:=by rw [u32s_length,sched_len];exact hlt
      have hcw:=((HAN.out.below HB2.out HAN.out.lt).cell t hlen64).trans (congrArg some (u32s_get _ t hlen64))
      have hbk:=kk_lt t
      have hbw:=sched_getD_lt l 64 t
      have hstep:=hidp (rounds8_succ (sched l 64) t ⟨a0,b0,c0,d0,e0,f0,g0,h0'⟩)
      obtain ⟨kt,hkt⟩:∃ k,kk.getD t 0=k:=⟨_,rfl⟩
      obtain ⟨wt,hwt⟩:∃ k,(sched l 64).getD t 0=k:=⟨_,rfl⟩
      rw [hkt] at hck hbk
      rw [hwt] at hcw hbw
      have hstep:=hidp (show rounds8 (sched l 64) (t + 1) ⟨a0,b0,c0,d0,e0,f0,g0,h0'⟩=stp ⟨a,b,c,d,e,f,g,h⟩ kt wt from by rw [hstep.out,hkt,hwt,← HS.out])
      clear hkt hwt
      have i1:(0:Int)≤(t:Int):=by omega
      have i2:(t:Int)<64:=by omega
      go_wp2
      go_quiet ((go_at_call 199;exact Calls.quiet_of_same (right_q _ _ (by assumption) (by unfold IsRot;omega) _)))
      go_wp2_with ((go_at_call 199;refine (right_any _ _ (by assumption) (by unfold IsRot;omega) _).mono ?_;rintro e9 w9 ⟨rfl,rfl⟩))
      rw [bs1_eq e he,chf_eq e f g he hf hg,bs0_eq a ha,maj_eq a b c ha hb hc,(round_eq a b c d e f g h kt wt).1,(round_eq a b c d e f g h kt wt).2]
      exact ⟨⟨t + 1,stp ⟨a,b,c,d,e,f,g,h⟩ kt wt,by go_num,by omega,hstep.out.symm,rfl,rfl,rfl,rfl,rfl,rfl,rfl,rfl,below_drewN HB2.out _⟩,by simp [intOf];omega⟩
    · have ht64:=hidp (show t=64 from by omega)
      obtain ⟨v0,hv0⟩:∃ v0:S8,v0=⟨a0,b0,c0,d0,e0,f0,g0,h0'⟩:=⟨_,rfl⟩
      obtain ⟨r0,hr0⟩:∃ r0:S8,r0=⟨a,b,c,d,e,f,g,h⟩:=⟨_,rfl⟩
      have hfin:=hidp (show comp v0 l=comp ⟨a0,b0,c0,d0,e0,f0,g0,h0'⟩ l∧mixl v0 r0 8=(comp v0 l).list from by
       refine ⟨by rw [hv0],?_⟩
       rw [← mixl_eight,hr0,HS.out,ht64.out,hv0])
      have hrl:=hidp (show r0.list=[a,b,c,d,e,f,g,h] from by rw [hr0];rfl)
      have hvl:=hidp (show v0.list=[a0,b0,c0,d0,e0,f0,g0,h0'] from by rw [hv0];rfl)
      have hidx:=hidp (show ∀ (i:Nat) (W:World),i<8→(Instr.index 234 (.agg #[.int .u32 a,.int .u32 b,.int .u32 c,.int .u32 d,.int .u32 e,.int .u32 f,.int .u32 g,.int .u32 h]) (.int .i64 (i:Int))).run Tryz.prog W=.ok (.int .u32 ((r0.list.getD i 0:Nat):Int)) W from by
       intro i W hi
       rw [hrl.out]
       rcases (by omega:i=0∨i=1∨i=2∨i=3∨i=4∨i=5∨i=6∨i=7) with rfl | rfl | rfl | rfl | rfl | rfl | rfl | rfl <;> kernel_rfl)
      have hv0ok:=hidp (show v0.ok from by rw [hv0];exact HV.out)
      have hr0ok:=hidp (show r0.ok from by rw [hr0,HS.out];exact rounds8_ok _ _ _ HV.out)
      have hg0:=hidp (grown_trans HG2.out (grown_of_below' HB2.out _))
      have hA0:=hidp (HA2.out.below HB2.out HA2.out.lt)
      clear hv0 hr0 ha hb hc hd he hf hg hh
      go_wp2
      go_loopw [124] (fun t124 wr=>∃ i:Nat,t124=.int .i64 i∧i≤8∧Arr wr bv tv (u32s (mixl v0 r0 i))∧w.grownBy wr (some bv)) (fun t124 _=>8 - (intOf t124).toNat)
      case atStart=>exact ⟨0,rfl,by omega,by rw [mixl_zero,hvl.out];exact hA0.out,hg0.out⟩
      case round =>
       obtain ⟨i,rfl,hi,hA,hG⟩:=hrel
       have HA3:=hidp hA;have HG3:=hidp hG;clear hA hG
       by_cases h8:i<8
       · have hlen:=mixl_len v0 r0 i (by omega)
         have hlen':i<(u32s (mixl v0 r0 i)).length:=by rw [u32s_length,hlen];omega
         have hc:=(HA3.out.cell i hlen').trans (congrArg some (u32s_get _ i hlen'))
         rw [mixl_get _ _ _ h8] at hc
         have hfz:=HA3.out.frozen i
         have hix:=fun W=>hidx.out i W h8
         have hset:=HA3.out.set i (.int .u32 ((add32 (v0.list.getD i 0) (r0.list.getD i 0):Nat):Int))
         rw [u32s_set,mixl_set _ _ _ h8] at hset
         have b1:=list_getD_lt v0 hv0ok.out i h8
         have b2:=list_getD_lt r0 hr0ok.out i h8
         have hm:=mod_add32 (v0.list.getD i 0) (r0.list.getD i 0)
         obtain ⟨x,hx⟩:∃ x,v0.list.getD i 0=x:=⟨_,rfl⟩
         obtain ⟨y,hy⟩:∃ y,r0.list.getD i 0=y:=⟨_,rfl⟩
         rw [hx] at hc hset b1 hm
         rw [hy] at hix hset b2 hm
         have HST:=hidp hset
         clear hset hx hy hlen hlen'
         have i1:(0:Int)≤(i:Int):=by omega
         have i2:(i:Int)<8:=by omega
         go_wp2
         go_region
         go_wp2
         go_roundw
         case rel=>exact ⟨i + 1,by go_num,by omega,HST.out,grown_trans (grown_trans HG3.out (grownBy_setCellAt wr bv i _)) ⟨rfl,rfl,rfl,Nat.le_refl _,fun _ _ _=>rfl⟩⟩
         case measure=>simp [intOf];omega
       · have hi8:i=8:=by omega
         have hA8:=HA3.out
         rw [hi8,hfin.out.2,hfin.out.1] at hA8
         have HA8:=hidp hA8
         clear hA8 hi8
         go_wp2
         go_end0
         exact ⟨rfl,HA8.out,HG3.out⟩
end
section
open Go.RowKit
def be4 (x:Nat):List UInt8:=[UInt8.ofNat (x / 16777216),UInt8.ofNat (x / 65536),UInt8.ofNat (x / 256),UInt8.ofNat x]
def joinL (s:S8):List UInt8:=be4 s.a++be4 s.b++be4 s.c++be4 s.d++be4 s.e++be4 s.f++be4 s.g++be4 s.h
theorem joinL_len (s:S8):(joinL s).length=32:=rfl
theorem joinL_get (s:S8) (i j:Nat) (hi:i<8) (hj:j<4):((joinL s).getD (4 * i + j) 0).toNat=s.list.getD i 0 / 2 ^ (24 - 8 * j) % 256:=by
 rcases (by omega:i=0∨i=1∨i=2∨i=3∨i=4∨i=5∨i=6∨i=7) with rfl | rfl | rfl | rfl | rfl | rfl | rfl | rfl <;>
 rcases (by omega:j=0∨j=1∨j=2∨j=3) with rfl | rfl | rfl | rfl <;>
 simp [joinL,be4,S8.list,UInt8.toNat_ofNat']
def fillB (l:List UInt8) (k:Nat):List UInt8:=l.take k++List.replicate (l.length - k) 0
theorem fillB_len (l:List UInt8) (k:Nat) (h:k≤l.length):(fillB l k).length=l.length:=by simp [fillB];omega
theorem fillB_set (l:List UInt8) (k:Nat) (h:k<l.length):(fillB l k).set k (l.getD k 0)=fillB l (k + 1):=by
 unfold fillB
 have hl:(l.take k).length=k:=by simp;omega
 have e:l.length - k=(l.length - (k + 1)) + 1:=by omega
 have hs:=List.set_append_right (i:=k) (s:=l.take k) (t:=List.replicate (l.length - k) 0) (x:=l.getD k 0) (by omega)
 rw [hs,hl,Nat.sub_self,e,List.replicate_succ,List.set_cons_zero,List.take_succ_eq_append_getElem h,List.append_assoc]
 simp [List.getD_eq_getElem?_getD,h]
theorem fillB_zero (l:List UInt8):fillB l 0=List.replicate l.length 0:=by simp [fillB]
theorem fillB_all (l:List UInt8):fillB l l.length=l:=by simp [fillB]
theorem u8s_set (l:List UInt8) (i:Nat) (b:UInt8):(u8s l).set i (.int .u8 b.toNat)=u8s (l.set i b):=by simp [u8s,List.map_set]
attribute [irreducible] joinL fillB
set_option maxRecDepth 100000 in
theorem joined_any (w:World) (s:S8) (hs:s.ok) :
 Calls Tryz.prog 180 #[.agg (u32s s.list).toArray] w fun e w'=>e=.returned (.agg (u8s (joinL s)).toArray)∧Below w.heap.size w w':=by
 have hlist:=hidp (show (u32s s.list).toArray=#[.int .u32 s.a,.int .u32 s.b,.int .u32 s.c,.int .u32 s.d,.int .u32 s.e,.int .u32 s.f,.int .u32 s.g,.int .u32 s.h] from rfl)
 rw [hlist.out]
 have hok:=hs
 unfold S8.ok S8.list at hok
 simp only [List.mem_cons,List.not_mem_nil,or_false,forall_eq_or_imp,forall_eq] at hok
 have hidx:=hidp (show ∀ (i:Nat) (W:World),i<8→(Instr.index 234 (.agg #[.int .u32 s.a,.int .u32 s.b,.int .u32 s.c,.int .u32 s.d,.int .u32 s.e,.int .u32 s.f,.int .u32 s.g,.int .u32 s.h]) (.int .i64 (i:Int))).run Tryz.prog W=.ok (.int .u32 ((s.list.getD i 0:Nat):Int)) W from by
  intro i W hi
  rcases (by omega:i=0∨i=1∨i=2∨i=3∨i=4∨i=5∨i=6∨i=7) with rfl | rfl | rfl | rfl | rfl | rfl | rfl | rfl <;> kernel_rfl)
 have HS:=hidp hs;clear hs hok hlist
 go_enter Tryz.func180,Tryz.ntmps180
 go_wp2
 go_loopw [8] (fun t8 wr=>∃ i:Nat,t8=.int .i64 i∧i≤8∧Arr wr (w.heap.size + 1 + 1) 58 (u8s (fillB (joinL s) (4 * i)))∧Arr wr (w.heap.size + 1) 58 (u8s (List.replicate 32 0))∧Below w.heap.size w wr) (fun t8 _=>8 - (intOf t8).toNat)
 case atStart =>
  have hz:fillB (joinL s) (4 * 0)=List.replicate 32 0:=by rw [Nat.mul_zero,fillB_zero,joinL_len]
  refine ⟨0,rfl,by omega,?_,?_,(((Below.refl _ w).alloc (Nat.le_refl _) _).alloc (by simp) _).alloc (by simp;omega) _⟩
  · rw [hz]
    have h:=Arr.new ((w.alloc (.cells #[.int .u32 s.a,.int .u32 s.b,.int .u32 s.c,.int .u32 s.d,.int .u32 s.e,.int .u32 s.f,.int .u32 s.g,.int .u32 s.h] 234)).alloc (.cells (u8s (List.replicate 32 0)).toArray 58)) 58 (u8s (List.replicate 32 0))
    rw [heap_size_alloc,heap_size_alloc] at h;exact h
  · have h:=(Arr.new (w.alloc (.cells #[.int .u32 s.a,.int .u32 s.b,.int .u32 s.c,.int .u32 s.d,.int .u32 s.e,.int .u32 s.f,.int .u32 s.g,.int .u32 s.h] 234)) 58 (u8s (List.replicate 32 0))).alloc (.cells (u8s (List.replicate 32 0)).toArray 58)
    rw [heap_size_alloc] at h;exact h
 case round =>
  obtain ⟨i,rfl,hi,hA,hZ,hb⟩:=hrel
  have HA:=hidp hA;have HZ:=hidp hZ;clear hA hZ
  by_cases h8:i<8
  · have hix:=fun W=>hidx.out i W h8
    have hxl:=list_getD_lt s HS.out i h8
    have hJ:=hidp (fun j hj=>joinL_get s i j h8 hj)
    obtain ⟨x,hx⟩:∃ x,s.list.getD i 0=x:=⟨_,rfl⟩
    rw [hx] at hix hxl
    have hJ2:=hidp (show ∀ j,j<4→((joinL s).getD (4 * i + j) 0).toNat=x / 2 ^ (24 - 8 * j) % 256 from fun j hj=>by rw [← hx];exact hJ.out j hj)
    clear hx
    go_wp2
    go_loopw [12] (fun t12 wr=>∃ j:Nat,t12=.int .i64 j∧j≤4∧Arr wr (w.heap.size + 1 + 1) 58 (u8s (fillB (joinL s) (4 * i + j)))∧Arr wr (w.heap.size + 1) 58 (u8s (List.replicate 32 0))∧Below w.heap.size w wr) (fun t12 _=>4 - (intOf t12).toNat)
    case atStart=>exact ⟨0,rfl,by omega,HA.out,HZ.out,hb⟩
    case round =>
     obtain ⟨j,rfl,hj,hA,hZ,hb2⟩:=hrel
     have HA2:=hidp hA;have HZ2:=hidp hZ;clear hA hZ
     by_cases h4:j<4
     · have hlen:(u8s (fillB (joinL s) (4 * i + j))).length=32:=by rw [u8s_length,fillB_len _ _ (by rw [joinL_len];omega),joinL_len]
       have hc:=HA2.out.cell (4 * i + j) (by rw [hlen];omega)
       obtain ⟨vo,hvo⟩:∃ vo,(u8s (fillB (joinL s) (4 * i + j)))[4 * i + j]'(by rw [hlen];omega)=vo:=⟨_,rfl⟩
       rw [hvo] at hc
       clear hvo hlen
       have hfz:=HA2.out.frozen (4 * i + j)
       have i1:(0:Int)≤4 * (i:Int) + (j:Int):=by omega
       have i2:4 * (i:Int) + (j:Int)<32:=by omega
       have i3:(4 * (i:Int) + (j:Int)).toNat=4 * i + j:=by omega
       have hval:=hidp (show (x:Int) / 2 ^ (24 - 8 * j) % 256=((((joinL s).getD (4 * i + j) 0).toNat:Nat):Int) from by rw [hJ2.out j h4];simp)
       have hset:=HA2.out.set (4 * i + j) (.int .u8 (((joinL s).getD (4 * i + j) 0).toNat:Nat))
       rw [u8s_set,fillB_set _ _ (by rw [joinL_len];omega),← hval.out] at hset
       have HSET:=hidp hset
       clear hset
       go_wp2
       exact ⟨⟨j + 1,by go_num,by omega,HSET.out,HZ2.out.other _ (by simp) _,hb2.setCell (p:=⟨w.heap.size + 1 + 1,4 * i + j,none⟩) (by simp;omega) _⟩,by simp [intOf];omega⟩
     · obtain rfl:j=4:=by omega
       go_wp2
       exact ⟨⟨i + 1,by go_num,by omega,HA2.out,HZ2.out,hb2⟩,by simp [intOf];omega⟩
  · have hfull:=HA.out
    have h32:4 * i=(joinL s).length:=by rw [joinL_len];omega
    rw [h32,fillB_all] at hfull
    have hi32:(Tryz.prog.info? 58).map (·.size)=some (u8s (joinL s)).toArray.size:=by
     have h1:(Tryz.prog.info? 58).map (·.size)=some 32:=by kernel_rfl
     rw [h1];simp [u8s,joinL_len]
    obtain ⟨xs,hxs⟩:∃ xs,(u8s (joinL s)).toArray=xs:=⟨_,rfl⟩
    have hg1:=hfull
    have hg2:=HZ.out
    unfold Arr at hg1 hg2
    rw [hxs] at hg1 hi32
    have HXS:=hidp hxs
    have hlenx:=hidp (show (u8s (List.replicate 32 0)).toArray.size=xs.size from by rw [← hxs];simp [u8s,joinL_len])
    have hone:=hidp (show xs.all (·.oneCell')=true from by rw [← hxs];simp [u8s,Value.oneCell'])
    clear hxs hfull h32
    have H1:=hidp hg1;have H2:=hidp hg2;have HI:=hidp hi32
    clear hg1 hg2 hi32
    go_wp2_with (first
     | (refine wpList_load_row rfl 58 (.tmp 3) rfl (w.heap.size + 1 + 1) rfl 58 xs (0,0) _ H1.out Tryz.underlying58 rfl HI.out ?_)
     | (refine wpList_store_row rfl 58 (.tmp 2) (.tmp 28) rfl (w.heap.size + 1) xs rfl rfl 58 _ H2.out HI.out hlenx.out hone.out ?_))
    have hfin:(wr.setRow (w.heap.size + 1) xs).heap[w.heap.size + 1]?=some (.cells xs 58 (0,0)):=setRow_heap _ _ _ _ _ _ H2.out
    refine bodyPost_ret (results_cell_row (P:=Tryz.prog) (p:=2) (ty:=58) Tryz.results180 _ _ (w.heap.size + 1) 58 xs (0,0) _ rfl hfin Tryz.underlying58 rfl HI.out) rfl ?_
    exact ⟨by rw [HXS.out],below_setRow hb (by simp) _⟩
end
section
open Go.RowKit
def blk (l:List UInt8):Nat→S8
 | 0=>init8
 | i + 1=>comp (blk l i) ((l.drop (64 * i)).take 64)
def len8 (n:Nat):List UInt8:=[UInt8.ofNat (n * 8 / 2 ^ 56),UInt8.ofNat (n * 8 / 2 ^ 48),UInt8.ofNat (n * 8 / 2 ^ 40),UInt8.ofNat (n * 8 / 2 ^ 32),UInt8.ofNat (n * 8 / 2 ^ 24),UInt8.ofNat (n * 8 / 2 ^ 16),UInt8.ofNat (n * 8 / 2 ^ 8),UInt8.ofNat (n * 8)]
def ended (r:List UInt8):List UInt8:=r++128 :: List.replicate (63 - r.length) 0
def sized (b:List UInt8) (n:Nat):List UInt8:=b.take 56++len8 n
def shaS (l:List UInt8):S8 :=
 let q:=l.length / 64
 let r:=l.drop (64 * q)
 if 55<r.length then comp (comp (blk l q) (ended r)) (sized (List.replicate 64 0) l.length) else comp (blk l q) (sized (ended r) l.length)
def shaL (l:List UInt8):List UInt8:=joinL (shaS l)
theorem blk_ok (l:List UInt8) (i:Nat):(blk l i).ok:=by cases i;exact init8_ok;exact comp_ok _ _
theorem ended_len (r:List UInt8) (h:r.length<64):(ended r).length=64:=by simp [ended];omega
theorem len8_len (n:Nat):(len8 n).length=8:=rfl
theorem sized_len (b:List UInt8) (n:Nat) (h:b.length=64):(sized b n).length=64:=by simp [sized,len8_len,h]
theorem len8_get (n j:Nat) (h:j<8):((len8 n).getD j 0).toNat=n * 8 / 2 ^ (8 * (7 - j)) % 256:=by
 rcases (by omega:j=0∨j=1∨j=2∨j=3∨j=4∨j=5∨j=6∨j=7) with rfl | rfl | rfl | rfl | rfl | rfl | rfl | rfl <;> simp [len8,UInt8.toNat_ofNat']
theorem blk_zero (l:List UInt8):blk l 0=init8:=rfl
theorem blk_succ (l:List UInt8) (i:Nat):blk l (i + 1)=comp (blk l i) ((l.drop (64 * i)).take 64):=rfl
theorem shaS_long (l:List UInt8) (h:55<(l.drop (64 * (l.length / 64))).length):shaS l=comp (comp (blk l (l.length / 64)) (ended (l.drop (64 * (l.length / 64))))) (sized (List.replicate 64 0) l.length):=if_pos h
theorem shaS_short (l:List UInt8) (h:¬ 55<(l.drop (64 * (l.length / 64))).length):shaS l=comp (blk l (l.length / 64)) (sized (ended (l.drop (64 * (l.length / 64)))) l.length):=if_neg h
attribute [irreducible] blk shaS len8
theorem run_copy_long {P:Program} (w:World) (dT sT ty elem:TypeId) (g dLen dCap:Nat) (s:ByteArray) (cur:Array Value) (t:TypeId)
 (hu:P.underlying dT=some (.slice elem)) (hs:(P.info? elem).map (·.size)=some 1) (hg:w.heap[g]?=some (.cells cur t (0,0))) (hle:dLen≤s.size) (hfit:cur.size=dLen) :
 (Builtin.copy_ #[dT,sT] ty #[.slice (some ⟨g,0,none⟩) dLen dCap,.string s]).run P w =
   .ok (goInt dLen) (w.setRow g (Lib.byteCells (s.data.toList.take dLen)).toArray):=by
 have hlen:(Lib.byteCells (s.data.toList.take dLen)).length=dLen:=by rw [Lib.byteCells_length];simp;omega
 have hst:=run_storeCells_at P g 0 t (Lib.byteCells (s.data.toList.take dLen)) 0 cur w hg (by rw [hlen];omega) (Lib.byteCells_one _)
 have hmin:Nat.min s.size dLen=dLen:=Nat.min_eq_right hle
 have htk:List.take dLen (List.map (fun b:UInt8=>Value.int IntKind.u8 (b.toNat:Int)) s.data.toList)=Lib.byteCells (s.data.toList.take dLen):=by
  unfold Lib.byteCells;rw [List.map_take]
 rw [hlen] at hst
 have hdr:cur.toList.drop (0 + dLen)=[]:=by apply List.drop_eq_nil_of_le;simp;omega
 simp only [Nat.add_zero,hdr,List.append_nil,List.take_zero,List.nil_append] at hst
 cases hq:P.info? elem with
 | none=>simp [hq] at hs
 | some i =>
   simp [Builtin.copy_,run_underlying hu,Builtin.lenOf,Builtin.firstCells,sizeOf,typeInfo,hq,hmin]
   rw [htk,hst]
   simp [Result.andThen]
def z32:List UInt8:=List.replicate 32 0
def z64:List UInt8:=List.replicate 64 0
theorem z32_eq:z32=List.replicate 32 0:=rfl
theorem z32_len:z32.length=32:=rfl
theorem z64_eq:z64=List.replicate 64 0:=rfl
theorem z64_len:z64.length=64:=rfl
theorem z64_size:(Tryz.prog.info? 235).map (·.size)=some (u8s z64).toArray.size:=by kernel_rfl
theorem copied_row (r:List UInt8) (n:Nat) (hn:n=r.length) (h:n≤64):(((u8s z64).toArray.toList.take 0++Lib.byteCells r++(u8s z64).toArray.toList.drop (0 + n)):List Value)=u8s (r++List.replicate (64 - r.length) 0):=by
 subst hn
 have e:(u8s (List.replicate 64 0)).drop r.length=u8s (List.replicate (64 - r.length) 0):=by unfold u8s;rw [← List.map_drop,List.drop_replicate]
 show ((u8s z64).take 0++u8s r)++(u8s z64).drop (0 + r.length)=u8s (r++_)
 rw [Nat.zero_add,z64_eq,e,List.take_zero,List.nil_append]
 unfold u8s
 rw [List.map_append]
def strSize:Value→Nat
 | .string s=>s.size
 | _=>0
theorem below_grown {B:Nat} {a w w':World} {b:Nat} (h:Below B a w) (hg:w.grownBy w' (some b)) (hB:B≤w.heap.size) (hb:B≤b):Below B a w':=h.grown hg hB (fun k e=>by cases e;exact hb)
theorem ended_set (r:List UInt8) (h:r.length<64):(r++List.replicate (64 - r.length) 0).set r.length 128=ended r:=by
 unfold ended
 rw [List.set_append_right _ _ (Nat.le_refl _),Nat.sub_self,show 64 - r.length=(63 - r.length) + 1 from by omega,List.replicate_succ,List.set_cons_zero]
def sizedAt (b:List UInt8) (n i:Nat):List UInt8:=b.take (64 - i)++(len8 n).drop (8 - i)
theorem sizedAt_zero (b:List UInt8) (n:Nat) (h:b.length=64):sizedAt b n 0=b:=by
 unfold sizedAt;rw [List.take_of_length_le (by omega),List.drop_eq_nil_of_le (by rw [len8_len];omega)];simp
theorem sizedAt_eight (b:List UInt8) (n:Nat):sizedAt b n 8=sized b n:=by unfold sizedAt sized;simp
theorem sizedAt_len (b:List UInt8) (n i:Nat) (h:b.length=64) (hi:i≤8):(sizedAt b n i).length=64:=by unfold sizedAt;simp [len8_len,h];omega
theorem sizedAt_set (b:List UInt8) (n i:Nat) (h:b.length=64) (hi:i<8):(sizedAt b n i).set (63 - i) ((len8 n).getD (7 - i) 0)=sizedAt b n (i + 1):=by
 apply List.ext_getElem?
 intro k
 have hL:=sizedAt_len b n i h (by omega)
 have hl8:=len8_len n
 rw [List.getElem?_set]
 by_cases hk:63 - i=k
 · rw [if_pos hk,if_pos (by omega)]
   subst hk
   unfold sizedAt
   rw [List.getElem?_append_right (by simp;omega),List.getElem?_drop,List.length_take,h,show 8 - (i + 1) + (63 - i - min (64 - (i + 1)) 64)=7 - i from by omega,List.getD_eq_getElem?_getD,List.getElem?_eq_getElem (by omega)]
   rfl
 · rw [if_neg hk]
   unfold sizedAt
   by_cases hlt:k<63 - i
   · rw [List.getElem?_append_left (by simp;omega),List.getElem?_append_left (by simp;omega),List.getElem?_take,List.getElem?_take,if_pos (by omega),if_pos (by omega)]
   · rw [List.getElem?_append_right (by simp;omega),List.getElem?_append_right (by simp;omega),List.getElem?_drop,List.getElem?_drop,List.length_take,List.length_take,h]
     congr 1
     omega
theorem drop_small {l:List UInt8} {i:Nat} {r:List UInt8} (h:r=l.drop (64 * i)) (hi:64 * i≤l.length) (hr:r.length<64):i=l.length / 64:=by
 have:=congrArg List.length h;simp at this;omega
end
section
open Go.RowKit
set_option maxRecDepth 100000 in
theorem sum_any (w:World) (s:ByteArray) (hs:s.size≤281474976710656) (hK:KT w) :
 Calls Tryz.prog 146 #[.string s] w fun e w'=>e=.returned (.agg (u8s (shaL s.data.toList)).toArray)∧Below w.heap.size w w':=by
 obtain ⟨i0,hi,hz0,hz1,hz2⟩:=info_parts info5
 have hinfo:=hidp (show (Tryz.prog.info? 5).map (·.size)=some 1 from by rw [hi];simp [hz1])
 have HK:=hidp hK;clear hK
 have hkp:=HK.out.pos
 clear hi hz0 hz1 hz2
 go_enter Tryz.func146,Tryz.ntmps146
 go_wp2
 conv in (Obj.cells _ 58)=>(change Obj.cells (u8s (List.replicate 32 0)).toArray 58;rw [← z32_eq])
 conv in (Obj.cells _ 234)=>change Obj.cells (u32s init8.list).toArray 234
 conv in (Obj.cells _ 235)=>(change Obj.cells (u8s (List.replicate 64 0)).toArray 235;rw [← z64_eq])
 obtain ⟨W0,hW0⟩:∃ W,((w.alloc (.cells (u8s z32).toArray 58)).alloc (.cells (u32s init8.list).toArray 234)).alloc (.cells (u8s z64).toArray 235)=W:=⟨_,rfl⟩
 rw [hW0]
 have hb0:Below w.heap.size w W0:=by rw [← hW0];exact (((Below.refl _ w).alloc (Nat.le_refl _) _).alloc (by simp) _).alloc (by simp;omega) _
 have ha0:Arr W0 (w.heap.size + 1) 234 (u32s init8.list):=by
  rw [← hW0]
  have h:=(Arr.new (w.alloc (.cells (u8s z32).toArray 58)) 234 (u32s init8.list)).alloc (.cells (u8s z64).toArray 235)
  rw [heap_size_alloc] at h;exact h
 have hB0:Arr W0 (w.heap.size + 1 + 1) 235 (u8s z64):=by
  rw [← hW0]
  have h:=Arr.new ((w.alloc (.cells (u8s z32).toArray 58)).alloc (.cells (u32s init8.list).toArray 234)) 235 (u8s z64)
  rw [heap_size_alloc,heap_size_alloc] at h;exact h
 have hz0:∃ z,Arr W0 w.heap.size 58 (u8s z)∧z.length=32:=⟨z32,by rw [← hW0];exact ((Arr.new w 58 (u8s z32)).alloc _).alloc _,z32_len⟩
 have HW0:=hidp hW0;have HB0:=hidp hb0;have HA0:=hidp ha0;have HBB0:=hidp hB0;have HZ0:=hidp hz0
 clear hW0 hb0 ha0 hB0 hz0
 go_loopw [5] (fun t5 wr=>∃ (i:Nat) (rest:ByteArray) (bc:List UInt8),t5=.string rest∧rest.data.toList=s.data.toList.drop (64 * i)∧64 * i≤s.data.toList.length∧bc.length=64∧Arr wr (w.heap.size + 1) 234 (u32s (blk s.data.toList i).list) ∧
  Arr wr (w.heap.size + 1 + 1) 235 (u8s bc)∧(∃ z,Arr wr w.heap.size 58 (u8s z)∧z.length=32)∧Below w.heap.size w wr) (fun t5 _=>strSize t5)
 case atStart=>exact ⟨0,s,z64,rfl,rfl,by simp,z64_len,by rw [blk_zero];exact HA0.out,HBB0.out,HZ0.out,HB0.out⟩
 case round =>
  obtain ⟨i,rest,bc,rfl,hrest,hi64l,hbc,hA,hB,hZ,hbw⟩:=hrel
  have hbs:=hbw.size
  have HA:=hidp hA;have HB:=hidp hB;have HZ:=hidp hZ;have HR:=hidp hrest;have HBC:=hidp hbc;have HBW:=hidp hbw;have HIL:=hidp hi64l
  clear hA hB hZ hrest hbc hbw hi64l
  have hrs:=hidp (show rest.data.toList.length=rest.size by simp)
  have hrl:rest.size≤281474976710656:=by have:=congrArg List.length HR.out;simp at this;omega
  by_cases h64:64≤rest.size
  · obtain ⟨X,hX⟩:∃ X,u8s (rest.data.toList.take 64)=X:=⟨_,rfl⟩
    have hcp:(Builtin.copy_ #[174,9] 3 #[.slice (some ⟨w.heap.size + 1 + 1,0,none⟩) 64 64,.string rest]).run Tryz.prog wr=.ok (goInt 64) (wr.setRow (w.heap.size + 1 + 1) X.toArray):=by
     rw [← hX]
     exact run_copy_long (P:=Tryz.prog) wr 174 9 3 5 (w.heap.size + 1 + 1) 64 64 rest _ 235 Tryz.underlying174 hinfo.out HB.out h64 (by simp [u8s_length,HBC.out])
    have HB2:=hidp (HB.out.row X)
    have HA2:=hidp (HA.out.row_other (w.heap.size + 1 + 1) (by omega) X.toArray)
    have HBW2:=hidp (below_setRow HBW.out (g:=w.heap.size + 1 + 1) (by omega) X.toArray)
    have HZ2:=hidp (show ∃ z,Arr (wr.setRow (w.heap.size + 1 + 1) X.toArray) w.heap.size 58 (u8s z)∧z.length=32 from by
     obtain ⟨z,hz,hzl⟩:=HZ.out
     exact ⟨z,hz.row_other (w.heap.size + 1 + 1) (by omega) X.toArray,hzl⟩)
    have HX:=hidp hX;clear hX
    have HM:=hidp (show Calls Tryz.prog 179 #[.pointer (some ⟨w.heap.size + 1,0,none⟩),.pointer (some ⟨w.heap.size + 1 + 1,0,none⟩)] (wr.setRow (w.heap.size + 1 + 1) X.toArray) fun e w'=>e=.returned (.tuple #[])∧Arr w' (w.heap.size + 1) 234 (u32s (comp (blk s.data.toList i) (rest.data.toList.take 64)).list)∧(wr.setRow (w.heap.size + 1 + 1) X.toArray).grownBy w' (some (w.heap.size + 1)) from
     mix_any _ (w.heap.size + 1) 234 (w.heap.size + 1 + 1) 235 (blk s.data.toList i) (blk_ok _ _) (rest.data.toList.take 64) (by have:=hrs.out;simp;omega) HA2.out (by rw [HX.out];exact HB2.out) (HK.out.below HBW2.out hkp) (by omega) (by omega))
    go_wp2_with fail
    refine HM.out.mono ?_
    rintro e w' ⟨rfl,hA3,hgr⟩
    have hbw3:=below_grown HBW2.out hgr (by simp;omega) (by omega)
    have HBW3:=hidp hbw3;have HA3:=hidp hA3;have HGR:=hidp hgr
    clear hbw3 hA3 hgr hcp
    go_wp2_with fail
    have hlr:(rest.extract 64 rest.size).data.toList=s.data.toList.drop (64 * (i + 1)):=by
     rw [ByteArray.data_extract]
     simp only [Array.toList_extract,List.extract_eq_take_drop]
     rw [← hrs.out,HR.out,List.take_of_length_le (by simp;omega),List.drop_drop]
     congr 1
    refine ⟨⟨i + 1,_,rest.data.toList.take 64,rfl,hlr,?_,?_,?_,?_,?_,HBW3.out⟩,?_⟩
    · have h1:=congrArg List.length HR.out
      rw [hrs.out,List.length_drop] at h1
      omega
    · rw [List.length_take,hrs.out];omega
    · rw [blk_succ,← HR.out];exact HA3.out
    · rw [HX.out];exact HB2.out.grown HGR.out (fun e=>by have:=Option.some.inj e;omega)
    · obtain ⟨z,hz,hzl⟩:=HZ2.out
      exact ⟨z,hz.grown HGR.out (fun e=>by have:=Option.some.inj e;omega),hzl⟩
    · simp [strSize];omega
  · have HZZ:=hidp z64_size
    have hlenx:=hidp (show (u8s bc).toArray.size=(u8s z64).toArray.size from by simp [u8s_length,HBC.out,z64_len])
    have HB1:=hidp (HB.out.row (u8s z64))
    obtain ⟨Y,hY⟩:∃ Y,u8s (rest.data.toList++List.replicate (64 - rest.data.toList.length) 0)=Y:=⟨_,rfl⟩
    have hcp:(Builtin.copy_ #[174,9] 3 #[.slice (some ⟨w.heap.size + 1 + 1,0,none⟩) 64 64,.string rest]).run Tryz.prog (wr.setRow (w.heap.size + 1 + 1) (u8s z64).toArray) =
     .ok (goInt rest.size) ((wr.setRow (w.heap.size + 1 + 1) (u8s z64).toArray).setRow (w.heap.size + 1 + 1) Y.toArray):=by
     rw [← hY,← copied_row rest.data.toList rest.size hrs.out.symm (by omega)]
     exact Lib.run_copy_row_string (P:=Tryz.prog) _ 174 9 3 5 (w.heap.size + 1 + 1) 0 64 64 rest _ 235 Tryz.underlying174 hinfo.out HB1.out (by omega) (by simp [u8s_length,z64_len];omega)
    have hYl:Y.length=64:=by rw [← hY,u8s_length,List.length_append,List.length_replicate,hrs.out];omega
    have HB2:=hidp (HB1.out.row Y)
    have hc:=HB2.out.cell rest.size (by omega)
    have hfz:=HB2.out.frozen rest.size
    have HY:=hidp hY
    clear hY
    by_cases h55:55<rest.size
    · go_wp2_with (refine wpList_store_row rfl 235 (.tmp 4) (.tmp 19) rfl (w.heap.size + 1 + 1) (u8s z64).toArray rfl rfl 235 _ HB.out HZZ.out hlenx.out (u8s_one z64) ?_)
      obtain ⟨W4,hW4⟩:∃ W,(((wr.setRow (w.heap.size + 1 + 1) (u8s z64).toArray).setRow (w.heap.size + 1 + 1) Y.toArray).setCell { block:=w.heap.size + 1 + 1,off:=rest.size } (Value.int IntKind.u8 128))=W:=⟨_,rfl⟩
      rw [hW4]
      obtain ⟨b0,hb⟩:∃ b0,b0=ended rest.data.toList:=⟨_,rfl⟩
      obtain ⟨v0,hv⟩:∃ v0,v0=blk s.data.toList i:=⟨_,rfl⟩
      have hbl0:=hidp (show b0.length=64 from by rw [hb];exact ended_len _ (by rw [hrs.out];omega))
      have hvo0:=hidp (show v0.ok from by rw [hv];exact blk_ok _ _)
      have hB4:Arr W4 (w.heap.size + 1 + 1) 235 (u8s b0):=by
       rw [← hW4]
       have h:=HB2.out.set rest.size (.int .u8 128)
       rw [← HY.out,← hrs.out,show (Value.int IntKind.u8 128)=.int .u8 ((128:UInt8).toNat:Int) from rfl,u8s_set,ended_set _ (by rw [hrs.out];omega),← hb] at h
       rw [← HY.out,← hrs.out]
       exact h
      have HB4:=hidp hB4
      have HA4:=hidp (show Arr W4 (w.heap.size + 1) 234 (u32s v0.list) from by
       rw [← hW4,hv]
       exact ((HA.out.row_other _ (by omega) _).row_other _ (by omega) _).other _ (by simp) _)
      have HZ4:=hidp (show ∃ z,Arr W4 w.heap.size 58 (u8s z)∧z.length=32 from by
       obtain ⟨z,hz,hzl⟩:=HZ.out
       exact ⟨z,by rw [← hW4];exact ((hz.row_other _ (by omega) _).row_other _ (by omega) _).other _ (by simp;omega) _,hzl⟩)
      have HBW4:=hidp (show Below w.heap.size w W4 from by
       rw [← hW4]
       exact (below_setRow (below_setRow HBW.out (g:=w.heap.size + 1 + 1) (by omega) _) (g:=w.heap.size + 1 + 1) (by omega) _).setCell (by simp;omega) _)
      have hbs4:=HBW4.out.size
      have HM4:=hidp (mix_any _ (w.heap.size + 1) 234 (w.heap.size + 1 + 1) 235 v0 hvo0.out b0 hbl0.out HA4.out HB4.out (HK.out.below HBW4.out hkp) (by omega) (by omega))
      have HFIN:=hidp (show comp (comp v0 b0) (sized z64 s.size)=shaS s.data.toList from by
       have hi:=drop_small HR.out HIL.out (by rw [hrs.out];omega)
       have hr:=HR.out
       rw [hi] at hr
       have h55':55<(s.data.toList.drop (64 * (s.data.toList.length / 64))).length:=by rw [← hr,hrs.out];omega
       rw [shaS_long _ h55',hv,hb,hr,← hi]
       rfl)
      clear hb hv hW4 hB4 hc hfz hcp
      refine HM4.out.mono ?_
      rintro e w5 ⟨rfl,hA5,hgr5⟩
      have HBW5:=hidp (below_grown HBW4.out hgr5 (by omega) (by omega))
      have HA5:=hidp hA5
      have HB5:=hidp (HB4.out.grown hgr5 (fun e=>by have:=Option.some.inj e;omega))
      have HZ5:=hidp (show ∃ z,Arr w5 w.heap.size 58 (u8s z)∧z.length=32 from by
       obtain ⟨z,hz,hzl⟩:=HZ4.out
       exact ⟨z,hz.grown hgr5 (fun e=>by have:=Option.some.inj e;omega),hzl⟩)
      have hlen5:=hidp (show (u8s b0).toArray.size=(u8s z64).toArray.size from by simp [u8s_length,hbl0.out,z64_len])
      clear hA5 hgr5
      go_wp2_with (refine wpList_store_row rfl 235 (.tmp 4) (.tmp 30) rfl (w.heap.size + 1 + 1) (u8s z64).toArray rfl rfl 235 _ HB5.out HZZ.out hlen5.out (u8s_one z64) ?_)
      have HB7:=hidp (HB5.out.row (u8s z64))
      have HA7:=hidp (HA5.out.row_other (w.heap.size + 1 + 1) (by omega) (u8s z64).toArray)
      have HZ7:=hidp (show ∃ z,Arr (w5.setRow (w.heap.size + 1 + 1) (u8s z64).toArray) w.heap.size 58 (u8s z)∧z.length=32 from by
       obtain ⟨z,hz,hzl⟩:=HZ5.out
       exact ⟨z,hz.row_other (w.heap.size + 1 + 1) (by omega) _,hzl⟩)
      have HBW7:=hidp (below_setRow HBW5.out (g:=w.heap.size + 1 + 1) (by omega) (u8s z64).toArray)
      clear HB5 HA5 HZ5 HBW5
      have hvo:=hidp (comp_ok v0 b0)
      have hbl:=hidp z64_len
      obtain ⟨W7,hW7⟩:∃ W,w5.setRow (w.heap.size + 1 + 1) (u8s z64).toArray=W:=⟨_,rfl⟩
      obtain ⟨v,hv'⟩:∃ v,comp v0 b0=v:=⟨_,rfl⟩
      obtain ⟨b,hb'⟩:∃ b,z64=b:=⟨_,rfl⟩
      have HA5:=hidp (show Arr W7 (w.heap.size + 1) 234 (u32s v.list) from by rw [← hW7,← hv'];exact HA7.out)
      have HB5:=hidp (show Arr W7 (w.heap.size + 1 + 1) 235 (u8s b) from by rw [← hW7,← hb'];exact HB7.out)
      have HZ5:=hidp (show ∃ z,Arr W7 w.heap.size 58 (u8s z)∧z.length=32 from by rw [← hW7];exact HZ7.out)
      have HBW5:=hidp (show Below w.heap.size w W7 from by rw [← hW7];exact HBW7.out)
      rw [hW7]
      rw [hv',hb'] at HFIN
      rw [hv'] at hvo
      rw [hb'] at hbl
      clear HA7 HB7 HZ7 HBW7 hW7 hv' hb' hlen5
      go_loopw [35] (fun t35 wq=>∃ k:Nat,t35=.int .i64 (k:Int)∧k≤8∧Arr wq (w.heap.size + 1) 234 (u32s v.list)∧Arr wq (w.heap.size + 1 + 1) 235 (u8s (sizedAt b s.size k))∧(∃ z,Arr wq w.heap.size 58 (u8s z)∧z.length=32)∧Below w.heap.size w wq) (fun t35 _=>8 - (intOf t35).toNat)
      case atStart=>exact ⟨0,rfl,by omega,HA5.out,by rw [sizedAt_zero _ _ hbl.out];exact HB5.out,HZ5.out,HBW5.out⟩
      case round =>
       obtain ⟨k,rfl,hk8,hA6,hB6,hZ6,hbw6⟩:=hrel
       have HA6:=hidp hA6;have HB6:=hidp hB6;have HZ6:=hidp hZ6;have HBW6:=hidp hbw6
       clear hA6 hB6 hZ6 hbw6
       by_cases hk:k<8
       · have hl6:=hidp (show (u8s (sizedAt b s.size k)).length=64 from by rw [u8s_length,sizedAt_len _ _ _ hbl.out hk8])
         have hc:=HB6.out.cell (63 - k) (by rw [hl6.out];omega)
         have hfz:=HB6.out.frozen (63 - k)
         go_wp2_with fail
         have hval:((s.size:Int) * 8 / 2 ^ (8 * k) % 256)=(((len8 s.size).getD (7 - k) 0).toNat:Int):=by
          rw [len8_get _ _ (by omega),show 7 - (7 - k)=k from by omega]
          simp
         have hB7:=HB6.out.set (63 - k) (.int .u8 (((len8 s.size).getD (7 - k) 0).toNat:Int))
         rw [u8s_set,sizedAt_set _ _ _ hbl.out hk] at hB7
         rw [hval]
         refine ⟨⟨k + 1,by simp,by omega,HA6.out.other _ (by simp) _,hB7,?_,HBW6.out.setCell (by simp;omega) _⟩,by simp [intOf];omega⟩
         obtain ⟨z,hz,hzl⟩:=HZ6.out
         exact ⟨z,hz.other _ (by simp;omega) _,hzl⟩
       · have hke:k=8:=by omega
         subst hke
         have hB7:=HB6.out
         rw [sizedAt_eight] at hB7
         have hbs6:=HBW6.out.size
         have HM:=hidp (mix_any _ (w.heap.size + 1) 234 (w.heap.size + 1 + 1) 235 v hvo.out (sized b s.size) (sized_len _ _ hbl.out) HA6.out hB7 (HK.out.below HBW6.out hkp) (by omega) (by omega))
         clear hB7
         go_wp2_with fail
         refine HM.out.mono ?_
         rintro e w' ⟨rfl,hA8,hgr⟩
         have hbw8:=below_grown HBW6.out hgr (by omega) (by omega)
         have HBW8:=hidp hbw8;have HA8:=hidp hA8
         have HZ8:=hidp (show ∃ z,Arr w' w.heap.size 58 (u8s z)∧z.length=32 from by
          obtain ⟨z,hz,hzl⟩:=HZ6.out
          exact ⟨z,hz.grown hgr (fun e=>by have:=Option.some.inj e;omega),hzl⟩)
         clear hbw8 hA8 hgr
         obtain ⟨xv,hxv⟩:∃ xv,(u32s (comp v (sized b s.size)).list).toArray=xv:=⟨_,rfl⟩
         have HI8:=hidp (show (Tryz.prog.info? 234).map (·.size)=some xv.size from by
          rw [show (Tryz.prog.info? 234).map (·.size)=some 8 from by kernel_rfl,← hxv]
          simp [u32s,S8.list])
         have hg8:=HA8.out
         unfold Arr at hg8
         rw [hxv] at hg8
         have HG8:=hidp hg8
         have HXV:=hidp hxv
         clear hg8 hxv
         go_wp2_with (refine wpList_load_row rfl 234 (.tmp 3) rfl (w.heap.size + 1) rfl 234 xv (0,0) _ HG8.out Tryz.underlying234 rfl HI8.out ?_)
         rw [← HXV.out]
         refine (joined_any w' _ (comp_ok _ _)).mono ?_
         rintro e w9 ⟨rfl,hbw9⟩
         obtain ⟨z,hz,hzl⟩:=HZ8.out
         have hbs8:=HBW8.out.size
         have HZ9:=hidp (hz.below hbw9 (by have:=hz.lt;omega))
         have HBW9:=hidp (HBW8.out.trans (hbw9.mono (by omega)))
         obtain ⟨xh,hxh⟩:∃ xh,(u8s (joinL (comp v (sized b s.size)))).toArray=xh:=⟨_,rfl⟩
         rw [hxh]
         have HI9:=hidp (show (Tryz.prog.info? 58).map (·.size)=some xh.size from by
          rw [show (Tryz.prog.info? 58).map (·.size)=some 32 from by kernel_rfl,← hxh]
          simp [u8s,joinL_len])
         have hlenh:=hidp (show (u8s z).toArray.size=xh.size from by rw [← hxh];simp [u8s,joinL_len,hzl])
         have honeh:=hidp (show xh.all (·.oneCell')=true from by rw [← hxh];exact u8s_one _)
         have HXH:=hidp hxh
         clear hxh hz
         go_wp2_with (refine wpList_store_row rfl 58 (.tmp 2) (.tmp 49) rfl w.heap.size xh rfl rfl 58 _ HZ9.out HI9.out hlenh.out honeh.out ?_)
         have hfin:(w9.setRow w.heap.size xh).heap[w.heap.size]?=some (.cells xh 58 (0,0)):=setRow_heap _ _ _ _ _ _ HZ9.out
         refine bodyPost_ret (results_cell_row (P:=Tryz.prog) (p:=2) (ty:=58) Tryz.results146 _ _ w.heap.size 58 xh (0,0) _ rfl hfin Tryz.underlying58 rfl HI9.out) rfl ?_
         exact ⟨by rw [← HXH.out,HFIN.out];rfl,below_setRow HBW9.out (by omega) _⟩
    · go_wp2_with (refine wpList_store_row rfl 235 (.tmp 4) (.tmp 19) rfl (w.heap.size + 1 + 1) (u8s z64).toArray rfl rfl 235 _ HB.out HZZ.out hlenx.out (u8s_one z64) ?_)
      obtain ⟨W4,hW4⟩:∃ W,(((wr.setRow (w.heap.size + 1 + 1) (u8s z64).toArray).setRow (w.heap.size + 1 + 1) Y.toArray).setCell { block:=w.heap.size + 1 + 1,off:=rest.size } (Value.int IntKind.u8 128))=W:=⟨_,rfl⟩
      rw [hW4]
      obtain ⟨b,hb⟩:∃ b,b=ended rest.data.toList:=⟨_,rfl⟩
      obtain ⟨v,hv⟩:∃ v,v=blk s.data.toList i:=⟨_,rfl⟩
      have hbl:=hidp (show b.length=64 from by rw [hb];exact ended_len _ (by rw [hrs.out];omega))
      have hvo:=hidp (show v.ok from by rw [hv];exact blk_ok _ _)
      have hB5:Arr W4 (w.heap.size + 1 + 1) 235 (u8s b):=by
       rw [← hW4]
       have h:=HB2.out.set rest.size (.int .u8 128)
       rw [← HY.out,← hrs.out,show (Value.int IntKind.u8 128)=.int .u8 ((128:UInt8).toNat:Int) from rfl,u8s_set,ended_set _ (by rw [hrs.out];omega),← hb] at h
       rw [← HY.out,← hrs.out]
       exact h
      have HB5:=hidp hB5
      have HA5:=hidp (show Arr W4 (w.heap.size + 1) 234 (u32s v.list) from by
       rw [← hW4,hv]
       exact ((HA.out.row_other _ (by omega) _).row_other _ (by omega) _).other _ (by simp) _)
      have HZ5:=hidp (show ∃ z,Arr W4 w.heap.size 58 (u8s z)∧z.length=32 from by
       obtain ⟨z,hz,hzl⟩:=HZ.out
       exact ⟨z,by rw [← hW4];exact ((hz.row_other _ (by omega) _).row_other _ (by omega) _).other _ (by simp;omega) _,hzl⟩)
      have HBW5:=hidp (show Below w.heap.size w W4 from by
       rw [← hW4]
       exact (below_setRow (below_setRow HBW.out (g:=w.heap.size + 1 + 1) (by omega) _) (g:=w.heap.size + 1 + 1) (by omega) _).setCell (by simp;omega) _)
      have HFIN:=hidp (show comp v (sized b s.size)=shaS s.data.toList from by
       have hi:=drop_small HR.out HIL.out (by rw [hrs.out];omega)
       have hr:=HR.out
       rw [hi] at hr
       have h55':¬ 55<(s.data.toList.drop (64 * (s.data.toList.length / 64))).length:=by rw [← hr,hrs.out];omega
       rw [shaS_short _ h55',hv,hb,hr,← hi]
       rfl)
      have Hb:=hidp hb;have Hv:=hidp hv;have HW4:=hidp hW4
      clear hb hv hW4 hB5 hc hfz hcp
      go_loopw [35] (fun t35 wq=>∃ k:Nat,t35=.int .i64 (k:Int)∧k≤8∧Arr wq (w.heap.size + 1) 234 (u32s v.list)∧Arr wq (w.heap.size + 1 + 1) 235 (u8s (sizedAt b s.size k))∧(∃ z,Arr wq w.heap.size 58 (u8s z)∧z.length=32)∧Below w.heap.size w wq) (fun t35 _=>8 - (intOf t35).toNat)
      case atStart=>exact ⟨0,rfl,by omega,HA5.out,by rw [sizedAt_zero _ _ hbl.out];exact HB5.out,HZ5.out,HBW5.out⟩
      case round =>
       obtain ⟨k,rfl,hk8,hA6,hB6,hZ6,hbw6⟩:=hrel
       have HA6:=hidp hA6;have HB6:=hidp hB6;have HZ6:=hidp hZ6;have HBW6:=hidp hbw6
       clear hA6 hB6 hZ6 hbw6
       by_cases hk:k<8
       · have hl6:=hidp (show (u8s (sizedAt b s.size k)).length=64 from by rw [u8s_length,sizedAt_len _ _ _ hbl.out hk8])
         have hc:=HB6.out.cell (63 - k) (by rw [hl6.out];omega)
         have hfz:=HB6.out.frozen (63 - k)
         go_wp2_with fail
         have hval:((s.size:Int) * 8 / 2 ^ (8 * k) % 256)=(((len8 s.size).getD (7 - k) 0).toNat:Int):=by
          rw [len8_get _ _ (by omega),show 7 - (7 - k)=k from by omega]
          simp
         have hB7:=HB6.out.set (63 - k) (.int .u8 (((len8 s.size).getD (7 - k) 0).toNat:Int))
         rw [u8s_set,sizedAt_set _ _ _ hbl.out hk] at hB7
         rw [hval]
         refine ⟨⟨k + 1,by simp,by omega,HA6.out.other _ (by simp) _,hB7,?_,HBW6.out.setCell (by simp;omega) _⟩,by simp [intOf];omega⟩
         obtain ⟨z,hz,hzl⟩:=HZ6.out
         exact ⟨z,hz.other _ (by simp;omega) _,hzl⟩
       · have hke:k=8:=by omega
         subst hke
         have hB7:=HB6.out
         rw [sizedAt_eight] at hB7
         have hbs6:=HBW6.out.size
         have HM:=hidp (mix_any _ (w.heap.size + 1) 234 (w.heap.size + 1 + 1) 235 v hvo.out (sized b s.size) (sized_len _ _ hbl.out) HA6.out hB7 (HK.out.below HBW6.out hkp) (by omega) (by omega))
         clear hB7
         go_wp2_with fail
         refine HM.out.mono ?_
         rintro e w' ⟨rfl,hA8,hgr⟩
         have hbw8:=below_grown HBW6.out hgr (by omega) (by omega)
         have HBW8:=hidp hbw8;have HA8:=hidp hA8
         have HZ8:=hidp (show ∃ z,Arr w' w.heap.size 58 (u8s z)∧z.length=32 from by
          obtain ⟨z,hz,hzl⟩:=HZ6.out
          exact ⟨z,hz.grown hgr (fun e=>by have:=Option.some.inj e;omega),hzl⟩)
         clear hbw8 hA8 hgr
         obtain ⟨xv,hxv⟩:∃ xv,(u32s (comp v (sized b s.size)).list).toArray=xv:=⟨_,rfl⟩
         have HI8:=hidp (show (Tryz.prog.info? 234).map (·.size)=some xv.size from by
          rw [show (Tryz.prog.info? 234).map (·.size)=some 8 from by kernel_rfl,← hxv]
          simp [u32s,S8.list])
         have hg8:=HA8.out
         unfold Arr at hg8
         rw [hxv] at hg8
         have HG8:=hidp hg8
         have HXV:=hidp hxv
         clear hg8 hxv
         go_wp2_with (refine wpList_load_row rfl 234 (.tmp 3) rfl (w.heap.size + 1) rfl 234 xv (0,0) _ HG8.out Tryz.underlying234 rfl HI8.out ?_)
         rw [← HXV.out]
         refine (joined_any w' _ (comp_ok _ _)).mono ?_
         rintro e w9 ⟨rfl,hbw9⟩
         obtain ⟨z,hz,hzl⟩:=HZ8.out
         have hbs8:=HBW8.out.size
         have HZ9:=hidp (hz.below hbw9 (by have:=hz.lt;omega))
         have HBW9:=hidp (HBW8.out.trans (hbw9.mono (by omega)))
         obtain ⟨xh,hxh⟩:∃ xh,(u8s (joinL (comp v (sized b s.size)))).toArray=xh:=⟨_,rfl⟩
         rw [hxh]
         have HI9:=hidp (show (Tryz.prog.info? 58).map (·.size)=some xh.size from by
          rw [show (Tryz.prog.info? 58).map (·.size)=some 32 from by kernel_rfl,← hxh]
          simp [u8s,joinL_len])
         have hlenh:=hidp (show (u8s z).toArray.size=xh.size from by rw [← hxh];simp [u8s,joinL_len,hzl])
         have honeh:=hidp (show xh.all (·.oneCell')=true from by rw [← hxh];exact u8s_one _)
         have HXH:=hidp hxh
         clear hxh hz
         go_wp2_with (refine wpList_store_row rfl 58 (.tmp 2) (.tmp 49) rfl w.heap.size xh rfl rfl 58 _ HZ9.out HI9.out hlenh.out honeh.out ?_)
         have hfin:(w9.setRow w.heap.size xh).heap[w.heap.size]?=some (.cells xh 58 (0,0)):=setRow_heap _ _ _ _ _ _ HZ9.out
         refine bodyPost_ret (results_cell_row (P:=Tryz.prog) (p:=2) (ty:=58) Tryz.results146 _ _ w.heap.size 58 xh (0,0) _ rfl hfin Tryz.underlying58 rfl HI9.out) rfl ?_
         exact ⟨by rw [← HXH.out,HFIN.out];rfl,below_setRow HBW9.out (by omega) _⟩
end
section
open Go.RowKit
theorem shaL_len (l:List UInt8):(shaL l).length=32:=joinL_len _
set_option maxRecDepth 100000 in
theorem mid_any (w:World) (s:ByteArray) (hs:s.size≤281474976710656) (hK:KT w) :
 Calls Tryz.prog 178 #[.string s] w fun e w'=>e=.returned (.string (mkS ((shaL s.data.toList).take 16)))∧Below w.heap.size w w':=by
 have HS:=hidp fun W (h:KT W)=>sum_any W s hs h
 have HK:=hidp hK
 clear hK
 go_enter Tryz.func178,Tryz.ntmps178
 go_wp2_with fail
 refine (HS.out w HK.out).mono ?_
 rintro e w1 ⟨rfl,hb1⟩
 obtain ⟨xs,hxs⟩:∃ xs,(u8s (shaL s.data.toList)).toArray=xs:=⟨_,rfl⟩
 rw [hxs]
 have hl32:=hidp (show xs.size=32 from by rw [← hxs];simp [u8s,shaL_len])
 have HI:=hidp (show (Tryz.prog.info? 58).map (·.size)=some xs.size from by
  rw [show (Tryz.prog.info? 58).map (·.size)=some 32 from by kernel_rfl,hl32.out])
 have hone:=hidp (show xs.all (·.oneCell')=true from by rw [← hxs];exact u8s_one _)
 have hrow:∀ cur,Arr ((w1.alloc (.cells cur 58)).setRow w1.heap.size xs) w1.heap.size 58 (u8s (shaL s.data.toList)):=by
  intro cur
  rw [← hxs]
  exact Arr.row (xs:=cur.toList) (heap_alloc_new w1 _) (u8s (shaL s.data.toList))
 have hstr:∀ cur,(convert 174 9 (.slice (some ⟨w1.heap.size,0,none⟩) 16 32)).run Tryz.prog ((w1.alloc (.cells cur 58)).setRow w1.heap.size xs)=.ok (.string (mkS ((shaL s.data.toList).take 16))) ((w1.alloc (.cells cur 58)).setRow w1.heap.size xs):=by
  intro cur
  have hl:=shaL_len s.data.toList
  have h:=run_str_at (P:=Tryz.prog) (src:=174) (e:=5) (dst:=9) Tryz.underlying174 Tryz.underlying5 Tryz.underlying9 w1.heap.size 0 32 ((shaL s.data.toList).take 16) (w:=(w1.alloc (.cells cur 58)).setRow w1.heap.size xs) (by
   intro i hi
   rw [List.length_take,hl] at hi
   rw [show (⟨w1.heap.size,0,none⟩:Addr).off + i=i from Nat.zero_add _]
   rw [(hrow cur).cell i (by rw [u8s_length,hl];omega)]
   simp [u8s,List.getD_eq_getElem?_getD,List.getElem?_take,show i<16 from by omega,hl,show i<32 from by omega])
  rw [List.length_take,hl] at h
  exact h
 have HXS:=hidp hxs;have HB1:=hidp hb1;have HR:=hidp hrow
 clear hxs hb1 hrow
 go_wp2_with (refine wpList_store_row rfl 58 (.tmp 3) (.tmp 5) rfl w1.heap.size xs rfl rfl 58 _ (heap_alloc_new w1 _) HI.out (by rw [hl32.out];rfl) hone.out ?_)
 go_ret
 have hs1:=HB1.out.size
 exact ⟨rfl,below_setRow (HB1.out.alloc hs1 _) hs1 _⟩
end
section
open Go.RowKit
def digH (c:UInt8):Nat:=if 48≤c.toNat∧c.toNat≤57 then c.toNat - 48 else if 97≤c.toNat∧c.toNat≤102 then c.toNat - 87 else 16
end
end Go.Proofs.YtokakgjcegmabaaGreatDoor
