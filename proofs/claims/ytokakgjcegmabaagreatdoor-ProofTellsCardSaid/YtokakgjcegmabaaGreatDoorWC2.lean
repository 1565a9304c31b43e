import Derived.Test.YtokakgjcegmabaaGreatDoorWC
set_option linter.unusedVariables false
set_option linter.unusedSimpArgs false
set_option maxHeartbeats 64000000
set_option maxRecDepth 100000
namespace Go.Proofs.YtokakgjcegmabaaGreatDoor
section
open Go.RowKit
theorem digits_at {n:Nat} (h:n<10):(⟨#[48,49,50,51,52,53,54,55,56,57]⟩:ByteArray).extract n (n + 1)=mkS (dig n):=by
 have h1:∀ n:Fin 10,(⟨#[48,49,50,51,52,53,54,55,56,57]⟩:ByteArray).extract n.val (n.val + 1)=mkS (dig n.val):=by decide +kernel
 exact h1 ⟨n,h⟩
theorem rnum_small (w:World) (n:Nat) (hn:n<10) :
 Calls Tryz.prog 215 #[.int .i64 (n:Int)] w fun e w'=>e=.returned (.string (mkS (dig n)))∧w'=w:=by
 rw [← digits_at hn]
 have e0:decide ((n:Int)<10)=true:=by simp;omega
 have n0:(n:Int)<10:=by omega
 have c0:(0:Int)≤(n:Int):=by omega
 have c1:(n:Int)≤(n:Int) + 1:=by omega
 have c2:(n:Int) + 1≤10:=by omega
 have hsz:(⟨#[48,49,50,51,52,53,54,55,56,57]⟩:ByteArray).size=10:=rfl
 go_enter Tryz.func215,Tryz.ntmps215
 go_wp2
 go_ret
 exact ⟨rfl,rfl⟩
theorem dig_two {n:Nat} (h0:¬ n<10) (h:n≤99):mkS (dig (n / 10))++mkS (dig (n % 10))=mkS (dig n):=by
 rw [mkS_append]
 have e1:dig (n / 10)=[UInt8.ofNat (48 + n / 10)]:=by unfold dig;rw [if_pos (by omega)]
 have e2:dig (n % 10)=[UInt8.ofNat (48 + n % 10)]:=by unfold dig;rw [if_pos (by omega)]
 have e3:dig n=[UInt8.ofNat (48 + n / 10),UInt8.ofNat (48 + n % 10)]:=by unfold dig;rw [if_neg h0]
 rw [e1,e2,e3];rfl
theorem rnumber_any (w:World) (n:Nat) (hn:n≤99) :
 Calls Tryz.prog 215 #[.int .i64 (n:Int)] w fun e w'=>e=.returned (.string (mkS (dig n)))∧w'=w:=by
 by_cases h:n<10
 · exact rnum_small w n h
 · have e0:decide ((n:Int)<10)=false:=by simp;omega
   have n0:¬ (n:Int)<10:=by omega
   have C1:=hidp (fun W=>rnum_small W (n / 10) (by omega))
   have C2:=hidp (fun W=>rnum_small W (n % 10) (by omega))
   rw [← dig_two h hn]
   obtain ⟨X,hX⟩:∃ X,mkS (dig (n / 10))=X:=⟨_,rfl⟩
   obtain ⟨Y,hY⟩:∃ X,mkS (dig (n % 10))=X:=⟨_,rfl⟩
   have hXs:X.size≤2:=by rw [← hX];exact dig_size _
   have hYs:Y.size≤2:=by rw [← hY];exact dig_size _
   rw [hX] at C1 ⊢
   rw [hY] at C2 ⊢
   clear hX hY
   obtain ⟨a,ha⟩:∃ a,n / 10=a:=⟨_,rfl⟩
   obtain ⟨b,hb⟩:∃ a,n % 10=a:=⟨_,rfl⟩
   have q1:((n:Int)).tdiv 10=(a:Int):=by rw [← ha];simp
   have q2:((n:Int)).tmod 10=(b:Int):=by rw [Int.tmod_eq_emod_of_nonneg (by omega)];omega
   have q3:(n:Int) / 10=(a:Int):=by omega
   have q4:(n:Int) % 10=(b:Int):=by omega
   rw [ha] at C1
   rw [hb] at C2
   have hal:a≤9:=by omega
   go_enter Tryz.func215,Tryz.ntmps215
   go_wp2_with fail
   refine (C1.out _).mono ?_
   rintro e w1 ⟨rfl,rfl⟩
   go_wp2_with fail
   refine (C2.out _).mono ?_
   rintro e w1 ⟨rfl,rfl⟩
   go_wp2_with fail
   go_ret
   exact ⟨rfl,rfl⟩
def valD (l:List UInt8):Nat:=l.foldl (fun a b=>10 * a + (b.toNat - 48)) 0
theorem valD_snoc (l:List UInt8) (b:UInt8):valD (l++[b])=10 * valD l + (b.toNat - 48):=by unfold valD;rw [List.foldl_append];rfl
theorem decOf_digits {l:List UInt8} {m:Nat} (h:decOf l=some m) :
 (∀ j (hj:j<l.length),48≤(l[j]'hj).toNat∧(l[j]'hj).toNat≤57)∧(∀ i,i≤l.length→valD (l.take i)≤63)∧valD l=m∧l.length≤2∧1≤l.length:=by
 obtain ⟨hm,rfl⟩:=decOf_some h
 have h1:∀ n:Fin 64,((dig n.val).all fun b=>decide (48≤b.toNat∧b.toNat≤57))=true∧((List.range 3).all fun i=>decide (valD ((dig n.val).take i)≤63))=true∧valD (dig n.val)=n.val∧(dig n.val).length≤2∧1≤(dig n.val).length:=by decide +kernel
 obtain ⟨g1,g2,g3,g4,g5⟩:=h1 ⟨m,by omega⟩
 simp only at g1 g2 g3 g4 g5
 refine ⟨fun j hj=>?_,fun i hi=>?_,g3,g4,g5⟩
 · have:=List.all_eq_true.1 g1 _ (List.getElem_mem hj)
   exact of_decide_eq_true this
 · have:=List.all_eq_true.1 g2 i (by simp;omega)
   exact of_decide_eq_true this
theorem rcount_any (w:World) (s:ByteArray) (hs:s.size≤281474976710656) :
 Calls Tryz.prog 204 #[.string s,.int .i64 63] w fun e w'=>e=.returned (whoV (decOf s.data.toList))∧w'=w:=by
 obtain ⟨R,hR⟩:∃ R,decOf s.data.toList=R:=⟨_,rfl⟩
 rw [hR]
 have hsz:=size_toList s
 have F1:=hidp (show ∀ j (hj:j<s.size),(s[j]'hj).toNat<48∨57<(s[j]'hj).toNat→R=none from fun j hj h=>by
  cases hd:R with
  | none=>rfl
  | some m =>
    have:=(decOf_digits (hR.trans hd)).1 j (by omega)
    have e:s.data.toList[j]'(by omega)=s[j]'hj:=rfl
    rw [e] at this;omega)
 have F2:=hidp (show ∀ i,i≤s.size→63<valD (s.data.toList.take i)→R=none from fun i hi h=>by
  cases hd:R with
  | none=>rfl
  | some m=>have:=(decOf_digits (hR.trans hd)).2.1 i (by omega);omega)
 have F3:=hidp (show s.size=0→R=none from fun h=>by
  cases hd:R with
  | none=>rfl
  | some m=>have:=(decOf_digits (hR.trans hd)).2.2.2.2;omega)
 have F4:=hidp (show ∀ n,n=valD s.data.toList→mkS (dig n)≠s→R=none from fun n hn h=>by
  cases hd:R with
  | none=>rfl
  | some m =>
    have h1:=(decOf_digits (hR.trans hd)).2.2.1
    have h2:=(decOf_some (hR.trans hd)).2
    exfalso;apply h
    rw [hn,h1,h2,mkS_of])
 have F5:=hidp (show ∀ n,n≤63→mkS (dig n)=s→R=some n from fun n hn h=>by
  rw [← hR,← h,mkS_data];exact decOf_dig hn)
 clear hR
 go_enter Tryz.func204,Tryz.ntmps204
 go_wp2
 go_loop [6,7] (fun t6 t7=>∃ (i n:Nat),t7=.int .i64 i∧t6=.int .i64 n∧i≤s.size∧n≤639∧n=valD (s.data.toList.take i)) (fun _ t7=>s.size - (intOf t7).toNat)
 case atStart=>exact ⟨0,0,rfl,rfl,by omega,by omega,rfl⟩
 case round =>
  obtain ⟨i,n,rfl,rfl,hi,hn,hv⟩:=hrel
  have HV:=hidp hv;clear hv
  by_cases hl:i<s.size
  · obtain ⟨bn,hbn⟩:∃ bn,(s[i]'hl).toNat=bn:=⟨_,rfl⟩
    have hb:bn<256:=by rw [← hbn];exact UInt8.toNat_lt _
    have G1:=hidp (show bn<48∨57<bn→R=none from fun h=>F1.out i hl (by rw [hbn];exact h))
    have G2:=hidp (show 63<n→R=none from fun h=>F2.out i hi (by rw [← HV.out];exact h))
    have HV2:=hidp (show 10 * n + (bn - 48)=valD (s.data.toList.take (i + 1)) from by
     rw [List.take_succ_eq_append_getElem (by omega),valD_snoc,← HV.out]
     have e:s.data.toList[i]'(by omega)=s[i]'hl:=rfl
     rw [e,hbn])
    have HBN:=hidp hbn
    by_cases h48:bn<48
    · have e0:decide ((bn:Int)<48)=true:=by simp;omega
      have n0:(bn:Int)<48:=by omega
      have HF:=hidp (G1.out (.inl h48))
      clear h48
      go_wp2
      go_ret2
      exact ⟨by rw [HF.out];rfl,rfl⟩
    · have e0:decide ((bn:Int)<48)=false:=by simp;omega
      have n0:¬ (bn:Int)<48:=by omega
      by_cases h57:57<bn
      · have e1:decide ((57:Int)<(bn:Int))=true:=by simp;omega
        have n1:(57:Int)<(bn:Int):=by omega
        have HF:=hidp (G1.out (.inr h57))
        clear h57
        go_wp2
        go_ret2
        exact ⟨by rw [HF.out];rfl,rfl⟩
      · have e1:decide ((57:Int)<(bn:Int))=false:=by simp;omega
        have n1:¬ (57:Int)<(bn:Int):=by omega
        by_cases h63:63<n
        · have e2:decide ((63:Int)<(n:Int))=true:=by simp;omega
          have n2:(63:Int)<(n:Int):=by omega
          have HF:=hidp (G2.out h63)
          clear h63
          go_wp2
          go_ret2
          exact ⟨by rw [HF.out];rfl,rfl⟩
        · have e2:decide ((63:Int)<(n:Int))=false:=by simp;omega
          have n2:¬ (63:Int)<(n:Int):=by omega
          go_wp2
          refine ⟨⟨i + 1,10 * n + (bn - 48),by go_num,by go_num,by omega,by omega,HV2.out⟩,by simp [intOf];omega⟩
  · have hie:i=s.size:=by omega
    have hve:=hidp (show n=valD s.data.toList from by have:=HV.out;rw [List.take_of_length_le (by omega)] at this;exact this)
    by_cases hz:s.size=0
    · have HF:=hidp (F3.out hz)
      have htn:s.toList=[]:=by rw [ByteArray.toList_eq];exact List.eq_nil_of_length_eq_zero (hsz.trans hz)
      have hte:s.toList.isEmpty=true:=by rw [htn];first | rfl|(rw [ByteArray.toList_eq];rfl)
      have htq:(s.toList == (⟨#[]⟩:ByteArray).toList)=true:=by rw [htn];first | rfl|(rw [ByteArray.toList_eq];rfl)
      clear hz
      go_wp2
      go_ret2
      exact ⟨by rw [HF.out];rfl,rfl⟩
    · have ht:=toList_no (show s≠⟨#[]⟩ from fun e=>hz (by rw [e];rfl))
      have hte:s.toList.isEmpty=false:=by rw [ByteArray.toList_eq];cases hq:s.data.toList with
       | nil=>exfalso;rw [hq] at hsz;exact hz hsz.symm
       | cons a r=>rfl
      have htn:¬ s.toList=[]:=fun e=>by rw [e] at hte;cases hte
      by_cases h63:63<n
      · have e2:decide ((63:Int)<(n:Int))=true:=by simp;omega
        have n2:(63:Int)<(n:Int):=by omega
        have HF:=hidp (F2.out s.size (Nat.le_refl _) (by rw [List.take_of_length_le (by omega),← hve.out];exact h63))
        clear h63
        go_wp2
        go_ret2
        exact ⟨by rw [HF.out];rfl,rfl⟩
      · have e2:decide ((63:Int)<(n:Int))=false:=by simp;omega
        have n2:¬ (63:Int)<(n:Int):=by omega
        have C:=hidp (fun W=>rnumber_any W n (by omega))
        by_cases hd:mkS (dig n)=s
        · rw [hd] at C
          have HF:=hidp (F5.out n (by omega) hd)
          clear hd
          go_wp2_with (go_at_call 215;(refine (C.out _).mono ?_);rintro e w' ⟨rfl,rfl⟩)
          go_ret2
          exact ⟨by rw [HF.out];rfl,rfl⟩
        · have hq:=toList_no hd
          have HF:=hidp (F4.out n hve.out hd)
          obtain ⟨X,hX⟩:∃ X,mkS (dig n)=X:=⟨_,rfl⟩
          rw [hX] at C hq
          clear hd hX
          go_wp2_with (go_at_call 215;(refine (C.out _).mono ?_);rintro e w' ⟨rfl,rfl⟩)
          go_ret2
          exact ⟨by rw [HF.out];rfl,rfl⟩
end
section
open Go.RowKit
theorem rname_any (w:World) (s:ByteArray) (hs:s.size≤281474976710656) :
 Calls Tryz.prog 216 #[.string s] w fun e w'=>e=.returned (.bool (nameL s.data.toList))∧w'=w:=by
 obtain ⟨R,hR⟩:∃ R,nameL s.data.toList=R:=⟨_,rfl⟩
 rw [hR]
 have HR:=hidp hR;clear hR
 go_enter Tryz.func216,Tryz.ntmps216
 go_wp2
 go_loop [3] (fun t3=>∃ (i:Nat),t3=.int .i64 i∧i≤s.size∧(∀ j (hj:j<s.size),j<i→nameN (s[j]'hj).toNat=true)) (fun t3=>s.size - (intOf t3).toNat)
 case atStart=>exact ⟨0,rfl,by omega,fun j hj h=>by omega⟩
 case round =>
  obtain ⟨i,rfl,hi,hall⟩:=hrel
  have HALL:=hidp hall;clear hall
  by_cases hl:i<s.size
  · obtain ⟨bn,hbn⟩:∃ bn,(s[i]'hl).toNat=bn:=⟨_,rfl⟩
    have hb:bn<256:=by rw [← hbn];exact UInt8.toNat_lt _
    have HBN:=hidp hbn
    have C:=hidp (fun W=>letter_any W bn hb)
    cases hq:nameN bn with
    | true =>
      rw [hq] at C
      go_wp2_with (go_at_call 226;(refine (C.out _).mono ?_);rintro e w' ⟨rfl,rfl⟩)
      refine ⟨⟨i + 1,by go_num,by omega,fun j hj h=>?_⟩,by simp [intOf];omega⟩
      by_cases hji:j=i
      · subst hji;have e2:=HBN.out;rw [e2];exact hq
      · exact HALL.out j hj (by omega)
    | false =>
      rw [hq] at C
      have HF:=hidp (HR.out.symm.trans (name_bad i hl (by rw [HBN.out];exact hq)))
      go_wp2_with (go_at_call 226;(refine (C.out _).mono ?_);rintro e w' ⟨rfl,rfl⟩)
      go_ret
      exact ⟨by rw [HF.out];rfl,rfl⟩
  · by_cases h0:s.size=0
    · have e0:decide ((1:Int)≤(s.size:Int))=false:=by simp;omega
      have n0:¬ (1:Int)≤(s.size:Int):=by omega
      have n1:¬ 1≤s.size:=by omega
      have HF:=hidp (HR.out.symm.trans (name_short (.inl h0)))
      clear h0
      go_wp2
      go_ret
      exact ⟨by rw [HF.out];rfl,rfl⟩
    · have e0:decide ((1:Int)≤(s.size:Int))=true:=by simp;omega
      have n0:(1:Int)≤(s.size:Int):=by omega
      have n1:1≤s.size:=by omega
      by_cases h16:16<s.size
      · have e1:decide ((s.size:Int)≤16)=false:=by simp;omega
        have n2:¬ (s.size:Int)≤16:=by omega
        have HF:=hidp (HR.out.symm.trans (name_short (.inr h16)))
        go_wp2
        go_ret
        exact ⟨by rw [HF.out];rfl,rfl⟩
      · have e1:decide ((s.size:Int)≤16)=true:=by simp;omega
        have n2:(s.size:Int)≤16:=by omega
        have HF:=hidp (HR.out.symm.trans (name_yes (by omega) (by omega) fun j hj=>HALL.out j hj (by omega)))
        go_wp2
        go_ret
        exact ⟨by rw [HF.out];rfl,rfl⟩
theorem rtext_any (w:World) (k:Nat) (hk:k<256) (nm:ByteArray) (hs:nm.size≤281474976710656) (s:Int) :
 Calls Tryz.prog 205 #[.agg #[.int .u8 (k:Int),.string nm,.int .i64 s]] w fun e w'=>e=.returned (.tuple #[.string (idT k nm s),.int .i64 (idE k nm s)])∧Below w.heap.size w w':=by
 have C:=hidp (fun W=>rname_any W nm hs)
 have hb:=hidp ((Below.refl w.heap.size w).alloc (Nat.le_refl _) (.cells #[.int .u8 (k:Int),.string nm,.int .i64 s] 241))
 by_cases h1:k=1
 · subst h1
   cases hn:nameL nm.data.toList with
   | false =>
     have HF:=hidp (idOk_n (k:=1) s hn)
     rw [hn] at C
     rw [show idT 1 nm s=ByteArray.empty from by unfold idT;rw [HF.out];rfl,show idE 1 nm s=2 from by unfold idE;rw [HF.out];rfl]
     go_enter Tryz.func205,Tryz.ntmps205
     go_wp2_with (go_at_call 216;(refine (C.out _).mono ?_);rintro e w' ⟨rfl,rfl⟩)
     go_ret2
     exact ⟨rfl,hb.out⟩
   | true =>
     rw [hn] at C
     by_cases h0:s<0
     · have e3:decide (s<0)=true:=by simp;omega
       have HF:=hidp (idOk_s (k:=1) (nm:=nm) (.inl h0))
       clear h0
       rw [show idT 1 nm s=ByteArray.empty from by unfold idT;rw [HF.out];rfl,show idE 1 nm s=2 from by unfold idE;rw [HF.out];rfl]
       go_enter Tryz.func205,Tryz.ntmps205
       go_wp2_with (go_at_call 216;(refine (C.out _).mono ?_);rintro e w' ⟨rfl,rfl⟩)
       go_ret2
       exact ⟨rfl,hb.out⟩
     · have e3:decide (s<0)=false:=by simp;omega
       by_cases h1:63<s
       · have e4:decide (63<s)=true:=by simp;omega
         have HF:=hidp (idOk_s (k:=1) (nm:=nm) (.inr h1))
         clear h0 h1
         rw [show idT 1 nm s=ByteArray.empty from by unfold idT;rw [HF.out];rfl,show idE 1 nm s=2 from by unfold idE;rw [HF.out];rfl]
         go_enter Tryz.func205,Tryz.ntmps205
         go_wp2_with (go_at_call 216;(refine (C.out _).mono ?_);rintro e w' ⟨rfl,rfl⟩)
         go_ret2
         exact ⟨rfl,hb.out⟩
       · have e4:decide (63<s)=false:=by simp;omega
         have hok:=idOk_yes (k:=1) (by omega) hn (by omega:0≤s) (by omega)
         have hsz:=idOk_size hok
         obtain ⟨n,rfl⟩:∃ n:Nat,s=n:=⟨s.toNat,by omega⟩
         have hn63:n≤63:=by omega
         obtain ⟨D,hD⟩:∃ D,mkS (dig n)=D:=⟨_,rfl⟩
         have hDs:D.size≤2:=by rw [← hD];exact dig_size n
         have hcs:(⟨#[58]⟩:ByteArray).size=1:=rfl
         have hms:(⟨#[64]⟩:ByteArray).size=1:=rfl
         have hT:(⟨#[64]⟩:ByteArray)++nm++⟨#[58]⟩++D=idT 1 nm n:=by rw [← hD];exact idT_app hok ⟨#[64]⟩ rfl
         have CN:=hidp (show ∀ W,Calls Tryz.prog 215 #[.int .i64 (n:Int)] W fun e w'=>e=.returned (.string D)∧w'=W from fun W=>by
          rw [← hD];exact rnumber_any W n (by omega))
         rw [← hT,show idE 1 nm n=0 from by unfold idE;rw [hok];rfl]
         clear hT hD hok h0 h1 hn63
         go_enter Tryz.func205,Tryz.ntmps205
         go_wp2_with (go_at_call 216;(refine (C.out _).mono ?_);rintro e w' ⟨rfl,rfl⟩)
         go_quiet ((go_at_call 215;exact Calls.quiet_of_same (CN.out _)))
         go_wp2
         go_ret2
         exact ⟨rfl,below_drewN hb.out _⟩
 · by_cases h2:k=2
   · subst h2
     cases hn:nameL nm.data.toList with
     | false =>
       have HF:=hidp (idOk_n (k:=2) s hn)
       rw [hn] at C
       rw [show idT 2 nm s=ByteArray.empty from by unfold idT;rw [HF.out];rfl,show idE 2 nm s=2 from by unfold idE;rw [HF.out];rfl]
       go_enter Tryz.func205,Tryz.ntmps205
       go_wp2_with (go_at_call 216;(refine (C.out _).mono ?_);rintro e w' ⟨rfl,rfl⟩)
       go_ret2
       exact ⟨rfl,hb.out⟩
     | true =>
       rw [hn] at C
       by_cases h0:s<0
       · have e3:decide (s<0)=true:=by simp;omega
         have HF:=hidp (idOk_s (k:=2) (nm:=nm) (.inl h0))
         clear h0
         rw [show idT 2 nm s=ByteArray.empty from by unfold idT;rw [HF.out];rfl,show idE 2 nm s=2 from by unfold idE;rw [HF.out];rfl]
         go_enter Tryz.func205,Tryz.ntmps205
         go_wp2_with (go_at_call 216;(refine (C.out _).mono ?_);rintro e w' ⟨rfl,rfl⟩)
         go_ret2
         exact ⟨rfl,hb.out⟩
       · have e3:decide (s<0)=false:=by simp;omega
         by_cases h1:63<s
         · have e4:decide (63<s)=true:=by simp;omega
           have HF:=hidp (idOk_s (k:=2) (nm:=nm) (.inr h1))
           clear h0 h1
           rw [show idT 2 nm s=ByteArray.empty from by unfold idT;rw [HF.out];rfl,show idE 2 nm s=2 from by unfold idE;rw [HF.out];rfl]
           go_enter Tryz.func205,Tryz.ntmps205
           go_wp2_with (go_at_call 216;(refine (C.out _).mono ?_);rintro e w' ⟨rfl,rfl⟩)
           go_ret2
           exact ⟨rfl,hb.out⟩
         · have e4:decide (63<s)=false:=by simp;omega
           have hok:=idOk_yes (k:=2) (by omega) hn (by omega:0≤s) (by omega)
           have hsz:=idOk_size hok
           obtain ⟨n,rfl⟩:∃ n:Nat,s=n:=⟨s.toNat,by omega⟩
           have hn63:n≤63:=by omega
           obtain ⟨D,hD⟩:∃ D,mkS (dig n)=D:=⟨_,rfl⟩
           have hDs:D.size≤2:=by rw [← hD];exact dig_size n
           have hcs:(⟨#[58]⟩:ByteArray).size=1:=rfl
           have hms:(⟨#[33]⟩:ByteArray).size=1:=rfl
           have hT:(⟨#[33]⟩:ByteArray)++nm++⟨#[58]⟩++D=idT 2 nm n:=by rw [← hD];exact idT_app hok ⟨#[33]⟩ rfl
           have CN:=hidp (show ∀ W,Calls Tryz.prog 215 #[.int .i64 (n:Int)] W fun e w'=>e=.returned (.string D)∧w'=W from fun W=>by
            rw [← hD];exact rnumber_any W n (by omega))
           rw [← hT,show idE 2 nm n=0 from by unfold idE;rw [hok];rfl]
           clear hT hD hok h0 h1 hn63
           go_enter Tryz.func205,Tryz.ntmps205
           go_wp2_with (go_at_call 216;(refine (C.out _).mono ?_);rintro e w' ⟨rfl,rfl⟩)
           go_quiet ((go_at_call 215;exact Calls.quiet_of_same (CN.out _)))
           go_wp2
           go_ret2
           exact ⟨rfl,below_drewN hb.out _⟩
   · have HF:=hidp (idOk_k nm s (fun h=>by omega):idOk k nm s=false)
     have e1:((k:Int) == 1)=false:=by simp;omega
     have m1:((k:Int) != 1)=true:=by simp;omega
     have x1:¬ k=1:=by omega
     have e2:((k:Int) == 2)=false:=by simp;omega
     have m2:((k:Int) != 2)=true:=by simp;omega
     have x2:¬ k=2:=by omega
     rw [show idT k nm s=ByteArray.empty from by unfold idT;rw [HF.out];rfl,show idE k nm s=2 from by unfold idE;rw [HF.out];rfl]
     go_enter Tryz.func205,Tryz.ntmps205
     go_wp2_with fail
     go_ret2
     exact ⟨rfl,hb.out⟩
end
section
open Go.RowKit
theorem rparse_any (w:World) (t:ByteArray) (hs:t.size≤281474976710656) :
 Calls Tryz.prog 184 #[.string t] w fun e w'=>e=.returned (.tuple #[idV (idP t),.int .i64 (idX (idP t))])∧Below w.heap.size w w':=by
 obtain ⟨X,hX⟩:∃ x,idP t=x:=⟨_,rfl⟩
 rw [hX]
 have HXX:=hidp hX;clear hX
 have HB:=hidp ((Below.refl w.heap.size w).alloc (Nat.le_refl _) (.cells #[.int .u8 0,.string ⟨#[]⟩,.int .i64 0] 241))
 have HA:=hidp (Arr.new w 241 [.int .u8 0,.string ⟨#[]⟩,.int .i64 0])
 go_enter Tryz.func184,Tryz.ntmps184
 go_wp2
 go_loop [4] (fun t4=>∃ (i:Nat),t4=.int .i64 i∧1≤i∧(i≤t.size∨i=1)∧(∀ j (hj:j<t.size),1≤j→j<i→(t[j]'hj).toNat≠58)) (fun t4=>t.size + 1 - (intOf t4).toNat)
 case atStart=>exact ⟨1,rfl,by omega,.inr rfl,fun j hj h1 h2=>by omega⟩
 case round =>
  obtain ⟨i,rfl,hi1,hi,hall⟩:=hrel
  have HALL:=hidp hall;clear hall
  by_cases hl:i<t.size
  · obtain ⟨bn,hbn⟩:∃ bn,(t[i]'hl).toNat=bn:=⟨_,rfl⟩
    have hb:bn<256:=by rw [← hbn];exact UInt8.toNat_lt _
    have HBN:=hidp hbn
    by_cases h58:bn=58
    · have e0:((bn:Int) != 58)=false:=by rw [h58];rfl
      have hP:=idP_at i hi1 hl (by rw [HBN.out];exact h58) (fun j hj h1 h2=>HALL.out j hj h1 h2)
      rw [HXX.out] at hP
      have f1:mkS ((t.data.toList.drop 1).take (i - 1))=t.extract 1 i:=by apply ba_ext;rw [mkS_data,extract_toList]
      have f2:t.data.toList.drop (i + 1)=(t.extract (i + 1) t.size).data.toList:=by rw [ext_drop,mkS_data]
      rw [f2] at hP
      unfold idC at hP
      rw [f1] at hP
      have CC:=hidp (fun W=>rcount_any W (t.extract (i + 1) t.size) (by simp;omega))
      have hNs:(t.extract 1 i).size≤281474976710656:=by simp;omega
      have c0:(0:Int)≤(i:Int) + 1:=by omega
      have c1:(i:Int) + 1≤(t.size:Int):=by omega
      have c2:(1:Int)≤(i:Int):=by omega
      have c3:(i:Int)≤(t.size:Int):=by omega
      have c4:(0:Int)<(t.size:Int):=by omega
      have hl0:0<t.size:=by omega
      obtain ⟨cn,hcn⟩:∃ cn,(t[0]'hl0).toNat=cn:=⟨_,rfl⟩
      have hcb:cn<256:=by rw [← hcn];exact UInt8.toNat_lt _
      have hc33:(t[0]'hl0=33)=(cn=33):=by
       rw [← hcn];apply propext
       exact ⟨fun e=>by rw [e];rfl,fun e=>UInt8.toNat_inj.1 e⟩
      obtain ⟨NM,hNM⟩:∃ x,t.extract 1 i=x:=⟨_,rfl⟩
      obtain ⟨D,hD⟩:∃ x,t.extract (i + 1) t.size=x:=⟨_,rfl⟩
      have hNM0:=hNM;have hD0:=hD
      rw [hNM] at hP hNs
      rw [hD] at hP CC
      clear f1 f2 h58
      by_cases h33:cn=33
      · have e1:((cn:Int) == 33)=true:=by rw [h33];rfl
        simp only [hc33,h33,if_true] at hP
        clear hc33
        cases hd:decOf D.data.toList with
        | none =>
          rw [hd] at hP CC
          simp only at hP
          subst hP
          have CT:=hidp (fun W=>rtext_any W 2 (by omega) NM hNs 0)
          obtain ⟨S,hS⟩:∃ x,idT 2 NM 0=x:=⟨_,rfl⟩
          obtain ⟨E,hE⟩:∃ x,idE 2 NM 0=x:=⟨_,rfl⟩
          rw [hS,hE] at CT
          clear hS hE hd
          go_wp2_with fail
          refine (CC.out _).mono ?_
          rintro e w1 ⟨rfl,rfl⟩
          unfold whoV
          go_wp2_with fail
          have HN:=hidp (show Arr ((w.alloc (.cells #[.int .u8 0,.string ⟨#[]⟩,.int .i64 0] 241)).alloc (.cells #[.int .u8 2,.string NM,.int .i64 0] 241)) (w.heap.size + 1) 241 [.int .u8 2,.string NM,.int .i64 0] from by
           have h:=Arr.new (w.alloc (.cells #[.int .u8 0,.string ⟨#[]⟩,.int .i64 0] 241)) 241 [.int .u8 2,.string NM,.int .i64 0]
           rw [heap_size_alloc] at h;exact h)
          have HB1:=hidp (HB.out.alloc HB.out.size (.cells #[.int .u8 2,.string NM,.int .i64 0] 241));have HA1:=hidp (HA.out.alloc (.cells #[.int .u8 2,.string NM,.int .i64 0] 241))
          have HN2:=HN;have HB2:=HB1;have HA2:=HA1
          generalize hW2:((w.alloc (.cells #[.int .u8 0,.string ⟨#[]⟩,.int .i64 0] 241)).alloc (.cells #[.int .u8 2,.string NM,.int .i64 0] 241))=W2 at HN2 HB2 HA2 HN HB1 HA1 ⊢
          clear HN HB1 HA1 hW2
          refine (CT.out _).mono ?_
          rintro e w5 ⟨rfl,hb5⟩
          have HB5:=hidp (HB2.out.trans (hb5.mono HB2.out.size));have HA5:=hidp (HA2.out.below hb5 HA2.out.lt);have HN5:=hidp (HN2.out.below hb5 HN2.out.lt)
          clear hb5
          obtain ⟨r0,r1,r2,rf⟩:=arr3 HA5.out
          have g0:=rf 0;have g1:=rf 1;have g2:=rf 2
          clear rf
          go_wp2_with fail
          refine bodyPost_ret (v:=.tuple #[.agg #[.int .u8 0,.string ⟨#[]⟩,.int .i64 0],.int .i64 6]) (by simp [results,Tryz.results184,go_sem,r0,r1,r2]) rfl ⟨rfl,?_⟩
          repeat (refine Below.setCell ?_ (by simp) _)
          exact HB5.out
        | some n =>
          rw [hd] at hP CC
          simp only at hP
          have CT:=hidp (fun W=>rtext_any W 2 (by omega) NM hNs n)
          have hn63:=(decOf_some hd).1
          clear hd
          by_cases hh:idOk 2 NM n=true∧mkS (idL 2 NM n)=t
          · rw [if_pos hh] at hP
            subst hP
            rw [idT_eq (v:=(n:Int)) (by simpa using hh),idE_ok hh.1] at CT
            clear hh
            go_wp2_with fail
            refine (CC.out _).mono ?_
            rintro e w1 ⟨rfl,rfl⟩
            unfold whoV
            go_wp2_with fail
            have HN:=hidp (show Arr ((w.alloc (.cells #[.int .u8 0,.string ⟨#[]⟩,.int .i64 0] 241)).alloc (.cells #[.int .u8 2,.string NM,.int .i64 (n:Int)] 241)) (w.heap.size + 1) 241 [.int .u8 2,.string NM,.int .i64 (n:Int)] from by
             have h:=Arr.new (w.alloc (.cells #[.int .u8 0,.string ⟨#[]⟩,.int .i64 0] 241)) 241 [.int .u8 2,.string NM,.int .i64 (n:Int)]
             rw [heap_size_alloc] at h;exact h)
            have HB1:=hidp (HB.out.alloc HB.out.size (.cells #[.int .u8 2,.string NM,.int .i64 (n:Int)] 241));have HA1:=hidp (HA.out.alloc (.cells #[.int .u8 2,.string NM,.int .i64 (n:Int)] 241))
            have HN2:=HN;have HB2:=HB1;have HA2:=HA1
            generalize hW2:((w.alloc (.cells #[.int .u8 0,.string ⟨#[]⟩,.int .i64 0] 241)).alloc (.cells #[.int .u8 2,.string NM,.int .i64 (n:Int)] 241))=W2 at HN2 HB2 HA2 HN HB1 HA1 ⊢
            clear HN HB1 HA1 hW2
            refine (CT.out _).mono ?_
            rintro e w5 ⟨rfl,hb5⟩
            have HB5:=hidp (HB2.out.trans (hb5.mono HB2.out.size));have HA5:=hidp (HA2.out.below hb5 HA2.out.lt);have HN5:=hidp (HN2.out.below hb5 HN2.out.lt)
            clear hb5
            obtain ⟨r0,r1,r2,rf⟩:=arr3 HA5.out
            have g0:=rf 0;have g1:=rf 1;have g2:=rf 2
            clear rf
            obtain ⟨n0,n1,n2,-⟩:=arr3 HN5.out
            go_wp2_with fail
            refine bodyPost_ret (v:=.tuple #[.agg #[.int .u8 2,.string NM,.int .i64 (n:Int)],.int .i64 0]) (by simp [results,Tryz.results184,go_sem,r0,r1,r2]) rfl ⟨rfl,?_⟩
            repeat (refine Below.setCell ?_ (by simp) _)
            exact HB5.out
          · rw [if_neg hh] at hP
            subst hP
            by_cases hok:idOk 2 NM n=true
            · have ht:=toList_no (idT_ne (v:=(n:Int)) (t:=t) hok (by simpa using hh))
              rw [idE_ok hok] at CT
              obtain ⟨S,hS⟩:∃ x,idT 2 NM n=x:=⟨_,rfl⟩
              rw [hS] at CT ht
              clear hh hok hS
              go_wp2_with fail
              refine (CC.out _).mono ?_
              rintro e w1 ⟨rfl,rfl⟩
              unfold whoV
              go_wp2_with fail
              have HN:=hidp (show Arr ((w.alloc (.cells #[.int .u8 0,.string ⟨#[]⟩,.int .i64 0] 241)).alloc (.cells #[.int .u8 2,.string NM,.int .i64 (n:Int)] 241)) (w.heap.size + 1) 241 [.int .u8 2,.string NM,.int .i64 (n:Int)] from by
               have h:=Arr.new (w.alloc (.cells #[.int .u8 0,.string ⟨#[]⟩,.int .i64 0] 241)) 241 [.int .u8 2,.string NM,.int .i64 (n:Int)]
               rw [heap_size_alloc] at h;exact h)
              have HB1:=hidp (HB.out.alloc HB.out.size (.cells #[.int .u8 2,.string NM,.int .i64 (n:Int)] 241));have HA1:=hidp (HA.out.alloc (.cells #[.int .u8 2,.string NM,.int .i64 (n:Int)] 241))
              have HN2:=HN;have HB2:=HB1;have HA2:=HA1
              generalize hW2:((w.alloc (.cells #[.int .u8 0,.string ⟨#[]⟩,.int .i64 0] 241)).alloc (.cells #[.int .u8 2,.string NM,.int .i64 (n:Int)] 241))=W2 at HN2 HB2 HA2 HN HB1 HA1 ⊢
              clear HN HB1 HA1 hW2
              refine (CT.out _).mono ?_
              rintro e w5 ⟨rfl,hb5⟩
              have HB5:=hidp (HB2.out.trans (hb5.mono HB2.out.size));have HA5:=hidp (HA2.out.below hb5 HA2.out.lt);have HN5:=hidp (HN2.out.below hb5 HN2.out.lt)
              clear hb5
              obtain ⟨r0,r1,r2,rf⟩:=arr3 HA5.out
              have g0:=rf 0;have g1:=rf 1;have g2:=rf 2
              clear rf
              go_wp2_with fail
              refine bodyPost_ret (v:=.tuple #[.agg #[.int .u8 0,.string ⟨#[]⟩,.int .i64 0],.int .i64 6]) (by simp [results,Tryz.results184,go_sem,r0,r1,r2]) rfl ⟨rfl,?_⟩
              repeat (refine Below.setCell ?_ (by simp) _)
              exact HB5.out
            · rw [idE_no hok] at CT
              obtain ⟨S,hS⟩:∃ x,idT 2 NM n=x:=⟨_,rfl⟩
              rw [hS] at CT
              clear hh hok hS
              go_wp2_with fail
              refine (CC.out _).mono ?_
              rintro e w1 ⟨rfl,rfl⟩
              unfold whoV
              go_wp2_with fail
              have HN:=hidp (show Arr ((w.alloc (.cells #[.int .u8 0,.string ⟨#[]⟩,.int .i64 0] 241)).alloc (.cells #[.int .u8 2,.string NM,.int .i64 (n:Int)] 241)) (w.heap.size + 1) 241 [.int .u8 2,.string NM,.int .i64 (n:Int)] from by
               have h:=Arr.new (w.alloc (.cells #[.int .u8 0,.string ⟨#[]⟩,.int .i64 0] 241)) 241 [.int .u8 2,.string NM,.int .i64 (n:Int)]
               rw [heap_size_alloc] at h;exact h)
              have HB1:=hidp (HB.out.alloc HB.out.size (.cells #[.int .u8 2,.string NM,.int .i64 (n:Int)] 241));have HA1:=hidp (HA.out.alloc (.cells #[.int .u8 2,.string NM,.int .i64 (n:Int)] 241))
              have HN2:=HN;have HB2:=HB1;have HA2:=HA1
              generalize hW2:((w.alloc (.cells #[.int .u8 0,.string ⟨#[]⟩,.int .i64 0] 241)).alloc (.cells #[.int .u8 2,.string NM,.int .i64 (n:Int)] 241))=W2 at HN2 HB2 HA2 HN HB1 HA1 ⊢
              clear HN HB1 HA1 hW2
              refine (CT.out _).mono ?_
              rintro e w5 ⟨rfl,hb5⟩
              have HB5:=hidp (HB2.out.trans (hb5.mono HB2.out.size));have HA5:=hidp (HA2.out.below hb5 HA2.out.lt);have HN5:=hidp (HN2.out.below hb5 HN2.out.lt)
              clear hb5
              obtain ⟨r0,r1,r2,rf⟩:=arr3 HA5.out
              have g0:=rf 0;have g1:=rf 1;have g2:=rf 2
              clear rf
              go_wp2_with fail
              refine bodyPost_ret (v:=.tuple #[.agg #[.int .u8 0,.string ⟨#[]⟩,.int .i64 0],.int .i64 6]) (by simp [results,Tryz.results184,go_sem,r0,r1,r2]) rfl ⟨rfl,?_⟩
              repeat (refine Below.setCell ?_ (by simp) _)
              exact HB5.out
      · have e1:((cn:Int) == 33)=false:=beq_eq_false_iff_ne.2 (by omega)
        have x1:¬ cn=33:=h33
        simp only [hc33,h33,if_false] at hP
        clear hc33
        cases hd:decOf D.data.toList with
        | none =>
          rw [hd] at hP CC
          simp only at hP
          subst hP
          have CT:=hidp (fun W=>rtext_any W 1 (by omega) NM hNs 0)
          obtain ⟨S,hS⟩:∃ x,idT 1 NM 0=x:=⟨_,rfl⟩
          obtain ⟨E,hE⟩:∃ x,idE 1 NM 0=x:=⟨_,rfl⟩
          rw [hS,hE] at CT
          clear hS hE hd
          go_wp2_with fail
          refine (CC.out _).mono ?_
          rintro e w1 ⟨rfl,rfl⟩
          unfold whoV
          go_wp2_with fail
          have HN:=hidp (show Arr ((w.alloc (.cells #[.int .u8 0,.string ⟨#[]⟩,.int .i64 0] 241)).alloc (.cells #[.int .u8 1,.string NM,.int .i64 0] 241)) (w.heap.size + 1) 241 [.int .u8 1,.string NM,.int .i64 0] from by
           have h:=Arr.new (w.alloc (.cells #[.int .u8 0,.string ⟨#[]⟩,.int .i64 0] 241)) 241 [.int .u8 1,.string NM,.int .i64 0]
           rw [heap_size_alloc] at h;exact h)
          have HB1:=hidp (HB.out.alloc HB.out.size (.cells #[.int .u8 1,.string NM,.int .i64 0] 241));have HA1:=hidp (HA.out.alloc (.cells #[.int .u8 1,.string NM,.int .i64 0] 241))
          have HN2:=HN;have HB2:=HB1;have HA2:=HA1
          generalize hW2:((w.alloc (.cells #[.int .u8 0,.string ⟨#[]⟩,.int .i64 0] 241)).alloc (.cells #[.int .u8 1,.string NM,.int .i64 0] 241))=W2 at HN2 HB2 HA2 HN HB1 HA1 ⊢
          clear HN HB1 HA1 hW2
          refine (CT.out _).mono ?_
          rintro e w5 ⟨rfl,hb5⟩
          have HB5:=hidp (HB2.out.trans (hb5.mono HB2.out.size));have HA5:=hidp (HA2.out.below hb5 HA2.out.lt);have HN5:=hidp (HN2.out.below hb5 HN2.out.lt)
          clear hb5
          obtain ⟨r0,r1,r2,rf⟩:=arr3 HA5.out
          have g0:=rf 0;have g1:=rf 1;have g2:=rf 2
          clear rf
          go_wp2_with fail
          refine bodyPost_ret (v:=.tuple #[.agg #[.int .u8 0,.string ⟨#[]⟩,.int .i64 0],.int .i64 6]) (by simp [results,Tryz.results184,go_sem,r0,r1,r2]) rfl ⟨rfl,?_⟩
          repeat (refine Below.setCell ?_ (by simp) _)
          exact HB5.out
        | some n =>
          rw [hd] at hP CC
          simp only at hP
          have CT:=hidp (fun W=>rtext_any W 1 (by omega) NM hNs n)
          have hn63:=(decOf_some hd).1
          clear hd
          by_cases hh:idOk 1 NM n=true∧mkS (idL 1 NM n)=t
          · rw [if_pos hh] at hP
            subst hP
            rw [idT_eq (v:=(n:Int)) (by simpa using hh),idE_ok hh.1] at CT
            clear hh
            go_wp2_with fail
            refine (CC.out _).mono ?_
            rintro e w1 ⟨rfl,rfl⟩
            unfold whoV
            go_wp2_with fail
            have HN:=hidp (show Arr ((w.alloc (.cells #[.int .u8 0,.string ⟨#[]⟩,.int .i64 0] 241)).alloc (.cells #[.int .u8 1,.string NM,.int .i64 (n:Int)] 241)) (w.heap.size + 1) 241 [.int .u8 1,.string NM,.int .i64 (n:Int)] from by
             have h:=Arr.new (w.alloc (.cells #[.int .u8 0,.string ⟨#[]⟩,.int .i64 0] 241)) 241 [.int .u8 1,.string NM,.int .i64 (n:Int)]
             rw [heap_size_alloc] at h;exact h)
            have HB1:=hidp (HB.out.alloc HB.out.size (.cells #[.int .u8 1,.string NM,.int .i64 (n:Int)] 241));have HA1:=hidp (HA.out.alloc (.cells #[.int .u8 1,.string NM,.int .i64 (n:Int)] 241))
            have HN2:=HN;have HB2:=HB1;have HA2:=HA1
            generalize hW2:((w.alloc (.cells #[.int .u8 0,.string ⟨#[]⟩,.int .i64 0] 241)).alloc (.cells #[.int .u8 1,.string NM,.int .i64 (n:Int)] 241))=W2 at HN2 HB2 HA2 HN HB1 HA1 ⊢
            clear HN HB1 HA1 hW2
            refine (CT.out _).mono ?_
            rintro e w5 ⟨rfl,hb5⟩
            have HB5:=hidp (HB2.out.trans (hb5.mono HB2.out.size));have HA5:=hidp (HA2.out.below hb5 HA2.out.lt);have HN5:=hidp (HN2.out.below hb5 HN2.out.lt)
            clear hb5
            obtain ⟨r0,r1,r2,rf⟩:=arr3 HA5.out
            have g0:=rf 0;have g1:=rf 1;have g2:=rf 2
            clear rf
            obtain ⟨n0,n1,n2,-⟩:=arr3 HN5.out
            go_wp2_with fail
            refine bodyPost_ret (v:=.tuple #[.agg #[.int .u8 1,.string NM,.int .i64 (n:Int)],.int .i64 0]) (by simp [results,Tryz.results184,go_sem,r0,r1,r2]) rfl ⟨rfl,?_⟩
            repeat (refine Below.setCell ?_ (by simp) _)
            exact HB5.out
          · rw [if_neg hh] at hP
            subst hP
            by_cases hok:idOk 1 NM n=true
            · have ht:=toList_no (idT_ne (v:=(n:Int)) (t:=t) hok (by simpa using hh))
              rw [idE_ok hok] at CT
              obtain ⟨S,hS⟩:∃ x,idT 1 NM n=x:=⟨_,rfl⟩
              rw [hS] at CT ht
              clear hh hok hS
              go_wp2_with fail
              refine (CC.out _).mono ?_
              rintro e w1 ⟨rfl,rfl⟩
              unfold whoV
              go_wp2_with fail
              have HN:=hidp (show Arr ((w.alloc (.cells #[.int .u8 0,.string ⟨#[]⟩,.int .i64 0] 241)).alloc (.cells #[.int .u8 1,.string NM,.int .i64 (n:Int)] 241)) (w.heap.size + 1) 241 [.int .u8 1,.string NM,.int .i64 (n:Int)] from by
               have h:=Arr.new (w.alloc (.cells #[.int .u8 0,.string ⟨#[]⟩,.int .i64 0] 241)) 241 [.int .u8 1,.string NM,.int .i64 (n:Int)]
               rw [heap_size_alloc] at h;exact h)
              have HB1:=hidp (HB.out.alloc HB.out.size (.cells #[.int .u8 1,.string NM,.int .i64 (n:Int)] 241));have HA1:=hidp (HA.out.alloc (.cells #[.int .u8 1,.string NM,.int .i64 (n:Int)] 241))
              have HN2:=HN;have HB2:=HB1;have HA2:=HA1
              generalize hW2:((w.alloc (.cells #[.int .u8 0,.string ⟨#[]⟩,.int .i64 0] 241)).alloc (.cells #[.int .u8 1,.string NM,.int .i64 (n:Int)] 241))=W2 at HN2 HB2 HA2 HN HB1 HA1 ⊢
              clear HN HB1 HA1 hW2
              refine (CT.out _).mono ?_
              rintro e w5 ⟨rfl,hb5⟩
              have HB5:=hidp (HB2.out.trans (hb5.mono HB2.out.size));have HA5:=hidp (HA2.out.below hb5 HA2.out.lt);have HN5:=hidp (HN2.out.below hb5 HN2.out.lt)
              clear hb5
              obtain ⟨r0,r1,r2,rf⟩:=arr3 HA5.out
              have g0:=rf 0;have g1:=rf 1;have g2:=rf 2
              clear rf
              go_wp2_with fail
              refine bodyPost_ret (v:=.tuple #[.agg #[.int .u8 0,.string ⟨#[]⟩,.int .i64 0],.int .i64 6]) (by simp [results,Tryz.results184,go_sem,r0,r1,r2]) rfl ⟨rfl,?_⟩
              repeat (refine Below.setCell ?_ (by simp) _)
              exact HB5.out
            · rw [idE_no hok] at CT
              obtain ⟨S,hS⟩:∃ x,idT 1 NM n=x:=⟨_,rfl⟩
              rw [hS] at CT
              clear hh hok hS
              go_wp2_with fail
              refine (CC.out _).mono ?_
              rintro e w1 ⟨rfl,rfl⟩
              unfold whoV
              go_wp2_with fail
              have HN:=hidp (show Arr ((w.alloc (.cells #[.int .u8 0,.string ⟨#[]⟩,.int .i64 0] 241)).alloc (.cells #[.int .u8 1,.string NM,.int .i64 (n:Int)] 241)) (w.heap.size + 1) 241 [.int .u8 1,.string NM,.int .i64 (n:Int)] from by
               have h:=Arr.new (w.alloc (.cells #[.int .u8 0,.string ⟨#[]⟩,.int .i64 0] 241)) 241 [.int .u8 1,.string NM,.int .i64 (n:Int)]
               rw [heap_size_alloc] at h;exact h)
              have HB1:=hidp (HB.out.alloc HB.out.size (.cells #[.int .u8 1,.string NM,.int .i64 (n:Int)] 241));have HA1:=hidp (HA.out.alloc (.cells #[.int .u8 1,.string NM,.int .i64 (n:Int)] 241))
              have HN2:=HN;have HB2:=HB1;have HA2:=HA1
              generalize hW2:((w.alloc (.cells #[.int .u8 0,.string ⟨#[]⟩,.int .i64 0] 241)).alloc (.cells #[.int .u8 1,.string NM,.int .i64 (n:Int)] 241))=W2 at HN2 HB2 HA2 HN HB1 HA1 ⊢
              clear HN HB1 HA1 hW2
              refine (CT.out _).mono ?_
              rintro e w5 ⟨rfl,hb5⟩
              have HB5:=hidp (HB2.out.trans (hb5.mono HB2.out.size));have HA5:=hidp (HA2.out.below hb5 HA2.out.lt);have HN5:=hidp (HN2.out.below hb5 HN2.out.lt)
              clear hb5
              obtain ⟨r0,r1,r2,rf⟩:=arr3 HA5.out
              have g0:=rf 0;have g1:=rf 1;have g2:=rf 2
              clear rf
              go_wp2_with fail
              refine bodyPost_ret (v:=.tuple #[.agg #[.int .u8 0,.string ⟨#[]⟩,.int .i64 0],.int .i64 6]) (by simp [results,Tryz.results184,go_sem,r0,r1,r2]) rfl ⟨rfl,?_⟩
              repeat (refine Below.setCell ?_ (by simp) _)
              exact HB5.out
    · have e0:((bn:Int) != 58)=true:=by simp;omega
      have x0:¬ bn=58:=h58
      go_wp2
      refine ⟨⟨i + 1,by go_num,by omega,.inl (by omega),fun j hj h1 h2=>?_⟩,by simp [intOf];omega⟩
      by_cases hji:j=i
      · subst hji;have e2:=HBN.out;rw [e2];exact h58
      · exact HALL.out j hj h1 (by omega)
  · have hF:=idP_nocolon (t:=t) (fun j hj h1=>HALL.out j hj h1 (by omega))
    rw [HXX.out] at hF
    subst hF
    obtain ⟨r0,r1,r2,rf⟩:=arr3 HA.out
    have g0:=rf 0;have g1:=rf 1;have g2:=rf 2
    clear rf
    go_wp2_with fail
    refine bodyPost_ret (v:=.tuple #[.agg #[.int .u8 0,.string ⟨#[]⟩,.int .i64 0],.int .i64 6]) (by simp [results,Tryz.results184,go_sem,r0,r1,r2]) rfl ⟨rfl,?_⟩
    repeat (refine Below.setCell ?_ (by simp) _)
    exact HB.out
theorem rroom_any (w:World) (t:ByteArray) (hs:t.size≤281474976710656) :
 Calls Tryz.prog 155 #[.string t] w fun e w'=>e=.returned (whoV (who 2 t))∧Below w.heap.size w w':=by
 have C:=hidp (rparse_any w t hs)
 cases hp:idP t with
 | none =>
   rw [hp] at C
   rw [who_no hp]
   clear hp
   unfold idV idX at C
   unfold whoV
   go_enter Tryz.func155,Tryz.ntmps155
   go_wp2_with (go_at_call 184;(refine C.out.mono ?_);rintro e w1 ⟨rfl,hb1⟩;have HB1:=hidp (hb1.alloc hb1.size (.cells #[.int .u8 0,.string ⟨#[]⟩,.int .i64 0] 241));clear hb1)
   go_ret2
   exact ⟨rfl,HB1.out⟩
 | some x =>
   obtain ⟨k,nm,n⟩:=x
   rw [hp] at C
   unfold idV idX at C
   by_cases hk:k=2
   · subst hk
     rw [who_yes hp]
     unfold whoV
     clear hp
     go_enter Tryz.func155,Tryz.ntmps155
     go_wp2_with (go_at_call 184;(refine C.out.mono ?_);rintro e w1 ⟨rfl,hb1⟩;have HB1:=hidp (hb1.alloc hb1.size (.cells #[.int .u8 ((2:Nat):Int),.string nm,.int .i64 (n:Int)] 241));clear hb1)
     go_ret2
     exact ⟨rfl,HB1.out⟩
   · rw [who_other hp hk]
     unfold whoV
     have e0:((k:Int) != 2)=true:=by simp;omega
     have x0:¬ k=2:=hk
     clear hp
     go_enter Tryz.func155,Tryz.ntmps155
     go_wp2_with (go_at_call 184;(refine C.out.mono ?_);rintro e w1 ⟨rfl,hb1⟩;have HB1:=hidp (hb1.alloc hb1.size (.cells #[.int .u8 (k:Int),.string nm,.int .i64 (n:Int)] 241));clear hb1)
     go_ret2
     exact ⟨rfl,HB1.out⟩
end
end Go.Proofs.YtokakgjcegmabaaGreatDoor
