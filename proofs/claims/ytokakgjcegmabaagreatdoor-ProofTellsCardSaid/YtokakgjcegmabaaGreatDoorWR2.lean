import Derived.Test.YtokakgjcegmabaaGreatDoorWW
import Derived.Test.YtokakgjcegmabaaGreatDoorWC2
set_option linter.unusedVariables false
set_option linter.unusedSimpArgs false
set_option maxHeartbeats 64000000
set_option maxRecDepth 100000
namespace Go.Proofs.YtokakgjcegmabaaGreatDoor.En
open Go.RowKit
open List (getElem_toArray getElem_cons_zero getElem_cons_succ setIfInBounds_toArray set_cons_zero set_cons_succ)
open Ho (inE inV in_zero in_not al_sz)
theorem y_gn {s:ByteArray} {n j c:Nat} (h:gn s.data.toList=(n,j,c)):(inE s 4096=0↔c=0∧j=s.size∧n≤4096)∧(inE s 4096=0→inV s 4096=n):=by
 have hb:=gn_bd s.data.toList
 have hz:=size_toList s
 rw [h] at hb
 simp only at hb
 have hn:numOf s=if c=0∧j=s.size then some n else none:=by unfold numOf;rw [h]
 have key:inE s 4096=0→c=0∧j=s.size∧n≤4096∧inV s 4096=n:=by
  intro h0
  obtain ⟨h1,h2⟩:=in_zero h0
  rw [hn] at h1
  split at h1
  · rename_i hh
    simp only [Option.some.injEq] at h1
    exact ⟨hh.1,hh.2,by omega,h1.symm⟩
  · cases h1
 refine ⟨⟨fun h0=>⟨(key h0).1,(key h0).2.1,(key h0).2.2.1⟩,fun ⟨h1,h2,h3⟩=>?_⟩,fun h0=>(key h0).2.2.2⟩
 cases hq:decide (inE s 4096=0) with
 | true=>exact of_decide_eq_true hq
 | false =>
   have:=in_not (of_decide_eq_false hq) n (by rw [hn,if_pos ⟨h1,h2⟩])
   omega
theorem rcheck_any (w:World) (x:En) (hx:x.ok):Calls Tryz.prog 133 #[.agg x.row.toArray] w fun e w'=>e=.returned (.int .i64 (eE x))∧Below w.heap.size w w':=by
 have H:=hidp (Mm.M.nil w)
 have HP:=hidp hx.p
 have cr:=hidp (fun W=>rroom_any W x.r (by have:=hx.r;omega))
 clear hx
 have HOK:=hidp (show eOk x=((who 2 x.r).isSome && cnt x.e && cnt x.i && decide (x.v.size≤8192) && decide (x.g.size≤8192)) from rfl)
 cases hw:who 2 x.r with
 | none =>
   have HF:=hidp (show eE x=2 from eE_of (by rw [HOK.out,hw];simp))
   rw [hw] at cr;unfold whoV at cr
   clear hw
   go_enter Tryz.func133,Tryz.ntmps133
   have tk0:=hT
   go_wp2_with (first|(clear tk0;(refine Mm.box 103 H rfl (.tmp 0) rfl x.row rfl ?_;clear H;intro b1 _ H nw;clear nw);(try simp only [aR]);have tk1:=hT)|(clear tk1;(refine Mm.ld0 naS H rfl (.tmp 6) 0 (.string x.r) rfl rfl (En.get0 _) ?_);(try simp only [aR]);have tk2:=hT)|(clear tk2;(go_at_call 155;refine (cr.out _).mono ?_;rintro e _ ⟨rfl,hb⟩;replace H:=hidp (H.out.call hb);clear hb);(try simp only [aR]);have tk3:=hT))
   try clear tk3
   go_ret
   exact ⟨by rw [HF.out];first | done | rfl,H.out.below⟩
 | some nn =>
   rw [hw] at cr;unfold whoV at cr
   by_cases a1:x.e<0
   · have HF:=hidp (show eE x=2 from eE_of (by rw [HOK.out,show cnt x.e=false from decide_eq_false (by omega)];simp))
     have e1:decide (x.e<0)=true:=by simpa using a1
     clear hw
     go_enter Tryz.func133,Tryz.ntmps133
     have tk0:=hT
     go_wp2_with (first|(clear tk0;(refine Mm.box 103 H rfl (.tmp 0) rfl x.row rfl ?_;clear H;intro b1 _ H nw;clear nw);(try simp only [aR]);have tk1:=hT)|(clear tk1;(refine Mm.ld0 naS H rfl (.tmp 6) 0 (.string x.r) rfl rfl (En.get0 _) ?_);(try simp only [aR]);have tk2:=hT)|(clear tk2;(go_at_call 155;refine (cr.out _).mono ?_;rintro e _ ⟨rfl,hb⟩;replace H:=hidp (H.out.call hb);clear hb);(try simp only [aR]);have tk3:=hT)|(clear tk3;(refine Mm.ld0 naI H rfl (.tmp 14) 1 (.int .i64 x.e) rfl rfl (En.get1 _) ?_);(try simp only [aR]);have tk4:=hT))
     try clear tk4
     go_ret
     exact ⟨by rw [HF.out];first | done | rfl,H.out.below⟩
   have e1:decide (x.e<0)=false:=by simpa using a1
   by_cases a2:x.e > 4096
   · have HF:=hidp (show eE x=2 from eE_of (by rw [HOK.out,show cnt x.e=false from decide_eq_false (by omega)];simp))
     have e2:decide (x.e > 4096)=true:=by simpa using a2
     have n2:(4096:Int)<x.e:=a2
     clear hw
     go_enter Tryz.func133,Tryz.ntmps133
     have tk0:=hT
     go_wp2_with (first|(clear tk0;(refine Mm.box 103 H rfl (.tmp 0) rfl x.row rfl ?_;clear H;intro b1 _ H nw;clear nw);(try simp only [aR]);have tk1:=hT)|(clear tk1;(refine Mm.ld0 naS H rfl (.tmp 6) 0 (.string x.r) rfl rfl (En.get0 _) ?_);(try simp only [aR]);have tk2:=hT)|(clear tk2;(go_at_call 155;refine (cr.out _).mono ?_;rintro e _ ⟨rfl,hb⟩;replace H:=hidp (H.out.call hb);clear hb);(try simp only [aR]);have tk3:=hT)|(clear tk3;(refine Mm.ld0 naI H rfl (.tmp 14) 1 (.int .i64 x.e) rfl rfl (En.get1 _) ?_);(try simp only [aR]);have tk4:=hT)|(clear tk4;(refine Mm.ld0 naI H rfl (.tmp 19) 1 (.int .i64 x.e) rfl rfl (En.get1 _) ?_);(try simp only [aR]);have tk5:=hT))
     try clear tk5
     go_ret
     exact ⟨by rw [HF.out];first | done | rfl,H.out.below⟩
   have e2:decide (x.e > 4096)=false:=by simpa using a2
   have n2:¬ (4096:Int)<x.e:=a2
   by_cases a3:x.i<0
   · have HF:=hidp (show eE x=2 from eE_of (by rw [HOK.out,show cnt x.i=false from decide_eq_false (by omega)];simp))
     have e3:decide (x.i<0)=true:=by simpa using a3
     clear hw
     go_enter Tryz.func133,Tryz.ntmps133
     have tk0:=hT
     go_wp2_with (first|(clear tk0;(refine Mm.box 103 H rfl (.tmp 0) rfl x.row rfl ?_;clear H;intro b1 _ H nw;clear nw);(try simp only [aR]);have tk1:=hT)|(clear tk1;(refine Mm.ld0 naS H rfl (.tmp 6) 0 (.string x.r) rfl rfl (En.get0 _) ?_);(try simp only [aR]);have tk2:=hT)|(clear tk2;(go_at_call 155;refine (cr.out _).mono ?_;rintro e _ ⟨rfl,hb⟩;replace H:=hidp (H.out.call hb);clear hb);(try simp only [aR]);have tk3:=hT)|(clear tk3;(refine Mm.ld0 naI H rfl (.tmp 14) 1 (.int .i64 x.e) rfl rfl (En.get1 _) ?_);(try simp only [aR]);have tk4:=hT)|(clear tk4;(refine Mm.ld0 naI H rfl (.tmp 19) 1 (.int .i64 x.e) rfl rfl (En.get1 _) ?_);(try simp only [aR]);have tk5:=hT)|(clear tk5;(refine Mm.ld0 naI H rfl (.tmp 24) 2 (.int .i64 x.i) rfl rfl (En.get2 _) ?_);(try simp only [aR]);have tk6:=hT))
     try clear tk6
     go_ret
     exact ⟨by rw [HF.out];first | done | rfl,H.out.below⟩
   have e3:decide (x.i<0)=false:=by simpa using a3
   by_cases a4:x.i > 4096
   · have HF:=hidp (show eE x=2 from eE_of (by rw [HOK.out,show cnt x.i=false from decide_eq_false (by omega)];simp))
     have e4:decide (x.i > 4096)=true:=by simpa using a4
     have n4:(4096:Int)<x.i:=a4
     clear hw
     go_enter Tryz.func133,Tryz.ntmps133
     have tk0:=hT
     go_wp2_with (first|(clear tk0;(refine Mm.box 103 H rfl (.tmp 0) rfl x.row rfl ?_;clear H;intro b1 _ H nw;clear nw);(try simp only [aR]);have tk1:=hT)|(clear tk1;(refine Mm.ld0 naS H rfl (.tmp 6) 0 (.string x.r) rfl rfl (En.get0 _) ?_);(try simp only [aR]);have tk2:=hT)|(clear tk2;(go_at_call 155;refine (cr.out _).mono ?_;rintro e _ ⟨rfl,hb⟩;replace H:=hidp (H.out.call hb);clear hb);(try simp only [aR]);have tk3:=hT)|(clear tk3;(refine Mm.ld0 naI H rfl (.tmp 14) 1 (.int .i64 x.e) rfl rfl (En.get1 _) ?_);(try simp only [aR]);have tk4:=hT)|(clear tk4;(refine Mm.ld0 naI H rfl (.tmp 19) 1 (.int .i64 x.e) rfl rfl (En.get1 _) ?_);(try simp only [aR]);have tk5:=hT)|(clear tk5;(refine Mm.ld0 naI H rfl (.tmp 24) 2 (.int .i64 x.i) rfl rfl (En.get2 _) ?_);(try simp only [aR]);have tk6:=hT)|(clear tk6;(refine Mm.ld0 naI H rfl (.tmp 29) 2 (.int .i64 x.i) rfl rfl (En.get2 _) ?_);(try simp only [aR]);have tk7:=hT))
     try clear tk7
     go_ret
     exact ⟨by rw [HF.out];first | done | rfl,H.out.below⟩
   have e4:decide (x.i > 4096)=false:=by simpa using a4
   have n4:¬ (4096:Int)<x.i:=a4
   by_cases hv:x.v.size≤8192
   · have e5:decide ((x.v.size:Int) > 8192)=false:=by simp;omega
     have n5:¬ (8192:Int)<(x.v.size:Int):=by omega
     by_cases hg:x.g.size≤8192
     · have e6:decide ((x.g.size:Int) > 8192)=false:=by simp;omega
       have n6:¬ (8192:Int)<(x.g.size:Int):=by omega
       have HF:=hidp (show eE x=0 from eE_yes (by rw [HOK.out,hw,show cnt x.e=true from decide_eq_true (by omega),show cnt x.i=true from decide_eq_true (by omega)];simp [hv,hg]))
       clear hw hv hg
       go_enter Tryz.func133,Tryz.ntmps133
       have tk0:=hT
       go_wp2_with (first|(clear tk0;(refine Mm.box 103 H rfl (.tmp 0) rfl x.row rfl ?_;clear H;intro b1 _ H nw;clear nw);(try simp only [aR]);have tk1:=hT)|(clear tk1;(refine Mm.ld0 naS H rfl (.tmp 6) 0 (.string x.r) rfl rfl (En.get0 _) ?_);(try simp only [aR]);have tk2:=hT)|(clear tk2;(go_at_call 155;refine (cr.out _).mono ?_;rintro e _ ⟨rfl,hb⟩;replace H:=hidp (H.out.call hb);clear hb);(try simp only [aR]);have tk3:=hT)|(clear tk3;(refine Mm.ld0 naI H rfl (.tmp 14) 1 (.int .i64 x.e) rfl rfl (En.get1 _) ?_);(try simp only [aR]);have tk4:=hT)|(clear tk4;(refine Mm.ld0 naI H rfl (.tmp 19) 1 (.int .i64 x.e) rfl rfl (En.get1 _) ?_);(try simp only [aR]);have tk5:=hT)|(clear tk5;(refine Mm.ld0 naI H rfl (.tmp 24) 2 (.int .i64 x.i) rfl rfl (En.get2 _) ?_);(try simp only [aR]);have tk6:=hT)|(clear tk6;(refine Mm.ld0 naI H rfl (.tmp 29) 2 (.int .i64 x.i) rfl rfl (En.get2 _) ?_);(try simp only [aR]);have tk7:=hT)|(clear tk7;(refine Mm.ld0 naS H rfl (.tmp 34) 35 (.string x.v) rfl rfl (En.get35 HP.out) ?_);(try simp only [aR]);have tk8:=hT)|(clear tk8;(refine Mm.ld0 naS H rfl (.tmp 40) 36 (.string x.g) rfl rfl (En.get36 HP.out) ?_);(try simp only [aR]);have tk9:=hT))
       try clear tk9
       go_ret
       exact ⟨by rw [HF.out];first | done | rfl,H.out.below⟩
     · have e6:decide ((x.g.size:Int) > 8192)=true:=by simp;omega
       have n6:(8192:Int)<(x.g.size:Int):=by omega
       have HF:=hidp (show eE x=2 from eE_of (by rw [HOK.out];simp [hg]))
       clear hw hv hg
       go_enter Tryz.func133,Tryz.ntmps133
       have tk0:=hT
       go_wp2_with (first|(clear tk0;(refine Mm.box 103 H rfl (.tmp 0) rfl x.row rfl ?_;clear H;intro b1 _ H nw;clear nw);(try simp only [aR]);have tk1:=hT)|(clear tk1;(refine Mm.ld0 naS H rfl (.tmp 6) 0 (.string x.r) rfl rfl (En.get0 _) ?_);(try simp only [aR]);have tk2:=hT)|(clear tk2;(go_at_call 155;refine (cr.out _).mono ?_;rintro e _ ⟨rfl,hb⟩;replace H:=hidp (H.out.call hb);clear hb);(try simp only [aR]);have tk3:=hT)|(clear tk3;(refine Mm.ld0 naI H rfl (.tmp 14) 1 (.int .i64 x.e) rfl rfl (En.get1 _) ?_);(try simp only [aR]);have tk4:=hT)|(clear tk4;(refine Mm.ld0 naI H rfl (.tmp 19) 1 (.int .i64 x.e) rfl rfl (En.get1 _) ?_);(try simp only [aR]);have tk5:=hT)|(clear tk5;(refine Mm.ld0 naI H rfl (.tmp 24) 2 (.int .i64 x.i) rfl rfl (En.get2 _) ?_);(try simp only [aR]);have tk6:=hT)|(clear tk6;(refine Mm.ld0 naI H rfl (.tmp 29) 2 (.int .i64 x.i) rfl rfl (En.get2 _) ?_);(try simp only [aR]);have tk7:=hT)|(clear tk7;(refine Mm.ld0 naS H rfl (.tmp 34) 35 (.string x.v) rfl rfl (En.get35 HP.out) ?_);(try simp only [aR]);have tk8:=hT)|(clear tk8;(refine Mm.ld0 naS H rfl (.tmp 40) 36 (.string x.g) rfl rfl (En.get36 HP.out) ?_);(try simp only [aR]);have tk9:=hT))
       try clear tk9
       go_ret
       exact ⟨by rw [HF.out];first | done | rfl,H.out.below⟩
   · have e5:decide ((x.v.size:Int) > 8192)=true:=by simp;omega
     have n5:(8192:Int)<(x.v.size:Int):=by omega
     have HF:=hidp (show eE x=2 from eE_of (by rw [HOK.out];simp [hv]))
     clear hw hv
     go_enter Tryz.func133,Tryz.ntmps133
     have tk0:=hT
     go_wp2_with (first|(clear tk0;(refine Mm.box 103 H rfl (.tmp 0) rfl x.row rfl ?_;clear H;intro b1 _ H nw;clear nw);(try simp only [aR]);have tk1:=hT)|(clear tk1;(refine Mm.ld0 naS H rfl (.tmp 6) 0 (.string x.r) rfl rfl (En.get0 _) ?_);(try simp only [aR]);have tk2:=hT)|(clear tk2;(go_at_call 155;refine (cr.out _).mono ?_;rintro e _ ⟨rfl,hb⟩;replace H:=hidp (H.out.call hb);clear hb);(try simp only [aR]);have tk3:=hT)|(clear tk3;(refine Mm.ld0 naI H rfl (.tmp 14) 1 (.int .i64 x.e) rfl rfl (En.get1 _) ?_);(try simp only [aR]);have tk4:=hT)|(clear tk4;(refine Mm.ld0 naI H rfl (.tmp 19) 1 (.int .i64 x.e) rfl rfl (En.get1 _) ?_);(try simp only [aR]);have tk5:=hT)|(clear tk5;(refine Mm.ld0 naI H rfl (.tmp 24) 2 (.int .i64 x.i) rfl rfl (En.get2 _) ?_);(try simp only [aR]);have tk6:=hT)|(clear tk6;(refine Mm.ld0 naI H rfl (.tmp 29) 2 (.int .i64 x.i) rfl rfl (En.get2 _) ?_);(try simp only [aR]);have tk7:=hT)|(clear tk7;(refine Mm.ld0 naS H rfl (.tmp 34) 35 (.string x.v) rfl rfl (En.get35 HP.out) ?_);(try simp only [aR]);have tk8:=hT))
     try clear tk8
     go_ret
     exact ⟨by rw [HF.out];first | done | rfl,H.out.below⟩
theorem rtext_any (w:World) (x:En) (hx:x.ok):Calls Tryz.prog 172 #[.agg x.row.toArray] w fun e w'=>e=.returned (.tuple #[.string (eT x),.int .i64 (eE x)])∧Below w.heap.size w w':=by
 have H:=hidp (Mm.M.nil w)
 have HP:=hidp hx.p
 have cc:=hidp (fun W=>rcheck_any W x hx)
 clear hx
 cases hok:eOk x with
 | false =>
   rw [eE_no hok] at cc ⊢
   rw [eT_no hok]
   clear hok
   go_enter Tryz.func172,Tryz.ntmps172
   have tk0:=hT
   go_wp2_with (first|(clear tk0;(refine Mm.box 103 H rfl (.tmp 0) rfl x.row rfl ?_;clear H;intro b1 _ H nw;clear nw);(try simp only [aR]);have tk1:=hT)|(clear tk1;(refine Mm.get0 rtE H rfl (.tmp 1) rfl rfl (En.len HP.out) ?_);(try simp only [aR]);have tk2:=hT)|(clear tk2;(go_at_call 133;refine (cc.out _).mono ?_;rintro e _ ⟨rfl,hb⟩;replace H:=hidp (H.out.call hb);clear cc;clear hb);(try simp only [aR]);have tk3:=hT))
   try clear tk3
   go_ret2
   exact ⟨rfl,H.out.below⟩
 | true =>
   rw [eE_yes hok] at cc ⊢
   obtain ⟨-,h2,h3,-,-⟩:=eOk_parts hok
   obtain ⟨ne,hne⟩:=Int.eq_ofNat_of_zero_le h2.1
   obtain ⟨ni,hni⟩:=Int.eq_ofNat_of_zero_le h3.1
   have hlok:=eL_ok hok HP.out
   have hT:eT x=listS (eL x)∧(0:Int)=listE (eL x):=by rw [eT_yes hok,listS_yes hlok,listE_yes hlok];exact ⟨rfl,rfl⟩
   have hL:eL x=[wEntry,x.r,mkS (encN ne),mkS (encN ni),mkS x.p,x.v]:=by unfold eL;rw [hne,hni];rfl
   have HE1:=hidp (show x.row[1]?=some (.int .i64 (ne:Int)) from by rw [En.get1,hne])
   have HI1:=hidp (show x.row[2]?=some (.int .i64 (ni:Int)) from by rw [En.get2,hni])
   have ce:=hidp (fun W=>refNum_any W ne (by omega))
   rw [numS_yes (by omega),numE_yes (by omega)] at ce
   have ci:=hidp (fun W=>refNum_any W ni (by omega))
   rw [numS_yes (by omega),numE_yes (by omega)] at ci
   have w1:IntKind.u64.wrap (ne:Int)=(ne:Int):=by unfold IntKind.wrap;simp [IntKind.bits,IntKind.signed];omega
   have w2:IntKind.u64.wrap (ni:Int)=(ni:Int):=by unfold IntKind.wrap;simp [IntKind.bits,IntKind.signed];omega
   rw [hL] at hlok hT
   have cl:=hidp (fun W v (hat:StrsAt W v [wEntry,x.r,mkS (encN ne),mkS (encN ni),mkS x.p,x.v])=>refList_any W v _ hat (by simp) (fun s hs=>by have:=hlok.2 s hs;omega))
   rw [← hT.1,← hT.2] at cl
   obtain ⟨T,hTT⟩:∃ T,eT x=T:=⟨_,rfl⟩
   rw [hTT] at cl ⊢
   clear hok h2 h3 hne hni hlok hT hL hTT
   go_enter Tryz.func172,Tryz.ntmps172
   have tk0:=hT
   go_wp2_with (first|(clear tk0;(refine Mm.box 103 H rfl (.tmp 0) rfl x.row rfl ?_;clear H;intro b1 _ H nw;clear nw);(try simp only [aR]);have tk1:=hT)|(clear tk1;(refine Mm.get0 rtE H rfl (.tmp 1) rfl rfl (En.len HP.out) ?_);(try simp only [aR]);have tk2:=hT)|(clear tk2;(go_at_call 133;refine (cc.out _).mono ?_;rintro e _ ⟨rfl,hb⟩;replace H:=hidp (H.out.call hb);clear cc;clear hb);(try simp only [aR]);have tk3:=hT)|(clear tk3;(refine Mm.ld0 naI H rfl (.tmp 12) 1 (.int .i64 (ne:Int)) rfl rfl HE1.out ?_);(try simp only [aR]);have tk4:=hT)|(clear tk4;(go_at_call 86;refine (ce.out _).mono ?_;rintro e _ ⟨rfl,hb⟩;replace H:=hidp (H.out.call hb);clear hb);(try simp only [aR]);have tk5:=hT)|(clear tk5;(refine Mm.ld0 naI H rfl (.tmp 19) 2 (.int .i64 (ni:Int)) rfl rfl HI1.out ?_);(try simp only [aR]);have tk6:=hT)|(clear tk6;(go_at_call 86;refine (ci.out _).mono ?_;rintro e _ ⟨rfl,hb⟩;replace H:=hidp (H.out.call hb);clear hb);(try simp only [aR]);have tk7:=hT))
   try clear tk7
   refine Mm.region H (.take 0 (.take 1 (.take 2 (.take 3 (.take 4 (.take 5 (.take 6 (.take 7 (.take 8 (.one 9 (.one 10 (.take 11 (.take 12 (.take 13 (.take 14 .done))))))))))))))) (by kernel_rfl) (by kernel_rfl) (by simp [Scr.depth]) (by kernel_rfl) ?_
   clear H
   intro _ H hb
   clear hb
   apply s_val
   case ho | hw=>rfl
   case hv=>intro w hw;go_simp;first | done | rfl
   simp only [aS]
   refine Mm.sld0 naS (fun w h=>h) rfl rfl (.tmp 25) 0 (.string x.r) rfl rfl (En.get0 _) ?_
   iterate 3
    simp only [aS]
    apply s_val
    case ho | hw=>rfl
    case hv=>intro w hw;go_simp;first | done | rfl
   simp only [aS]
   refine s_slc rfl rfl (.tmp 29) rfl b1 3 rfl ?_
   simp only [aS]
   refine s_cnv rfl rfl (.tmp 30) rfl _ (mkS x.p) rfl (fun W hW=>conv32 W b1 x HP.out hW.at0) ?_
   simp only [aS]
   apply s_val
   case ho | hw=>rfl
   case hv=>intro w hw;go_simp;first | done | rfl
   simp only [aS]
   refine Mm.sld0 naS (fun w h=>h) rfl rfl (.tmp 32) 35 (.string x.v) rfl rfl (En.get35 HP.out) ?_
   simp only [aS]
   refine o_bsS6 H (fun W h=>h) rfl rfl _ _ _ _ _ _ wEntry x.r (mkS (encN ne)) (mkS (encN ni)) (mkS x.p) x.v rfl rfl rfl rfl rfl rfl rfl ?_
   clear H
   intro b9 _ H nw
   have hb:=nw.below
   clear hb nw
   simp only [aS]
   have hsl:=(Sl.own_arr (B:=0) (row:=strV [wEntry,x.r,mkS (encN ne),mkS (encN ni),mkS x.p,x.v]) H.out.at0 (Nat.zero_le _) (by simp [strV])).strs
   refine Mm.o_callH (v:=.tuple #[.string T,.int .i64 0]) H (fun W h=>h.tail) rfl rfl 87 (#[.slice (some ⟨b9,0,none⟩) 6 6]) (by go_simp;first | done | rfl) (cl.out _ _ hsl) ?_
   clear H
   intro _ H hb
   clear hsl cl
   clear hb
   iterate 4
    simp only [aS]
    apply s_val
    case ho | hw=>rfl
    case hv=>intro w hw;go_simp;first | done | rfl
   simp only [aS]
   refine NoPanic.normal ?_
   go_wp2
   go_ret2
   exact ⟨rfl,H.out.below⟩
def esmV (x:En):List UInt8:=if eOk x=true then shaL (eT x).data.toList else z32
theorem esum_any (w:World) (x:En) (hx:x.ok) (hI:IT w) (hK:KT w):Calls Tryz.prog 101 #[.agg x.row.toArray] w fun e w'=>e=.returned (.tuple #[.agg (u8s (esmV x)).toArray,.int .i64 (eE x)])∧Below w.heap.size w w':=by
 have H:=hidp (Mm.M.nil w)
 have HP:=hidp hx.p
 have hts:=eT_size x hx.p
 have hkp:=hK.pos
 have ct:=hidp (fun W (h:IT W)=>etext_any W x hx h)
 have cs:=hidp (fun W (h:KT W)=>sum_any W (eT x) (by omega) h)
 have HI:=hidp hI;have HK:=hidp hK;clear hI hK hx
 cases hok:eOk x with
 | false =>
   have HV:=hidp (show esmV x=z32 from by unfold esmV;rw [hok];rfl)
   rw [eE_no hok] at ct ⊢
   obtain ⟨T,hT⟩:∃ T,eT x=T:=⟨_,rfl⟩
   rw [hT] at ct
   clear hok hT hts cs
   go_enter Tryz.func101,Tryz.ntmps101
   have tk0:=hT
   go_wp2_with (first|(clear tk0;(refine Mm.box 103 H rfl (.tmp 0) rfl x.row rfl ?_;clear H;intro b1 _ H nw;clear nw);(try simp only [aR]);have tk1:=hT)|(clear tk1;(refine Mm.new rtH H (some 2) rfl rfl rfl ?_;clear H;intro b2 _ H nw;clear nw);(try simp only [aR]);have tk2:=hT)|(clear tk2;(refine Mm.get1 rtE H rfl (.tmp 1) rfl rfl (En.len HP.out) ?_);(try simp only [aR]);have tk3:=hT)|(clear tk3;(go_at_call 51;refine (ct.out _ (HI.out.below H.out.below (Nat.le_refl _))).mono ?_;rintro e _ ⟨rfl,hb⟩;replace H:=hidp (H.out.call hb);clear ct;clear hb);(try simp only [aR]);have tk4:=hT)|(clear tk4;(refine Rt.wpL_build rfl 58 _ rfl (u8s z32) (by kernel_rfl) ?_);(try simp only [aR]);have tk5:=hT)|(clear tk5;(refine Mm.put0 rtH H rfl (.tmp 2) (.tmp 13) (u8s z32) rfl rfl rfl rfl (u8_one z32) rfl ?_;clear H;intro _ H st;clear st);(try simp only [aR]);have tk6:=hT))
   try clear tk6
   refine bodyPost_ret (Mm.ret_rowv rtH Tryz.results101 _ b2 _ _ rfl rfl H.out.at0 rfl) rfl ⟨by rw [HV.out];first | done | rfl,H.out.below⟩
 | true =>
   have hv:esmV x=shaL (eT x).data.toList:=by unfold esmV;rw [hok];rfl
   rw [eE_yes hok] at ct ⊢
   obtain ⟨T,hT⟩:∃ T,eT x=T:=⟨_,rfl⟩
   rw [hT] at ct cs hv
   have HV:=hidp hv
   have HL:=hidp (show (u8s (shaL T.data.toList)).length=32 from by rw [u8s_length];exact shaL_len _)
   clear hok hT hts hv
   go_enter Tryz.func101,Tryz.ntmps101
   have tk0:=hT
   go_wp2_with (first|(clear tk0;(refine Mm.box 103 H rfl (.tmp 0) rfl x.row rfl ?_;clear H;intro b1 _ H nw;clear nw);(try simp only [aR]);have tk1:=hT)|(clear tk1;(refine Mm.new rtH H (some 2) rfl rfl rfl ?_;clear H;intro b2 _ H nw;clear nw);(try simp only [aR]);have tk2:=hT)|(clear tk2;(refine Mm.get1 rtE H rfl (.tmp 1) rfl rfl (En.len HP.out) ?_);(try simp only [aR]);have tk3:=hT)|(clear tk3;(go_at_call 51;refine (ct.out _ (HI.out.below H.out.below (Nat.le_refl _))).mono ?_;rintro e _ ⟨rfl,hb⟩;replace H:=hidp (H.out.call hb);clear ct;clear hb);(try simp only [aR]);have tk4:=hT)|(clear tk4;(go_at_call 146;refine (cs.out _ (HK.out.below H.out.below hkp)).mono ?_;rintro e _ ⟨rfl,hb⟩;replace H:=hidp (H.out.call hb);clear cs;clear hb);(try simp only [aR]);have tk5:=hT)|(clear tk5;(refine Mm.put0 rtH H rfl (.tmp 2) (.tmp 16) (u8s (shaL T.data.toList)) rfl rfl rfl HL.out (u8_one _) rfl ?_;clear H;intro _ H st;clear st);(try simp only [aR]);have tk6:=hT))
   try clear tk6
   refine bodyPost_ret (Mm.ret_rowv rtH Tryz.results101 _ b2 _ _ rfl rfl H.out.at0 HL.out) rfl ⟨by rw [HV.out];first | done | rfl,H.out.below⟩
theorem rsum19_any (w:World) (x:En) (hx:x.ok):Calls Tryz.prog 134 #[.agg x.row.toArray] w fun e w'=>e=.returned (.tuple #[.agg (u8s (esmV x)).toArray,.int .i64 (eE x)])∧Below w.heap.size w w':=by
 have H:=hidp (Mm.M.nil w)
 have HP:=hidp hx.p
 have hts:=eT_size x hx.p
 have ct:=hidp (fun W=>rtext_any W x hx)
 have cs:=hidp (fun W=>rsum_any W (eT x) (by omega))
 clear hx
 cases hok:eOk x with
 | false =>
   have HV:=hidp (show esmV x=z32 from by unfold esmV;rw [hok];rfl)
   rw [eE_no hok] at ct ⊢
   obtain ⟨T,hT⟩:∃ T,eT x=T:=⟨_,rfl⟩
   rw [hT] at ct
   clear hok hT hts cs
   go_enter Tryz.func134,Tryz.ntmps134
   have tk0:=hT
   go_wp2_with (first|(clear tk0;(refine Mm.box 103 H rfl (.tmp 0) rfl x.row rfl ?_;clear H;intro b1 _ H nw;clear nw);(try simp only [aR]);have tk1:=hT)|(clear tk1;(refine Mm.new rtH H (some 2) rfl rfl rfl ?_;clear H;intro b2 _ H nw;clear nw);(try simp only [aR]);have tk2:=hT)|(clear tk2;(refine Mm.get1 rtE H rfl (.tmp 1) rfl rfl (En.len HP.out) ?_);(try simp only [aR]);have tk3:=hT)|(clear tk3;(go_at_call 172;refine (ct.out _).mono ?_;rintro e _ ⟨rfl,hb⟩;replace H:=hidp (H.out.call hb);clear ct;clear hb);(try simp only [aR]);have tk4:=hT)|(clear tk4;(refine Rt.wpL_build rfl 58 _ rfl (u8s z32) (by kernel_rfl) ?_);(try simp only [aR]);have tk5:=hT)|(clear tk5;(refine Mm.put0 rtH H rfl (.tmp 2) (.tmp 13) (u8s z32) rfl rfl rfl rfl (u8_one z32) rfl ?_;clear H;intro _ H st;clear st);(try simp only [aR]);have tk6:=hT))
   try clear tk6
   refine bodyPost_ret (Mm.ret_rowv rtH Tryz.results134 _ b2 _ _ rfl rfl H.out.at0 rfl) rfl ⟨by rw [HV.out];first | done | rfl,H.out.below⟩
 | true =>
   have hv:esmV x=shaL (eT x).data.toList:=by unfold esmV;rw [hok];rfl
   rw [eE_yes hok] at ct ⊢
   obtain ⟨T,hT⟩:∃ T,eT x=T:=⟨_,rfl⟩
   rw [hT] at ct cs hv
   have HV:=hidp hv
   have HL:=hidp (show (u8s (shaL T.data.toList)).length=32 from by rw [u8s_length];exact shaL_len _)
   clear hok hT hts hv
   go_enter Tryz.func134,Tryz.ntmps134
   have tk0:=hT
   go_wp2_with (first|(clear tk0;(refine Mm.box 103 H rfl (.tmp 0) rfl x.row rfl ?_;clear H;intro b1 _ H nw;clear nw);(try simp only [aR]);have tk1:=hT)|(clear tk1;(refine Mm.new rtH H (some 2) rfl rfl rfl ?_;clear H;intro b2 _ H nw;clear nw);(try simp only [aR]);have tk2:=hT)|(clear tk2;(refine Mm.get1 rtE H rfl (.tmp 1) rfl rfl (En.len HP.out) ?_);(try simp only [aR]);have tk3:=hT)|(clear tk3;(go_at_call 172;refine (ct.out _).mono ?_;rintro e _ ⟨rfl,hb⟩;replace H:=hidp (H.out.call hb);clear ct;clear hb);(try simp only [aR]);have tk4:=hT)|(clear tk4;(go_at_call 165;refine (cs.out _).mono ?_;rintro e _ ⟨rfl,hb⟩;replace H:=hidp (H.out.call hb);clear cs;clear hb);(try simp only [aR]);have tk5:=hT)|(clear tk5;(refine Mm.put0 rtH H rfl (.tmp 2) (.tmp 16) (u8s (shaL T.data.toList)) rfl rfl rfl HL.out (u8_one _) rfl ?_;clear H;intro _ H st;clear st);(try simp only [aR]);have tk6:=hT))
   try clear tk6
   refine bodyPost_ret (Mm.ret_rowv rtH Tryz.results134 _ b2 _ _ rfl rfl H.out.at0 HL.out) rfl ⟨by rw [HV.out];first | done | rfl,H.out.below⟩
def smN (s:ByteArray):Nat:=(gn s.data.toList).1
def smB (s:ByteArray):Bool:=decide (inE s 4096=0)
theorem small_any (w:World) (s:ByteArray) (hs:s.size≤281474976710656):Calls Tryz.prog 132 #[.string s] w fun e w'=>e=.returned (.tuple #[.int .i64 (smN s:Nat),.bool (smB s)])∧Below w.heap.size w w':=by
 have cg:=hidp (fun W=>refGetNum_any W s hs)
 have hb:=gn_bd s.data.toList
 have hz:=size_toList s
 obtain ⟨⟨n,j,c⟩,hr⟩:∃ r,gn s.data.toList=r:=⟨_,rfl⟩
 have hy:=y_gn hr
 have hN:smN s=n:=by unfold smN;rw [hr]
 rw [hN]
 rw [hr] at cg hb
 unfold tup3 at cg
 simp only at cg hb
 have w1:IntKind.i64.wrap (n:Int)=(n:Int):=by unfold IntKind.wrap;simp [IntKind.bits,IntKind.signed];omega
 clear hr hN
 by_cases h0:c=0
 · subst h0
   by_cases h1:j=s.size
   · have e1:((j:Int) == (s.size:Int))=true:=by simp;omega
     subst h1
     by_cases h2:n≤4096
     · have e2:decide ((n:Int)≤4096)=true:=by simp;omega
       have n2:(n:Int)≤4096:=by omega
       have HF:=hidp (show smB s=true from decide_eq_true (hy.1.2 ⟨rfl,rfl,h2⟩))
       clear hy hb hz
       go_enter Tryz.func132,Tryz.ntmps132
       go_wp2_with (go_at_call 90;refine (cg.out _).mono ?_;rintro e w' ⟨rfl,hb⟩;have HB:=hidp hb;clear hb)
       go_ret2
       exact ⟨by rw [HF.out];first | done | rfl,HB.out⟩
     · have e2:decide ((n:Int)≤4096)=false:=by simp;omega
       have n2:¬ (n:Int)≤4096:=by omega
       have HF:=hidp (show smB s=false from decide_eq_false (fun g=>h2 (hy.1.1 g).2.2))
       clear hy hb hz
       go_enter Tryz.func132,Tryz.ntmps132
       go_wp2_with (go_at_call 90;refine (cg.out _).mono ?_;rintro e w' ⟨rfl,hb⟩;have HB:=hidp hb;clear hb)
       go_ret2
       exact ⟨by rw [HF.out];first | done | rfl,HB.out⟩
   · have e1:((j:Int) == (s.size:Int))=false:=by rw [beq_eq_false_iff_ne];omega
     have n1:¬ (j:Int)=(s.size:Int):=by omega
     have HF:=hidp (show smB s=false from decide_eq_false (fun g=>h1 (hy.1.1 g).2.1))
     clear hy hb hz
     go_enter Tryz.func132,Tryz.ntmps132
     go_wp2_with (go_at_call 90;refine (cg.out _).mono ?_;rintro e w' ⟨rfl,hb⟩;have HB:=hidp hb;clear hb)
     go_ret2
     exact ⟨by rw [HF.out];first | done | rfl,HB.out⟩
 · have e0:((c:Int) == 0)=false:=by rw [beq_eq_false_iff_ne];omega
   have n0:¬ (c:Int)=0:=by omega
   have HF:=hidp (show smB s=false from decide_eq_false (fun g=>h0 (hy.1.1 g).1))
   clear hy hb hz
   go_enter Tryz.func132,Tryz.ntmps132
   go_wp2_with (go_at_call 90;refine (cg.out _).mono ?_;rintro e w' ⟨rfl,hb⟩;have HB:=hidp hb;clear hb)
   go_ret2
   exact ⟨by rw [HF.out];first | done | rfl,HB.out⟩
theorem built_en2 (b:ByteArray) (e i:Int) (f:ByteArray):Tryz.prog.built 103 [(0,.string b),(1,.int .i64 e),(2,.int .i64 i),(4,.string f)]=some (En.row ⟨b,e,i,z32e,f,⟨#[]⟩⟩).toArray:=by kernel_rfl
theorem En.cp {x:En} (hp:x.p.length=32) (t:ByteArray) (ht:t.size=32):(x.row.take 3++Lib.byteCells (t.data.toList.take 32)++x.row.drop (3 + 32))=(⟨x.r,x.e,x.i,t.data.toList,x.v,x.g⟩:En).row:=by
 rw [show Lib.byteCells (t.data.toList.take 32)=u8s t.data.toList from by rw [List.take_of_length_le (by rw [size_toList];omega)];rfl]
 have e1:x.row.take 3=[.string x.r,.int .i64 x.e,.int .i64 x.i]:=rfl
 have e2:x.row.drop (3 + 32)=[.string x.v,.string x.g]:=by
  rw [← List.drop_drop,En.mid,List.drop_left' (by rw [u8s_length];exact hp)]
 rw [e1,e2];rfl
theorem o_cpE {ops:Array Oper} {Q:Exit→Act→World→Prop} {S:World→Prop} {k:Nat} {K:Act→World→Prop} {a:Act} {w w0:World} {o:Oper} {N b:Nat} {L:List Mm.Bx} {x:En} (H:Hid (Mm.M N w0 w (⟨b,103,x.row⟩ :: L))) (hp:x.p.length=32) (t:ByteArray) (ht:t.size=32)
 (hT:∀ W,Mm.M N w0 W (⟨b,103,(⟨x.r,x.e,x.i,t.data.toList,x.v,x.g⟩:En).row⟩ :: L)→S W) (ho:ops[k]?=some o) (hw:Region.wanted o (yielded ops a.tmps)=true) (d y:Operand)
 (hop:o.op=.call { callee:=.builtin .copy,args:=#[d,y],argTypes:=#[174,9] }) (hd:a.eval d=.slice (some ⟨b,3,none⟩) 32 32) (hy:a.eval y=.string t)
 (h:∀ W,Hid (Mm.M N w0 W (⟨b,103,(⟨x.r,x.e,x.i,t.data.toList,x.v,x.g⟩:En).row⟩ :: L))→K (a.put o.dst (goInt 32)) W):opW Tryz.prog ops Q S k K a w:=by
 have hr:=run_copy_mid (P:=Tryz.prog) w 174 9 o.type 5 b 3 32 32 t x.row.toArray 103 Tryz.underlying174 (by kernel_rfl) H.out.at0 (by omega) (by simp [En.len hp])
 rw [En.cp hp t ht] at hr
 have st:=Rt.Stp.setRow w b (⟨x.r,x.e,x.i,t.data.toList,x.v,x.g⟩:En).row.toArray
 have hM:=H.out.put0 (Arr.row H.out.at0 (⟨x.r,x.e,x.i,t.data.toList,x.v,x.g⟩:En).row) st
 exact o_copy ho hw d y 174 9 hop _ _ _ _ hd hy hr (hT _ hM) (h _ (hidp hM))
theorem er_hash {t a b c d e f:ByteArray} (hL:(al t).1=[a,b,c,d,e,f]) (h:¬ e.size=32):er t=none:=by
 unfold er
 split
 · rw [hL];unfold erL;simp only;rw [if_neg (fun g=>h g.2)]
 · rfl
def x1 (b c d e f:ByteArray):En:=⟨b,smN c,smN d,e.data.toList,f,⟨#[]⟩⟩
theorem smN_in {s:ByteArray} (h:inE s 4096=0):inV s 4096=smN s:=by
 obtain ⟨⟨n,j,c⟩,hr⟩:∃ r,gn s.data.toList=r:=⟨_,rfl⟩
 rw [(y_gn hr).2 h];unfold smN;rw [hr]
theorem er_six' {t b c d e f:ByteArray} (h0:(al t).2=0) (hL:(al t).1=[wEntry,b,c,d,e,f]) (he:e.size=32):er t=if smB c=true∧smB d=true∧eOk (x1 b c d e f)=true then some (x1 b c d e f) else none:=by
 rw [er_six h0 hL]
 have h1:hsE e=0:=if_pos he
 have h2:hsV e=e.data.toList:=if_pos he
 by_cases hc:inE c 4096=0
 · by_cases hd:inE d 4096=0
   · have hx:x0 b c d e f=x1 b c d e f:=by unfold x0 x1;rw [h2,smN_in hc,smN_in hd]
     rw [hx]
     cases hok:eOk (x1 b c d e f) with
     | true=>rw [if_pos (or4_zero.2 ⟨hc,hd,h1,eE_yes hok⟩),if_pos ⟨decide_eq_true hc,decide_eq_true hd,rfl⟩]
     | false=>rw [if_neg (fun g=>by have:=(or4_zero.1 g).2.2.2;rw [eE_no hok] at this;cases this),if_neg (fun g=>by cases g.2.2)]
   · rw [if_neg (fun g=>hd (or4_zero.1 g).2.1),if_neg (fun g=>hd (of_decide_eq_true g.2.1))]
 · rw [if_neg (fun g=>hc (or4_zero.1 g).1),if_neg (fun g=>hc (of_decide_eq_true g.1))]
theorem rread_any (w:World) (t:ByteArray) (ht:t.size≤281474976710656) :
 Calls Tryz.prog 81 #[.string t] w fun e w'=>e=.returned (.tuple #[.agg (erV t).row.toArray,.int .i64 (erE t)])∧Below w.heap.size w w':=by
 have ca:=hidp (fun W=>refAll_any W t ht)
 have H:=hidp (Mm.M.nil w)
 by_cases h0:(al t).2=0
 · by_cases h6:(al t).1.length=6
   · obtain ⟨a,b,c,d,e5,f,hL⟩:∃ a b c d e f,(al t).1=[a,b,c,d,e,f]:=by
      match hL:(al t).1,h6 with
      | [a,b,c,d,e,f],_=>exact ⟨a,b,c,d,e,f,rfl⟩
     have hss:=al_sz t ht
     rw [hL] at hss
     rw [h0,hL] at ca
     by_cases hw:a=wEntry
     · subst hw
       by_cases h32:e5.size=32
       · have hsx:=er_six' h0 hL h32
         have hxok:(x1 b c d e5 f).ok:=⟨by have:=hss b (by simp);show b.size≤_;omega,by show e5.data.toList.length=32;rw [size_toList];exact h32,by have:=hss f (by simp);show f.size≤_;omega,by show (⟨#[]⟩:ByteArray).size≤_;decide⟩
         have c1:=hidp (fun W=>small_any W c (by have:=hss c (by simp);omega))
         have c2:=hidp (fun W=>small_any W d (by have:=hss d (by simp);omega))
         have cc:=hidp (fun W=>rcheck_any W (x1 b c d e5 f) hxok)
         have e32:((e5.size:Int) != 32)=false:=by rw [h32];rfl
         have n32:(e5.size:Int)=32:=by omega
         have HE5:=hidp h32
         obtain ⟨V1,hV1⟩:∃ V:Int,((smN c:Nat):Int)=V:=⟨_,rfl⟩
         obtain ⟨V2,hV2⟩:∃ V:Int,((smN d:Nat):Int)=V:=⟨_,rfl⟩
         obtain ⟨Y,hY⟩:∃ X,x1 b c d e5 f=X:=⟨_,rfl⟩
         have hY2:Y=⟨b,V1,V2,e5.data.toList,f,⟨#[]⟩⟩:=by rw [← hY,← hV1,← hV2];rfl
         have HYL:=hidp (show Y.p.length=32 from hY ▸ hxok.p)
         rw [hY] at hsx cc
         obtain ⟨X,hX⟩:∃ X:En,X=⟨b,V1,V2,z32e,f,⟨#[]⟩⟩:=⟨_,rfl⟩
         have HX:=hidp hX
         have HXL:=hidp (show X.p.length=32 from by rw [hX];rfl)
         have HY:=hidp (show Y=⟨X.r,X.e,X.i,e5.data.toList,X.v,X.g⟩ from by rw [hY2,hX])
         rw [hV1] at c1
         rw [hV2] at c2
         clear hss h0 h6 hL hxok hY hY2 hX hV1 hV2 h32
         cases h1:smB c
         case' false =>
          have hn:er t=none:=by rw [hsx];exact if_neg (fun g=>by have g:=g.1;rw [h1] at g;cases g)
          have HV:=hidp (show erV t=zEn from by unfold erV;rw [hn];rfl)
          have HE:=hidp (show erE t=6 from by unfold erE;rw [hn];rfl)
          clear hn
          rw [h1] at c1
          clear hsx h1
          obtain ⟨B2,hB2⟩:∃ B,smB d=B:=⟨_,rfl⟩
          rw [hB2] at c2
          clear hB2
         case' true =>
          rw [h1] at c1
          cases h2:smB d
          case' false =>
           have hn:er t=none:=by rw [hsx];exact if_neg (fun g=>by have g:=g.2.1;rw [h2] at g;cases g)
           have HV:=hidp (show erV t=zEn from by unfold erV;rw [hn];rfl)
           have HE:=hidp (show erE t=6 from by unfold erE;rw [hn];rfl)
           clear hn
           rw [h2] at c2
           clear hsx h1 h2
          case' true =>
           rw [h2] at c2
           cases hok:eOk Y
           case' false =>
            have hn:er t=none:=by rw [hsx];exact if_neg (fun g=>by have g:=g.2.2;rw [hok] at g;cases g)
            have HV:=hidp (show erV t=zEn from by unfold erV;rw [hn];rfl)
            have HE:=hidp (show erE t=6 from by unfold erE;rw [hn];rfl)
            clear hn
            rw [eE_no hok] at cc
            clear hsx h1 h2 hok
           case' true =>
            have hn:er t=some Y:=by rw [hsx];exact if_pos ⟨h1,h2,hok⟩
            have HV:=hidp (show erV t=Y from by unfold erV;rw [hn];rfl)
            have HE:=hidp (show erE t=0 from by unfold erE;rw [hn];rfl)
            clear hn
            rw [eE_yes hok] at cc
            clear hsx h1 h2 hok
         all_goals
          go_enter Tryz.func81,Tryz.ntmps81
          have tk0:=hT
          go_wp2_with (first|(clear tk0;(refine Mm.new rtE H (some 2) rfl rfl rfl ?_;clear H;intro b2 _ H nw;clear nw);(try simp only [aR]);have tk1:=hT)|(clear tk1;(go_at_call 89;refine (ca.out _).mono ?_;rintro e w1 ⟨v,rfl,hst,hb⟩;have H0:=hidp (H.out.call hb);obtain ⟨g,off,cv,rfl,hg,hcs⟩:=Sl.strs_pos hst (by simp);clear H hst hb ca;have HC:=hidp (show ∀ W,Below w1.heap.size w1 W→W.cell? ⟨g,off,none⟩=some (.string wEntry)∧W.cell? ⟨g,off + 1,none⟩=some (.string b)∧W.cell? ⟨g,off + 2,none⟩=some (.string c)∧W.cell? ⟨g,off + 3,none⟩=some (.string d)∧W.cell? ⟨g,off + 4,none⟩=some (.string e5)∧W.cell? ⟨g,off + 5,none⟩=some (.string f) from fun W hW=>⟨(hW.cell (p:=⟨g,off,none⟩) hg).trans (hcs 0 (by simp)),(hW.cell (p:=⟨g,off + 1,none⟩) hg).trans (hcs 1 (by simp)),(hW.cell (p:=⟨g,off + 2,none⟩) hg).trans (hcs 2 (by simp)),(hW.cell (p:=⟨g,off + 3,none⟩) hg).trans (hcs 3 (by simp)),(hW.cell (p:=⟨g,off + 4,none⟩) hg).trans (hcs 4 (by simp)),(hW.cell (p:=⟨g,off + 5,none⟩) hg).trans (hcs 5 (by simp))⟩);clear hcs;have H:=hidp (Mm.M.nil w1);obtain ⟨m0,m1,m2,m3,m4,m5⟩:=HC.out _ H.out.below;unfold wEntry at m0);(try simp only [aR]);have tk2:=hT)|(clear tk2;(go_at_call 132;refine (c1.out _).mono ?_;rintro e _ ⟨rfl,hb⟩;clear m0 m1 m2 m3 m4 m5;replace H:=hidp (H.out.call hb);obtain ⟨m0,m1,m2,m3,m4,m5⟩:=HC.out _ H.out.below;clear hb);(try simp only [aR]);have tk3:=hT)|(clear tk3;(go_at_call 132;refine (c2.out _).mono ?_;rintro e _ ⟨rfl,hb⟩;clear m0 m1 m2 m3 m4 m5;replace H:=hidp (H.out.call hb);obtain ⟨m0,m1,m2,m3,m4,m5⟩:=HC.out _ H.out.below;clear hb;clear m0 m1 m2 m3 m4 m5);(try simp only [aR]);have tk4:=hT))
          try clear tk4
          refine Mm.region H (.take 0 (.take 1 (.take 2 (.take 3 (.take 4 (.take 5 (.take 6 (.take 7 (.take 8 (.one 9 (.one 10 .done))))))))))) (by kernel_rfl) (by kernel_rfl) (by simp [Scr.depth]) (by kernel_rfl) ?_
          clear H
          intro _ H hb
          clear hb
          iterate 2
           apply s_val
           case ho | hw=>rfl
           case hv=>intro w hw;go_simp;first | done | rfl
           simp only [aS]
          apply s_val
          case ho | hw=>rfl
          case hv=>intro w hw;obtain ⟨m0,m1,m2,m3,m4,m5⟩:=HC.out w hw.below;clear m0 m2 m3 m4 m5;go_simp;first | done | rfl
          iterate 4
           simp only [aS]
           apply s_val
           case ho | hw=>rfl
           case hv=>intro w hw;go_simp;first | done | rfl
          simp only [aS]
          apply s_val
          case ho | hw=>rfl
          case hv=>intro w hw;obtain ⟨m0,m1,m2,m3,m4,m5⟩:=HC.out w hw.below;clear m0 m1 m2 m3 m4;go_simp;first | done | rfl
          simp only [aS]
          refine s_bld rfl rfl 103 _ rfl X.row (by rw [HX.out];exact Eq.trans (by kernel_rfl) (built_en2 b V1 V2 f)) ?_
          simp only [aS]
          refine Mm.o_newH rtE H (fun W h=>h) rfl rfl rfl ?_
          clear H
          intro b10 _ H nw
          have hb:=nw.below
          clear hb nw
          simp only [aS]
          refine Mm.oput0 rtE H X.row (fun W h=>h.tail) rfl rfl (.tmp 10) (.tmp 59) rfl rfl rfl (En.len HXL.out) (En.one X) (En.len (rfl:zEn.p.length=32)) ?_
          clear H
          intro _ H st
          clear st
          simp only [aS]
          refine NoPanic.normal ?_
          go_wp2
          refine Sl.region1 H (.take 0 (.take 1 (.take 2 (.take 3 (.take 4 (.one 5 .done)))))) (by kernel_rfl) (by kernel_rfl) (by simp [Scr.depth]) (by kernel_rfl) ?_
          clear H
          intro _ H hb
          clear hb
          apply s_val
          case ho | hw=>rfl
          case hv=>intro w hw;go_simp;first | done | rfl
          simp only [aS]
          refine s_slc rfl rfl (.tmp 60) rfl b10 3 rfl ?_
          iterate 2
           simp only [aS]
           apply s_val
           case ho | hw=>rfl
           case hv=>intro w hw;go_simp;first | done | rfl
          simp only [aS]
          apply s_val
          case ho | hw=>rfl
          case hv=>intro w hw;obtain ⟨m0,m1,m2,m3,m4,m5⟩:=HC.out w hw.below;clear m0 m1 m2 m3 m5;go_simp;first | done | rfl
          simp only [aS]
          refine o_cpE H HXL.out e5 HE5.out (fun W h=>h.tail) rfl rfl (.tmp 61) (.tmp 64) rfl rfl rfl ?_
          clear H
          intro _ H
          rw [← HY.out] at H
          simp only [aS]
          refine NoPanic.normal ?_
          first
           | have tk0:=hT
             go_wp2_with (first|(clear tk0;(refine Mm.get0 rtE H rfl (.tmp 10) rfl rfl (En.len HYL.out) ?_);(try simp only [aR]);have tk1:=hT)|(clear tk1;(go_at_call 133;refine (cc.out _).mono ?_;rintro e _ ⟨rfl,hb⟩;replace H:=hidp (H.out.call hb);clear hb;replace H:=hidp (Sl.join H0.out H.out));(try simp only [aR]);have tk2:=hT)|(clear tk2;(refine Mm.get0 rtE H rfl (.tmp 10) rfl rfl (En.len HYL.out) ?_);(try simp only [aR]);have tk3:=hT)|(clear tk3;(refine Mm.put1 rtE H rfl (.tmp 2) (.tmp 78) Y.row rfl rfl rfl (En.len HYL.out) (En.one Y) (En.len (rfl:zEn.p.length=32)) ?_;clear H;intro _ H st;clear st);(try simp only [aR]);have tk4:=hT))
             try clear tk4
             refine bodyPost_ret (Mm.ret_rowv rtE Tryz.results81 _ b2 _ _ rfl rfl H.out.at1 (En.len HYL.out)) rfl ⟨by rw [HV.out,HE.out];first | done | rfl,H.out.below⟩
           | have tk0:=hT
             go_wp2_with (first|(clear tk0;(refine Mm.get0 rtE H rfl (.tmp 10) rfl rfl (En.len HYL.out) ?_);(try simp only [aR]);have tk1:=hT)|(clear tk1;(go_at_call 133;refine (cc.out _).mono ?_;rintro e _ ⟨rfl,hb⟩;replace H:=hidp (H.out.call hb);clear hb;replace H:=hidp (Sl.join H0.out H.out));(try simp only [aR]);have tk2:=hT)|(clear tk2;(refine Rt.wpL_build rfl 103 _ rfl zEn.row (by kernel_rfl) ?_);(try simp only [aR]);have tk3:=hT)|(clear tk3;(refine Mm.put1 rtE H rfl (.tmp 2) (.tmp 77) zEn.row rfl rfl rfl (En.len (rfl:zEn.p.length=32)) (En.one zEn) (En.len (rfl:zEn.p.length=32)) ?_;clear H;intro _ H st;clear st);(try simp only [aR]);have tk4:=hT))
             try clear tk4
             refine bodyPost_ret (Mm.ret_rowv rtE Tryz.results81 _ b2 _ _ rfl rfl H.out.at1 (En.len (rfl:zEn.p.length=32))) rfl ⟨by rw [HV.out,HE.out];first | done | rfl,H.out.below⟩
           | replace H := hidp (Sl.join H0.out H.out)
             have tk0:=hT
             go_wp2_with (first|(clear tk0;(refine Rt.wpL_build rfl 103 _ rfl zEn.row (by kernel_rfl) ?_);(try simp only [aR]);have tk1:=hT)|(clear tk1;(refine Mm.put1 rtE H rfl (.tmp 2) (.tmp 77) zEn.row rfl rfl rfl (En.len (rfl:zEn.p.length=32)) (En.one zEn) (En.len (rfl:zEn.p.length=32)) ?_;clear H;intro _ H st;clear st);(try simp only [aR]);have tk2:=hT))
             try clear tk2
             refine bodyPost_ret (Mm.ret_rowv rtE Tryz.results81 _ b2 _ _ rfl rfl H.out.at1 (En.len (rfl:zEn.p.length=32))) rfl ⟨by rw [HV.out,HE.out];first | done | rfl,H.out.below⟩
       · have HV:=hidp (show erV t=zEn from by unfold erV;rw [er_hash hL h32];rfl)
         have HE:=hidp (show erE t=6 from by unfold erE;rw [er_hash hL h32];rfl)
         have e32:((e5.size:Int) != 32)=true:=by simp;omega
         have n32:¬ (e5.size:Int)=32:=by omega
         clear hss h0 h6 hL h32
         go_enter Tryz.func81,Tryz.ntmps81
         have tk0:=hT
         go_wp2_with (first|(clear tk0;(refine Mm.new rtE H (some 2) rfl rfl rfl ?_;clear H;intro b2 _ H nw;clear nw);(try simp only [aR]);have tk1:=hT)|(clear tk1;(go_at_call 89;refine (ca.out _).mono ?_;rintro e w1 ⟨v,rfl,hst,hb⟩;have H0:=hidp (H.out.call hb);obtain ⟨g,off,cv,rfl,hg,hcs⟩:=Sl.strs_pos hst (by simp);clear H hst hb ca;have HC:=hidp (show ∀ W,Below w1.heap.size w1 W→W.cell? ⟨g,off,none⟩=some (.string wEntry)∧W.cell? ⟨g,off + 1,none⟩=some (.string b)∧W.cell? ⟨g,off + 2,none⟩=some (.string c)∧W.cell? ⟨g,off + 3,none⟩=some (.string d)∧W.cell? ⟨g,off + 4,none⟩=some (.string e5)∧W.cell? ⟨g,off + 5,none⟩=some (.string f) from fun W hW=>⟨(hW.cell (p:=⟨g,off,none⟩) hg).trans (hcs 0 (by simp)),(hW.cell (p:=⟨g,off + 1,none⟩) hg).trans (hcs 1 (by simp)),(hW.cell (p:=⟨g,off + 2,none⟩) hg).trans (hcs 2 (by simp)),(hW.cell (p:=⟨g,off + 3,none⟩) hg).trans (hcs 3 (by simp)),(hW.cell (p:=⟨g,off + 4,none⟩) hg).trans (hcs 4 (by simp)),(hW.cell (p:=⟨g,off + 5,none⟩) hg).trans (hcs 5 (by simp))⟩);clear hcs;have H:=hidp (Mm.M.nil w1);obtain ⟨m0,m1,m2,m3,m4,m5⟩:=HC.out _ H.out.below;unfold wEntry at m0;replace H:=hidp (Sl.join H0.out H.out));(try simp only [aR]);have tk2:=hT)|(clear tk2;(refine Rt.wpL_build rfl 103 _ rfl zEn.row (by kernel_rfl) ?_);(try simp only [aR]);have tk3:=hT)|(clear tk3;(refine Mm.put0 rtE H rfl (.tmp 2) (.tmp 36) zEn.row rfl rfl rfl (En.len (rfl:zEn.p.length=32)) (En.one zEn) (En.len (rfl:zEn.p.length=32)) ?_;clear H;intro _ H st;clear st);(try simp only [aR]);have tk4:=hT))
         try clear tk4
         refine bodyPost_ret (Mm.ret_rowv rtE Tryz.results81 _ b2 _ _ rfl rfl H.out.at0 (En.len (rfl:zEn.p.length=32))) rfl ⟨by rw [HV.out,HE.out];first | done | rfl,H.out.below⟩
     · have HV:=hidp (show erV t=zEn from by unfold erV;rw [er_word hL hw];rfl)
       have HE:=hidp (show erE t=6 from by unfold erE;rw [er_word hL hw];rfl)
       have hq:=toList_word hw
       clear hss h0 h6 hL hw
       go_enter Tryz.func81,Tryz.ntmps81
       have tk0:=hT
       go_wp2_with (first|(clear tk0;(refine Mm.new rtE H (some 2) rfl rfl rfl ?_;clear H;intro b2 _ H nw;clear nw);(try simp only [aR]);have tk1:=hT)|(clear tk1;(go_at_call 89;refine (ca.out _).mono ?_;rintro e w1 ⟨v,rfl,hst,hb⟩;have H0:=hidp (H.out.call hb);obtain ⟨g,off,cv,rfl,hg,hcs⟩:=Sl.strs_pos hst (by simp);clear H hst hb ca;have HC:=hidp (show ∀ W,Below w1.heap.size w1 W→W.cell? ⟨g,off,none⟩=some (.string a)∧W.cell? ⟨g,off + 1,none⟩=some (.string b)∧W.cell? ⟨g,off + 2,none⟩=some (.string c)∧W.cell? ⟨g,off + 3,none⟩=some (.string d)∧W.cell? ⟨g,off + 4,none⟩=some (.string e5)∧W.cell? ⟨g,off + 5,none⟩=some (.string f) from fun W hW=>⟨(hW.cell (p:=⟨g,off,none⟩) hg).trans (hcs 0 (by simp)),(hW.cell (p:=⟨g,off + 1,none⟩) hg).trans (hcs 1 (by simp)),(hW.cell (p:=⟨g,off + 2,none⟩) hg).trans (hcs 2 (by simp)),(hW.cell (p:=⟨g,off + 3,none⟩) hg).trans (hcs 3 (by simp)),(hW.cell (p:=⟨g,off + 4,none⟩) hg).trans (hcs 4 (by simp)),(hW.cell (p:=⟨g,off + 5,none⟩) hg).trans (hcs 5 (by simp))⟩);clear hcs;have H:=hidp (Mm.M.nil w1);obtain ⟨m0,m1,m2,m3,m4,m5⟩:=HC.out _ H.out.below;replace H:=hidp (Sl.join H0.out H.out));(try simp only [aR]);have tk2:=hT)|(clear tk2;(refine Rt.wpL_build rfl 103 _ rfl zEn.row (by kernel_rfl) ?_);(try simp only [aR]);have tk3:=hT)|(clear tk3;(refine Mm.put0 rtE H rfl (.tmp 2) (.tmp 36) zEn.row rfl rfl rfl (En.len (rfl:zEn.p.length=32)) (En.one zEn) (En.len (rfl:zEn.p.length=32)) ?_;clear H;intro _ H st;clear st);(try simp only [aR]);have tk4:=hT))
       try clear tk4
       refine bodyPost_ret (Mm.ret_rowv rtE Tryz.results81 _ b2 _ _ rfl rfl H.out.at0 (En.len (rfl:zEn.p.length=32))) rfl ⟨by rw [HV.out,HE.out];first | done | rfl,H.out.below⟩
   · have HV:=hidp (show erV t=zEn from by unfold erV;rw [er_len h6];rfl)
     have HE:=hidp (show erE t=6 from by unfold erE;rw [er_len h6];rfl)
     rw [h0] at ca
     obtain ⟨ss,hss⟩:∃ ss,(al t).1=ss:=⟨_,rfl⟩
     rw [hss] at ca h6
     obtain ⟨n,hn⟩:∃ n,ss.length=n:=⟨_,rfl⟩
     have e1:((n:Int) != 6)=true:=by simp;omega
     have g1:¬ n=6:=by omega
     have g2:(n != 6)=true:=by simpa using g1
     clear hss h0
     have cb:=hidp (fun W=>(ca.out W).mono fun e w' ⟨v,h1,h2,h3⟩=>(⟨v,h1,⟨Sl.strs_form h2,h3⟩⟩:∃ v,e=Ending.returned (.tuple #[v,.int .i64 ((0:Nat):Int)])∧(∃ a c,v=Value.slice a ss.length c)∧Below W.heap.size W w'))
     rw [hn] at cb
     clear ca hn h6
     go_enter Tryz.func81,Tryz.ntmps81
     have tk0:=hT
     go_wp2_with (first|(clear tk0;(refine Mm.new rtE H (some 2) rfl rfl rfl ?_;clear H;intro b2 _ H nw;clear nw);(try simp only [aR]);have tk1:=hT)|(clear tk1;(go_at_call 89;refine (cb.out _).mono ?_;rintro e _ ⟨v,rfl,⟨av,cv,rfl⟩,hb⟩;replace H:=hidp (H.out.call hb);clear hb cb);(try simp only [aR]);have tk2:=hT)|(clear tk2;(refine Rt.wpL_build rfl 103 _ rfl zEn.row (by kernel_rfl) ?_);(try simp only [aR]);have tk3:=hT)|(clear tk3;(refine Mm.put0 rtE H rfl (.tmp 2) (.tmp 36) zEn.row rfl rfl rfl (En.len (rfl:zEn.p.length=32)) (En.one zEn) (En.len (rfl:zEn.p.length=32)) ?_;clear H;intro _ H st;clear st);(try simp only [aR]);have tk4:=hT))
     try clear tk4
     refine bodyPost_ret (Mm.ret_rowv rtE Tryz.results81 _ b2 _ _ rfl rfl H.out.at0 (En.len (rfl:zEn.p.length=32))) rfl ⟨by rw [HV.out,HE.out];first | done | rfl,H.out.below⟩
 · have HV:=hidp (show erV t=zEn from by unfold erV;rw [er_bad h0];rfl)
   have HE:=hidp (show erE t=6 from by unfold erE;rw [er_bad h0];rfl)
   obtain ⟨E,hE⟩:∃ E,(al t).2=E:=⟨_,rfl⟩
   rw [hE] at ca h0
   have e1:((E:Int) != 0)=true:=by simp;omega
   have g1:¬ (E:Int)=0:=by omega
   have g2:¬ E=0:=h0
   clear hE h0
   go_enter Tryz.func81,Tryz.ntmps81
   have tk0:=hT
   go_wp2_with (first|(clear tk0;(refine Mm.new rtE H (some 2) rfl rfl rfl ?_;clear H;intro b2 _ H nw;clear nw);(try simp only [aR]);have tk1:=hT)|(clear tk1;(go_at_call 89;refine (ca.out _).mono ?_;rintro e _ ⟨v,rfl,hst,hb⟩;replace H:=hidp (H.out.call hb);obtain ⟨av,cv,rfl⟩:=Sl.strs_form hst;clear hst hb ca);(try simp only [aR]);have tk2:=hT)|(clear tk2;(refine Rt.wpL_build rfl 103 _ rfl zEn.row (by kernel_rfl) ?_);(try simp only [aR]);have tk3:=hT)|(clear tk3;(refine Mm.put0 rtE H rfl (.tmp 2) (.tmp 36) zEn.row rfl rfl rfl (En.len (rfl:zEn.p.length=32)) (En.one zEn) (En.len (rfl:zEn.p.length=32)) ?_;clear H;intro _ H st;clear st);(try simp only [aR]);have tk4:=hT))
   try clear tk4
   refine bodyPost_ret (Mm.ret_rowv rtE Tryz.results81 _ b2 _ _ rfl rfl H.out.at0 (En.len (rfl:zEn.p.length=32))) rfl ⟨by rw [HV.out,HE.out];first | done | rfl,H.out.below⟩
end Go.Proofs.YtokakgjcegmabaaGreatDoor.En
