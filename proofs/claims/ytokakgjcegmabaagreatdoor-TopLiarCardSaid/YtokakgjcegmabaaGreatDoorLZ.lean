/-
  'palaver/palavertop.TopLiar' returns true for every input, and leaves what was there as it was. Condition: the package-level variables that the row lists start as the program's text lays them (tied by the card); none beyond that and the row's own.
-/
import Derived.Test.YtokakgjcegmabaaGreatDoorLY
import Derived.Test.YtokakgjcegmabaaGreatDoorLT
import Derived.Deep.DeepWitnessRowRef
import Derived.LaidMore
import Derived.Lay
set_option linter.unusedVariables false
set_option linter.unusedSimpArgs false
set_option maxHeartbeats 64000000
set_option maxRecDepth 100000
namespace Go.Proofs.YtokakgjcegmabaaGreatDoor.topLiar
open Go.ChangeShapes Go.WideShapes Go.ChangeAt Go.RowKit
open Go.ChangeMaps (open_string shut_string)
open Go.ChangeShapes (open_strings)
theorem own:ownKnob Tryz.prog.godebug=none:=by kernel_rfl
theorem laidOut:laidOutB Tryz.prog=true:=by kernel_rfl
set_option maxRecDepth 100000 in
theorem contract (H:Type) (enc:TypeId × Value→H) (W:World) (base:Nat) (args:Array Value) (ds gs:List (DataW H)) (before:List MemPlace)
 (hval0:∀ (j:Nat) t v,Tryz.f10.params[j]?=some t→args[j]?=some v→Value.okWide Tryz.prog W .any base t v)
 (hW:DataW.Whole enc Tryz.prog Tryz.f10.params.toList Rows.topLiarSpec.vars false W args.toList ds gs before)
 (hsz0:(DataW.weightsEach Tryz.prog (Tryz.f10.params.toList++Rows.topLiarSpec.plain.varTypes Tryz.prog) (ds++gs)).all (·≤reachBytes)=true)
 (hL:laidMetH Tryz.prog Rows.topLiarRow.laid W) :
 Calls Tryz.prog 10 args W fun e W'=>∃ v,e=.returned v∧Rows.topLiarSpec.post enc Tryz.prog Tryz.f10 false true false false W args v W':=by
 have hsz:=hsz0
 have hval:=hval0
 have hW':=hW
 obtain ⟨p,q,hA0,hV,rfl,hfz,hnd⟩:=hW
 have hA:DataW.TrodAll enc Tryz.prog W 0 (fun _=>true) true Tryz.f10.params.toList args.toList ds p:=hA0
 rw [Tryz.params10] at hA hval hsz
 obtain ⟨v0,vs0,d0,ds0,p0,q0,hargs,rfl,rfl,h0,r0⟩:=trodAll_cons hA
 obtain ⟨v1,vs1,d1,ds1,p1,q1,rfl,rfl,rfl,h1,r1⟩:=trodAll_cons r0
 obtain ⟨v2,vs2,d2,ds2,p2,q2,rfl,rfl,rfl,h2,r2⟩:=trodAll_cons r1
 obtain ⟨rfl,rfl,rfl⟩:=trodAll_nil r2
 obtain rfl:args=#[v0,v1,v2]:=by cases args;simp_all
 obtain ⟨rfl,rfl⟩:=trodVars_none hV
 have k0:=h0
 have lt0:∀ x ∈ p0,x.block<W.heap.size:=by obtain ⟨m,hm⟩:=k0;exact DataW.trod_lt m _ _ _ hm
 obtain ⟨a0,b0,c0,rfl,wb0,wc0,rfl⟩:=open_key (hval 0 23 v0 rfl rfl) h0
 have wa0:a0.size≤140737488351232:=by
  have:=sized_string (sized_agg hsz (j:=0) rfl rfl Tryz.underlying23) (j:=0) rfl rfl
  simpa [reachBytes] using this
 have k1:=h1
 have lt1:∀ x ∈ p1,x.block<W.heap.size:=by obtain ⟨m,hm⟩:=k1;exact DataW.trod_lt m _ _ _ hm
 obtain ⟨a1,dh1,rfl,wa1,rfl⟩:=En.open_entry (hval 1 103 v1 rfl rfl) h1
 have ws1:a1.r.size≤140737488351232∧a1.v.size≤140737488351232∧a1.g.size≤140737488351232:=by
  refine ⟨?_,?_,?_⟩
  · have:=sized_string (sized_agg hsz (j:=1) rfl rfl Tryz.underlying103) (j:=0) rfl rfl
    simpa [reachBytes] using this
  · have:=sized_string (sized_agg hsz (j:=1) rfl rfl Tryz.underlying103) (j:=4) rfl rfl
    simpa [reachBytes] using this
  · have:=sized_string (sized_agg hsz (j:=1) rfl rfl Tryz.underlying103) (j:=5) rfl rfl
    simpa [reachBytes] using this
 have k2:=h2
 have lt2:∀ x ∈ p2,x.block<W.heap.size:=by obtain ⟨m,hm⟩:=k2;exact DataW.trod_lt m _ _ _ hm
 obtain ⟨a2,dh2,rfl,wa2,rfl⟩:=En.open_entry (hval 2 103 v2 rfl rfl) h2
 have ws2:a2.r.size≤140737488351232∧a2.v.size≤140737488351232∧a2.g.size≤140737488351232:=by
  refine ⟨?_,?_,?_⟩
  · have:=sized_string (sized_agg hsz (j:=2) rfl rfl Tryz.underlying103) (j:=0) rfl rfl
    simpa [reachBytes] using this
  · have:=sized_string (sized_agg hsz (j:=2) rfl rfl Tryz.underlying103) (j:=4) rfl rfl
    simpa [reachBytes] using this
  · have:=sized_string (sized_agg hsz (j:=2) rfl rfl Tryz.underlying103) (j:=5) rfl rfl
    simpa [reachBytes] using this
 clear hA0 hval0
 simp only [List.append_nil] at hW'
 refine (Pf.walk_topLiar W a0 b0 c0 wa0 wb0 wc0 a1 ⟨ws1.1,wa1,ws1.2.1,ws1.2.2⟩ a2 ⟨ws2.1,wa2,ws2.2.1,ws2.2.2⟩ (En.all_of_laid hL)).mono fun e W' ⟨he,bel⟩=>?_
 subst he
 exact ⟨_,rfl,_,_,_,[],_,[],hW',trodAll_mk1 (shut_bool Tryz.underlying4 _),(trodAll_cons_mk (Below.trod laidOut (by kernel_rfl) (of_decide_eq_true (by kernel_rfl)) k0 bel lt0) (trodAll_cons_mk (Below.trod laidOut (by kernel_rfl) (of_decide_eq_true (by kernel_rfl)) k1 bel lt1) (trodAll_cons_mk (Below.trod laidOut (by kernel_rfl) (of_decide_eq_true (by kernel_rfl)) k2 bel lt2) trodAll_mk0))),rfl,bel.frame _,fun h=>by cases h⟩
noncomputable def laidWorld (os:Os):World:=World.laidAll Tryz.prog os Rows.topLiarRow.laid
theorem laid_met (os:Os):laidMet Tryz.prog Rows.topLiarRow.laid ((laidWorld os).forCall (fun _ _=>0) ⟨#[],#[.agg #[.string ByteArray.empty,.int .i64 0,.int .i64 0],.agg En.zEn.row.toArray,.agg En.zEn.row.toArray],[]⟩).memory :=
 laidMet_laidAll _ (by kernel_rfl) (by kernel_rfl)
theorem reads (os:Os) {H:Type} (enc:TypeId × Value→H):∃ places,DataW.whole enc Tryz.prog ((laidWorld os).forCall (fun _ _=>0) ⟨#[],#[.agg #[.string ByteArray.empty,.int .i64 0,.int .i64 0],.agg En.zEn.row.toArray,.agg En.zEn.row.toArray],[]⟩).memory Tryz.f10.params.toList Rows.topLiarSpec.vars false (#[.agg #[.string ByteArray.empty,.int .i64 0,.int .i64 0],.agg En.zEn.row.toArray,.agg En.zEn.row.toArray]:Array Value).toList 8=some ([.agg [.lit (.string []),.lit (.int .i64 0),.lit (.int .i64 0)],.agg [.lit (.string []),.lit (.int .i64 0),.lit (.int .i64 0),hashD (List.replicate 32 0),.lit (.string []),.lit (.string [])],.agg [.lit (.string []),.lit (.int .i64 0),.lit (.int .i64 0),hashD (List.replicate 32 0),.lit (.string []),.lit (.string [])]],[],places) :=
 ⟨[],by kernel_rfl⟩
set_option maxRecDepth 100000 in
theorem lifted (os:Os) (started:os.Started) (H:Type) (enc:TypeId × Value→H) (G:Stop.Interp) :
 ReturnsInHanded {} Tryz.checked os 10 .any ((OpenSpec.ofChange Rows.topLiarSpec).preRow enc Tryz.prog Tryz.f10 Rows.topLiarRow.domain false Rows.topLiarRow.laid) (((OpenSpec.ofChange Rows.topLiarSpec).at G).post enc Tryz.prog Tryz.f10 false true false false):=by
 obtain ⟨places,hx⟩:=reads os enc
 refine returnsInHanded_of_row (C:=Tryz.checked) (s:=OpenSpec.ofChange Rows.topLiarSpec) own started (by kernel_rfl) Tryz.func10
  (witness_row_atRef (enc:=enc) (C:=Tryz.checked) false (laidWorld os) #[.agg #[.string ByteArray.empty,.int .i64 0,.int .i64 0],.agg En.zEn.row.toArray,.agg En.zEn.row.toArray] (World.laidAll_os _ _ _) (by kernel_rfl) (by kernel_rfl) (by kernel_rfl)
    (OpenSpec.preRow_of_cond 8 hx (by kernel_rfl) (fun k hk=>by cases hk) (by kernel_rfl) (laid_met os))) ?_
 intro W base args ds gs before hval hW _ _ hsz hL _ _
 exact contract H enc W base args ds gs before hval hW hsz hL
theorem said:Rows.TopLiarSaid :=
 OpenClaim.holds_of_cond 10 Tryz.f10 rfl rfl rfl rfl rfl rfl rfl ⟨rfl,rfl,rfl,rfl,rfl⟩ rfl rfl rfl rfl rfl (by kernel_rfl) Tryz.func10 (by kernel_rfl)
  (of_decide_eq_true (by kernel_rfl)) (by unfold Func.isWrapper;first|(rw [if_pos (by decide +kernel)];kernel_rfl)|(rw [if_neg (by decide +kernel)];exact ⟨rfl,rfl⟩))
  (fun os started H enc _ G=>by rw [OpenClaim.pre_eq_preRow];exact lifted os started H enc G)
theorem plain (f : FuncId) (fn : Func) (hf : Tryz.pinned.checked.prog.funcNamed "palaver/palavertop.TopLiar" = some f) (hfn : Tryz.pinned.checked.prog.funcs[f]? = some fn) :
 true=Tryz.pinned.checked.prog.looks []∧∀ (j:Nat) t,fn.params[j]?=some t→Tryz.pinned.checked.prog.wantsStandIn t=false:=by
 obtain rfl : f = 10 := Option.some.inj ((show Tryz.prog.funcNamed "palaver/palavertop.TopLiar" = some 10 by kernel_rfl).symm.trans hf) |>.symm
 obtain rfl:fn=Tryz.f10:=(Option.some.inj (Tryz.func10.symm.trans hfn)).symm
 refine ⟨by kernel_rfl,fun j t ht=>?_⟩
 rw [Tryz.params10] at ht
 have hm:t=23∨t=103∨t=103:=by simpa using Array.mem_of_getElem? ht
 rcases hm with rfl | rfl | rfl
 · exact (show Tryz.prog.wantsStandIn 23=false by kernel_rfl)
 · exact (show Tryz.prog.wantsStandIn 103=false by kernel_rfl)
 · exact (show Tryz.prog.wantsStandIn 103=false by kernel_rfl)
theorem proved:Rows.TopLiarCardSaid :=
 Claim7.holds_tied_plain_at .later [] _ _ _ _ said (fun _ h=>by cases h) (by kernel_rfl) (fun _ h=>by cases h) topLiar_row_tie rfl ⟨rfl,rfl⟩ (by kernel_rfl) rfl plain (by kernel_rfl)
end Go.Proofs.YtokakgjcegmabaaGreatDoor.topLiar
