import Derived.Test.YtokakgjcegmabaaGreatDoorLU2
import Derived.Test.YtokakgjcegmabaaGreatDoorLN
set_option linter.unusedVariables false
set_option linter.unusedSimpArgs false
set_option maxHeartbeats 64000000
set_option maxRecDepth 100000
namespace Go.Proofs.YtokakgjcegmabaaGreatDoor.Pf
open Go.RowKit Hd
open En (er eOk eE eT eE_yes eE_no esmV er_some)
open Ho (inE inV)
structure Pr where
 s:Int
 a:ByteArray
 sa:ByteArray
 b:ByteArray
 sb:ByteArray
def Pr.row (x:Pr):List Value:=[.int .i64 x.s,.string x.a,.string x.sa,.string x.b,.string x.sb]
def Pr.ok (x:Pr):Prop:=x.a.size≤140737488351232∧x.sa.size≤140737488351232∧x.b.size≤140737488351232∧x.sb.size≤140737488351232
def pOk (x:Pr):Bool:=decide (0≤x.s∧x.s≤63) && decide (x.a.size≤8192) && decide (x.sa.size≤8192) && decide (x.b.size≤8192) && decide (x.sb.size≤8192)
theorem pOk_iff {x:Pr}:pOk x=true↔(0≤x.s∧x.s≤63)∧x.a.size≤8192∧x.sa.size≤8192∧x.b.size≤8192∧x.sb.size≤8192:=by
 unfold pOk;simp only [Bool.and_eq_true,decide_eq_true_eq];exact ⟨fun ⟨⟨⟨⟨a,b⟩,c⟩,d⟩,e⟩=>⟨a,b,c,d,e⟩,fun ⟨a,b,c,d,e⟩=>⟨⟨⟨⟨a,b⟩,c⟩,d⟩,e⟩⟩
def says (t:ByteArray):Option Hd:=match er t with
 | some e=>some (jOf e)
 | none=>jr t
def syV (t:ByteArray):Hd:=(says t).getD zHd
def syE (t:ByteArray):Int:=if (says t).isSome=true then 0 else 6
theorem says_en {t:ByteArray} {e:En.En} (h:er t=some e):says t=some (jOf e):=by unfold says;rw [h]
theorem says_jr {t:ByteArray} (h:er t=none):says t=jr t:=by unfold says;rw [h]
theorem says_ok {t:ByteArray} {x:Hd} (h:says t=some x):x.p.length=32∧x.g=⟨#[]⟩:=by
 unfold says at h
 cases he:er t with
 | some e =>
   rw [he] at h
   cases h
   have hk:=(er_some he).1
   unfold jOf;rw [if_pos hk]
   exact ⟨esm_len e,rfl⟩
 | none=>rw [he] at h;obtain ⟨-,-,h1,h2⟩:=jr_some h;exact ⟨h2,h1⟩
theorem syV_len (t:ByteArray):(syV t).p.length=32:=by
 unfold syV
 cases h:says t with
 | some x=>exact (says_ok h).1
 | none=>rfl
def plc (p q:Hd):Bool:=(p.r.toList == q.r.toList) && decide (p.e=q.e) && decide (p.i=q.i)
def vfy (gs:List Gr) (x:Pr) (i:Int):Int:=if bvE gs x.s i x.a x.sa=0 then bvE gs x.s i x.b x.sb else bvE gs x.s i x.a x.sa
def ckE (gs:List Gr) (x:Pr):Int:=if pOk x=true then (if syE x.a=0∧syE x.b=0 then (if plc (syV x.a) (syV x.b)=true then (if (syV x.a).p=(syV x.b).p then 4 else vfy gs x (syV x.a).i) else 13) else 6) else 2
end Go.Proofs.YtokakgjcegmabaaGreatDoor.Pf
