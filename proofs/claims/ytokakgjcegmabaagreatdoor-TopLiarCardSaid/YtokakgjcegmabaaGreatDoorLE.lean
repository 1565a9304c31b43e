import Derived.Test.YtokakgjcegmabaaGreatDoorLD
import Derived.Lib.ConvBytes
import Derived.ArgAppend
import Derived.Deep.RegionHeld3
set_option linter.unusedVariables false
set_option linter.unusedSimpArgs false
set_option maxHeartbeats 64000000
set_option maxRecDepth 100000
namespace Go.Proofs.YtokakgjcegmabaaGreatDoor
section
open Go.RowKit
end
section
open Go.RowKit
def unL (l:List UInt8):List UInt8:=(List.range 32).map fun i=>UInt8.ofNat (16 * digH (l.getD (2 * i) 0) + digH (l.getD (2 * i + 1) 0))
def unP (l:List UInt8) (i:Nat):List UInt8:=(unL l).take i++List.replicate (32 - i) 0
theorem hash_size {l:List UInt8} (h:l.length=32):(Tryz.prog.info? 58).map (·.size)=some (u8s l).toArray.size:=by
 rw [show (Tryz.prog.info? 58).map (·.size)=some 32 from by kernel_rfl];simp [u8s_length,h]
def UH (w:World) (l:List UInt8) (t14:Value) (wr:World):Prop :=
 ∃ i:Nat,t14=.int .i64 (i:Int)∧i≤32∧Arr wr (w.heap.size + 1) 58 (u8s (unP l i))∧Arr wr w.heap.size 58 (u8s z32)∧(∀ j,j<2 * i→digH (l.getD j 0)<16)∧Below w.heap.size w wr
end
section
open Go.RowKit
end
section
open Go.RowKit
end
section
open Go.RowKit
end
section
open Go.RowKit
end
section
open Go.RowKit
def OwnB (w:World) (B e:Nat) (v:Value) (l:List UInt8):Prop :=
 ∃ g cap cur fz,v=.slice (some ⟨g,0,none⟩) l.length cap∧B≤g∧w.heap[g]?=some (.cells cur e fz)∧(fz=(0,0)∨cap≤fz.1)∧l.length≤cap∧cap≤maxLen∧cur.size=cap∧cur.toList.take l.length=bv l
end
section
open Go.RowKit
def RS (w:World) (g kb:Nat) (F:List UInt8) (v:S8) (wr:World):Prop :=
 Arr wr (w.heap.size + 1) 234 (u32s v.list)∧Arr wr kb 247 (u32s kk)∧Arr wr w.heap.size 58 (u8s z32)∧AtB wr ⟨g,0,none⟩ F∧g<wr.heap.size∧w.heap.size + 1<g∧w.heap.size + 1<kb∧Below w.heap.size w wr
end
section
open Go.RowKit
end
section
open Go.RowKit
def RT (w:World) (g kb:Nat) (F:List UInt8) (vs:List Nat) (wr:World):Prop :=
 Arr wr (w.heap.size + 1) 234 (u32s vs)∧Arr wr kb 247 (u32s kk)∧Arr wr w.heap.size 58 (u8s z32)∧AtB wr ⟨g,0,none⟩ F∧g<wr.heap.size∧w.heap.size + 1<g∧w.heap.size + 1<kb∧Below w.heap.size w wr
end
section
open Go.RowKit
end
section
open Go.RowKit
end
section
open Go.RowKit
theorem eqin_hash (W:World) (a b:List UInt8) (ha:a.length=32) (hb:b.length=32) :
 (Op.equalIn 10000 58 (.agg (u8s a).toArray) (.agg (u8s b).toArray)).run Tryz.prog W=.ok (decide (a=b)) W:=by
 obtain ⟨i0,hi,hz0,hz1,hz2⟩:=info_parts info5
 have hu:Tryz.prog.underlying 58=some (.array 32 5):=by kernel_rfl
 have hu8:Tryz.prog.underlying 5=some (.int .u8):=Tryz.underlying5
 have hsz:∀ W,(sizeOf 5).run Tryz.prog W=.ok 1 W:=by intro W;simp [sizeOf,typeInfo,hi,hz1]
 have hpart:∀ (l:List UInt8) (i:Nat) (W:World),l.length=32→i<32→(part 5 (u8s l).toArray (i * 1)).run Tryz.prog W=.ok (.int .u8 ((l.getD i 0).toNat:Int)) W:=by
  intro l i W hl hlt
  simp [part,sizeOf,typeInfo,hi,hz0,hz1,hz2,hl,hlt,u8s,List.getD_eq_getElem?_getD]
 have hdec:decide (a=b)=(List.range' 0 32).all (fun i=>a.getD i 0 == b.getD i 0):=by
  rw [Bool.eq_iff_iff,decide_eq_true_iff,List.all_eq_true]
  constructor
  · rintro rfl i _;simp
  · intro h
    apply List.ext_getElem (by omega)
    intro i h1 h2
    have:=h i (by simp [List.mem_range'];omega)
    simpa [List.getD_eq_getElem?_getD,h1,h2] using this
 rw [hdec]
 unfold Op.equalIn
 simp only [Sem.run_bind,run_underlying hu,Result.andThen_ok,hsz]
 rw [Std.Legacy.Range.forIn_eq_forIn_range']
 have hall:∀ i ∈ List.range' 0 32,i<32:=by intro i h;simp [List.mem_range'] at h;omega
 show ((Sem.run Tryz.prog (forIn (List.range' 0 32) _ _) W).andThen _)=_
 generalize List.range' 0 32=is at hall ⊢
 induction is generalizing W with
 | nil=>simp
 | cons i is ih =>
   have hi32:=hall i (by simp)
   have ih:=ih W (fun j hj=>hall j (by simp [hj]))
   simp only [List.forIn_cons,Sem.run_bind,hpart a i _ ha hi32,hpart b i _ hb hi32,Result.andThen_ok,run_equalIn_int _ _ _ _ _ _ _ hu8,Sem.run_ite,List.all_cons]
   have hbeq:(((a.getD i 0).toNat:Int) == ((b.getD i 0).toNat:Int))=(a.getD i 0 == b.getD i 0):=by
    rw [Bool.eq_iff_iff,beq_iff_eq,beq_iff_eq,← UInt8.toNat_inj];omega
   rw [hbeq]
   cases a.getD i 0 == b.getD i 0
   · simp
   · simpa using ih
theorem neq_hash (W:World) (a b:List UInt8) (ha:a.length=32) (hb:b.length=32) :
 (binOp .neq 58 (.agg (u8s a).toArray) (.agg (u8s b).toArray)).run Tryz.prog W=.ok (.bool (!decide (a=b))) W:=by
 rw [run_neq_struct,eqin_hash W a b ha hb];rfl
end
section
open Go.RowKit
section
variable {P:Program} {ops:Array Oper} {C:World→Prop} {Q:Act→Prop} {a:Act} {o:Oper} {rest:List Oper}
end
theorem Cls.kt {N:Nat} {W w:World} (h:Cls N W w) (hK:KT W) (hN:2<N):KT w:=hK.below h hN
end
section
open Go.RowKit
end
section
open Go.RowKit
end
end Go.Proofs.YtokakgjcegmabaaGreatDoor
