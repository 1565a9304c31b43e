import Derived.Test.YtokakgjcegmabaaGreatDoorJX
import Derived.Test.YtokakgjcegmabaaGreatDoorJR2
import Derived.Test.YtokakgjcegmabaaGreatDoorJM
import Derived.Test.YtokakgjcegmabaaGreatDoorJN
set_option linter.unusedVariables false
set_option linter.unusedSimpArgs false
set_option maxHeartbeats 64000000
set_option maxRecDepth 100000
namespace Go.Proofs.YtokakgjcegmabaaGreatDoor.En
open Go.RowKit
open List (getElem_toArray getElem_cons_zero getElem_cons_succ setIfInBounds_toArray set_cons_zero set_cons_succ)
open Ho (ringR)
theorem rtDR : Rt.RT Tryz.prog 39 4 [.string ⟨#[]⟩, .int .i64 0, .int .i64 0, .slice none 0 0] := ⟨rfl, .inl ⟨_, Tryz.underlying39⟩, by kernel_rfl⟩
theorem run_ldRow {P : Program} {T k : Nat} {z : List Value} (R : Rt.RT P T k z) (w : World) (b : Nat) (xs : List Value) (ha : Arr w b T xs) (hl : xs.length = k) : (loadVar T ⟨b, 0, none⟩).run P w = .ok (.agg xs.toArray) w := by
 rcases R.ut with ⟨fs, hu⟩ | ⟨n, e, hu⟩
 · exact run_loadVar_row (P := P) w b T T xs.toArray (0, 0) _ ha hu rfl (R.size hl)
 · exact run_loadVar_row (P := P) w b T T xs.toArray (0, 0) _ ha hu rfl (R.size hl)
theorem ret_rrv {P : Program} {w : World} {T k U l : Nat} {z y : List Value} (R : Rt.RT P T k z) (R' : Rt.RT P U l y) {fn : Func} {p q u : Tmp} (hr : fn.results = #[.cell p T, .cell q U, .tmp u]) (tmps : Array Value) (b c : Nat) (xs ys : List Value) (v : Value) (hp : tmps.getD p undef = .pointer (some ⟨b, 0, none⟩)) (hq : tmps.getD q undef = .pointer (some ⟨c, 0, none⟩)) (hv : tmps.getD u undef = v)
 (ha : Arr w b T xs) (hl : xs.length = k) (hc : Arr w c U ys) (hm : ys.length = l) : (results fn tmps).run P w = .ok (.tuple #[.agg xs.toArray, .agg ys.toArray, v]) w := by
 have hp' : tmps[p]?.getD undef = .pointer (some ⟨b, 0, none⟩) := by simpa using hp
 have hq' : tmps[q]?.getD undef = .pointer (some ⟨c, 0, none⟩) := by simpa using hq
 have hv' : tmps[u]?.getD undef = v := by simpa using hv
 simp [results, hr, hp', hq', hv', asAddr, run_ldRow R w b xs ha hl, run_ldRow R' w c ys hc hm]
theorem hat_below {w w' : World} {v : Value} {L : List (List UInt8)} (h : HsAt w v L) (hb : Below w.heap.size w w') : HsAt w' v L := h.below hb (Nat.le_refl _) hb.size
end Go.Proofs.YtokakgjcegmabaaGreatDoor.En
