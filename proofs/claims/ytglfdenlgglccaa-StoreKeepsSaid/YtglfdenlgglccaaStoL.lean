
/-
  StoreKeeps: acts among a law's arguments; the walk whole.
-/
import Derived.Test.YtglfdenlgglccaaStoK
import Derived.ProofKit
import Derived.OpenShut
import Derived.ShutString
import Derived.SliceStrings
import Derived.SizedLaws
import Derived.Deep.Slices
namespace Go.Proofs.Ytglfdenlgglccaa
set_option maxRecDepth 100000
set_option linter.unusedVariables false
set_option linter.unusedSimpArgs false
open Go.RowKit Go.ChangeShapes Go.WideShapes Go.ChangeAt

theorem addr_plus (b o i : Nat) : (⟨b, o, none⟩ : Addr).add i = ⟨b, o + i, none⟩ := by unfold Addr.add; split <;> simp_all
section
variable {H : Type} {enc : TypeId × Value → H} {w : World} {base : Nat} {held : Bool}
theorem open_acts {r : Reach} {b0 : Nat} {a : Option Addr} {len cap : Nat} {d : DataW H} {ps : List MemPlace} (hval : Value.okWide Try.prog w r b0 40 (.slice a len cap))
    (hd : DataW.Trod enc Try.prog w base (fun _ => true) held 40 (.slice a len cap) d ps) : ActsAt w (.slice a len cap) len := by
  have hu : Try.prog.underlying 40 = some (.slice 43) := Try.underlying40
  have he := Try.underlying43
  have hce : Try.prog.cellsOf 43 = 4 := by kernel_rfl
  have hci : Try.prog.cellsOf 3 = 1 := by kernel_rfl
  have hcs8 : Try.prog.cellsOf 5 = 1 := by kernel_rfl
  have hcstr : Try.prog.cellsOf 9 = 1 := by kernel_rfl
  obtain ⟨fuel, hf⟩ := hd
  rcases Go.Deep.open_slice hu hf with ⟨hcs, _⟩ | ⟨a', len', cap', m, n, D, Pl, hcs, _, hl, hm, hmm, hx, hel⟩
  · simp [Value.cells] at hcs
    obtain ⟨rfl, rfl, rfl⟩ := hcs
    exact .inl ⟨rfl, rfl⟩
  simp [Value.cells] at hcs
  obtain ⟨rfl, rfl, rfl⟩ := hcs
  have hmc : m = cap := by simpa using hmm
  subst hmc
  have hlive : a'.spot = none ∧ a'.block < w.heap.size := by
    simp only [Value.okWide, hu, Cell.okWide, Cell.ok] at hval
    obtain ⟨_, _, _, hsp, row, cells, hsh, _⟩ := hval
    refine ⟨hsp, ?_⟩
    unfold World.shape? at hsh
    split at hsh
    · rename_i h; exact (Array.getElem?_eq_some_iff.1 h).1
    · cases hsh
  obtain ⟨b, o, sp⟩ := a'
  obtain ⟨rfl, hb⟩ := hlive
  refine .inr ⟨b, o, _, rfl, hl, hb, fun i hi => ?_⟩
  obtain ⟨cs', hc, ht⟩ := hel i (by omega)
  rw [hce] at hc
  obtain ⟨_, hcl, hcg⟩ := World.cells?_some hc
  obtain ⟨ys, n', _, _, _, hyl, hfl⟩ := DataW.trod_struct he ht
  have g0 := hfl 0 _ rfl
  have g1 := hfl 1 _ rfl
  have g2 := hfl 2 _ rfl
  have g3 := hfl 3 _ rfl
  have hyl4 : ys.length = 4 := hyl
  rw [List.getElem?_eq_getElem (by omega)] at g0 g1 g2 g3
  obtain ⟨k, hk, _, _⟩ := DataW.trod_int Try.underlying3 g0
  obtain ⟨t, htx, _, _⟩ := DataW.trod_string Try.underlying9 g1
  obtain ⟨nn, hnn, _, _⟩ := DataW.trod_int Try.underlying3 g2
  obtain ⟨z, hz, _, hzw⟩ := DataW.trod_int Try.underlying5 g3
  have hzr : 0 ≤ z ∧ z < 256 := by simp [Lit.wf, IntKind.min, IntKind.max, IntKind.signed, IntKind.bits] at hzw; omega
  have c0 := hcg 0 (by omega)
  have c1 := hcg 1 (by omega)
  have c2 := hcg 2 (by omega)
  have c3 := hcg 3 (by omega)
  have e0 : cs'[0]? = some (.int .i64 k) := by have := congrArg (·[0]?) hk; simp [List.getElem?_take, List.getElem?_drop] at this; exact this.2
  have e1 : cs'[1]? = some (.string t) := by have := congrArg (·[0]?) htx; simp [List.getElem?_take, List.getElem?_drop] at this; exact this.2
  have e2 : cs'[2]? = some (.int .i64 nn) := by have := congrArg (·[0]?) hnn; simp [List.getElem?_take, List.getElem?_drop] at this; exact this.2
  have e3 : cs'[3]? = some (.int .u8 z) := by have := congrArg (·[0]?) hz; simp [List.getElem?_take, List.getElem?_drop] at this; exact this.2
  refine ⟨k, t, nn, UInt8.ofNat z.toNat, ?_, ?_, ?_, ?_⟩
  · rw [addr_plus, addr_plus, e0] at c0; exact c0
  · rw [addr_plus, addr_plus, e1] at c1; exact c1
  · rw [addr_plus, addr_plus, e2] at c2; exact c2
  · rw [addr_plus, addr_plus, e3] at c3
    rw [u8n _ (by omega), show ((z.toNat : Nat) : Int) = z from by omega]; exact c3
end

set_option maxHeartbeats 8000000 in
theorem walk_storeKeeps (w : World) (room : Int) (hroom : (Lit.int .i64 room).wf = true) (a : Option Addr) (len cap : Nat) (hl : ActsAt w (.slice a len cap) len) :
    Calls Try.prog 5 #[.int .i64 room, .slice a len cap] w fun e w' => e = .returned (.bool true) ∧ Below w.heap.size w w' := by
  have c0 := hidp lives10_any
  by_cases hr : 0 ≤ room ∧ room ≤ 1048576
  · obtain ⟨h0, h1⟩ := hr
    by_cases hlen : len ≤ 60
    · rcases hl with ⟨hv, hl0⟩ | ⟨B, o, c, hv, hlc, hB, ha⟩
      · simp only [Value.slice.injEq] at hv
        obtain ⟨rfl, rfl, rfl⟩ := hv
        clear hl0 hlen
        have c1 := hidp (fun W => new_ok W room h0 h1)
        go_enter Try.func5, Try.ntmps5
        go_wp2_with fail
        refine (c0.out _).mono ?_
        rintro e w1 ⟨rfl, hb1⟩
        have HB1 := hidp hb1; clear hb1
        go_wp2_with fail
        refine (c1.out _).mono ?_
        rintro e w2 ⟨rfl, hb2⟩
        have HB2 := hidp (HB1.out.trans (hb2.mono HB1.out.size)); clear hb2
        have hle2 := HB2.out.size
        go_wp2_with fail
        go_loop [46] (fun t46 => t46 = .int .i64 0) (fun _ => 0)
        case atStart => rfl
        case round =>
          subst hrel
          go_wp2_with fail
          go_ret
          exact ⟨rfl, HB2.out.alloc hle2 _⟩
      · simp only [Value.slice.injEq] at hv
        obtain ⟨rfl, -, rfl⟩ := hv
        exact sk_some w room h0 h1 B o cap len hlen hlc hB (hidp ha)
    · have c1 := hidp (fun W => new_ok W room h0 h1)
      have hd : decide ((60 : Int) < (len : Int)) = true := by simp; omega
      clear hl
      go_enter Try.func5, Try.ntmps5
      go_wp2_with fail
      refine (c0.out _).mono ?_
      rintro e w1 ⟨rfl, hb1⟩
      have HB1 := hidp hb1; clear hb1
      go_wp2_with fail
      refine (c1.out _).mono ?_
      rintro e w2 ⟨rfl, hb2⟩
      have HB2 := hidp (HB1.out.trans (hb2.mono HB1.out.size)); clear hb2
      have hle2 := HB2.out.size
      go_wp2_with fail
      go_ret
      exact ⟨rfl, HB2.out.alloc hle2 _⟩
  · have c1 := hidp (fun W => new_no W room (by omega))
    have q1 := fun W => eq_disk W ⟨#[]⟩ 0 0
    clear hl hr
    go_enter Try.func5, Try.ntmps5
    go_wp2_with fail
    refine (c0.out _).mono ?_
    rintro e w1 ⟨rfl, hb1⟩
    have HB1 := hidp hb1; clear hb1
    go_wp2_with fail
    refine (c1.out _).mono ?_
    rintro e w2 ⟨rfl, hb2⟩
    have HB2 := hidp (HB1.out.trans (hb2.mono HB1.out.size)); clear hb2
    have hle2 := HB2.out.size
    go_wp2_with fail
    go_ret
    exact ⟨rfl, HB2.out.alloc hle2 _⟩
end Go.Proofs.Ytglfdenlgglccaa
