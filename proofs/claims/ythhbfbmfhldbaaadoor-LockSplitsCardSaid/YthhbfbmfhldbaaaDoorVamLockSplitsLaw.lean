/-
  Proved: saron/saronlaw07.LockSplits returns true for any line and players, with no condition; the package-level table saron/lock.bounds is tied to the program's text. The functions are walked by a logic of trees over a machine of plain values (the texts Vam..), which is proved right; the chapter's examples ('played') are run by Lean's kernel; the shell is the guide's.
-/
import Derived.Test.YthhbfbmfhldbaaaDoorRows
import Derived.WalkKit
import Derived.ProofKit
import Derived.OpenShut
import Derived.LaidMore
import Derived.Stop.Joined
import Derived.SevenTiedAt
import Derived.Test.YthhbfbmfhldbaaaDoorCards
import Derived.Test.YthhbfbmfhldbaaaDoorTie
import Derived.Test.YthhbfbmfhldbaaaDoorVamIg
import Derived.ChangeOld
import Derived.Below
import Derived.Test.YthhbfbmfhldbaaaDoorVamT28
import Derived.Test.YthhbfbmfhldbaaaDoorVamAllKnown
namespace Go.Proofs.YthhbfbmfhldbaaaDoor.lockSplits
open Go.Proofs.YthhbfbmfhldbaaaDoor.locks
open Go.ChangeShapes Go.WideShapes Go.ChangeAt Go.RowKit
set_option linter.unusedVariables false
theorem own : ownKnob Tryd.prog.godebug = none := by kernel_rfl
theorem laidOut : laidOutB Tryd.prog = true := by kernel_rfl
theorem bodyW : ∃ br, Vam.bodyOf Tryd.prog 26 = some br := by
  cases h : Vam.bodyOf Tryd.prog 26 with
  | some br => exact ⟨br, rfl⟩
  | none => exact absurd h (by
      have : (Vam.bodyOf Tryd.prog 26).isSome = true := by kernel_rfl
      intro h; rw [h] at this; cases this)
theorem pureW : Vam.pureFn Tryd.prog 26 = true := by kernel_rfl
theorem allF : ∀ us, Vam.ShpAs Tryd.prog [24, 22] us → Vam.RetP Tryd.prog (fun f => Nat.beq f 26) (Vam.one 26 .nil [] (.bool true)) 3 us (.bool true) := by
  obtain ⟨br, hb⟩ := bodyW
  exact ret3_all (fun f h => Vam.beq_ne h) (Vam.ret_known hb pureW rfl rfl (fun _ => .bool _))
theorem knownW : Vam.KnownOk Tryd.prog (Vam.one 26 .nil [] (.bool true)) := Vam.one_ok (Vam.soundK (is := played.is1) played.mixed played.known1 1000000).2 (played.mixedStays true) played.played_run
theorem plainArgs : ([24, 22].all (Vam.plainT Tryd.prog 7)) = true := by kernel_rfl
theorem gBounds : Tryd.prog.globalNamed "saron/lock.bounds" = some 0 := by kernel_rfl
theorem tBounds : (Tryd.prog.globals[0]?).map (·.type) = some 100 := by kernel_rfl
def ps : List (Int × Int) := [(1, 16), (-1, 7), (0, 255), (1, 16), (0, 1), (0, 8), (0, 6)]
theorem gtab_only (g : Nat) (cs : Vam.V) (h : Vam.gtab g = some cs) : g = 0 ∧ cs = Vam.ofList (Vam.cellsS ps) := by
  cases g with
  | zero => exact ⟨rfl, (Option.some.inj h).symm⟩
  | succ g => cases h
theorem ginv (w : World) (hl : laidMet Tryd.prog [("saron/lock.bounds", Rows.laid_saron_lock_bounds)] w) : Vam.GInv (fun _ => none) Vam.H0 w :=
  Vam.ginv_spans (ps := ps) (n := 7) gtab_only gBounds tBounds Tryd.underlying100 Tryd.underlying99 rfl rfl rfl rfl Tryd.underlying3 (by kernel_rfl) (by kernel_rfl) (by kernel_rfl) rfl hl
theorem door_met (os : Os) (args : Array Value) : laidMetH Tryd.prog [("saron/lock.bounds", Rows.laid_saron_lock_bounds)] ((World.doorLaid Tryd.prog 400 os).forCall (fun _ _ => 0) ⟨#[], args, []⟩).memory :=
  laidMetH_of_parts3 (fuel := 8) (laidMet_of_run' 8 (by kernel_rfl) (by kernel_rfl)) (by kernel_rfl) (by kernel_rfl)
set_option maxRecDepth 100000 in
theorem lifted (os : Os) (started : os.Started) (H : Type) (enc : TypeId × Value → H) :
    ReturnsInHanded {} Tryd.checked os 3 .any (fun w args => (Rows.lockSplitsSpec.pre enc Tryd.prog Tryd.f3 [] false w args ∧ laidMetH Tryd.prog [("saron/lock.bounds", Rows.laid_saron_lock_bounds)] w) ∧ sizedMet enc Tryd.prog Tryd.f3 (OpenSpec.ofChange Rows.lockSplitsSpec) false w args)
      (Rows.lockSplitsSpec.post enc Tryd.prog Tryd.f3 false true false false) := by
  refine returnsInHanded_of_change_and (C := Tryd.checked) (X := fun w _ => laidMetH Tryd.prog [("saron/lock.bounds", Rows.laid_saron_lock_bounds)] w) (fun _ _ _ hh h => h.of_heap hh) own started (by kernel_rfl) Tryd.func3
    (ChangeSpec.witness_shaped (enc := enc) (C := Tryd.checked) (os := os) (X := fun w _ => laidMetH Tryd.prog [("saron/lock.bounds", Rows.laid_saron_lock_bounds)] w) false (World.doorLaid Tryd.prog 400 os) #[.agg #[.slice none 0 0, .int .i64 0, .int .i64 0, .int .i64 0], .slice none 0 0] 8 rfl (World.shaped_of_RefB (by kernel_rfl) (by kernel_rfl)) (by kernel_rfl) (by kernel_rfl) (by kernel_rfl) (door_met os _)) ?_
  intro W base args ds gs before hval0 hW _ _ hL _
  have hval : ∀ (j : Nat) t v, Tryd.f3.params[j]? = some t → args[j]? = some v → Value.okWide Tryd.prog W .any base t v := hval0
  have hW' := hW
  obtain ⟨p, q, hA0, hV, rfl, hfz, hnd⟩ := hW
  have hA : DataW.TrodAll enc Tryd.prog W 0 (fun _ => true) true Tryd.f3.params.toList args.toList ds p := hA0
  rw [Tryd.params3] at hA hval
  have hA1 := hA
  obtain ⟨v0, vs0, d0, ds0, p0, q0, hargs, rfl, rfl, h0, r0⟩ := trodAll_cons hA
  obtain ⟨v1, vs1, d1, ds1, p1, q1, rfl, rfl, rfl, h1, r1⟩ := trodAll_cons r0
  obtain ⟨rfl, rfl, rfl⟩ := trodAll_nil r1
  obtain rfl : args = #[v0, v1] := by cases args; simp_all
  obtain ⟨rfl, rfl⟩ := trodVars_none hV
  have k0 := h0
  have lt0 : ∀ x ∈ p0, x.block < W.heap.size := by obtain ⟨m, hm⟩ := k0; exact DataW.trod_lt m _ _ _ hm
  have k1 := h1
  have lt1 : ∀ x ∈ p1, x.block < W.heap.size := by obtain ⟨m, hm⟩ := k1; exact DataW.trod_lt m _ _ _ hm
  have hwalk := Vam.law_walk (P := Tryd.prog) (f := 3) (ts := [24, 22]) (w := W) (base := base) played.mixed knownW hA1 plainArgs (fun j t v g1 g2 => hval j t v (by simpa using g1) g2) allF (ginv W (by rw [MakeChecks.laidMetH_plain _ _ _ (by kernel_rfl)] at hL; exact hL))
  clear hA0 hval0
  refine hwalk.mono fun e W' ⟨he, bel⟩ => ?_
  subst he
  exact ⟨_, rfl, _, _, _, [], _, [], hW', trodAll_mk1 (shut_bool Tryd.underlying4 _), (trodAll_cons_mk (Below.trod laidOut (by kernel_rfl) (of_decide_eq_true (by kernel_rfl)) k0 bel lt0) (trodAll_cons_mk (Below.trod laidOut (by kernel_rfl) (of_decide_eq_true (by kernel_rfl)) k1 bel lt1) trodAll_mk0)), rfl, bel.frame _, fun h => by cases h⟩
theorem over : Rows.lockSplitsRow.holds Tryd.pinned (OpenSpec.ofChange Rows.lockSplitsSpec) :=
  OpenClaim.holds_of_wide 3 Tryd.f3 rfl rfl rfl rfl rfl rfl rfl ⟨rfl, rfl, rfl, rfl, rfl⟩ rfl rfl rfl rfl rfl (by kernel_rfl) Tryd.func3 (by kernel_rfl)
    (of_decide_eq_true (by kernel_rfl)) (by unfold Func.isWrapper; first | (rw [if_pos (by decide +kernel)]; kernel_rfl) | (rw [if_neg (by decide +kernel)]; exact ⟨rfl, rfl⟩))
    (fun os started H enc _ => lifted os started H enc)
theorem row_holds : Rows.LockSplitsSaid := over
open Go in
theorem proved : Rows.LockSplitsCardSaid :=
  Claim7.holds_tied_plain_at .later [] [.data] true (true, "294b6857c8153bc1b4fd56b35d256ff9b89632188ac90563f4eff2729bc91a43") false
    row_holds (fun _ h => by cases h) (by kernel_rfl) (fun _ h => by cases h) lockSplits_row_tie rfl ⟨rfl, rfl⟩ (by kernel_rfl) rfl
    (fun f fn hf hfn => by
      obtain rfl : f = 3 := Option.some.inj ((show Tryd.prog.funcNamed "saron/saronlaw07.LockSplits" = some 3 by kernel_rfl).symm.trans hf) |>.symm
      obtain rfl : fn = Tryd.f3 := (Option.some.inj (Tryd.func3.symm.trans hfn)).symm
      exact ⟨by kernel_rfl, fun j t ht => by
        rw [Tryd.params3] at ht
        match j, ht with
        | 0, ht =>
          obtain rfl : 24 = t := Option.some.inj (show some 24 = some t from ht)
          show Tryd.prog.wantsStandIn 24 = false
          kernel_rfl
        | 1, ht =>
          obtain rfl : 22 = t := Option.some.inj (show some 22 = some t from ht)
          show Tryd.prog.wantsStandIn 22 = false
          kernel_rfl
        | _ + 2, ht => simp at ht⟩)
    (by kernel_rfl)
#print axioms proved
end Go.Proofs.YthhbfbmfhldbaaaDoor.lockSplits
