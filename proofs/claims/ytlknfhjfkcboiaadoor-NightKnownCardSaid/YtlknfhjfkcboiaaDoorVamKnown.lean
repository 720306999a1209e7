/-
  Proved: saron/saronlaw10.NightKnown (what is said of single books, a closed statement) returns true; the package-level table saron/night.bounds is tied to the program's text. The program's text is run on a machine of plain values (the texts Vam..), which is proved right, by Lean's kernel; the shell is the guide's.
-/
import Derived.Test.YtlknfhjfkcboiaaDoorRows
import Derived.WalkKit
import Derived.ProofKit
import Derived.OpenShut
import Derived.LaidMore
import Derived.Stop.Joined
import Derived.SevenTiedAt
import Derived.Test.YtlknfhjfkcboiaaDoorCards
import Derived.Test.YtlknfhjfkcboiaaDoorTie
import Derived.Test.YtlknfhjfkcboiaaDoorVamAllKnown
import Derived.Test.YtlknfhjfkcboiaaDoorVamIg
namespace Go.Proofs.YtlknfhjfkcboiaaDoor.nightKnown
open Go.ChangeShapes Go.WideShapes Go.ChangeAt Go.RowKit
set_option linter.unusedVariables false      -- a walk need not use every 'w<i>' (that an integer argument fits its kind)

theorem own : ownKnob Tryd.prog.godebug = none := by kernel_rfl

theorem gBounds : Tryd.prog.globalNamed "saron/night.bounds" = some 0 := by kernel_rfl
theorem tBounds : (Tryd.prog.globals[0]?).map (·.type) = some 100 := by kernel_rfl
def ps : List (Int × Int) := [(0, 2000), (1, 10), (0, 100), (0, 600), (0, 100000), (0, 8), (1, 500), (1, 12), (1, 100)]
theorem gtab_only (g : Nat) (cs : Vam.V) (h : Vam.gtab g = some cs) : g = 0 ∧ cs = Vam.ofList (Vam.cellsS ps) := by
  cases g with
  | zero => exact ⟨rfl, (Option.some.inj h).symm⟩
  | succ g => cases h
/-- what the table holds, in the heap of the run -/
theorem ginv (w : World) (hl : laidMet Tryd.prog [("saron/night.bounds", Rows.laid_saron_night_bounds)] w) : Vam.GInv (fun _ => none) Vam.H0 w :=
  Vam.ginv_spans (ps := ps) (n := 9) gtab_only gBounds tBounds Tryd.underlying100 Tryd.underlying48 rfl rfl rfl rfl Tryd.underlying3 (by kernel_rfl) (by kernel_rfl) (by kernel_rfl) rfl hl
/-! ### STEP 1: THE WALK -/
theorem walk (w : World) (hl : laidMetH Tryd.prog [("saron/night.bounds", Rows.laid_saron_night_bounds)] w) :
    Calls Tryd.prog 13 #[] w fun e w' => e = .returned (.bool true) ∧ Grown w w' := by
  rw [MakeChecks.laidMetH_plain _ _ _ (by kernel_rfl)] at hl
  exact Vam.walk_known all_known w (ginv w hl)
theorem door_met (os : Os) (args : Array Value) : laidMetH Tryd.prog [("saron/night.bounds", Rows.laid_saron_night_bounds)] ((World.doorLaid Tryd.prog 400 os).forCall (fun _ _ => 0) ⟨#[], args, []⟩).memory :=
  laidMetH_of_parts3 (fuel := 8) (laidMet_of_run' 8 (by kernel_rfl) (by kernel_rfl)) (by kernel_rfl) (by kernel_rfl)

/-! ### THE ROW's STEP: WRITTEN OUT: LEAVE IT -/
set_option maxRecDepth 100000 in
theorem lifted (os : Os) (started : os.Started) (H : Type) (enc : TypeId × Value → H) :
    ReturnsInHanded {} Tryd.checked os 13 .any (fun w args => (Rows.nightKnownSpec.pre enc Tryd.prog Tryd.f13 [] false w args ∧ laidMetH Tryd.prog [("saron/night.bounds", Rows.laid_saron_night_bounds)] w) ∧ sizedMet enc Tryd.prog Tryd.f13 (OpenSpec.ofChange Rows.nightKnownSpec) false w args)
      (Rows.nightKnownSpec.post enc Tryd.prog Tryd.f13 false true false false) := by
  refine returnsInHanded_of_change_and (C := Tryd.checked) (X := fun w _ => laidMetH Tryd.prog [("saron/night.bounds", Rows.laid_saron_night_bounds)] w) (fun _ _ _ hh h => h.of_heap hh) own started (by kernel_rfl) Tryd.func13
    (ChangeSpec.witness_shaped (enc := enc) (C := Tryd.checked) (os := os) (X := fun w _ => laidMetH Tryd.prog [("saron/night.bounds", Rows.laid_saron_night_bounds)] w) false (World.doorLaid Tryd.prog 400 os) #[] 8 rfl (World.shaped_of_RefB (by kernel_rfl) (by kernel_rfl)) (by kernel_rfl) (by kernel_rfl) (by kernel_rfl) (door_met os _)) ?_
  intro W base args ds gs before hval0 hW _ _ hL _
  have hval : ∀ (j : Nat) t v, Tryd.f13.params[j]? = some t → args[j]? = some v → Value.okWide Tryd.prog W .any base t v := hval0
  have hW' := hW
  obtain ⟨p, q, hA0, hV, rfl, hfz, hnd⟩ := hW
  have hA : DataW.TrodAll enc Tryd.prog W 0 (fun _ => true) true Tryd.f13.params.toList args.toList ds p := hA0
  rw [Tryd.params13] at hA hval
  obtain ⟨rfl, rfl, rfl⟩ := trodAll_none hA
  obtain ⟨rfl, rfl⟩ := trodVars_none hV
  clear hA0 hval0
  simp only [List.append_nil] at hW'
  refine (walk W hL).mono fun e W' ⟨he, hg⟩ => ?_
  subst he
  exact ⟨_, rfl, post_of_same (pa := []) (pv := []) hW' (fun _ _ _ => (trodAll_cons_mk (shut_bool Tryd.underlying4 _) trodAll_mk0)) (fun sp _ => rfl) (fun _ _ => rfl) rfl
    (hg.frame _) hg.2.1 (ok_one (by kernel_rfl) rfl (okWide_bool_mk Tryd.underlying4 _))⟩

theorem over : Rows.nightKnownRow.holds Tryd.pinned (OpenSpec.ofChange Rows.nightKnownSpec) :=
  OpenClaim.holds_of_wide 13 Tryd.f13 rfl rfl rfl rfl rfl rfl rfl ⟨rfl, rfl, rfl, rfl, rfl⟩ rfl rfl rfl rfl rfl (by kernel_rfl) Tryd.func13 (by kernel_rfl)
    (of_decide_eq_true (by kernel_rfl)) (by unfold Func.isWrapper; first | (rw [if_pos (by decide +kernel)]; kernel_rfl) | (rw [if_neg (by decide +kernel)]; exact ⟨rfl, rfl⟩))
    (fun os started H enc _ => lifted os started H enc)

theorem row_holds : Rows.NightKnownSaid := over
open Go in
/-- ████ THE STATEMENT: THE TIED CARD ████ -/
theorem proved : Rows.NightKnownCardSaid :=
  Claim7.holds_tied_plain_at .later [] [.data] true (true, "0597dacfd26a2d3aed9551b6c138d00af1881979d352592c278aeca749baff0f") false
    row_holds (fun _ h => by cases h) (by kernel_rfl) (fun _ h => by cases h) nightKnown_row_tie rfl ⟨rfl, rfl⟩ (by kernel_rfl) rfl
    (fun f fn hf hfn => by
      obtain rfl : f = 13 := Option.some.inj ((show Tryd.prog.funcNamed "saron/saronlaw10.NightKnown" = some 13 by kernel_rfl).symm.trans hf) |>.symm
      obtain rfl : fn = Tryd.f13 := (Option.some.inj (Tryd.func13.symm.trans hfn)).symm
      exact ⟨by kernel_rfl, fun j t ht => by
        rw [Tryd.params13] at ht
        simp at ht⟩)
    (by kernel_rfl)
#print axioms proved
end Go.Proofs.YtlknfhjfkcboiaaDoor.nightKnown
