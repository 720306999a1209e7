/- The plain machine (VamTop): part of a proof by a machine of plain values that is proved right. -/
import Derived.Test.YtnkmhgojbinhkabVamCold
import Derived.RowKit3
namespace Vam
set_option linter.unusedVariables false
set_option linter.unusedSimpArgs false
open Go
variable {P : Program} {φ : Phi} {H H' : CH} {w : World} {v : V} {E : Ev}

theorem rel_start (P : Program) (w : World) : Rel P (fun _ => none) H0 w :=
  ⟨.inr rfl, fun b k h => (by cases h), fun b k h => (by cases h), fun b c l k x y h => (by cases h)⟩

theorem Grown.of_ext {ψ : Phi} {K : CH} {w' : World} (h : Ext (fun _ => none) H0 w ψ K w') : Go.RowKit.Grown w w' := by
  have hs : ∀ r, r < w.heap.size → w'.heap[r]? = w.heap[r]? := fun r hr => h.frame r hr (fun b k hb => by cases hb)
  refine ⟨⟨h.os, h.output, fun i hi => ?_⟩, h.fro, h.size⟩
  rw [hs i hi]
  have := (Go.World.keptBut_refl w (fun _ => False)).2.2 i hi
  exact this

/-- A CALL WITHOUT ARGUMENTS, out of a run of the plain machine. -/
theorem calls_of_run (hS : SoundCall P E) {f : FuncId} (hr : E.call f .nil H0 = .ok v H') (w : World) :
    Calls P f #[] w fun e w' => ∃ x φ', e = .returned x ∧ VR φ' v x ∧ Go.RowKit.Grown w w' := by
  obtain ⟨_, h⟩ := hS (rel_start P w) (vs := []) .nil hr
  refine callsIn_wide.1 (h.mono ?_)
  rintro e w' ⟨x, φ', rfl, h1, h2, h3⟩
  exact ⟨x, φ', rfl, h3, Grown.of_ext h2⟩

/-- and it answers true -/
theorem calls_true (hS : SoundCall P E) {f : FuncId} (hr : E.call f .nil H0 = .ok (.bool true) H') (w : World) :
    Calls P f #[] w fun e w' => e = .returned (.bool true) ∧ Go.RowKit.Grown w w' := by
  refine (calls_of_run hS hr w).mono ?_
  rintro e w' ⟨x, φ', rfl, h1, h2⟩
  cases h1
  exact ⟨rfl, h2⟩
end Vam
