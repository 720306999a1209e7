/- The plain machine (VamTrue): part of a proof by a machine of plain values that is proved right. -/
import Derived.Test.YtnkmhgojbinhkabVamOrc
namespace Vam
set_option linter.unusedVariables false
set_option linter.unusedSimpArgs false
open Go

/-- a run answers true -/
noncomputable def isTrue (r : R) : Bool := R.rec (motive := fun _ => Bool) false (fun v _ => onBool false (fun b => b) v) r
theorem isTrue_ok {r : R} (h : isTrue r = true) : ∃ H', r = .ok (.bool true) H' := by
  cases r with
  | no => cases h
  | ok v H =>
    have h : onBool false (fun b => b) v = true := h
    cases v with
    | bool b => cases b with
      | true => exact ⟨H, rfl⟩
      | false => cases h
    | _ => cases h

/-- what a run tells of a call without arguments -/
theorem known_of_run {P : Program} (hm : P.follows .mixedOrders = true) {f : FuncId} {n : Nat} (h : isTrue ((runEv P n).call f .nil H0) = true) : ∃ E H', SoundCall P E ∧ E.call f .nil H0 = .ok (.bool true) H' := by
  obtain ⟨H', h1⟩ := isTrue_ok h
  exact ⟨_, H', (sound hm n).1, h1⟩
theorem known_of_orc {P : Program} (hm : P.follows .mixedOrders = true) {orc : FuncId → Bool} (ho : KnownTrue P orc) {f : FuncId} {n : Nat} (h : isTrue ((runEvO P orc n).call f .nil H0) = true) : ∃ E H', SoundCall P E ∧ E.call f .nil H0 = .ok (.bool true) H' := by
  obtain ⟨H', h1⟩ := isTrue_ok h
  exact ⟨_, H', (soundO hm ho n).1, h1⟩
/-- one function whose call answers true -/
theorem known_one {P : Program} {g : FuncId} (h : ∃ E H', SoundCall P E ∧ E.call g .nil H0 = .ok (.bool true) H') : KnownTrue P (fun f => Nat.beq f g) := by
  intro f hf
  obtain rfl := beq_eq hf
  exact h
/-- the walk of a law without arguments -/
theorem walk_known {P : Program} {f : FuncId} (h : ∃ E H', SoundCall P E ∧ E.call f .nil H0 = .ok (.bool true) H') (w : World) : Calls P f #[] w fun e w' => e = .returned (.bool true) ∧ Go.RowKit.Grown w w' := by
  obtain ⟨E, H', h1, h2⟩ := h
  exact calls_true h1 h2 w
end Vam
