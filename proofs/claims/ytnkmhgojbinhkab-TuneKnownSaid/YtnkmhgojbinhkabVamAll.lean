/- The plain machine (VamAll): part of a proof by a machine of plain values that is proved right. -/
import Derived.Test.YtnkmhgojbinhkabVamRange
namespace Vam
set_option linter.unusedVariables false
set_option linter.unusedSimpArgs false
open Go
variable {P : Program} {φ : Phi} {H H' : CH} {w : World} {v : V} {E : Ev}

/-- a call of a function on plain data -/
def SoundPure (P : Program) (E : Ev) : Prop := ∀ {f : FuncId} {args : V} {vs : List Value} {br : Nat × Code × List ResultVar} {φ : Phi} {H : CH} {w : World} {v : V} {H' : CH}, Rel P φ H w → LR φ args vs →
  bodyOf P f = some br → pureFn P f = true → pureCall P E f args H br = .ok v H' → Texted P f ∧ CallsIn Fence.wide 0 P f vs.toArray w (Back P φ H w v H')

/-- THE PLAIN MACHINE IS RIGHT, with what is fuel for it: up to open orders and calls on plain data. -/
theorem sound_all (hW : ∀ E, SoundCall P E → SoundCode P E → SoundDraw P E) (hP : ∀ E, SoundCode P E → SoundPure P E) : ∀ n, SoundCall P (runEv P n) ∧ SoundCode P (runEv P n) ∧ SoundLoop P (runEv P n) n := by
  intro n
  induction n with
  | zero =>
    refine ⟨?_, ?_, ?_⟩
    · intro f args vs φ H w v H' _ _ hr; cases (show R.no = .ok v H' from hr)
    · intro c tm ds ro fn H ex tm' ds' H' φ w a r _ _ _ _ _ hr; cases (show RC.no = .ok ex tm' ds' H' from hr)
    · intro c tm ds ro fn H ex tm' ds' H' φ w a r _ _ _ _ _ hr; cases (show RC.no = .ok ex tm' ds' H' from hr)
  | succ n ih =>
    obtain ⟨hC, hD, hL⟩ := ih
    have e : runEv P (n + 1) = stepEv P (runEv P n) := rfl
    rw [e]
    refine ⟨?_, step_code hC hD hL (hW _ hC hD) (fun h1 h2 h3 h4 h5 h6 => range_sound hC hD h1 h2 h3 h4 h5 h6), step_loop hD hL⟩
    intro f args vs φ H w v H' h ha hr
    obtain ⟨br, hb, hr1⟩ := opt_ok (show opt R.no (cond (pureFn P f) (pureCall P (runEv P n) f args H) (plainCall P (runEv P n) f args H)) (bodyOf P f) = .ok v H' from hr) R.ok_ne
    cases hp : pureFn P f with
    | true => rw [hp] at hr1; exact hP _ hD h ha hb hp hr1
    | false => rw [hp] at hr1; exact plain_sound hD h ha hb hr1

end Vam
