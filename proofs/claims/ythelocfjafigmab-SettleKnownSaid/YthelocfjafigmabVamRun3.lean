/- Runs of the plain machine, by the kernel. -/
import Derived.Test.YthelocfjafigmabProg
import Derived.Test.YthelocfjafigmabVamTab1
import Derived.KernelRfl
namespace Go.Proofs.Ythelocfjafigmab.settleKnown
open Vam
theorem q21run : runIs q21R (runOn Try.prog (runEv Try.prog 1000000) 6 q21A q21B) = true := by kernel_rfl
theorem q22run : runIs q22R (runOn Try.prog (runEv Try.prog 1000000) 11 q22A q22B) = true := by kernel_rfl
theorem q23run : runIs q23R (runOn Try.prog (runEv Try.prog 1000000) 13 q23A q23B) = true := by kernel_rfl
end Go.Proofs.Ythelocfjafigmab.settleKnown
