/- Runs of the plain machine, by the kernel. -/
import Derived.Test.YthelocfjafigmabProg
import Derived.Test.YthelocfjafigmabVamTab1
import Derived.KernelRfl
namespace Go.Proofs.Ythelocfjafigmab.settleKnown
open Vam
theorem q7run : runIs q7R (runOn Try.prog (runEv Try.prog 1000000) 11 q7A q7B) = true := by kernel_rfl
theorem q8run : runIs q8R (runOn Try.prog (runEv Try.prog 1000000) 12 q8A q8B) = true := by kernel_rfl
theorem q9run : runIs q9R (runOn Try.prog (runEv Try.prog 1000000) 13 q9A q9B) = true := by kernel_rfl
theorem q10run : runIs q10R (runOn Try.prog (runEv Try.prog 1000000) 12 q10A q10B) = true := by kernel_rfl
theorem q11run : runIs q11R (runOn Try.prog (runEv Try.prog 1000000) 7 q11A q11B) = true := by kernel_rfl
theorem q12run : runIs q12R (runOn Try.prog (runEv Try.prog 1000000) 7 q12A q12B) = true := by kernel_rfl
theorem q13run : runIs q13R (runOn Try.prog (runEv Try.prog 1000000) 7 q13A q13B) = true := by kernel_rfl
end Go.Proofs.Ythelocfjafigmab.settleKnown
