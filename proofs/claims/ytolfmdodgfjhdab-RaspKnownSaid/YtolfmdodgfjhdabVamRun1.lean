/- Runs of the plain machine, by the kernel. -/
import Derived.Test.YtolfmdodgfjhdabProg
import Derived.Test.YtolfmdodgfjhdabVamTab1
import Derived.KernelRfl
namespace Go.Proofs.Ytolfmdodgfjhdab.raspKnown
open Vam
theorem q5run : runIs q5R (runOn Try.prog (runEv Try.prog 1000000) 12 q5A q5B) = true := by kernel_rfl
theorem q6run : runIs q6R (runOn Try.prog (runEv Try.prog 1000000) 11 q6A q6B) = true := by kernel_rfl
theorem q7run : runIs q7R (runOn Try.prog (runEv Try.prog 1000000) 6 q7A q7B) = true := by kernel_rfl
theorem q8run : runIs q8R (runOn Try.prog (runEv Try.prog 1000000) 7 q8A q8B) = true := by kernel_rfl
theorem q9run : runIs q9R (runOn Try.prog (runEv Try.prog 1000000) 10 q9A q9B) = true := by kernel_rfl
theorem q10run : runIs q10R (runOn Try.prog (runEv Try.prog 1000000) 11 q10A q10B) = true := by kernel_rfl
theorem q11run : runIs q11R (runOn Try.prog (runEv Try.prog 1000000) 6 q11A q11B) = true := by kernel_rfl
theorem q12run : runIs q12R (runOn Try.prog (runEv Try.prog 1000000) 7 q12A q12B) = true := by kernel_rfl
end Go.Proofs.Ytolfmdodgfjhdab.raspKnown
