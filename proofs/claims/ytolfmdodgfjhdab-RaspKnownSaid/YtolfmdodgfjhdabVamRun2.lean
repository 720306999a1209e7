/- Runs of the plain machine, by the kernel. -/
import Derived.Test.YtolfmdodgfjhdabProg
import Derived.Test.YtolfmdodgfjhdabVamTab1
import Derived.KernelRfl
namespace Go.Proofs.Ytolfmdodgfjhdab.raspKnown
open Vam
theorem q13run : runIs q13R (runOn Try.prog (runEv Try.prog 1000000) 10 q13A q13B) = true := by kernel_rfl
theorem q14run : runIs q14R (runOn Try.prog (runEv Try.prog 1000000) 9 q14A q14B) = true := by kernel_rfl
theorem q15run : runIs q15R (runOn Try.prog (runEv Try.prog 1000000) 11 q15A q15B) = true := by kernel_rfl
end Go.Proofs.Ytolfmdodgfjhdab.raspKnown
