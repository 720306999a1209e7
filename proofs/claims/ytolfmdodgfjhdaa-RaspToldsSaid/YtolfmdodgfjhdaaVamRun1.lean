/- Runs of the plain machine, by the kernel. -/
import Derived.Test.YtolfmdodgfjhdaaProg
import Derived.Test.YtolfmdodgfjhdaaVamTab1
import Derived.KernelRfl
namespace Go.Proofs.Ytolfmdodgfjhdaa.filed
open Vam
theorem q3run : runIs q3R (runOn Try.prog (runEv Try.prog 1000000) 27 q3A q3B) = true := by kernel_rfl
theorem q4run : runIs q4R (runOn Try.prog (runEv Try.prog 1000000) 19 q4A q4B) = true := by kernel_rfl
end Go.Proofs.Ytolfmdodgfjhdaa.filed
