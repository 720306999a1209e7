/- Runs of the plain machine, by the kernel. -/
import Derived.Test.YtoldkckmenjknaaGreatProg
import Derived.Test.YtoldkckmenjknaaGreatVamTab1
import Derived.KernelRfl
namespace Go.Proofs.YtoldkckmenjknaaGreat.works
open Vam
theorem q12run : runIs q12R (runOn Tryz.prog (runEv Tryz.prog 1000000) 35 q12A q12B) = true := by kernel_rfl
theorem q13run : runIs q13R (runOn Tryz.prog (runEv Tryz.prog 1000000) 35 q13A q13B) = true := by kernel_rfl
theorem q14run : runIs q14R (runOn Tryz.prog (runEv Tryz.prog 1000000) 35 q14A q14B) = true := by kernel_rfl
theorem q15run : runIs q15R (runOn Tryz.prog (runEv Tryz.prog 1000000) 35 q15A q15B) = true := by kernel_rfl
theorem q16run : runIs q16R (runOn Tryz.prog (runEv Tryz.prog 1000000) 35 q16A q16B) = true := by kernel_rfl
theorem q17run : runIs q17R (runOn Tryz.prog (runEv Tryz.prog 1000000) 35 q17A q17B) = true := by kernel_rfl
end Go.Proofs.YtoldkckmenjknaaGreat.works
