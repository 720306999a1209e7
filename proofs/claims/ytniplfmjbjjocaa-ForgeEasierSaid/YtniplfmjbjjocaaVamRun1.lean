/- Runs of the plain machine, by the kernel. -/
import Derived.Test.YtniplfmjbjjocaaProg
import Derived.Test.YtniplfmjbjjocaaVamTab1
import Derived.KernelRfl
namespace Go.Proofs.Ytniplfmjbjjocaa.works
open Vam
theorem q12run : runIs q12R (runOn Try.prog (runEv Try.prog 1000000) 45 q12A q12B) = true := by kernel_rfl
theorem q13run : runIs q13R (runOn Try.prog (runEv Try.prog 1000000) 45 q13A q13B) = true := by kernel_rfl
theorem q14run : runIs q14R (runOn Try.prog (runEv Try.prog 1000000) 45 q14A q14B) = true := by kernel_rfl
theorem q15run : runIs q15R (runOn Try.prog (runEv Try.prog 1000000) 45 q15A q15B) = true := by kernel_rfl
theorem q16run : runIs q16R (runOn Try.prog (runEv Try.prog 1000000) 45 q16A q16B) = true := by kernel_rfl
theorem q17run : runIs q17R (runOn Try.prog (runEv Try.prog 1000000) 45 q17A q17B) = true := by kernel_rfl
end Go.Proofs.Ytniplfmjbjjocaa.works
