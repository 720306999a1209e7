/- Runs of the plain machine, by the kernel. -/
import Derived.Test.YtoldkckmenjknaaGreatProg
import Derived.Test.YtoldkckmenjknaaGreatVamTab1
import Derived.KernelRfl
namespace Go.Proofs.YtoldkckmenjknaaGreat.works
open Vam
theorem q0run : runIs q0R (runOn Tryz.prog (runEv Tryz.prog 1000000) 35 q0A q0B) = true := by kernel_rfl
theorem q1run : runIs q1R (runOn Tryz.prog (runEv Tryz.prog 1000000) 35 q1A q1B) = true := by kernel_rfl
theorem q2run : runIs q2R (runOn Tryz.prog (runEv Tryz.prog 1000000) 35 q2A q2B) = true := by kernel_rfl
theorem q3run : runIs q3R (runOn Tryz.prog (runEv Tryz.prog 1000000) 35 q3A q3B) = true := by kernel_rfl
theorem q4run : runIs q4R (runOn Tryz.prog (runEv Tryz.prog 1000000) 35 q4A q4B) = true := by kernel_rfl
theorem q5run : runIs q5R (runOn Tryz.prog (runEv Tryz.prog 1000000) 35 q5A q5B) = true := by kernel_rfl
theorem q6run : runIs q6R (runOn Tryz.prog (runEv Tryz.prog 1000000) 35 q6A q6B) = true := by kernel_rfl
theorem q7run : runIs q7R (runOn Tryz.prog (runEv Tryz.prog 1000000) 35 q7A q7B) = true := by kernel_rfl
theorem q8run : runIs q8R (runOn Tryz.prog (runEv Tryz.prog 1000000) 35 q8A q8B) = true := by kernel_rfl
theorem q9run : runIs q9R (runOn Tryz.prog (runEv Tryz.prog 1000000) 35 q9A q9B) = true := by kernel_rfl
theorem q10run : runIs q10R (runOn Tryz.prog (runEv Tryz.prog 1000000) 35 q10A q10B) = true := by kernel_rfl
theorem q11run : runIs q11R (runOn Tryz.prog (runEv Tryz.prog 1000000) 35 q11A q11B) = true := by kernel_rfl
end Go.Proofs.YtoldkckmenjknaaGreat.works
