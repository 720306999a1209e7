/- Runs of the plain machine, by the kernel. -/
import Derived.Test.YtniplfmjbjjocaaProg
import Derived.Test.YtniplfmjbjjocaaVamTab1
import Derived.KernelRfl
namespace Go.Proofs.Ytniplfmjbjjocaa.works
open Vam
theorem q0run : runIs q0R (runOn Try.prog (runEv Try.prog 1000000) 45 q0A q0B) = true := by kernel_rfl
theorem q1run : runIs q1R (runOn Try.prog (runEv Try.prog 1000000) 45 q1A q1B) = true := by kernel_rfl
theorem q2run : runIs q2R (runOn Try.prog (runEv Try.prog 1000000) 45 q2A q2B) = true := by kernel_rfl
theorem q3run : runIs q3R (runOn Try.prog (runEv Try.prog 1000000) 45 q3A q3B) = true := by kernel_rfl
theorem q4run : runIs q4R (runOn Try.prog (runEv Try.prog 1000000) 45 q4A q4B) = true := by kernel_rfl
theorem q5run : runIs q5R (runOn Try.prog (runEv Try.prog 1000000) 45 q5A q5B) = true := by kernel_rfl
theorem q6run : runIs q6R (runOn Try.prog (runEv Try.prog 1000000) 45 q6A q6B) = true := by kernel_rfl
theorem q7run : runIs q7R (runOn Try.prog (runEv Try.prog 1000000) 45 q7A q7B) = true := by kernel_rfl
theorem q8run : runIs q8R (runOn Try.prog (runEv Try.prog 1000000) 45 q8A q8B) = true := by kernel_rfl
theorem q9run : runIs q9R (runOn Try.prog (runEv Try.prog 1000000) 45 q9A q9B) = true := by kernel_rfl
theorem q10run : runIs q10R (runOn Try.prog (runEv Try.prog 1000000) 45 q10A q10B) = true := by kernel_rfl
theorem q11run : runIs q11R (runOn Try.prog (runEv Try.prog 1000000) 45 q11A q11B) = true := by kernel_rfl
end Go.Proofs.Ytniplfmjbjjocaa.works
