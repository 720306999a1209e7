/- Runs of the plain machine, by the kernel. -/
import Derived.Test.YthelocfjafigmabProg
import Derived.Test.YthelocfjafigmabVamTab1
import Derived.KernelRfl
namespace Go.Proofs.Ythelocfjafigmab.settleKnown
open Vam
theorem q0run : runIs q0R (runOn Try.prog (runEv Try.prog 1000000) 11 q0A q0B) = true := by kernel_rfl
theorem q1run : runIs q1R (runOn Try.prog (runEv Try.prog 1000000) 11 q1A q1B) = true := by kernel_rfl
theorem q2run : runIs q2R (runOn Try.prog (runEv Try.prog 1000000) 11 q2A q2B) = true := by kernel_rfl
theorem q3run : runIs q3R (runOn Try.prog (runEv Try.prog 1000000) 11 q3A q3B) = true := by kernel_rfl
theorem q4run : runIs q4R (runOn Try.prog (runEv Try.prog 1000000) 11 q4A q4B) = true := by kernel_rfl
theorem q5run : runIs q5R (runOn Try.prog (runEv Try.prog 1000000) 7 q5A q5B) = true := by kernel_rfl
theorem q6run : runIs q6R (runOn Try.prog (runEv Try.prog 1000000) 10 q6A q6B) = true := by kernel_rfl
end Go.Proofs.Ythelocfjafigmab.settleKnown
