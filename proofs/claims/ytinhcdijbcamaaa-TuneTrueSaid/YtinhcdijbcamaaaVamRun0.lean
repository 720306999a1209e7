import Derived.Test.YtinhcdijbcamaaaProg
import Derived.Test.YtinhcdijbcamaaaVamTab1
import Derived.KernelRfl
namespace Go.Proofs.Ytinhcdijbcamaaa.played
open Vam
theorem q0run : runIs q0R (runOn Try.prog (runEv Try.prog 1000000) 17 q0A q0B) = true := by kernel_rfl
theorem q1run : runIs q1R (runOn Try.prog (runEv Try.prog 1000000) 65 q1A q1B) = true := by kernel_rfl
theorem q2run : runIs q2R (runOn Try.prog (runEv Try.prog 1000000) 70 q2A q2B) = true := by kernel_rfl
end Go.Proofs.Ytinhcdijbcamaaa.played
