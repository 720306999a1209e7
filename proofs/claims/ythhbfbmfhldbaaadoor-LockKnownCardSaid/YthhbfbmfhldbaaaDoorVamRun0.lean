/- Runs of the plain machine, by the kernel. -/
import Derived.Test.YthhbfbmfhldbaaaDoorProg
import Derived.Test.YthhbfbmfhldbaaaDoorVamTab1
import Derived.KernelRfl
namespace Go.Proofs.YthhbfbmfhldbaaaDoor.lockKnown
open Vam
theorem q0run : runIs q0R (runOn Tryd.prog (runEv Tryd.prog 1000000) 36 q0A q0B) = true := by kernel_rfl
theorem q1run : runIs q1R (runOn Tryd.prog (runEv Tryd.prog 1000000) 27 q1A q1B) = true := by kernel_rfl
theorem q2run : runIs q2R (runOn Tryd.prog (runEv Tryd.prog 1000000) 29 q2A q2B) = true := by kernel_rfl
theorem q3run : runIs q3R (runOn Tryd.prog (runEv Tryd.prog 1000000) 31 q3A q3B) = true := by kernel_rfl
theorem q4run : runIs q4R (runOn Tryd.prog (runEv Tryd.prog 1000000) 78 q4A q4B) = true := by kernel_rfl
theorem q5run : runIs q5R (runOn Tryd.prog (runEv Tryd.prog 1000000) 78 q5A q5B) = true := by kernel_rfl
theorem q6run : runIs q6R (runOn Tryd.prog (runEv Tryd.prog 1000000) 19 q6A q6B) = true := by kernel_rfl
theorem q7run : runIs q7R (runOn Tryd.prog (runEv Tryd.prog 1000000) 63 q7A q7B) = true := by kernel_rfl
theorem q8run : runIs q8R (runOn Tryd.prog (runEv Tryd.prog 1000000) 61 q8A q8B) = true := by kernel_rfl
end Go.Proofs.YthhbfbmfhldbaaaDoor.lockKnown
