/- Runs of the plain machine, by the kernel. -/
import Derived.Test.YthhbfbmfhldbaaaDoorProg
import Derived.Test.YthhbfbmfhldbaaaDoorVamTab1
import Derived.KernelRfl
namespace Go.Proofs.YthhbfbmfhldbaaaDoor.lockKnown
open Vam
theorem q9run : runIs q9R (runOn Tryd.prog (runEv Tryd.prog 1000000) 39 q9A q9B) = true := by kernel_rfl
theorem q10run : runIs q10R (runOn Tryd.prog (runEv Tryd.prog 1000000) 78 q10A q10B) = true := by kernel_rfl
theorem q11run : runIs q11R (runOn Tryd.prog (runEv Tryd.prog 1000000) 31 q11A q11B) = true := by kernel_rfl
end Go.Proofs.YthhbfbmfhldbaaaDoor.lockKnown
