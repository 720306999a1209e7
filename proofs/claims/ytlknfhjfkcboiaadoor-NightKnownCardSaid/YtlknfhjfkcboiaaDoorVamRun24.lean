/- Runs of the plain machine, by the kernel. -/
import Derived.Test.YtlknfhjfkcboiaaDoorProg
import Derived.Test.YtlknfhjfkcboiaaDoorVamTab1
import Derived.KernelRfl
namespace Go.Proofs.YtlknfhjfkcboiaaDoor.nightKnown
open Vam
theorem q29run : runIsS q29R (putS q29S b14) (runOn Tryd.prog (runEvK Tryd.prog iL0 tL0 1000000) 63 q29A b14) = true := by kernel_rfl
theorem q30run : runIsS q30R (putS q30S b15) (runOn Tryd.prog (runEvK Tryd.prog iL0 tL0 1000000) 63 q30A b15) = true := by kernel_rfl
theorem q31run : runIsS q31R (putS q31S b16) (runOn Tryd.prog (runEvK Tryd.prog iL0 tL0 1000000) 63 q31A b16) = true := by kernel_rfl
end Go.Proofs.YtlknfhjfkcboiaaDoor.nightKnown
