/- Runs of the plain machine, by the kernel. -/
import Derived.Test.YtlknfhjfkcboiaaDoorProg
import Derived.Test.YtlknfhjfkcboiaaDoorVamTab1
import Derived.KernelRfl
namespace Go.Proofs.YtlknfhjfkcboiaaDoor.nightKnown
open Vam
theorem q27run : runIsS q27R (putS q27S b13) (runOn Tryd.prog (runEvK Tryd.prog iL0 tL0 1000000) 63 q27A b13) = true := by kernel_rfl
theorem q28run : runIsS q28R (putS q28S b11) (runOn Tryd.prog (runEvK Tryd.prog iL0 tL0 1000000) 63 q28A b11) = true := by kernel_rfl
end Go.Proofs.YtlknfhjfkcboiaaDoor.nightKnown
