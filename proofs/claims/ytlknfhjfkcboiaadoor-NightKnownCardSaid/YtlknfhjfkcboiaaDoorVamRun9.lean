/- Runs of the plain machine, by the kernel. -/
import Derived.Test.YtlknfhjfkcboiaaDoorProg
import Derived.Test.YtlknfhjfkcboiaaDoorVamTab1
import Derived.KernelRfl
namespace Go.Proofs.YtlknfhjfkcboiaaDoor.nightKnown
open Vam
theorem q12run : runIsS q12R (putS q12S b7) (runOn Tryd.prog (runEvK Tryd.prog iL0 tL0 1000000) 70 q12A b7) = true := by kernel_rfl
end Go.Proofs.YtlknfhjfkcboiaaDoor.nightKnown
