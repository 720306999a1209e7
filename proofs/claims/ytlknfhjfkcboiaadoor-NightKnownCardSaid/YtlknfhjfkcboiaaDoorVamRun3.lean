/- Runs of the plain machine, by the kernel. -/
import Derived.Test.YtlknfhjfkcboiaaDoorProg
import Derived.Test.YtlknfhjfkcboiaaDoorVamTab1
import Derived.KernelRfl
namespace Go.Proofs.YtlknfhjfkcboiaaDoor.nightKnown
open Vam
theorem q4run : runIsS q4R (putS q4S b0) (runOn Tryd.prog (runEvK Tryd.prog iL0 tL0 1000000) 63 q4A b0) = true := by kernel_rfl
theorem q5run : runIsS q5R (putS q5S b4) (runOn Tryd.prog (runEvK Tryd.prog iL0 tL0 1000000) 63 q5A b4) = true := by kernel_rfl
theorem q6run : runIsS q6R (putS q6S b5) (runOn Tryd.prog (runEvK Tryd.prog iL0 tL0 1000000) 63 q6A b5) = true := by kernel_rfl
end Go.Proofs.YtlknfhjfkcboiaaDoor.nightKnown
