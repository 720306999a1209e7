/- Runs of the plain machine, by the kernel. -/
import Derived.Test.YtlknfhjfkcboiaaDoorProg
import Derived.Test.YtlknfhjfkcboiaaDoorVamTab1
import Derived.KernelRfl
namespace Go.Proofs.YtlknfhjfkcboiaaDoor.nightKnown
open Vam
theorem q2run : runIsS q2R (putS q2S b2) (runOn Tryd.prog (runEvK Tryd.prog iL0 tL0 1000000) 63 q2A b2) = true := by kernel_rfl
theorem q3run : runIsS q3R (putS q3S b3) (runOn Tryd.prog (runEvK Tryd.prog iL0 tL0 1000000) 63 q3A b3) = true := by kernel_rfl
end Go.Proofs.YtlknfhjfkcboiaaDoor.nightKnown
