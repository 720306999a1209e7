/- Runs of the plain machine, by the kernel. -/
import Derived.Test.YtlknfhjfkcboiaaDoorProg
import Derived.Test.YtlknfhjfkcboiaaDoorVamTab1
import Derived.KernelRfl
namespace Go.Proofs.YtlknfhjfkcboiaaDoor.nightKnown
open Vam
theorem q26run : runIsS q26R (putS q26S b12) (runOn Tryd.prog (runEvK Tryd.prog iL0 tL0 1000000) 63 q26A b12) = true := by kernel_rfl
end Go.Proofs.YtlknfhjfkcboiaaDoor.nightKnown
