/- Runs of the plain machine, by the kernel. -/
import Derived.Test.YtlknfhjfkcboiaaDoorProg
import Derived.Test.YtlknfhjfkcboiaaDoorVamTab1
import Derived.KernelRfl
namespace Go.Proofs.YtlknfhjfkcboiaaDoor.nightKnown
open Vam
theorem q22run : runIs q22R (runOn Tryd.prog (runEvK Tryd.prog iL0 tL0 1000000) 25 q22A b10) = true := by kernel_rfl
theorem q23run : runIs q23R (runOn Tryd.prog (runEvK Tryd.prog iL0 tL0 1000000) 42 q23A b7) = true := by kernel_rfl
end Go.Proofs.YtlknfhjfkcboiaaDoor.nightKnown
