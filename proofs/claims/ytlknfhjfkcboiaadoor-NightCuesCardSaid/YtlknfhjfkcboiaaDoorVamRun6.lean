import Derived.Test.YtlknfhjfkcboiaaDoorProg
import Derived.Test.YtlknfhjfkcboiaaDoorVamTab1
import Derived.KernelRfl
namespace Go.Proofs.YtlknfhjfkcboiaaDoor.works
open Vam
theorem q16run : runIsS q16R (putS q16S b7) (runOn Tryd.prog (runEvK Tryd.prog iL0 tL0 1000000) 70 q16A b7) = true := by kernel_rfl
theorem q17run : runIsS q17R (putS q17S b7) (runOn Tryd.prog (runEvK Tryd.prog iL0 tL0 1000000) 70 q17A b7) = true := by kernel_rfl
end Go.Proofs.YtlknfhjfkcboiaaDoor.works
