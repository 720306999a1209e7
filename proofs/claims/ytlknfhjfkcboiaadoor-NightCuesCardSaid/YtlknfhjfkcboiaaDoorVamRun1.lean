import Derived.Test.YtlknfhjfkcboiaaDoorProg
import Derived.Test.YtlknfhjfkcboiaaDoorVamTab1
import Derived.KernelRfl
namespace Go.Proofs.YtlknfhjfkcboiaaDoor.works
open Vam
theorem q3run : runIsS q3R (putS q3S b3) (runOn Tryd.prog (runEvK Tryd.prog iL0 tL0 1000000) 63 q3A b3) = true := by kernel_rfl
theorem q4run : runIsS q4R (putS q4S b0) (runOn Tryd.prog (runEvK Tryd.prog iL0 tL0 1000000) 63 q4A b0) = true := by kernel_rfl
theorem q5run : runIsS q5R (putS q5S b4) (runOn Tryd.prog (runEvK Tryd.prog iL0 tL0 1000000) 63 q5A b4) = true := by kernel_rfl
theorem q6run : runIsS q6R (putS q6S b5) (runOn Tryd.prog (runEvK Tryd.prog iL0 tL0 1000000) 63 q6A b5) = true := by kernel_rfl
theorem q7run : runIsS q7R (putS q7S b6) (runOn Tryd.prog (runEvK Tryd.prog iL0 tL0 1000000) 63 q7A b6) = true := by kernel_rfl
end Go.Proofs.YtlknfhjfkcboiaaDoor.works
