import Derived.Test.YtlknfhjfkcboiaaDoorProg
import Derived.Test.YtlknfhjfkcboiaaDoorVamTab1
import Derived.KernelRfl
namespace Go.Proofs.YtlknfhjfkcboiaaDoor.works
open Vam
theorem q0run : runIsS q0R (putS q0S b0) (runOn Tryd.prog (runEvK Tryd.prog iL0 tL0 1000000) 25 q0A b0) = true := by kernel_rfl
theorem q1run : runIsS q1R (putS q1S b1) (runOn Tryd.prog (runEvK Tryd.prog iL0 tL0 1000000) 63 q1A b1) = true := by kernel_rfl
theorem q2run : runIsS q2R (putS q2S b2) (runOn Tryd.prog (runEvK Tryd.prog iL0 tL0 1000000) 63 q2A b2) = true := by kernel_rfl
end Go.Proofs.YtlknfhjfkcboiaaDoor.works
