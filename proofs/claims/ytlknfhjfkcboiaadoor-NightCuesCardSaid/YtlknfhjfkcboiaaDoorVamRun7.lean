import Derived.Test.YtlknfhjfkcboiaaDoorProg
import Derived.Test.YtlknfhjfkcboiaaDoorVamTab1
import Derived.KernelRfl
namespace Go.Proofs.YtlknfhjfkcboiaaDoor.works
open Vam
theorem q18run : runIsS q18R (putS q18S b7) (runOn Tryd.prog (runEvK Tryd.prog iL0 tL0 1000000) 70 q18A b7) = true := by kernel_rfl
theorem q19run : runIsS q19R (putS q19S b7) (runOn Tryd.prog (runEvK Tryd.prog iL1 tL1 1000000) 63 q19A b7) = true := by kernel_rfl
theorem q20run : runIs q20R (runOn Tryd.prog (runEvK Tryd.prog iL1 tL1 1000000) 71 q20A b7) = true := by kernel_rfl
theorem q21run : runIsS q21R (putS q21S b7) (runOn Tryd.prog (runEvK Tryd.prog iL2 tL2 1000000) 21 q21A b7) = true := by kernel_rfl
theorem q22run : runIsS q22R (putS q22S b8) (runOn Tryd.prog (runEvK Tryd.prog iL2 tL2 1000000) 67 q22A b8) = true := by kernel_rfl
theorem q23run : runIs q23R (runOn Tryd.prog (runEvK Tryd.prog iL2 tL2 1000000) 40 q23A b7) = true := by kernel_rfl
theorem q24run : runIsS q24R (putS q24S b8) (runOn Tryd.prog (runEvK Tryd.prog iL3 tL3 1000000) 27 q24A b8) = true := by kernel_rfl
end Go.Proofs.YtlknfhjfkcboiaaDoor.works
