import Derived.Test.YtlknfhjfkcboiaaDoorProg
import Derived.Test.YtlknfhjfkcboiaaDoorVamTab1
import Derived.KernelRfl
namespace Go.Proofs.YtlknfhjfkcboiaaDoor.works
open Vam
theorem q12run : runIsS q12R (putS q12S b7) (runOn Tryd.prog (runEvK Tryd.prog iL0 tL0 1000000) 70 q12A b7) = true := by kernel_rfl
theorem q13run : runIsS q13R (putS q13S b7) (runOn Tryd.prog (runEvK Tryd.prog iL0 tL0 1000000) 70 q13A b7) = true := by kernel_rfl
end Go.Proofs.YtlknfhjfkcboiaaDoor.works
