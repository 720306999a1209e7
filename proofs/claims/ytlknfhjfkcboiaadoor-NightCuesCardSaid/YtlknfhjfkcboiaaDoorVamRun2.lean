import Derived.Test.YtlknfhjfkcboiaaDoorProg
import Derived.Test.YtlknfhjfkcboiaaDoorVamTab1
import Derived.KernelRfl
namespace Go.Proofs.YtlknfhjfkcboiaaDoor.works
open Vam
theorem q8run : runIsS q8R (putS q8S b7) (runOn Tryd.prog (runEvK Tryd.prog iL0 tL0 1000000) 70 q8A b7) = true := by kernel_rfl
theorem q9run : runIs q9R (runOn Tryd.prog (runEvK Tryd.prog iL0 tL0 1000000) 70 q9A b7) = true := by kernel_rfl
end Go.Proofs.YtlknfhjfkcboiaaDoor.works
