import Derived.Test.YtlknfhjfkcboiaaDoorProg
import Derived.Test.YtlknfhjfkcboiaaDoorVamTab1
import Derived.KernelRfl
namespace Go.Proofs.YtlknfhjfkcboiaaDoor.works
open Vam
theorem q14run : runIsS q14R (putS q14S b7) (runOn Tryd.prog (runEvK Tryd.prog iL0 tL0 1000000) 70 q14A b7) = true := by kernel_rfl
theorem q15run : runIsS q15R (putS q15S b7) (runOn Tryd.prog (runEvK Tryd.prog iL0 tL0 1000000) 70 q15A b7) = true := by kernel_rfl
end Go.Proofs.YtlknfhjfkcboiaaDoor.works
