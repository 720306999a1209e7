import Derived.Test.YtlknfhjfkcboiaaDoorProg
import Derived.Test.YtlknfhjfkcboiaaDoorVamTab1
import Derived.KernelRfl
namespace Go.Proofs.YtlknfhjfkcboiaaDoor.works
open Vam
theorem q10run : runIs q10R (runOn Tryd.prog (runEvK Tryd.prog iL0 tL0 1000000) 70 q10A b7) = true := by kernel_rfl
theorem q11run : runIs q11R (runOn Tryd.prog (runEvK Tryd.prog iL0 tL0 1000000) 70 q11A b7) = true := by kernel_rfl
end Go.Proofs.YtlknfhjfkcboiaaDoor.works
