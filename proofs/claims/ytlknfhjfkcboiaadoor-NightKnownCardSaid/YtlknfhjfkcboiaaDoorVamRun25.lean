/- Runs of the plain machine, by the kernel. -/
import Derived.Test.YtlknfhjfkcboiaaDoorProg
import Derived.Test.YtlknfhjfkcboiaaDoorVamTab1
import Derived.KernelRfl
namespace Go.Proofs.YtlknfhjfkcboiaaDoor.nightKnown
open Vam
theorem q32run : runIsS q32R (putS q32S b17) (runOn Tryd.prog (runEvK Tryd.prog iL0 tL0 1000000) 63 q32A b17) = true := by kernel_rfl
theorem q33run : runIs q33R (runOn Tryd.prog (runEvK Tryd.prog iL0 tL0 1000000) 40 q33A b18) = true := by kernel_rfl
theorem q34run : runIsS q34R (putS q34S b7) (runOn Tryd.prog (runEvK Tryd.prog iL1 tL1 1000000) 63 q34A b7) = true := by kernel_rfl
theorem q35run : runIs q35R (runOn Tryd.prog (runEvK Tryd.prog iL1 tL1 1000000) 71 q35A b7) = true := by kernel_rfl
theorem q36run : runIs q36R (runOn Tryd.prog (runEvK Tryd.prog iL1 tL1 1000000) 46 q36A b7) = true := by kernel_rfl
theorem q37run : runIsS q37R (putS q37S b7) (runOn Tryd.prog (runEvK Tryd.prog iL2 tL2 1000000) 21 q37A b7) = true := by kernel_rfl
theorem q38run : runIsS q38R (putS q38S b19) (runOn Tryd.prog (runEvK Tryd.prog iL2 tL2 1000000) 67 q38A b19) = true := by kernel_rfl
theorem q39run : runIs q39R (runOn Tryd.prog (runEvK Tryd.prog iL2 tL2 1000000) 40 q39A b7) = true := by kernel_rfl
theorem q40run : runIsS q40R (putS q40S b20) (runOn Tryd.prog (runEvK Tryd.prog iL2 tL2 1000000) 67 q40A b20) = true := by kernel_rfl
theorem q41run : runIsS q41R (putS q41S b19) (runOn Tryd.prog (runEvK Tryd.prog iL3 tL3 1000000) 27 q41A b19) = true := by kernel_rfl
theorem q42run : runIsS q42R (putS q42S b20) (runOn Tryd.prog (runEvK Tryd.prog iL3 tL3 1000000) 27 q42A b20) = true := by kernel_rfl
end Go.Proofs.YtlknfhjfkcboiaaDoor.nightKnown
