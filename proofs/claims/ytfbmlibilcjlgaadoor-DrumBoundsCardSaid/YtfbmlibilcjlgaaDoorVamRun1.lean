import Derived.Test.YtfbmlibilcjlgaaDoorProg
import Derived.Test.YtfbmlibilcjlgaaDoorVamTab1
import Derived.KernelRfl
namespace Go.Proofs.YtfbmlibilcjlgaaDoor.works
open Vam
theorem q1run : runIs q1R (runOn Tryd.prog (runEvK Tryd.prog is0 tab0 1000000) 19 q1A q1B) = true := by kernel_rfl
theorem q2run : runIs q2R (runOn Tryd.prog (runEvK Tryd.prog is0 tab0 1000000) 25 q2A q2B) = true := by kernel_rfl
theorem q3run : runIs q3R (runOn Tryd.prog (runEvK Tryd.prog is0 tab0 1000000) 71 q3A q3B) = true := by kernel_rfl
theorem q4run : runIs q4R (runOn Tryd.prog (runEvK Tryd.prog is0 tab0 1000000) 71 q4A q4B) = true := by kernel_rfl
theorem q5run : runIs q5R (runOn Tryd.prog (runEvK Tryd.prog is0 tab0 1000000) 71 q5A q5B) = true := by kernel_rfl
theorem q6run : runIs q6R (runOn Tryd.prog (runEvK Tryd.prog is0 tab0 1000000) 71 q6A q6B) = true := by kernel_rfl
theorem q7run : runIs q7R (runOn Tryd.prog (runEvK Tryd.prog is0 tab0 1000000) 29 q7A q7B) = true := by kernel_rfl
theorem q8run : runIs q8R (runOn Tryd.prog (runEvK Tryd.prog is0 tab0 1000000) 31 q8A q8B) = true := by kernel_rfl
end Go.Proofs.YtfbmlibilcjlgaaDoor.works
