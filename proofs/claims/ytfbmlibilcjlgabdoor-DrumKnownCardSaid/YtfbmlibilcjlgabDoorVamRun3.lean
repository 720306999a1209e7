/- Runs of the plain machine, by the kernel. -/
import Derived.Test.YtfbmlibilcjlgabDoorProg
import Derived.Test.YtfbmlibilcjlgabDoorVamTab1
import Derived.KernelRfl
namespace Go.Proofs.YtfbmlibilcjlgabDoor.drumKnown
open Vam
theorem q3run : runIs q3R (runOn Tryd.prog (runEvK Tryd.prog is0 tab0 1000000) 9 q3A q3B) = true := by kernel_rfl
theorem q4run : runIs q4R (runOn Tryd.prog (runEvK Tryd.prog is0 tab0 1000000) 10 q4A q4B) = true := by kernel_rfl
theorem q5run : runIs q5R (runOn Tryd.prog (runEvK Tryd.prog is0 tab0 1000000) 11 q5A q5B) = true := by kernel_rfl
theorem q6run : runIs q6R (runOn Tryd.prog (runEvK Tryd.prog is0 tab0 1000000) 12 q6A q6B) = true := by kernel_rfl
theorem q7run : runIs q7R (runOn Tryd.prog (runEvK Tryd.prog is0 tab0 1000000) 14 q7A q7B) = true := by kernel_rfl
end Go.Proofs.YtfbmlibilcjlgabDoor.drumKnown
