/- Runs of the plain machine, by the kernel. -/
import Derived.Test.YtfbmlibilcjlgabDoorProg
import Derived.Test.YtfbmlibilcjlgabDoorVamTab1
import Derived.KernelRfl
namespace Go.Proofs.YtfbmlibilcjlgabDoor.drumKnown
open Vam
theorem q8run : runIs q8R (runOn Tryd.prog (runEvK Tryd.prog is0 tab0 1000000) 14 q8A q8B) = true := by kernel_rfl
theorem q9run : runIs q9R (runOn Tryd.prog (runEvK Tryd.prog is0 tab0 1000000) 7 q9A q9B) = true := by kernel_rfl
theorem q10run : runIs q10R (runOn Tryd.prog (runEvK Tryd.prog is0 tab0 1000000) 7 q10A q10B) = true := by kernel_rfl
theorem q11run : runIs q11R (runOn Tryd.prog (runEvK Tryd.prog is0 tab0 1000000) 7 q11A q11B) = true := by kernel_rfl
theorem q12run : runIs q12R (runOn Tryd.prog (runEvK Tryd.prog is0 tab0 1000000) 12 q12A q12B) = true := by kernel_rfl
theorem q13run : runIs q13R (runOn Tryd.prog (runEvK Tryd.prog is0 tab0 1000000) 8 q13A q13B) = true := by kernel_rfl
end Go.Proofs.YtfbmlibilcjlgabDoor.drumKnown
