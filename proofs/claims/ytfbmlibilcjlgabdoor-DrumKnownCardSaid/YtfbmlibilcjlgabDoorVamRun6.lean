/- Runs of the plain machine, by the kernel. -/
import Derived.Test.YtfbmlibilcjlgabDoorProg
import Derived.Test.YtfbmlibilcjlgabDoorVamTab1
import Derived.KernelRfl
namespace Go.Proofs.YtfbmlibilcjlgabDoor.drumKnown
open Vam
theorem q21run : runIs q21R (runOn Tryd.prog (runEvK Tryd.prog is0 tab0 1000000) 11 q21A q21B) = true := by kernel_rfl
theorem q22run : runIs q22R (runOn Tryd.prog (runEvK Tryd.prog is0 tab0 1000000) 12 q22A q22B) = true := by kernel_rfl
end Go.Proofs.YtfbmlibilcjlgabDoor.drumKnown
