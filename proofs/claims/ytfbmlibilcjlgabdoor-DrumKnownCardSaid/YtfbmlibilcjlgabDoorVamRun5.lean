/- Runs of the plain machine, by the kernel. -/
import Derived.Test.YtfbmlibilcjlgabDoorProg
import Derived.Test.YtfbmlibilcjlgabDoorVamTab1
import Derived.KernelRfl
namespace Go.Proofs.YtfbmlibilcjlgabDoor.drumKnown
open Vam
theorem q14run : runIs q14R (runOn Tryd.prog (runEvK Tryd.prog is0 tab0 1000000) 11 q14A q14B) = true := by kernel_rfl
theorem q15run : runIs q15R (runOn Tryd.prog (runEvK Tryd.prog is0 tab0 1000000) 7 q15A q15B) = true := by kernel_rfl
theorem q16run : runIs q16R (runOn Tryd.prog (runEvK Tryd.prog is0 tab0 1000000) 9 q16A q16B) = true := by kernel_rfl
theorem q17run : runIs q17R (runOn Tryd.prog (runEvK Tryd.prog is0 tab0 1000000) 30 q17A q17B) = true := by kernel_rfl
theorem q18run : runIs q18R (runOn Tryd.prog (runEvK Tryd.prog is0 tab0 1000000) 30 q18A q18B) = true := by kernel_rfl
theorem q19run : runIs q19R (runOn Tryd.prog (runEvK Tryd.prog is0 tab0 1000000) 30 q19A q19B) = true := by kernel_rfl
theorem q20run : runIs q20R (runOn Tryd.prog (runEvK Tryd.prog is0 tab0 1000000) 30 q20A q20B) = true := by kernel_rfl
end Go.Proofs.YtfbmlibilcjlgabDoor.drumKnown
