/- The law answers true: a run of the plain machine, by the kernel, with the second table. -/
import Derived.Test.YtfbmlibilcjlgabDoorProg
import Derived.Test.YtfbmlibilcjlgabDoorVamTab2
import Derived.KernelRfl
namespace Go.Proofs.YtfbmlibilcjlgabDoor.drumKnown
open Vam
theorem law_run : isTrue ((runEvK Tryd.prog is2 tab2 1000000).call 3 .nil H0) = true := by kernel_rfl
end Go.Proofs.YtfbmlibilcjlgabDoor.drumKnown
