/- The law answers true: a run of the plain machine, by the kernel, with the second table. -/
import Derived.Test.YtfbmlibilcjlgaaDoorProg
import Derived.Test.YtfbmlibilcjlgaaDoorVamTab2
import Derived.KernelRfl
namespace Go.Proofs.YtfbmlibilcjlgaaDoor.works
open Vam
theorem law_run : isTrue ((runEvK Tryd.prog is2 tab2 1000000).call 24 .nil H0) = true := by kernel_rfl
end Go.Proofs.YtfbmlibilcjlgaaDoor.works
