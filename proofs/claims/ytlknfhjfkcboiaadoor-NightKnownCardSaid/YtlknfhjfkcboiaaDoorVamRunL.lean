/- The law answers true: a run of the plain machine, by the kernel, with the last table. -/
import Derived.Test.YtlknfhjfkcboiaaDoorProg
import Derived.Test.YtlknfhjfkcboiaaDoorVamTab2
import Derived.KernelRfl
namespace Go.Proofs.YtlknfhjfkcboiaaDoor.nightKnown
open Vam
theorem law_run : isTrue ((runEvK Tryd.prog is2 tab2 1000000).call 13 .nil H0) = true := by kernel_rfl
end Go.Proofs.YtlknfhjfkcboiaaDoor.nightKnown
