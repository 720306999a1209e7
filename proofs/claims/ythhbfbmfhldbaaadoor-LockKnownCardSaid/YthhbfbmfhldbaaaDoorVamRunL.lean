/- The law answers true: a run of the plain machine, by the kernel, with the second table. -/
import Derived.Test.YthhbfbmfhldbaaaDoorProg
import Derived.Test.YthhbfbmfhldbaaaDoorVamTab2
import Derived.KernelRfl
namespace Go.Proofs.YthhbfbmfhldbaaaDoor.lockKnown
open Vam
theorem law_run : isTrue ((runEvK Tryd.prog is2 tab2 1000000).call 14 .nil H0) = true := by kernel_rfl
end Go.Proofs.YthhbfbmfhldbaaaDoor.lockKnown
