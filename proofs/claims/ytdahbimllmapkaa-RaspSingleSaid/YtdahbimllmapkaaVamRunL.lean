/- The law answers true: a run of the plain machine, by the kernel, with the second table. -/
import Derived.Test.YtdahbimllmapkaaProg
import Derived.Test.YtdahbimllmapkaaVamTab2
import Derived.KernelRfl
namespace Go.Proofs.Ytdahbimllmapkaa.filed
open Vam
theorem law_run : isTrue ((runEvK Try.prog is2 tab2 1000000).call 20 .nil H0) = true := by kernel_rfl
end Go.Proofs.Ytdahbimllmapkaa.filed
