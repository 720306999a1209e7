/- The chapter's examples answer true: a run of the plain machine, by the kernel, with the first table. -/
import Derived.Test.YtdahbimllmapkaaProg
import Derived.Test.YtdahbimllmapkaaVamTab1
import Derived.KernelRfl
namespace Go.Proofs.Ytdahbimllmapkaa.filed
open Vam
theorem played_run : runIs (.bool true) (runOn Try.prog (runEvK Try.prog is1 tab1 1000000) 20 .nil []) = true := by kernel_rfl
end Go.Proofs.Ytdahbimllmapkaa.filed
