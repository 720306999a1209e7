/- Runs of the plain machine, by the kernel. -/
import Derived.Test.YtdahbimllmapkaaProg
import Derived.Test.YtdahbimllmapkaaVamTab1
import Derived.KernelRfl
namespace Go.Proofs.Ytdahbimllmapkaa.filed
open Vam
theorem q3run : runIs q3R (runOn Try.prog (runEv Try.prog 1000000) 26 q3A q3B) = true := by kernel_rfl
theorem q4run : runIs q4R (runOn Try.prog (runEv Try.prog 1000000) 18 q4A q4B) = true := by kernel_rfl
end Go.Proofs.Ytdahbimllmapkaa.filed
