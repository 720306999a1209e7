/- Runs of the plain machine, by the kernel. -/
import Derived.Test.YtdahbimllmapkaaProg
import Derived.Test.YtdahbimllmapkaaVamTab1
import Derived.KernelRfl
namespace Go.Proofs.Ytdahbimllmapkaa.filed
open Vam
theorem q0run : runIs q0R (runOn Try.prog (runEv Try.prog 1000000) 14 q0A q0B) = true := by kernel_rfl
theorem q1run : runIs q1R (runOn Try.prog (runEv Try.prog 1000000) 21 q1A q1B) = true := by kernel_rfl
theorem q2run : runIs q2R (runOn Try.prog (runEv Try.prog 1000000) 28 q2A q2B) = true := by kernel_rfl
end Go.Proofs.Ytdahbimllmapkaa.filed
