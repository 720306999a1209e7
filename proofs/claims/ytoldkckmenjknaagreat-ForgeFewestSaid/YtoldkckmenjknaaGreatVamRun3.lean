/- Runs of the plain machine, by the kernel. -/
import Derived.Test.YtoldkckmenjknaaGreatProg
import Derived.Test.YtoldkckmenjknaaGreatVamTab1
import Derived.KernelRfl
namespace Go.Proofs.YtoldkckmenjknaaGreat.works
open Vam
theorem q23run : runIs q23R (runOn Tryz.prog (runEvK Tryz.prog is0 tab0 1000000) 47 q23A q23B) = true := by kernel_rfl
end Go.Proofs.YtoldkckmenjknaaGreat.works
