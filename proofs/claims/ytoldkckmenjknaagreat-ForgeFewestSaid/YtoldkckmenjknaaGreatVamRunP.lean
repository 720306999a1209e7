/- The chapter's examples answer true: a run of the plain machine, by the kernel, with the first table. -/
import Derived.Test.YtoldkckmenjknaaGreatProg
import Derived.Test.YtoldkckmenjknaaGreatVamTab1
import Derived.KernelRfl
namespace Go.Proofs.YtoldkckmenjknaaGreat.works
open Vam
theorem played_run : runIs (.bool true) (runOn Tryz.prog (runEvK Tryz.prog is1 tab1 1000000) 16 .nil []) = true := by kernel_rfl
end Go.Proofs.YtoldkckmenjknaaGreat.works
