/- The chapter's examples answer true: a run of the plain machine, by the kernel, with the tables. -/
import Derived.Test.YtlknfhjfkcboiaaDoorProg
import Derived.Test.YtlknfhjfkcboiaaDoorVamTab1
import Derived.KernelRfl
namespace Go.Proofs.YtlknfhjfkcboiaaDoor.nightKnown
open Vam
theorem played_run : runIs (.bool true) (runOn Tryd.prog (runEvK Tryd.prog is1 tab1 1000000) 24 .nil []) = true := by kernel_rfl
end Go.Proofs.YtlknfhjfkcboiaaDoor.nightKnown
