import Derived.Test.YtlknfhjfkcboiaaDoorProg
import Derived.Test.YtlknfhjfkcboiaaDoorVamTab1
import Derived.KernelRfl
namespace Go.Proofs.YtlknfhjfkcboiaaDoor.works
open Vam
theorem played_run : runIs (.bool true) (runOn Tryd.prog (runEvK Tryd.prog is1 tab1 1000000) 24 .nil []) = true := by kernel_rfl
end Go.Proofs.YtlknfhjfkcboiaaDoor.works
