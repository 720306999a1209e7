import Derived.Test.YtpckmojdekdbbaaGreatProg
import Derived.Test.YtpckmojdekdbbaaGreatVamTab1
import Derived.KernelRfl
namespace Go.Proofs.YtpckmojdekdbbaaGreat.works
open Vam
theorem played_run : runIs (.bool true) (runOn Tryz.prog (runEvK Tryz.prog is1 tab1 1000000) 21 .nil []) = true := by kernel_rfl
end Go.Proofs.YtpckmojdekdbbaaGreat.works
