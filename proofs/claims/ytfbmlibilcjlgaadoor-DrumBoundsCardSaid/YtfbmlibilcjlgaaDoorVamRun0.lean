import Derived.Test.YtfbmlibilcjlgaaDoorProg
import Derived.Test.YtfbmlibilcjlgaaDoorVamTab1
import Derived.KernelRfl
namespace Go.Proofs.YtfbmlibilcjlgaaDoor.works
open Vam
theorem q0run : runIs q0R (runOn Tryd.prog (runEv Tryd.prog 1000000) 78 q0A q0B) = true := by kernel_rfl
end Go.Proofs.YtfbmlibilcjlgaaDoor.works
