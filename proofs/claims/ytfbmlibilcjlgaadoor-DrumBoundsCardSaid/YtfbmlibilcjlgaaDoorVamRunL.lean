import Derived.Test.YtfbmlibilcjlgaaDoorProg
import Derived.Test.YtfbmlibilcjlgaaDoorVamTab2
import Derived.KernelRfl
namespace Go.Proofs.YtfbmlibilcjlgaaDoor.works
open Vam
end Go.Proofs.YtfbmlibilcjlgaaDoor.works
