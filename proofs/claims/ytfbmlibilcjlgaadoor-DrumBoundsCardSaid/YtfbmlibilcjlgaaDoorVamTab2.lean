import Derived.Test.YtfbmlibilcjlgaaDoorVamTab1
namespace Go.Proofs.YtfbmlibilcjlgaaDoor.works
open Vam
end Go.Proofs.YtfbmlibilcjlgaaDoor.works
