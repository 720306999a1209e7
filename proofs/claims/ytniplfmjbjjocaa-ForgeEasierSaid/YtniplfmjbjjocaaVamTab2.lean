/- The second table. -/
import Derived.Test.YtniplfmjbjjocaaVamTab1
namespace Go.Proofs.Ytniplfmjbjjocaa.works
open Vam
end Go.Proofs.Ytniplfmjbjjocaa.works
