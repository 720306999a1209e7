/- The second table. -/
import Derived.Test.YtniplfmjbjjocaaGreatVamTab1
namespace Go.Proofs.YtniplfmjbjjocaaGreat.works
open Vam
end Go.Proofs.YtniplfmjbjjocaaGreat.works
