import Derived.Test.YtinhcdijbcamaaaVamTab1
namespace Go.Proofs.Ytinhcdijbcamaaa.played
open Vam
end Go.Proofs.Ytinhcdijbcamaaa.played
