import Derived.Test.YtinhcdijbcamaaaProg
import Derived.Test.YtinhcdijbcamaaaVamTab2
import Derived.KernelRfl
namespace Go.Proofs.Ytinhcdijbcamaaa.played
open Vam
end Go.Proofs.Ytinhcdijbcamaaa.played
