/- The law answers true: a run of the plain machine, by the kernel, with the second table. -/
import Derived.Test.YtniplfmjbjjocaaProg
import Derived.Test.YtniplfmjbjjocaaVamTab2
import Derived.KernelRfl
namespace Go.Proofs.Ytniplfmjbjjocaa.works
open Vam
end Go.Proofs.Ytniplfmjbjjocaa.works
