/- The law answers true: a run of the plain machine, by the kernel, with the second table. -/
import Derived.Test.YtniplfmjbjjocaaGreatProg
import Derived.Test.YtniplfmjbjjocaaGreatVamTab2
import Derived.KernelRfl
namespace Go.Proofs.YtniplfmjbjjocaaGreat.works
open Vam
end Go.Proofs.YtniplfmjbjjocaaGreat.works
