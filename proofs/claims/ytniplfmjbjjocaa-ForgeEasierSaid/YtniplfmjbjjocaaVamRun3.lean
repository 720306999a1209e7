/- Runs of the plain machine, by the kernel. -/
import Derived.Test.YtniplfmjbjjocaaProg
import Derived.Test.YtniplfmjbjjocaaVamTab1
import Derived.KernelRfl
namespace Go.Proofs.Ytniplfmjbjjocaa.works
open Vam
theorem q23run : runIs q23R (runOn Try.prog (runEvK Try.prog is0 tab0 1000000) 20 q23A q23B) = true := by kernel_rfl
end Go.Proofs.Ytniplfmjbjjocaa.works
