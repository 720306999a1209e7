/- Runs of the plain machine, by the kernel. -/
import Derived.Test.YtniplfmjbjjocaaGreatProg
import Derived.Test.YtniplfmjbjjocaaGreatVamTab1
import Derived.KernelRfl
namespace Go.Proofs.YtniplfmjbjjocaaGreat.works
open Vam
theorem q23run : runIs q23R (runOn Tryz.prog (runEvK Tryz.prog is0 tab0 1000000) 18 q23A q23B) = true := by kernel_rfl
end Go.Proofs.YtniplfmjbjjocaaGreat.works
