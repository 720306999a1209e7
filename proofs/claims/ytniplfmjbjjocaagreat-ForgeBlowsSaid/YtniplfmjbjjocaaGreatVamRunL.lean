/- The law answers true: a run of the plain machine, by the kernel, with the second table. -/
import Derived.Test.YtniplfmjbjjocaaGreatProg
import Derived.Test.YtniplfmjbjjocaaGreatVamTab2
import Derived.KernelRfl
namespace Go.Proofs.YtniplfmjbjjocaaGreat.works
open Vam
theorem law_run : isTrue ((runEvK Tryz.prog is2 tab2 1000000).call 15 .nil H0) = true := by kernel_rfl
end Go.Proofs.YtniplfmjbjjocaaGreat.works
