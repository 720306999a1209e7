/- The law answers true: a run of the plain machine, by the kernel, with the second table. -/
import Derived.Test.YtniplfmjbjjocaaProg
import Derived.Test.YtniplfmjbjjocaaVamTab2
import Derived.KernelRfl
namespace Go.Proofs.Ytniplfmjbjjocaa.works
open Vam
theorem law_run : isTrue ((runEvK Try.prog is2 tab2 1000000).call 8 .nil H0) = true := by kernel_rfl
end Go.Proofs.Ytniplfmjbjjocaa.works
