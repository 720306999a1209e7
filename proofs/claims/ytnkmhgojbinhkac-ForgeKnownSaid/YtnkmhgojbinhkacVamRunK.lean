/- What is said of single books answers true: a run of the plain machine, by the kernel, with the third table. -/
import Derived.Test.YtnkmhgojbinhkacProg
import Derived.Test.YtnkmhgojbinhkacVamTab3
import Derived.KernelRfl
namespace Go.Proofs.Ytnkmhgojbinhkac.forgeKnown
open Vam
theorem known_run : isTrue ((runEvK Try.prog is3 tab3 1000000).call 5 .nil H0) = true := by kernel_rfl
end Go.Proofs.Ytnkmhgojbinhkac.forgeKnown
