/- The chapter's examples answer true: a run of the plain machine, by the kernel, with the second table. -/
import Derived.Test.YtnkmhgojbinhkacProg
import Derived.Test.YtnkmhgojbinhkacVamTab2
import Derived.KernelRfl
namespace Go.Proofs.Ytnkmhgojbinhkac.forgeKnown
open Vam
theorem works_run : runIs (.bool true) (runOn Try.prog (runEvK Try.prog is2 tab2 1000000) 7 .nil []) = true := by kernel_rfl
end Go.Proofs.Ytnkmhgojbinhkac.forgeKnown
