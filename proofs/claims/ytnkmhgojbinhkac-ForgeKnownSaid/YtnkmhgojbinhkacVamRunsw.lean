/- A run of the plain machine, by the kernel, with the first table. -/
import Derived.Test.YtnkmhgojbinhkacProg
import Derived.Test.YtnkmhgojbinhkacVamTab1
import Derived.KernelRfl
namespace Go.Proofs.Ytnkmhgojbinhkac.forgeKnown
open Vam
theorem swrun : runIs swR (runOn Try.prog (runEvK Try.prog is1 tab1 1000000) 9 swA swB) = true := by kernel_rfl
end Go.Proofs.Ytnkmhgojbinhkac.forgeKnown
