/- A run of the plain machine, by the kernel. -/
import Derived.Test.YtnkmhgojbinhkacProg
import Derived.Test.YtnkmhgojbinhkacVamLits
import Derived.KernelRfl
namespace Go.Proofs.Ytnkmhgojbinhkac.forgeKnown
open Vam
theorem mfrun : runIs mfR (runOn Try.prog (runEv Try.prog 1000000) 21 mfA mfB) = true := by kernel_rfl
end Go.Proofs.Ytnkmhgojbinhkac.forgeKnown
