/- Runs of the plain machine, by the kernel. -/
import Derived.Test.YtnkmhgojbinhkacProg
import Derived.Test.YtnkmhgojbinhkacVamLits
import Derived.KernelRfl
namespace Go.Proofs.Ytnkmhgojbinhkac.forgeKnown
open Vam
theorem df1 : manyRuns Try.prog (runEv Try.prog 1000000) 29 dfA dfB (.bool false) 101 101 = true := by kernel_rfl
end Go.Proofs.Ytnkmhgojbinhkac.forgeKnown
