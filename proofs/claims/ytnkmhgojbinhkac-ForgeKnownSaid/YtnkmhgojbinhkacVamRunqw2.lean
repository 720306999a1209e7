/- Runs of the plain machine, by the kernel. -/
import Derived.Test.YtnkmhgojbinhkacProg
import Derived.Test.YtnkmhgojbinhkacVamLits
import Derived.KernelRfl
namespace Go.Proofs.Ytnkmhgojbinhkac.forgeKnown
open Vam
theorem qw2 : manyRuns Try.prog (runEv Try.prog 1000000) 30 qwA qwB (.bool false) 211 90 = true := by kernel_rfl
end Go.Proofs.Ytnkmhgojbinhkac.forgeKnown
