/- The chapter's examples answer true: a run of the plain machine, by the kernel. -/
import Derived.Test.YtnkmhgojbinhkabProg
import Derived.Test.YtnkmhgojbinhkabVamTrue
import Derived.KernelRfl
namespace Go.Proofs.Ytnkmhgojbinhkab.tuneKnown
open Vam
theorem played_run : isTrue ((runEv Try.prog 1000000).call 18 .nil H0) = true := by kernel_rfl
end Go.Proofs.Ytnkmhgojbinhkab.tuneKnown
