/- What is said of single sets answers true, where the chapter's examples do: a run of the plain machine, by the kernel. -/
import Derived.Test.YtnkmhgojbinhkabProg
import Derived.Test.YtnkmhgojbinhkabVamTrue
import Derived.KernelRfl
namespace Go.Proofs.Ytnkmhgojbinhkab.tuneKnown
open Vam
theorem known_run : isTrue ((runEvO Try.prog (fun f => Nat.beq f 18) 1000000).call 3 .nil H0) = true := by kernel_rfl
end Go.Proofs.Ytnkmhgojbinhkab.tuneKnown
