import Derived.Test.YtinhcdijbcamaaaProg
import Derived.Test.YtinhcdijbcamaaaVamTab1
import Derived.KernelRfl
namespace Go.Proofs.Ytinhcdijbcamaaa.played
open Vam
theorem played_run : runIs (.bool true) (runOn Try.prog (runEvK Try.prog is1 tab1 1000000) 21 .nil []) = true := by kernel_rfl
end Go.Proofs.Ytinhcdijbcamaaa.played
