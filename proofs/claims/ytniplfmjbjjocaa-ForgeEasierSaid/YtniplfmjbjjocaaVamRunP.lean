/- The chapter's examples answer true: a run of the plain machine, by the kernel, with the first table. -/
import Derived.Test.YtniplfmjbjjocaaProg
import Derived.Test.YtniplfmjbjjocaaVamTab1
import Derived.KernelRfl
namespace Go.Proofs.Ytniplfmjbjjocaa.works
open Vam
theorem played_run : runIs (.bool true) (runOn Try.prog (runEvK Try.prog is1 tab1 1000000) 8 .nil []) = true := by kernel_rfl
end Go.Proofs.Ytniplfmjbjjocaa.works
