/- Runs of the plain machine, by the kernel. -/
import Derived.Test.YtniplfmjbjjocaaProg
import Derived.Test.YtniplfmjbjjocaaVamTab1
import Derived.KernelRfl
namespace Go.Proofs.Ytniplfmjbjjocaa.works
open Vam
theorem q18run : runIs q18R (runOn Try.prog (runEvK Try.prog is0 tab0 1000000) 10 q18A q18B) = true := by kernel_rfl
theorem q19run : runIs q19R (runOn Try.prog (runEvK Try.prog is0 tab0 1000000) 45 q19A q19B) = true := by kernel_rfl
theorem q20run : runIs q20R (runOn Try.prog (runEvK Try.prog is0 tab0 1000000) 28 q20A q20B) = true := by kernel_rfl
theorem q21run : runIs q21R (runOn Try.prog (runEvK Try.prog is0 tab0 1000000) 13 q21A q21B) = true := by kernel_rfl
theorem q22run : runIs q22R (runOn Try.prog (runEvK Try.prog is0 tab0 1000000) 19 q22A q22B) = true := by kernel_rfl
end Go.Proofs.Ytniplfmjbjjocaa.works
