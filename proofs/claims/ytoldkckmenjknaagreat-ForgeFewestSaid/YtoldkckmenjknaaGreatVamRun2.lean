/- Runs of the plain machine, by the kernel. -/
import Derived.Test.YtoldkckmenjknaaGreatProg
import Derived.Test.YtoldkckmenjknaaGreatVamTab1
import Derived.KernelRfl
namespace Go.Proofs.YtoldkckmenjknaaGreat.works
open Vam
theorem q18run : runIs q18R (runOn Tryz.prog (runEvK Tryz.prog is0 tab0 1000000) 7 q18A q18B) = true := by kernel_rfl
theorem q19run : runIs q19R (runOn Tryz.prog (runEvK Tryz.prog is0 tab0 1000000) 35 q19A q19B) = true := by kernel_rfl
theorem q20run : runIs q20R (runOn Tryz.prog (runEvK Tryz.prog is0 tab0 1000000) 14 q20A q20B) = true := by kernel_rfl
theorem q21run : runIs q21R (runOn Tryz.prog (runEvK Tryz.prog is0 tab0 1000000) 43 q21A q21B) = true := by kernel_rfl
theorem q22run : runIs q22R (runOn Tryz.prog (runEvK Tryz.prog is0 tab0 1000000) 46 q22A q22B) = true := by kernel_rfl
end Go.Proofs.YtoldkckmenjknaaGreat.works
