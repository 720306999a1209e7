/- Runs of the plain machine, by the kernel. -/
import Derived.Test.YthelocfjafigmabProg
import Derived.Test.YthelocfjafigmabVamTab1
import Derived.KernelRfl
namespace Go.Proofs.Ythelocfjafigmab.settleKnown
open Vam
theorem q14run : runIs q14R (runOn Try.prog (runEv Try.prog 1000000) 7 q14A q14B) = true := by kernel_rfl
theorem q15run : runIs q15R (runOn Try.prog (runEv Try.prog 1000000) 9 q15A q15B) = true := by kernel_rfl
theorem q16run : runIs q16R (runOn Try.prog (runEv Try.prog 1000000) 13 q16A q16B) = true := by kernel_rfl
theorem q17run : runIs q17R (runOn Try.prog (runEv Try.prog 1000000) 11 q17A q17B) = true := by kernel_rfl
theorem q18run : runIs q18R (runOn Try.prog (runEv Try.prog 1000000) 6 q18A q18B) = true := by kernel_rfl
theorem q19run : runIs q19R (runOn Try.prog (runEv Try.prog 1000000) 7 q19A q19B) = true := by kernel_rfl
theorem q20run : runIs q20R (runOn Try.prog (runEv Try.prog 1000000) 7 q20A q20B) = true := by kernel_rfl
end Go.Proofs.Ythelocfjafigmab.settleKnown
