import Derived.Test.YtinhcdijbcamaaaProg
import Derived.Test.YtinhcdijbcamaaaVamTab1
import Derived.KernelRfl
namespace Go.Proofs.Ytinhcdijbcamaaa.played
open Vam
theorem q3run : runIs q3R (runOn Try.prog (runEvK Try.prog is0 tab0 1000000) 15 q3A q3B) = true := by kernel_rfl
theorem q4run : runIs q4R (runOn Try.prog (runEvK Try.prog is0 tab0 1000000) 22 q4A q4B) = true := by kernel_rfl
theorem q5run : runIs q5R (runOn Try.prog (runEvK Try.prog is0 tab0 1000000) 24 q5A q5B) = true := by kernel_rfl
theorem q6run : runIs q6R (runOn Try.prog (runEvK Try.prog is0 tab0 1000000) 26 q6A q6B) = true := by kernel_rfl
theorem q7run : runIs q7R (runOn Try.prog (runEvK Try.prog is0 tab0 1000000) 28 q7A q7B) = true := by kernel_rfl
theorem q8run : runIs q8R (runOn Try.prog (runEvK Try.prog is0 tab0 1000000) 17 q8A q8B) = true := by kernel_rfl
theorem q9run : runIs q9R (runOn Try.prog (runEvK Try.prog is0 tab0 1000000) 65 q9A q9B) = true := by kernel_rfl
end Go.Proofs.Ytinhcdijbcamaaa.played
