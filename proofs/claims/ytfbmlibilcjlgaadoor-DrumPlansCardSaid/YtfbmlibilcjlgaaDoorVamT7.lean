import Derived.Test.YtfbmlibilcjlgaaDoorVamT6
set_option linter.unusedVariables false
set_option linter.unusedSimpArgs false
set_option linter.constructorNameAsVariable false
namespace Go.Proofs.YtfbmlibilcjlgaaDoor.drumPlans
open Vam
variable {is:FuncId→Bool}{orc:Known}
end Go.Proofs.YtfbmlibilcjlgaaDoor.drumPlans
