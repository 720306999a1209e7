import Derived.Test.YtfbmlibilcjlgaaDoorVamT7
set_option linter.unusedVariables false
set_option linter.unusedSimpArgs false
set_option linter.constructorNameAsVariable false
namespace Go.Proofs.YtfbmlibilcjlgaaDoor.drumBound
open Vam
variable {is:FuncId→Bool}{orc:Known}
theorem ty4:tyOf Tryd.prog 4=.bool:=by kernel_rfl
end Go.Proofs.YtfbmlibilcjlgaaDoor.drumBound
