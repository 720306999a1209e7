import Derived.Test.YtfbmlibilcjlgaaDoorVamT19
set_option linter.unusedVariables false
set_option linter.unusedSimpArgs false
set_option linter.constructorNameAsVariable false
namespace Go.Proofs.YtfbmlibilcjlgaaDoor.drumPlans
open Vam
variable {is:FuncId→Bool}{orc:Known}{b:Bk}
noncomputable def b22:Code:=(Tryd.f22.body).getD .skip
theorem body22:bodyOf Tryd.prog 22=some (45,b22,[.tmp 4,.tmp 5]):=by kernel_rfl
theorem pure22:pureFn Tryd.prog 22=true:=by kernel_rfl
end Go.Proofs.YtfbmlibilcjlgaaDoor.drumPlans
