import Derived.Test.YtlknfhjfkcboiaaDoorVamT10
set_option linter.unusedVariables false
set_option linter.unusedSimpArgs false
set_option linter.constructorNameAsVariable false
namespace Go.Proofs.YtlknfhjfkcboiaaDoor.night
open Vam
variable {is:FuncId→Bool}{orc:Known}
end Go.Proofs.YtlknfhjfkcboiaaDoor.night
