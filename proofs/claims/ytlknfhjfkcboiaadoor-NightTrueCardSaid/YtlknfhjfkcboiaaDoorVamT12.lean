import Derived.Test.YtlknfhjfkcboiaaDoorVamT11
set_option linter.unusedVariables false
set_option linter.unusedSimpArgs false
set_option linter.constructorNameAsVariable false
namespace Go.Proofs.YtlknfhjfkcboiaaDoor.night
open Vam
section
variable {b d:Bk}
end
section
variable {is:FuncId→Bool}{orc:Known}
end
end Go.Proofs.YtlknfhjfkcboiaaDoor.night
