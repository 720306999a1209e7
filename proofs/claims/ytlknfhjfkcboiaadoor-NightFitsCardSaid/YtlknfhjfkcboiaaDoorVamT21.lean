import Derived.Test.YtlknfhjfkcboiaaDoorVamT20
set_option linter.unusedVariables false
set_option linter.unusedSimpArgs false
set_option linter.constructorNameAsVariable false
namespace Go.Proofs.YtlknfhjfkcboiaaDoor.night
open Vam
section
variable {is:FuncId→Bool}{orc:Known}{b:Bk}
end
section
variable {is:FuncId→Bool}{orc:Known}
end
end Go.Proofs.YtlknfhjfkcboiaaDoor.night
