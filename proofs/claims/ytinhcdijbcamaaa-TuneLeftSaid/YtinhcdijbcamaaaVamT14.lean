import Derived.Test.YtinhcdijbcamaaaVamT13
set_option linter.unusedVariables false
set_option linter.unusedSimpArgs false
set_option linter.constructorNameAsVariable false
namespace Go.Proofs.Ytinhcdijbcamaaa.tuneLeft
open Vam
section
variable {is:FuncId→Bool}{orc:Known}
variable {t:Ts}{J:List Jn}{v x:Int}
end
section
variable {is:FuncId→Bool}{orc:Known}
variable {t:Ts}{J:List Jn}{v x:Int}
end
end Go.Proofs.Ytinhcdijbcamaaa.tuneLeft
