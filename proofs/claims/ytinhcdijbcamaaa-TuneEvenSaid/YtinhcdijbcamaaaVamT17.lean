import Derived.Test.YtinhcdijbcamaaaVamT16
set_option linter.unusedVariables false
set_option linter.unusedSimpArgs false
set_option linter.constructorNameAsVariable false
namespace Go.Proofs.Ytinhcdijbcamaaa.tuneEven
open Vam
section
variable {is:FuncId→Bool}{orc:Known}
variable {t:Ts}{J:List Jn}{v x:Int}{st:List SB}
end
section
variable {is:FuncId→Bool}{orc:Known}
variable {t:Ts}{J:List Jn}{fo se le:Nat}{st Y Z:List SB}
end
end Go.Proofs.Ytinhcdijbcamaaa.tuneEven
