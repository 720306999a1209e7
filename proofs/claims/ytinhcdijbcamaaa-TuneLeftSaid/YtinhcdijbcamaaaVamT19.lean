import Derived.Test.YtinhcdijbcamaaaVamT18
set_option linter.unusedVariables false
set_option linter.unusedSimpArgs false
set_option linter.constructorNameAsVariable false
namespace Go.Proofs.Ytinhcdijbcamaaa.tuneLeft
open Vam
section
variable {is:FuncId→Bool}{orc:Known}
variable {t:Ts}{J:List Jn}{v x y a b c d:Int}{st Y Z:List SB}
end
section
variable {is:FuncId→Bool}{orc:Known}
variable {t:Ts}{J:List Jn}{v x y a b c d:Int}{st Y Z:List SB}
theorem tun_err(hv:wN t=true):askE t []=errT t:=ask_nil hv
end
end Go.Proofs.Ytinhcdijbcamaaa.tuneLeft
