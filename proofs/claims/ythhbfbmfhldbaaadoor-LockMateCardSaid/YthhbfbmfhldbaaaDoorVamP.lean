import Derived.Test.YthhbfbmfhldbaaaDoorVamO
set_option linter.unusedVariables false
set_option linter.unusedSimpArgs false
namespace Vam
open Go
variable {Pr:Prt}{φ φ' ψ:BMap}{S S' R:SMap}{s s':St}{tm tm':TT}{H H':CH}{P:Program}{is:FuncId→Bool}{orc:Known}
section calls
variable {all l:List Oper}{d:Option Nat}{g:FuncId}{xs:Array Operand}{ts:Array TypeId}{t:TypeId}{p:String}{e:Array Edge}{args:List U}{M:U→List SB→Prop}{Q:St→Prop}
end calls
end Vam
namespace Vam
open Go
variable {Pr:Prt}{φ φ' ψ:BMap}{S S' R:SMap}{s s':St}{tm tm':TT}{H H':CH}{P:Program}{is:FuncId→Bool}{orc:Known}
end Vam
namespace Vam
open Go
variable {Pr:Prt}{φ φ' ψ:BMap}{S S' R:SMap}{s s':St}{tm tm':TT}{H H':CH}{P:Program}{is:FuncId→Bool}{orc:Known}
end Vam
