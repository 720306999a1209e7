import Derived.Test.YtpckmojdekdbbaaGreatVamT12
set_option linter.unusedVariables false
set_option linter.unusedSimpArgs false
set_option linter.constructorNameAsVariable false
namespace Go.Proofs.YtpckmojdekdbbaaGreat.settles
open Vam
section
variable {is:FuncId→Bool}{orc:Known}{z:Zt}
end
section
variable {is:FuncId→Bool}{orc:Known}{z:Zt}
theorem pits_bnd(h:ZOk z):∀F∈zAC z z.keys.length,Bnd z.yrs.toNat 9000000 F:=fun F hF=>by
 obtain⟨k,hk,rfl⟩:=List.mem_map.1 hF
 have hk:=List.mem_range.1 hk
 have hy:=h.y
 exact setl_top (by omega) (zCc (beg_bnd h hk) (by decide)) fun i _=>by
  have:=grw_top h hk i
  omega
end
end Go.Proofs.YtpckmojdekdbbaaGreat.settles
