import Derived.Test.YtlknfhjfkcboiaaDoorVamT11
set_option linter.unusedVariables false
set_option linter.unusedSimpArgs false
set_option linter.constructorNameAsVariable false
namespace Go.Proofs.YtlknfhjfkcboiaaDoor.night
open Vam
section
variable {b:Bk}
theorem mem_P{P:Nat→Bool}{n i:Nat}(hi:i<n):(i:Int)∈memP P n↔P i=true:=by
 rw[zFK]
 constructor
 ·rintro⟨j,_,h2,h3⟩
  have:i=j:=by omega
  rw[this];exact h3
 ·intro h;exact⟨i,hi,rfl,h⟩
theorem wt_app(A B:List Int):wt b (A++B)=wt b A+wt b B:=by
 unfold wt
 rw[List.map_append,sum_app]
end
section
variable {is:FuncId→Bool}{orc:Known}
end
end Go.Proofs.YtlknfhjfkcboiaaDoor.night
