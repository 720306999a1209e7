import Derived.Test.YtfbmlibilcjlgaaDoorVamT3
set_option linter.unusedVariables false
set_option linter.unusedSimpArgs false
set_option linter.constructorNameAsVariable false
namespace Go.Proofs.YtfbmlibilcjlgaaDoor.drumTrue
open Vam
section
variable {is:FuncId→Bool}{orc:Known}
end
section
theorem chol_ok{b:Bk}(h:BOk b)(bits:List Int):POk b (choL b bits b.parts.toNat):=by
 have hp:=h.pa
 refine⟨by rw[choL_len];omega,fun x hx=>?_,?_,fun i x y hx hy=>?_⟩
 ·unfold choL at hx
  obtain⟨k,_,rfl⟩:=List.mem_map.1 hx
  exact choI_b h bits k
 ·rw[choL_at (by omega)];rfl
 ·have h2:=(List.getElem?_eq_some_iff.1 hy).1
  rw[choL_len]at h2
  rw[choL_at (by omega)]at hx hy
  cases hx;cases hy
  exact choI_n h bits i
end
end Go.Proofs.YtfbmlibilcjlgaaDoor.drumTrue
