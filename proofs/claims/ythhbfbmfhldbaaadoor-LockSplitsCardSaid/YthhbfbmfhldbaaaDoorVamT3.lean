import Derived.Test.YthhbfbmfhldbaaaDoorVamT2
set_option linter.unusedVariables false
set_option linter.unusedSimpArgs false
set_option linter.constructorNameAsVariable false
namespace Go.Proofs.YthhbfbmfhldbaaaDoor.locks
open Vam
variable {is:FuncId→Bool}{orc:Known}{l:Ln}
theorem by3:Program.bytesOf Tryd.prog 3=8:=by kernel_rfl
theorem ze3:yM Tryd.prog 3=some ((.cons (.int .i64 0) .nil):V):=by kernel_rfl
theorem wT:AppT Tryd.prog 22 22 3 1 8 ((.cons (.int .i64 0) .nil):V):=⟨ty22,⟨_,ty22⟩,cl3,by decide,by3,ze3,rfl⟩
theorem VL.at(h:VL l){i:Nat}(hi:i<l.slots.length):∃t,l.slots[i]? =some t∧at' l.slots i=t∧ -1≤t∧t≤7:=by
 have hx:l.slots[i]? =some l.slots[i]:=List.getElem?_eq_getElem hi
 exact⟨_,hx,by unfold at';rw[hx];rfl,h.tn _ (List.getElem_mem hi)⟩
end Go.Proofs.YthhbfbmfhldbaaaDoor.locks
