import Derived.Test.YthhbfbmfhldbaaaDoorVamT20
set_option linter.unusedVariables false
set_option linter.unusedSimpArgs false
set_option linter.constructorNameAsVariable false
namespace Go.Proofs.YthhbfbmfhldbaaaDoor.locks
open Vam
section
variable {is:FuncId→Bool}{orc:Known}{l:Ln}
end
section
variable {is:FuncId→Bool}{orc:Known}{l:Ln}
theorem ty4:tyOf Tryd.prog 4=.bool:=by kernel_rfl
theorem none_spl(h:VL l)(hb:bstO (splL l)=none):splL l=[]:=by
 rcases bst_spec (spl_pair l l.slots.length [])with ⟨e,_⟩|⟨b,e,_⟩
 ·exact e
 ·have e:bstO (splL l)=some b:=e
  rw[hb]at e;cases e
theorem some_spl{b:List Int}(hb:bstO (splL l)=some b):b∈splL l∧∀s∈splL l,dfI b≤dfI s∧(dfI s=dfI b→zBT s b=false):=by
 rcases bst_spec (spl_pair l l.slots.length [])with ⟨_,e⟩|⟨c,e,h1,h2⟩
 ·have e:bstO (splL l)=none:=e
  rw[hb]at e;cases e
 ·have e:bstO (splL l)=some c:=e
  rw[hb]at e
  cases e
  exact⟨h1,h2⟩
end
end Go.Proofs.YthhbfbmfhldbaaaDoor.locks
